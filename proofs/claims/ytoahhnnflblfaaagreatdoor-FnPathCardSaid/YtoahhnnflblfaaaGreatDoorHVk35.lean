import Derived.Test.YtoahhnnflblfaaaGreatDoorHVk28
import Derived.Test.YtoahhnnflblfaaaGreatDoorHVk29
import Derived.Test.YtoahhnnflblfaaaGreatDoorHVk34
set_option linter.all false
set_option maxRecDepth 100000
set_option maxHeartbeats 12800000
open Option renaming some->M,none->O
open Go renaming Value->Q,World->T,undef->V,grownBy_putObj'->A7,Calls->Br,TypeId->B3,wpAnyH_ready->B5,maxLen->Ck
open Bool renaming false->R,true->A5
open Go.RowKit renaming Below->U,Hid->B0,intOf->B2
open Go.Proofs.Tryz renaming prog->X
open Go.Value renaming slice->Y,slice->Ax,ownBlock->A0,pointer->A1,int->A6,bool->A8,int->B4,iface->B6,nilIface->Ce
open Go.Ending renaming returned->Z
open List renaming set->A2,replicate->A9
open Go.Obj renaming cells->A3
open Go.Lib renaming asciiSpaceTab->A4,TabIs->B1
namespace Go.Proofs.YtoahhnnflblfaaaGreatDoor
open Go.RowKit Go.Maps Go.WideMaps
def ffB(N:Nd)(L:Nat):Nat->Bool
 |0=>decide (1<=(N.nm.length:Int)/\(N.nm.length:Int)<=AI N.k)&&sc N.nm N.nm.length 0
 |1=>decide (1<=N.n/\N.n<(L:Int))
 |2=>A5
 |3=>txB N.k N.x
 |4=>if N.k=30 then(decide ((19:Int)<=N.op)&&decide (N.op<=22)) else(decide ((1:Int)<=N.op)&&decide (N.op<=18))
 |5=>sc N.nm N.nm.length 0
 |_=>A5
theorem Cz(w:T)(lb mb:Nat)(i:Q)(h:Lk w lb mb i)(b:Nat)(N:Nd)(vn:Q)(c:Int)(m:Option Addr)(L ck:Nat)(v:L<=1048576)(p:bF w vn N.nm)(o:N.nm.length<=1048576)(q:∀s∈N.nm,s.size<=1048576)(z:N.x.size<=1048576)(a:jc w b N vn c (Y m L ck)):
  Br X 50 #[A1 (M ⟨lb,0,O⟩),jd N.k b] w fun e d=>e= Z (A8 (ffB N L (ic N.k)))/\U w.heap.size w d:=by
 unfold jc at a;unfold jd;have g:∀{j:Bool},(Br X 50 #[A1 (M ⟨lb,0,O⟩),B6 (nF (ic N.k)) (A1 (M ⟨b,0,O⟩))] w fun e d=>e= Z (A8 j)/\d=w)->(Br X 50 #[A1 (M ⟨lb,0,O⟩),B6 (nF (ic N.k)) (A1 (M ⟨b,0,O⟩))] w fun e d=>e= Z (A8 j)/\U w.heap.size w d):=fun y=>y.mono fun e d ⟨r,u⟩=>⟨r,u ▸ ai _ _⟩;rcases BD N.k with hc|hc|hc|hc|hc|hc|hc
 ·refine g ?_;rw[hc]at a⊢;exact ff0 w lb mb i h b N.k N.f N.t N.l c _ vn N.nm p o q a
 ·rw[hc]at a⊢;exact ff1 w lb b N.k N.f N.t N.l c N.n m L ck v a
 ·refine g ?_;rw[hc]at a⊢;exact ff2 w lb b
 ·rw[hc]at a⊢;exact ff3 w lb mb i h b N.k N.f N.t N.l c _ N.x (by omega) a
 ·refine g ?_;rw[hc]at a⊢;exact ff4 w lb b N.k N.f N.t N.l c N.op _ a
 ·refine g ?_;rw[hc]at a⊢;exact ff5 w lb mb i h b N.k N.f N.t N.l c _ vn (decide (N.op=1)) N.nm p o q a
 ·refine g ?_;rw[hc]at a⊢;exact ff6 w lb b
theorem jc.cells{a:T}{b:Nat}{N:Nd}{vn c:Q}{d:Int}(h:jc a b N vn d c):a.cell? ⟨b,0,O⟩=M (A6 .i64 N.k)/\a.cell? ⟨b,1,O⟩=M (A6 .i64 N.f)/\a.cell? ⟨b,2,O⟩=M (A6 .i64 N.t)/\a.cell? ⟨b,4,O⟩=M (A6 .i64 d)/\a.cell? ⟨b,5,O⟩=M c/\∀j,a.frozen? ⟨b,j,O⟩=R:=by
 unfold jc at h;refine⟨?_,?_,?_,?_,?_,fun j=>dI _ _ _ _ _ h⟩
 ·rw[ay _ _ _ _ _ _ h];simp
 ·rw[ay _ _ _ _ _ _ h];simp
 ·rw[ay _ _ _ _ _ _ h];simp
 ·rw[ay _ _ _ _ _ _ h];simp
 ·rw[ay _ _ _ _ _ _ h];simp
def kfB(N:Nd)(ks:List Int):Bool:=if ic N.k=1 then ft (Cy N.n.toNat) ks else rkB N.k ks
theorem H0(w:T)(b:Nat)(N:Nd)(vn d:Q)(m:Int)(ks:List Int)(h:im w d ks)(i:ks.length<=1048576)(j:∀g,U w.heap.size w g->B1 X g "strings.asciiSpace" .u8 A4)(c:jc w b N vn m d)(q:ic N.k=1->0<=N.n/\N.n<=200):
  Br X 51 #[jd N.k b] w fun e r=>e= Z (A8 (kfB N ks))/\U w.heap.size w r:=by
 unfold kfB;by_cases a:ic N.k=1
 ·rw[ab a];obtain⟨s,u⟩:=q a;unfold jc at c;unfold jd;rw[a]at c⊢;have e:N.n=((N.n.toNat:Nat):Int):=by omega
  refine Hy w b N.k N.f N.t N.l m N.n.toNat (by omega) d ks h i j ?_;rw[<-e];exact c
 ·rw[aa a];obtain⟨o,_,_,_,p,_⟩:=c.cells;exact Hz w b N.k a d ks h i (j w (ai _ _)) o p
structure Im where
 N:Nd
 b:Nat
 vn:Q
 kv:Q
def nV(x:Im):Q:=jd x.N.k x.b
def pz(L:List Im)(ks:List Int):List Q:=ks.map fun b=>match L[b.toNat]? with|some a=>nV a|none=> Ce
structure kF (W:T) (base:Nat) (vs:Q) (L:List Im):Prop where
 row:W.ownsRow base 51 1 vs L.length (L.map nV)
 box:∀(i:Nat) x,L[i]?=M x->jc W x.b x.N x.vn i x.kv
 kid:∀(i:Nat) x,L[i]?=M x->W.ownsRow base 51 1 x.kv x.N.ks.length (pz (L.take i) x.N.ks)
 far:∀x∈L,x.kv.ownBlock=O\/x.kv.ownBlock≠vs.ownBlock
 rng:∀(i:Nat) x z,L[i]?=M x->z∈x.N.ks->0<=z/\z<(i:Int)
theorem jc.below{a c:T}{b:Nat}{N:Nd}{vn d:Q}{e:Int}(h:jc a b N vn e d)(f:U a.heap.size a c):jc c b N vn e d:=(f.block _ (au h)).trans h
theorem kF.below{a f:T}{base:Nat}{g:Q}{L:List Im}(h:kF a base g L)(b:U a.heap.size a f):kF f base g L:=
 ⟨aI h.row b,fun d e c=>(h.box d e c).below b,fun d e c=>aI (h.kid d e c) b,h.far,h.rng⟩
theorem qs{c:T}{a b:Nat}{c1 g:Array Q}{e f:B3}{h i:Nat×Nat}(j:c.heap[a]?=M (A3 c1 e h))(k:c.heap[b]?=M (A3 g f i))(l:e≠f):a≠b:=by
 rintro rfl;have d:=j.symm.trans k;simp only[iq,lC]at d;exact l d.2.1
theorem pA(c:Nat):stT c≠51/\stT c≠80/\stT c≠36:=by
 unfold stT;split<;>decide
theorem BF{a:T}{mb b:Nat}{cs:Array Q}{t:B3}{f:Nat×Nat}(h:a.ownsMap X 9 (plainElem (H:=Unit) X 3) mb 22 (Iq 22))(d:a.heap[b]?=M (A3 cs t f)):mb≠b:=by
 rintro rfl;obtain⟨g,e,c,i⟩:=h;rw[d]at c;cases c
def aaz(a:T)(g:Nat):Prop:=∃b,a.heap[g]?=M (A3 b 51 (0,0))
theorem pc{b:T}{base n g:Nat}{v:Q}{j:List Q}(h:b.ownsRow base 51 1 v n j)(c:v.ownBlock=M g):aaz b g/\base<=g:=by
 rcases bK h with⟨_,rfl⟩|⟨e,k,rfl⟩
 ·simp[A0]at c
 ·obtain rfl:e=g:=by simpa [A0] using c
  rcases h.2 with⟨a,_⟩|⟨m,l,d,a,f,i,_⟩
  ·cases a
  ·cases a;exact⟨⟨d,i⟩,f⟩
structure yA (w0:T) (lb mb p bn:Nat) (vs:Q) (L:List Im) (N:Nd) (vn vk kv:Q) (j:Nat) (W:T):Prop where
 lk:Lk W lb mb vs
 ns:kF W w0.heap.size vs L
 rb:dr p W 36 N vn vk
 bx:jc W bn N vn L.length kv
 kr:W.ownsRow w0.heap.size 51 1 kv j (pz L (N.ks.take j))
 fr:kv.ownBlock=O\/kv.ownBlock≠vs.ownBlock
 fo:∀x∈L,x.kv.ownBlock=O\/x.kv.ownBlock≠kv.ownBlock
 bl:U w0.heap.size w0 W
 lo:w0.heap.size<=lb/\w0.heap.size<=bn/\w0.heap.size<=p
theorem yA.below{w0:T}{lb mb p d:Nat}{f:Q}{L:List Im}{N:Nd}{vn vk e:Q}{j:Nat}{b c:T}(h:yA w0 lb mb p d f L N vn vk e j b)(a:U b.heap.size b c):yA w0 lb mb p d f L N vn vk e j c:=
 ⟨h.lk.below a,h.ns.below a,h.rb.below a,h.bx.below a,aI h.kr a,h.fr,h.fo,h.bl.trans (a.mono h.bl.size),h.lo⟩
theorem yA.kid{w0:T}{lb mb p c:Nat}{x:Q}{L:List Im}{N:Nd}{vn vk k:Q}{j:Nat}{o b:T}(a1:ql w0)(h:yA w0 lb mb p c x L N vn vk k j o)(v:o.grownBy b k.ownBlock){g cap H:Nat}(z:b.ownsRow w0.heap.size 51 1 (Y (M ⟨g,0,O⟩) (j+1) cap) (j+1) (pz L (N.ks.take (j+1))))(a0:k.ownBlock=M g\/g=H)(a4:o.heap.size=H):
  jc b c N vn L.length k/\yA w0 lb mb p c x L N vn vk (Y (M ⟨g,0,O⟩) (j+1) cap) (j+1) (b.setCell ⟨c,5,O⟩ (Y (M ⟨g,0,O⟩) (j+1) cap)):=by
 have F:∀a,k.ownBlock=M a->aaz o a/\w0.heap.size<=a:=fun a w=>pc h.kr w;have B:∀{s:Nat}{t:Array Q}{n:B3},o.heap[s]?=M (A3 t n (0,0))->n≠51->b.heap[s]?=M (A3 t n (0,0)):=fun i G=>
  (v.block _ (au i) (fun e=>by obtain⟨⟨y,u⟩,_⟩:=F _ e.symm;exact qs i u G rfl)).trans i
 have q:jc b c N vn L.length k:=B h.bx (pA _).1;have ao:U w0.heap.size w0 b:=h.bl.grown v h.bl.size (fun a w=>(F a w).2);have af:U w0.heap.size w0 (b.setCell ⟨c,5,O⟩ (Y (M ⟨g,0,O⟩) (j+1) cap)):=ao.setCell h.lo.2.1 _;have set:∀{s:Nat}{t:Array Q}{n:B3},b.heap[s]?=M (A3 t n (0,0))->n≠stT (ic N.k)->(b.setCell ⟨c,5,O⟩ (Y (M ⟨g,0,O⟩) (j+1) cap)).heap[s]?=M (A3 t n (0,0)):=fun i G=>
  (bh _ _ _ _ (fun e=>by exact qs i q G e)).trans i
 have I:∀{al:Q}{ak:Nat}{an:List Q},b.ownsRow w0.heap.size 51 1 al ak an->(b.setCell ⟨c,5,O⟩ (Y (M ⟨g,0,O⟩) (j+1) cap)).ownsRow w0.heap.size 51 1 al ak an:=fun z=>
  z.kept (row:=M c) ⟨rfl,rfl,rfl,by simp[World.setCell],fun a w r=>bh _ _ _ _ (fun e=>r (by rw[e]))⟩ (by
   cases hv:A0 _ with
   |none=>exact .inl rfl
   |some a=>exact .inr (fun e=>by obtain⟨⟨y,u⟩,_⟩:=pc z hv;obtain rfl:=db e;exact qs q u (pA _).1 rfl))
 have am:x.ownBlock=O\/x.ownBlock≠k.ownBlock:=by
  rcases h.fr with e|e
  ·cases hv:x.ownBlock with
   |none=>exact .inl rfl
   |some a=>rw[e];exact .inr (by simp)
  ·exact .inr (iE e)
 have J:∀a,a<o.heap.size->k.ownBlock≠M a->M g≠M a:=fun a w r e=>by
  obtain rfl:=db e;rcases a0 with e2|e2
  ·exact r e2
  ·omega
 refine⟨q,⟨⟨set (B h.lk.b (by decide)) (iE (pA _).2.1),?_,a1.keep af⟩,⟨I (h.ns.row.kept v am),?_,?_,h.ns.far,h.ns.rng⟩,set (B h.rb (by decide)) (iE (pA _).2.2),?_,I z,?_,?_,af,h.lo⟩⟩
 ·have K:=rn h.lk.m (v.block _ h.lk.m.lt (fun e=>by obtain⟨⟨y,u⟩,_⟩:=F _ e.symm;exact BF h.lk.m u rfl));exact rn K (bh _ _ _ _ (fun e=>by exact BF K q e))
 ·intro l d f;have i:=B (h.ns.box l d f) (pA _).1;by_cases r:d.b=c
  ·exfalso;have C:=h.ns.box l d f;have e2:=h.bx;unfold jc at C e2;rw[r,e2]at C;have ap:=congrArg (fun a3=>match a3 with|some (Obj.cells y _ _)=>y[4]?|_=>O) C;simp at ap;have a5:l<L.length:=(List.getElem?_eq_some_iff.1 f).1;omega
  ·exact(bh _ _ _ _ r).trans i
 ·intro l d f;exact I ((h.ns.kid l d f).kept v (h.fo d (dl f)))
 ·unfold jc at q⊢;have:=cE b c 5 _ _ (Y (M ⟨g,0,O⟩) (j+1) cap) q;rw[this];simp
 ·refine .inr fun e=>?_;have A:=e.symm;have E:=(h.ns.row.lt g A).2;exact J g E (by rcases am with e2|e2;rw[e2]at A;cases A;rw[A]at e2;exact iE e2) rfl
 ·intro d f;cases hxk:d.kv.ownBlock with
  |none=>exact .inl rfl
  |some a=>
   refine .inr fun e=>?_;obtain⟨l,a2,av⟩:=fL f;have E:=((h.ns.kid l d (by rw[aE a2,av])).lt a hxk).2;refine J a E ?_ e.symm;rcases h.fo d f with e2|e2
   ·rw[hxk]at e2;cases e2
   ·rw[hxk]at e2;exact iE e2
theorem yA.start{w0 w b:T}{lb mb p a:Nat}{i:Q}{L:List Im}{N:Nd}{vn vk:Q}(z:ql w0)(x:kF w w0.heap.size i L)(G:w.heap.size<=a)(A:lb≠a)(B:p≠a)(lk:Lk b lb mb i)(ns:kF b w0.heap.size i L)(C:dr p b 36 N vn vk)(f:jc b a N vn 0 (Y O 0 0))(v:U w0.heap.size w0 b)(q:w0.heap.size<=lb/\w0.heap.size<=a/\w0.heap.size<=p):
  yA w0 lb mb p a i L N vn vk (Y O 0 0) 0 (b.setCell ⟨a,4,O⟩ (A6 .i64 L.length)):=by
 have n:U w0.heap.size w0 (b.setCell ⟨a,4,O⟩ (A6 .i64 L.length)):=v.setCell q.2.1 _;have h:∀{j:Nat},j≠a->(b.setCell ⟨a,4,O⟩ (A6 .i64 L.length)).heap[j]?=b.heap[j]?:=fun k=>bh _ _ _ _ k;have s:∀{t:Q}{r:Nat}{u:List Q},b.ownsRow w0.heap.size 51 1 t r u->(b.setCell ⟨a,4,O⟩ (A6 .i64 L.length)).ownsRow w0.heap.size 51 1 t r u:=fun l=>
  l.kept (row:=M a) ⟨rfl,rfl,rfl,by simp[World.setCell],fun o F k=>bh _ _ _ _ (fun d=>k (by rw[d]))⟩ (by
   cases hv:A0 _ with
   |none=>exact .inl rfl
   |some o=>exact .inr (fun d=>by obtain⟨⟨E,y⟩,_⟩:=pc l hv;obtain rfl:=db d;exact qs f y (pA _).1 rfl))
 refine⟨⟨(h A).trans lk.b,rn lk.m (h (fun d=>BF lk.m f d)),z.keep n⟩,⟨s ns.row,fun g c e=>?_,fun g c e=>s (ns.kid g c e),ns.far,ns.rng⟩,(h B).trans C,?_,?_,.inl rfl,fun c e=>?_,n,q⟩
 ·have:=au (x.box g c e);exact(h (by omega)).trans (ns.box g c e)
 ·unfold jc at f⊢;have:=cE b a 4 _ _ (A6 .i64 L.length) f;rw[this];simp
 ·rw[yI];exact bi _ _ _ _
 ·cases c.kv.ownBlock with
  |none=>exact .inl rfl
  |some o=>exact .inr (by simp[A0])
theorem qh(g m:Nat):(⟨g,0,O⟩:Addr).add m=⟨g,m,O⟩:=by unfold Addr.add;split<;>simp_all
theorem yA.done{w0:T}{lb mb p s:Nat}{q:Q}{L:List Im}{N:Nd}{vn vk C:Q}{n a:T}(a0:ql w0)(h:yA w0 lb mb p s q L N vn vk C N.ks.length n)(a4:∀A∈N.ks,0<=A/\A<(L.length:Int)){b:Q}(w:n.grownBy a q.ownBlock)(o:a.ownsRow w0.heap.size 51 1 b (L.length+1) (L.map nV++[jd N.k s]))(av:b.ownBlock=q.ownBlock\/b.ownBlock=M n.heap.size):
  a.heap[lb]?=M (A3 #[.map (M mb),q] 80 (0,0))/\
  Lk (a.setCell ⟨lb,1,O⟩ b) lb mb b/\kF (a.setCell ⟨lb,1,O⟩ b) w0.heap.size b (L++[⟨N,s,vn,C⟩])/\jc (a.setCell ⟨lb,1,O⟩ b) s N vn L.length C/\U w0.heap.size w0 (a.setCell ⟨lb,1,O⟩ b):=by
 have F:∀k,q.ownBlock=M k->aaz n k/\w0.heap.size<=k:=fun k B=>pc h.ns.row B;have I:∀{r:Nat}{t:Array Q}{l:B3},n.heap[r]?=M (A3 t l (0,0))->l≠51->a.heap[r]?=M (A3 t l (0,0)):=fun f G=>
  (w.block _ (au f) (fun e=>by obtain⟨⟨af,v⟩,_⟩:=F _ e.symm;exact qs f v G rfl)).trans f
 have x:=I h.lk.b (by decide);have ao:U w0.heap.size w0 a:=h.bl.grown w h.bl.size (fun k B=>(F k B).2);have am:U w0.heap.size w0 (a.setCell ⟨lb,1,O⟩ b):=ao.setCell h.lo.1 _;have set:∀{r:Nat}{t:Array Q}{l:B3},a.heap[r]?=M (A3 t l (0,0))->l≠80->(a.setCell ⟨lb,1,O⟩ b).heap[r]?=M (A3 t l (0,0)):=fun f G=>
  (bh _ _ _ _ (fun e=>by exact qs f x G e)).trans f
 have J:∀{d:Q}{y:Nat}{z:List Q},a.ownsRow w0.heap.size 51 1 d y z->(a.setCell ⟨lb,1,O⟩ b).ownsRow w0.heap.size 51 1 d y z:=fun o=>
  o.kept (row:=M lb) ⟨rfl,rfl,rfl,by simp[World.setCell],fun k B a3=>bh _ _ _ _ (fun e=>a3 (by rw[e]))⟩ (by
   cases H:A0 _ with
   |none=>exact .inl rfl
   |some k=>exact .inr (fun e=>by obtain⟨⟨af,v⟩,_⟩:=pc o H;obtain rfl:=db e;exact qs x v (by decide) rfl))
 have K:jc (a.setCell ⟨lb,1,O⟩ b) s N vn L.length C:=set (I h.bx (pA _).1) (pA _).2.1;have al:=rn h.lk.m (w.block _ h.lk.m.lt (fun e=>by obtain⟨⟨af,v⟩,_⟩:=F _ e.symm;exact BF h.lk.m v rfl));have a1:pz L (N.ks.take N.ks.length)=pz L N.ks:=by rw[za]
 have E:=h.kr;rw[a1]at E;have ak:∀{d:Q}{y:Nat}{z:List Q},n.ownsRow w0.heap.size 51 1 d y z->(d.ownBlock=O\/d.ownBlock≠q.ownBlock)->(d.ownBlock=O\/d.ownBlock≠b.ownBlock):=fun o H=>by
  rcases H with e|e
  ·exact .inl e
  ·rename_i d y z;cases f:d.ownBlock with
   |none=>exact .inl rfl
   |some k=>
    have:=(o.lt k f).2;rcases av with e2|e2
    ·rw[e2,<-f];exact .inr e
    ·rw[e2];exact .inr (by simp only[ne_eq,iq];omega)
 refine⟨x,⟨cE a lb 1 _ _ _ x,rn al (bh _ _ _ _ (fun e=>by exact BF al x e)),a0.keep am⟩,⟨?_,?_,?_,?_,?_⟩,K,am⟩
 ·rw[aF,fK];exact J o
 ·intro c i hx;rcases bv c L.length with g|g
  ·rw[iD g]at hx;exact set (I (h.ns.box c i hx) (pA _).1) (pA _).2.1
  ·rw[gF g]at hx;obtain⟨u,j⟩:=List.getElem?_eq_some_iff.1 hx;simp at u j;subst j;obtain rfl:c=L.length:=by omega
   exact K
 ·intro c i hx;rcases bv c L.length with g|g
  ·rw[iD g]at hx;rw[List.take_append_of_le_length (by omega)];exact J ((h.ns.kid c i hx).kept w (h.ns.far i (dl hx)))
  ·rw[gF g]at hx;obtain⟨u,j⟩:=List.getElem?_eq_some_iff.1 hx;simp at u j;subst j;obtain rfl:c=L.length:=by omega
   rw[List.take_left];exact J (E.kept w h.fr)
 ·intro i hx;rcases List.mem_append.1 hx with hx|hx
  ·obtain⟨c,a2,ap⟩:=fL hx;exact ak (h.ns.kid c i (by rw[aE a2,ap])) (h.ns.far i hx)
  ·obtain rfl:=List.mem_singleton.1 hx;exact ak E h.fr
 ·intro c i A hx an;rcases bv c L.length with g|g
  ·rw[iD g]at hx;exact h.ns.rng c i A hx an
  ·rw[gF g]at hx;obtain⟨u,j⟩:=List.getElem?_eq_some_iff.1 hx;simp at u j;subst j;obtain rfl:c=L.length:=by omega
   exact a4 A an
def jf(ns:List Nd)(ks:List Int):List Int:=ks.map fun a=>(ns.getD a.toNat nI).k
theorem kF.kids{f:T}{base:Nat}{u:Q}{L:List Im}(h:kF f base u L){ns:List Nd}(t:L.map Im.N=ns.take L.length){i:Nat}{x:Im}(k:L[i]?=M x):im f x.kv (jf ns x.N.ks):=by
 have e:=h.kid i x k;have o:(jf ns x.N.ks).length=x.N.ks.length:=by simp[jf]
 have z:i<L.length:=(List.getElem?_eq_some_iff.1 k).1;rcases bK e with⟨B,g⟩|⟨r,q,g⟩
 ·exact .inl ⟨jr (by omega),_,_,g⟩
 ·rw[g]at e⊢;refine .inr ⟨⟨r,0,O⟩,q,by rw[o],?_,fun m C c=>?_⟩
  ·rw[o];rcases e.2 with⟨j,_⟩|⟨y,v,w,j,_,_,s,_⟩
   ·cases j
   ·cases j;exact s
  ·unfold jf at c;rw[cA]at c;cases hz:x.N.ks[m]? with
   |none=>rw[hz]at c;cases c
   |some d=>
    rw[hz]at c;obtain rfl:=db c;obtain⟨z0,E⟩:=h.rng i x d k (dl hz);obtain⟨a,l⟩:∃a,L[d.toNat]?=M a:=⟨L[d.toNat]'(by omega),aE _⟩;have p:(ns.getD d.toNat nI)=a.N:=by
     have n:(L.map Im.N)[d.toNat]?=M a.N:=by rw[cA,l];rfl
     rw[t,mF,ab (by omega)]at n;rw[bc,n];rfl
    have A:m<x.N.ks.length:=(List.getElem?_eq_some_iff.1 hz).1;refine⟨a.b,?_,?_⟩
    ·rw[qh,e.cellAt m (by omega)];unfold pz;rw[cA,hz];simp only[uK];rw[mF,ab (by omega),l,p];rfl
    ·show f.cell? ⟨a.b,0,O⟩=M (A6 .i64 (ns.getD d.toNat nI).k);rw[p];exact(h.box _ a l).cells.1
theorem ack:(Tryz.prog.info? 51).map (fun i=>(i.zero,i.size,i.bytes))=M (M Ce,1,16):=by kernel_rfl
def CA(N:Nd):Bool:=decide (0<=N.f/\N.f<=N.t/\0<=N.l/\N.ks.length<=200/\N.nm.length<=200)
def CC(ns:List Nd)(i:Nat)(N:Nd):Bool:=
 CA N&&(xL (rE N (ic N.k)) N&&(FE N.ks i N.ks.length 0&&(ffB N N.ks.length (ic N.k)&&kfB N (jf ns N.ks))))
def Fk(w0:T)(lb mb:Nat)(L:List Im)(ns:List Nd)(N:Nd)(vn:Q)(e:Ending)(a:T):Prop:=
 e= Z (A8 (CC ns L.length N))/\U w0.heap.size w0 a/\(CC ns L.length N=A5->∃c b,b.N=N/\b.vn=vn/\Lk a lb mb c/\kF a w0.heap.size c (L++[b]))
theorem acl(w:T)(lb:Nat)(N:Nd)(vn vk:Q)(g:bF w vn N.nm)(f:aK w vk N.ks)(d:iy N)(h:CA N=R):
  Br X 25 #[A1 (M ⟨lb,0,O⟩),dy N vn vk] w fun e p=>e= Z (A8 R)/\U w.heap.size w p:=by
 have b:∀c,U w.heap.size w (w.alloc c):=fun c=>(ai _ w).alloc (ag _) c;obtain⟨q,s,rfl⟩:=g.form;obtain⟨r,t,rfl⟩:=f.form;have l:=d.l1;have m:=d.l2;unfold CA at h;have a:=lB h;unfold dy;generalize N.nm.length=j at l a⊢;generalize N.ks.length=k at m a⊢;clear g f d h;obtain⟨A,i,o,n,F,C,G,E,B⟩:=N;simp only at a⊢;by_cases u:i<0
 ·clear a;go_in;go_wp2;go_ret;exact⟨rfl,b _⟩
 by_cases v:o<i
 ·clear a;go_in;go_wp2;go_ret;exact⟨rfl,b _⟩
 by_cases x:n<0
 ·clear a;go_in;go_wp2;go_ret;exact⟨rfl,b _⟩
 by_cases y:(200:Int)<(k:Int)
 ·clear a;go_in;go_wp2;go_ret;exact⟨rfl,b _⟩
 have z:(200:Int)<(j:Int):=by omega
 clear a;go_in;go_wp2;go_ret;exact⟨rfl,b _⟩
theorem Ia{b c:T}(e:U b.heap.size b c){a:Addr}(d:a.block<b.heap.size){r:Bool}(h:b.frozen? a=r):c.frozen? a=r:=by
 rw[<-h];exact World.frozen?_of_block (e.block _ d)
theorem an0{w:T}{N:Nd}{vn:Q}(h:bF w vn N.nm)(k:Int):bF w (ab2 vn (ic k)) (rE N (ic k)).nm:=by
 rcases BD k with hc|hc|hc|hc|hc|hc|hc
 ·rw[hc];exact h
 ·rw[hc];exact .inl ⟨rfl,_,_,rfl⟩
 ·rw[hc];exact .inl ⟨rfl,_,_,rfl⟩
 ·rw[hc];exact .inl ⟨rfl,_,_,rfl⟩
 ·rw[hc];exact .inl ⟨rfl,_,_,rfl⟩
 ·rw[hc];exact h
 ·rw[hc];exact .inl ⟨rfl,_,_,rfl⟩
theorem af7{N:Nd}(k:Int)(h:N.nm.length<=1048576):(rE N (ic k)).nm.length<=1048576:=by
 rcases BD k with hc|hc|hc|hc|hc|hc|hc
 ·rw[hc];exact h
 ·rw[hc];exact aG _
 ·rw[hc];exact aG _
 ·rw[hc];exact aG _
 ·rw[hc];exact aG _
 ·rw[hc];exact h
 ·rw[hc];exact aG _
theorem af8(w0 w:T)(H:ql w0)(J:U w0.heap.size w0 w)(lb mb:Nat)(hw:w0.heap.size<=lb)(cl:Q)(L:List Im)(h:Lk w lb mb cl)(e0:kF w w0.heap.size cl L)(N:Nd)(vn vk:Q)(cy:bF w0 vn N.nm)(bd:aK w0 vk N.ks)(af:iy N)(hh:L.length<=3000)(ns:List Nd)(e9:L.map Im.N=ns.take L.length)(a5:ns[L.length]?=M N)(a6:∀v,U w0.heap.size w0 v->B1 X v "strings.asciiSpace" .u8 A4)(cx:CA N=A5):
  Br X 25 #[.pointer (M ⟨lb,0,O⟩),dy N vn vk] w (Fk w0 lb mb L ns N vn):=by
 have cf:=fun v (dc:U w.heap.size w v)=>Js v N vn vk (by obtain⟨c7,bt,n⟩:=cy.form;exact⟨_,_,_,n⟩) (by obtain⟨c7,bt,n⟩:=bd.form;exact⟨_,_,_,n⟩);obtain⟨bp,b8⟩:=aA (CC ns L.length N);unfold Fk;rw[b8];unfold CC at b8;rw[cx,fC]at b8;obtain⟨g,i,rfl⟩:=cy.form;obtain⟨F,G,rfl⟩:=bd.form;unfold CA at cx;obtain⟨g7,g8,g9,ha,hb⟩:=aH cx;have u:B0 (Lk w lb mb cl/\kF w w0.heap.size cl L/\bF w0 (.slice g N.nm.length i) N.nm/\aK w0 (.slice F N.ks.length G) N.ks/\iy N/\L.map Im.N=ns.take L.length/\(∀v,U w0.heap.size w0 v->B1 X v "strings.asciiSpace" .u8 A4)/\ql w0/\U w0.heap.size w0 w/\ns[L.length]?=M N):=⟨h,e0,cy,bd,af,e9,a6,H,J,a5⟩;have ex:=aj b8;have i1:¬N.f<0:=by omega
 have i2:¬N.t<N.f:=by omega
 have i3:¬N.l<0:=by omega
 unfold dy at cf⊢;obtain⟨e,dd⟩:=aA N.nm.length;obtain⟨j,dg⟩:=aA N.ks.length;have cn:=eH dd dg;rw[dd]at cf u hb⊢;rw[dg]at cf u ha⊢;have i4:¬(200:Int)<(j:Int):=by omega
 have i5:¬(200:Int)<(e:Int):=by omega
 have j1:lb<w.heap.size:=au u.out.1.b;clear dd dg cy bd af e9 a6 H J h e0 b8 cx g7 g8 g9 a5;go_in;go_wp2_with fail;have cu:U w.heap.size w (w.alloc (.cells #[.int .i64 N.k,.int .i64 N.f,.int .i64 N.t,.int .i64 N.l,.int .i64 N.op,.int .i64 N.n,.string N.x,.slice g e i,.slice F j G] 36)):=(ai _ w).alloc (ag _) _;have ee:dr w.heap.size (w.alloc (.cells #[.int .i64 N.k,.int .i64 N.f,.int .i64 N.t,.int .i64 N.l,.int .i64 N.op,.int .i64 N.n,.string N.x,.slice g e i,.slice F j G] 36)) 36 N (.slice g e i) (.slice F j G):=ar w _;have fg:(w.alloc (.cells #[.int .i64 N.k,.int .i64 N.f,.int .i64 N.t,.int .i64 N.l,.int .i64 N.op,.int .i64 N.n,.string N.x,.slice g e i,.slice F j G] 36)).heap.size=w.heap.size+1:=bu _ _;generalize w.alloc (.cells #[.int .i64 N.k,.int .i64 N.f,.int .i64 N.t,.int .i64 N.l,.int .i64 N.op,.int .i64 N.n,.string N.x,.slice g e i,.slice F j G] 36)=gt at cu ee fg⊢;refine(cf gt cu).mono ?_;rintro n A ⟨rfl,b9,dn⟩;rw[fg]at b9⊢;obtain⟨k,ht⟩:=aA (w.heap.size+1+1+1);rw[ht]at b9⊢;have er:=ee.below dn;have bq:U w.heap.size w A:=cu.trans (dn.mono (by omega));obtain⟨bw,bE,b0,b1,b2,b3,b4,b5,b6,g0⟩:=aq er;have c8:U A.heap.size A A.drew:=be (ai _ A);have ea:bF A.drew (.slice g e i) N.nm:=((u.out.2.2.1.below u.out.2.2.2.2.2.2.2.2.1).below bq).below c8;have an:=ab4 A.drew k N (.slice g e i) (.slice O 0 0) 0 ⟨_,_,_,rfl⟩ (b9.below c8);have a7:=fun v (dc:U A.drew.heap.size A.drew v)=>As v (rE N (ic N.k)) N (ab2 (.slice g e i) (ic N.k)) (.slice O 0 0) (.slice g e i) (.slice F j G) ((an0 ea N.k).below dc) (ea.below dc) ⟨_,_,_,rfl⟩ ⟨_,_,_,rfl⟩ (af7 _ u.out.2.2.2.2.1.l1) u.out.2.2.2.2.1.l1;obtain⟨ia,j5,ib,ff⟩:∃c7 h1 bt,ab2 (.slice g e i) (ic N.k)= .slice c7 h1 bt:=by
  unfold ab2;split<;>exact⟨_,_,_,rfl⟩
 rw[ff]at an a7;unfold dy at an a7;obtain⟨h3,ei⟩:=aA (xL (rE N (ic N.k)) N);rw[ei]at a7;have cp:=aj ei;obtain⟨h8,eg⟩:=aA (rE N (ic N.k));rw[eg]at an a7 cp;clear ei ea ff cf ee cu dn;have hC:=fun w=>py N.k k w;have hI:=fun w=>gl k w;unfold jd at an⊢;have h7:B0 (nF (ic N.k)=nF (ic N.k)):=rfl;generalize ek:nF (ic N.k)=es at an hC⊢;go_wp2_with fail;cases h3 with
 |false=>
  have E:B0 (R=bp):=by have:=ex.out;rw[eg,cp.out,eG]at this;exact this
  go_region_held3 (fun o=>o.cell? ⟨w.heap.size,0,O⟩=M (.int .i64 N.k)/\o.cell? ⟨w.heap.size,1,O⟩=M (.int .i64 N.f)/\o.cell? ⟨w.heap.size,2,O⟩=M (.int .i64 N.t)/\o.cell? ⟨w.heap.size,3,O⟩=M (.int .i64 N.l)/\o.cell? ⟨w.heap.size,4,O⟩=M (.int .i64 N.op)/\o.cell? ⟨w.heap.size,5,O⟩=M (.int .i64 N.n)/\o.cell? ⟨w.heap.size,6,O⟩=M (.string N.x)/\o.cell? ⟨w.heap.size,7,O⟩=M (.slice g e i)/\o.cell? ⟨w.heap.size,8,O⟩=M (.slice F j G)) (first|go_keep|exact⟨ah m (ah a bw),ah m (ah a bE),ah m (ah a b0),ah m (ah a b1),ah m (ah a b2),ah m (ah a b3),ah m (ah a b4),ah m (ah a b5),ah m (ah a b6)⟩|exact⟨ah a bw,ah a bE,ah a b0,ah a b1,ah a b2,ah a b3,ah a b4,ah a b5,ah a b6⟩) (first|(go_at_call 49;refine an.mono ?_;rintro n h6 ⟨rfl,a⟩)|(go_at_call 48;refine(a7 _ a).mono ?_;rintro n a8 ⟨rfl,m⟩))
  go_wp2_with fail;go_ret;have hq:U w.heap.size w a8:=bq.trans (((be (ai _ A)).trans (a.trans (m.mono a.size))).mono bq.size);exact⟨by rw[<-E.out];rfl,u.out.2.2.2.2.2.2.2.2.1.trans (hq.mono u.out.2.2.2.2.2.2.2.2.1.size),fun h=>by rw[<-E.out]at h;cases h⟩
 |true=>
  have gb:B0 ((FE N.ks L.length N.ks.length 0&&(ffB N N.ks.length (ic N.k)&&kfB N (jf ns N.ks)))=bp):=by have:=ex.out;rw[eg,cp.out,fC]at this;exact this
  go_region_held3 (fun o=>o.cell? ⟨w.heap.size,0,O⟩=M (.int .i64 N.k)/\o.cell? ⟨w.heap.size,1,O⟩=M (.int .i64 N.f)/\o.cell? ⟨w.heap.size,2,O⟩=M (.int .i64 N.t)/\o.cell? ⟨w.heap.size,3,O⟩=M (.int .i64 N.l)/\o.cell? ⟨w.heap.size,4,O⟩=M (.int .i64 N.op)/\o.cell? ⟨w.heap.size,5,O⟩=M (.int .i64 N.n)/\o.cell? ⟨w.heap.size,6,O⟩=M (.string N.x)/\o.cell? ⟨w.heap.size,7,O⟩=M (.slice g e i)/\o.cell? ⟨w.heap.size,8,O⟩=M (.slice F j G)) (first|go_keep|exact⟨ah m (ah a bw),ah m (ah a bE),ah m (ah a b0),ah m (ah a b1),ah m (ah a b2),ah m (ah a b3),ah m (ah a b4),ah m (ah a b5),ah m (ah a b6)⟩|exact⟨ah a bw,ah a bE,ah a b0,ah a b1,ah a b2,ah a b3,ah a b4,ah a b5,ah a b6⟩) (first|(go_at_call 49;refine an.mono ?_;rintro n h6 ⟨rfl,a⟩)|(go_at_call 48;refine(a7 _ a).mono ?_;rintro n a8 ⟨rfl,m⟩))
  have cr:U A.heap.size A a8:=(be (ai _ A)).trans (a.trans (m.mono a.size));have cq:U w.heap.size w a8:=bq.trans (cr.mono bq.size);obtain⟨lk,bf,cz,ds,af,cB,a6,H,J,a5⟩:=u.out;have eA:U w0.heap.size w0 a8:=J.trans (cq.mono J.size);have eo:=lk.below cq;have eq:=bf.below cq;have f6:=er.below cr;have bs:=b9.below cr;have hG:=J.size;have d:=yA.start H bf (by omega) (by omega) (by omega) eo eq f6 bs eA ⟨hw,by omega,hG⟩;obtain⟨ap,a0,bj⟩:=cH eq.row;have eL:a8.cell? ⟨lb,1,O⟩=M (.slice ap L.length a0):=by rw[<-bj,ay _ _ _ _ _ _ eo.b];rfl
  have c9:=bs.cells.2.2.2.1;have da:=bs.cells.2.2.2.2.2;have hs:k<a8.heap.size:=au bs;have bo:=aj d;obtain⟨nL,eb⟩:=aA L.length;rw[eb]at eL bo hh;have I:=aj eb;clear d eo eq f6 bs cr lk bf cz ds af cB a6 H J a5 bw bE b0 b1 b2 b3 b4 b5 b6 g0 an a7 b9 er c8 cp eb;go_wp2_with (go_at_call 222;refine(hI _).mono ?_;rintro n q ⟨rfl,rfl⟩);obtain⟨fz,e3,fo,fq,fu⟩:=fl ack;clear eL c9 da cq eA hs bj;go_loopw [54] (fun ev wr=>∃(c:Nat) (fA:Q),ev= .int .i64 c/\c<=j/\B0 ((FE N.ks nL (j-c) c&&(ffB N j (ic N.k)&&kfB N (jf ns N.ks)))=bp)/\B0 (∀p∈N.ks.take c,0<=p/\p<(nL:Int))/\B0 (yA w0 lb mb w.heap.size k cl L N (.slice g e i) (.slice F j G) fA c wr)) (fun ev _=>j-(B2 ev).toNat)
  case atStart=>
   refine⟨0,_,rfl,aG _,?_,fun p K=>by simp at K,bo.out⟩;have:=gb.out;rw[I.out,cn.out.2]at this;exact this
  case round=>
   obtain⟨c,fA,rfl,i9,cm,ey,bk⟩:=hrel;clear bo;have d:=bk.out;have C:=cm.out;by_cases hA:c<j
   ·obtain⟨p,K⟩:=bH cn.out.2 hA;obtain⟨h9,hm,i8⟩:=(u.out.2.2.2.1.below d.bl).get K;subst hm;have jv:(c:Int)<(j:Int):=by omega
    have ji:(0:Int)<=(c:Int):=by omega
    have c9:=d.bx.cells.2.2.2.1;rw[I.out]at c9;rw[show j-c=(j-(c+1))+1 by omega,FE,bc,K,ii]at C;by_cases bb:0<=p/\p<(nL:Int)
    ·obtain⟨ep,rfl⟩:=gc bb.1;have hd:ep<nL:=by omega
     obtain⟨ao,el⟩:=bH I.out hd;have ce:=d.ns.row;rw[I.out]at ce;rcases bK ce with⟨j3,_⟩|⟨b7,cs,bj⟩
     ·omega
     subst bj;have gv:wr.cell? ⟨lb,1,O⟩=M (.slice (M ⟨b7,0,O⟩) nL cs):=by rw[ay _ _ _ _ _ _ d.lk.b];rfl
     have eF:wr.cell? ⟨b7,ep,O⟩=M (.iface (nF (ic ao.N.k)) (.pointer (M ⟨ao.b,0,O⟩))):=by
      rw[ce.cellAt ep (by omega),cA,el];rfl
     obtain⟨r,s,dx⟩:=cH d.kr;subst dx;have g6:=d.bx.cells.2.2.2.2.1;have da:=d.bx.cells.2.2.2.2.2 5;have e7:=d.kr;have c6:B0 (pz L (N.ks.take (c+1))=pz L (N.ks.take c)++[.iface (nF (ic ao.N.k)) (.pointer (M ⟨ao.b,0,O⟩))]):=by
      show _=_;rw[gG,K];unfold pz;rw[fK];simp[el,nV,jd]
     have f9:B0 ((FE N.ks nL (j-(c+1)) (c+1)&&(ffB N j (ic N.k)&&kfB N (jf ns N.ks)))=bp):=by
      rw[bg bb,fC]at C;exact C
     have gr:B0 (∀p∈N.ks.take (c+1),0<=p/\p<(nL:Int)):=fun p fv=>by
      rw[gG,K]at fv;rcases List.mem_append.1 fv with h|h
      ·exact ey.out p h
      ·simp at h;subst h;exact bb
     have hK:lb<wr.heap.size:=au d.lk.b;have h0:k<wr.heap.size:=au d.bx;have j4:b7<wr.heap.size:=(ce.lt b7 rfl).2;have en:∀em,(Ax r c s).ownBlock=M em->aaz wr em:=fun em bd=>(pc e7 bd).1;have j6:M lb≠(Ax r c s).ownBlock:=fun n=>by obtain⟨bt,ca⟩:=en lb n.symm;exact qs d.lk.b ca (by decide) rfl
     have f0:M k≠(Ax r c s).ownBlock:=fun n=>by obtain⟨bt,ca⟩:=en k n.symm;exact qs d.bx ca (pA _).1 rfl
     have j7:M b7≠(Ax r c s).ownBlock:=fun n=>by
      rcases d.fr with e2|e2
      ·rw[e2]at n;cases n
      ·exact e2 n.symm
     have hH:w0.heap.size<=wr.heap.size:=d.bl.size;have gf:B0 (nF (ic ao.N.k)=nF (ic ao.N.k)):=rfl;generalize nF (ic ao.N.k)=et at eF c6 gf;generalize ao.b=ew at eF c6;have br:∀B,U wr.heap.size wr (wr.alloc B).drew:=fun B=>be ((ai _ wr).alloc (ag _) B);clear d C el K bb ce en;go_wp2_with fail;go_region_law (refine step_append_lies _ (by rfl) _ _ _ (by rfl) w0.heap.size 51 fz _ 1 16 Tryz.underlying55 e3 fo fq fu rfl (by omega) (.slice r c s) c (pz L (N.ks.take c)) (by rfl) ((e7.alloc _).drew) ⟨wr.heap.size,0,O⟩ 1 1 [.iface et (.pointer (M ⟨ew,0,O⟩))] (by rfl) (by rfl) (World.news_of_block (cs:=#[.iface et (.pointer (M ⟨ew,0,O⟩))]) (t:=51) (fr:=(0,0)) (ar wr _)) (by simp[Value.oneCell']) (by omega) (by unfold Ck;omega) (by omega) (by simp;omega) (wr.heap.size+1) (by simp) ?_;intro iv ih q cc cb dj j0;have io:=(cb.cell_far ⟨k,5,O⟩ (by simp;omega) f0).trans (ah (br _) g6);have ip:=(cb.frozen_far ⟨k,5,O⟩ (by simp;omega) f0).trans (Ia (br _) h0 da))
     all_goals
      go_wp2_with fail;obtain⟨_,bf,_,_,_,_,_,H,_,_⟩:=u.out;have h5:=bk.out.below (br (.cells #[.iface et (.pointer (M ⟨ew,0,O⟩))] 51));rw[<-c6.out]at cc;obtain⟨_,stB⟩:=h5.kid H cb cc dj (by simp);exact⟨⟨c+1,_,by go_num,by omega,f9,gr,stB⟩,by simp[B2];omega⟩
    ·have E:B0 (R=bp):=by rw[az bb,eG,eG]at C;exact C
     have e1:=d.bl;by_cases i6:p<0
     ·clear C d bk cm K;go_wp2_with fail;go_ret;exact⟨by rw[<-E.out];rfl,e1,fun h=>by rw[<-E.out]at h;cases h⟩
     ·have i7:¬p<(nL:Int):=by omega
      clear C d bk cm K bb;go_wp2_with fail;go_ret;exact⟨by rw[<-E.out];rfl,e1,fun h=>by rw[<-E.out]at h;cases h⟩
   ·obtain rfl:c=j:=by omega
    rw[gH,FE,fC]at C;obtain⟨r,s,dx⟩:=cH d.kr;subst dx;obtain⟨ap,a0,bj⟩:=cH d.ns.row;subst bj;rw[I.out];have gv:wr.cell? ⟨lb,1,O⟩=M (.slice ap nL a0):=by rw[<-I.out,ay _ _ _ _ _ _ d.lk.b];rfl
    have eh:=d.ns.row;rw[I.out]at eh;have hH:w0.heap.size<=wr.heap.size:=d.bl.size;have hK:lb<wr.heap.size:=au d.lk.b;have br:∀B,U wr.heap.size wr (wr.alloc B):=fun B=>(ai _ wr).alloc (ag _) B;have bo:=aj d;have gd:=aj C;have ge:=aj eh;clear C d bk cm eh;obtain⟨_,bf,cz,ds,af,cB,a6,H,J,a5⟩:=u.out;have f8:B0 (∀B q z y,(wr.alloc B).grownBy q (Ax ap nL a0).ownBlock->q.ownsRow w0.heap.size 51 1 (.slice (M ⟨z,0,O⟩) (nL+1) y) (nL+1) (L.map nV++[.iface es (.pointer (M ⟨k,0,O⟩))])->((Ax (M ⟨z,0,O⟩) (nL+1) y).ownBlock=(Ax ap nL a0).ownBlock\/(Ax (M ⟨z,0,O⟩) (nL+1) y).ownBlock=M (wr.alloc B).heap.size)->
      q.heap[lb]?=M (.cells #[.map (M mb),.slice ap nL a0] 80 (0,0))/\Lk (q.setCell ⟨lb,1,O⟩ (.slice (M ⟨z,0,O⟩) (nL+1) y)) lb mb (.slice (M ⟨z,0,O⟩) (nL+1) y)/\kF (q.setCell ⟨lb,1,O⟩ (.slice (M ⟨z,0,O⟩) (nL+1) y)) w0.heap.size (.slice (M ⟨z,0,O⟩) (nL+1) y) (L++[⟨N,k,.slice g e i,.slice r c s⟩])/\jc (q.setCell ⟨lb,1,O⟩ (.slice (M ⟨z,0,O⟩) (nL+1) y)) k N (.slice g e i) nL (.slice r c s)/\U w0.heap.size w0 (q.setCell ⟨lb,1,O⟩ (.slice (M ⟨z,0,O⟩) (nL+1) y))):=by
     intro B q z y hv hD dj;have h4:=bo.out.below (br B);have ec:=I.out;have d9:=cn.out.2;subst d9;subst ec;have hE:∀p∈N.ks,0<=p/\p<(L.length:Int):=by
      have:=ey.out;rw[za]at this;exact this
     refine h4.done H hE hv ?_ dj;unfold jd;rw[ek];exact hD
    clear bf J H;go_wp2_with (at_builtin;refine wpList_append_own_at _ rfl _ _ 55 rfl w0.heap.size 51 fz _ 1 16 Tryz.underlying55 e3 fo fq fu rfl (by decide) _ _ _ rfl (ge.out.alloc _) ⟨wr.heap.size,0,O⟩ 1 1 [.iface es (.pointer (M ⟨k,0,O⟩))] rfl rfl (World.news_of_block (cs:=#[.iface es (.pointer (M ⟨k,0,O⟩))]) (fr:=(0,0)) (ar wr _)) (by intro j8 fk;simp at fk;subst fk;rfl) (by unfold Ck;omega) (by omega) (by simp;omega) ?_;intro j9 q cc cb j2 hp;obtain⟨z,y,rfl⟩:=ownsRow_succ cc;obtain⟨fB,c4,c5,ct,a9⟩:=f8.out _ q z y cb cc hp;have kb:q.cell? ⟨lb,1,O⟩=M (.slice ap nL a0):=by {rw[ay _ _ _ _ _ _ fB];rfl};have kc:q.frozen? ⟨lb,1,O⟩=R:=dI _ _ _ _ _ fB);generalize q.setCell ⟨lb,1,O⟩ (.slice (M ⟨z,0,O⟩) (nL+1) y)=gu at c4 c5 ct a9⊢;have ec:=I.out;have d9:=cn.out.2;have fn:(L++[⟨N,k,.slice g e i,.slice r c s⟩])[nL]?=M ⟨N,k,.slice g e i,.slice r c s⟩:=by rw[<-ec];simp
    have fb:(L++[(⟨N,k,.slice g e i,.slice r c s⟩:Im)]).map Im.N=ns.take (L++[(⟨N,k,.slice g e i,.slice r c s⟩:Im)]).length:=by
     rw[fK,cB,aF,uG,gG,a5];rfl
    have e6:=c5.kids fb fn;have am:=Cz gu lb mb _ c4 k N (.slice g e i) nL r c s (by omega) (cz.below a9) af.l1 af.ls af.lx ct;unfold jd at am;rw[ek]at am;have al:=gd.out;cases hfb:ffB N c (ic N.k) with
    |false=>
     rw[hfb]at am al;rw[eG]at al;have E:=aj al;refine am.mono ?_;rintro n f7 ⟨rfl,a4⟩;have ba:=a9.trans (a4.mono a9.size);clear al hfb am;go_wp2_with fail;go_ret;exact⟨by rw[<-E.out];rfl,ba,fun h=>by rw[<-E.out]at h;cases h⟩
    |true=>
     rw[hfb]at am al;rw[fC]at al;have e8:ic N.k=1->0<=N.n/\N.n<=200:=fun ca=>by
      rw[ca]at hfb;have:=aH (show decide (1<=N.n/\N.n<(c:Int))=A5 from hfb);omega
     refine am.mono ?_;rintro n f7 ⟨rfl,a4⟩;have ba:=a9.trans (a4.mono a9.size);have hJ:=c4.below a4;have h2:=c5.below a4;have hx:(jf ns N.ks).length<=1048576:=by unfold jf;rw[dL,d9];omega
     have c0:=H0 f7 k N (.slice g e i) (.slice r c s) nL (jf ns N.ks) (e6.below a4) hx (fun v hl=>a6 v (ba.trans (hl.mono ba.size))) (ct.below a4) e8;rw[al]at c0;unfold jd at c0;rw[ek]at c0;clear al hfb am e8 e6 fn fb c4 c5 ct a5 cB a6 af cz ds;go_wp2_with (go_at_call 51;refine c0.mono ?_;rintro n ka ⟨rfl,dp⟩);go_ret;exact⟨rfl,ba.trans (dp.mono ba.size),fun _=>⟨_,_,rfl,rfl,hJ.below dp,h2.below dp⟩⟩
theorem af9(w0 w:T)(l:ql w0)(a:U w0.heap.size w0 w)(lb mb:Nat)(n:w0.heap.size<=lb)(b:Q)(L:List Im)(h:Lk w lb mb b)(j:kF w w0.heap.size b L)(N:Nd)(vn vk:Q)(f:bF w0 vn N.nm)(e:aK w0 vk N.ks)(g:iy N)(i:L.length<=3000)(ns:List Nd)(o:L.map Im.N=ns.take L.length)(m:ns[L.length]?=M N)(p:∀c,U w0.heap.size w0 c->B1 X c "strings.asciiSpace" .u8 A4):
  Br X 25 #[A1 (M ⟨lb,0,O⟩),dy N vn vk] w (Fk w0 lb mb L ns N vn):=by
 cases hf:CA N with
 |true=>exact af8 w0 w l a lb mb n b L h j N vn vk f e g i ns o m p hf
 |false=>
  refine cd (acl w lb N vn vk (f.below a) (e.below a) g hf) fun q k=>?_;have d:CC ns L.length N=R:=by unfold CC;rw[hf,eG]
  exact⟨by rw[d],a.trans (k.mono a.size),fun h=>by rw[d]at h;cases h⟩
theorem Ib(n l Bs c cap:Nat)(a:Option Addr)(f:Nat->Q)(K:c<=3000)(I:c<=cap)(d:Nat->T->Prop)(p:T->Prop)
  (r:∀m b,d m b->b.cell? ⟨Bs,0,O⟩=M (Y a c cap))
  (z:∀m b,d m b->∀j,j<c->∃k,a=M k/\b.cell? (k.add j)=M (f j))
  (y:∀m b,m<c->d (m+1) b->YieldAt Fence.wide (n-1) X l #[A6 .i64 (m:Int),f m] b fun e h=>(e= Z (A8 A5)/\d m h)\/(e= Z (A8 R)/\p h))
  (b:T) (q:d c b):
  CallsIn Fence.wide n X 110 #[.func (.yield l) #[] #[],A1 (M ⟨Bs,0,O⟩)] b fun e h=>(∃v,e= Z v)/\(d 0 h\/p h):=by
 have G:=r _ _ q;refine callsIn_of_wp Tryz.func110 rfl trivial ?_ rfl;simp only[Tryz.ntmps110,jG,cC,gq,Nat.reduceAdd,Nat.reduceSub,mC,mD,mE,yE,fx,fy]
 gi_wp2
 gi_loopw [3] (fun o wr=>∃g:Nat,g<=c/\o= A6 .i64 ((g:Int)-1)/\d g wr) (fun o _=>(B2 o+1).toNat)
 case atStart=>exact⟨c,ag _,rfl,q⟩
 case round=>
  obtain⟨g,J,rfl,i⟩:=hrel;have F:=r _ _ i;rcases kL g with rfl|hp
  ·gi_wp2
   go_end0
   exact⟨⟨_,rfl⟩,.inl i⟩
  ·obtain⟨m,rfl⟩:∃m,g=m+1:=⟨g-1,by omega⟩;obtain⟨k,rfl,H⟩:=z _ _ i m (by omega);obtain⟨E,tmps,B,C,L,x⟩:=y m wr (by omega) i;have s:((m+1:Nat):Int)-1=(m:Int):=by omega
   rw[s];have af:(m:Int)<(c:Int):=by omega
   have ak:(0:Int)<=(m:Int):=by omega
   gi_wp2
   refine⟨fun t=>by simp[Fence.wide]at t,x.mono ?_⟩;rintro e A (⟨rfl,u⟩|⟨rfl,w⟩)
   ·gi_wp2
    go_roundw
    case rel=>exact⟨m,by omega,by simp,u⟩
    case measure=>simp[B2]
   ·gi_wp2
    refine bB (sH rfl _ _ _) rfl ?_;exact⟨⟨_,rfl⟩,.inr w⟩
theorem wD(a:Option Addr)(b cap:Nat)(w:T):
  Br X 52 #[Y a b cap] w fun e c=>e= Z (.func (.func 110) #[] #[A1 (M ⟨w.heap.size,0,O⟩)])/\c=w.alloc (A3 #[Y a b cap] 55):=by
 refine calls_of_wp Tryz.func52 rfl ?_;simp only[Tryz.ntmps52,jG,cC,gq,Nat.reduceAdd,Nat.reduceSub,mC,mD,mE,yE,fx,fy];go_wp2;go_ret;exact⟨rfl,rfl⟩
attribute [local go_sem] DB
def aaA:Option Nat->Q
 |some i=> .tuple #[A6 .i64 (i:Int),A8 A5]
 |none=> .tuple #[A6 .i64 0,A8 R]
structure BG (w:T) (B:Nat) (vs:Q) (n:Nat) (D:List Int) (W:T):Prop where
 bl:U w.heap.size w W
 row:W.ownsRow w.heap.size 3 1 (.slice (M ⟨w.heap.size,0,O⟩) n n) n (D.map (B4 .i64))
 bx:W.heap[B]?=M (.cells #[.slice (M ⟨w.heap.size,0,O⟩) n n] 31 (0,0))
 bs:W.heap[B+1]?=M (.cells #[vs] 55 (0,0))
 ok:ab3 n D
theorem BG.put{w:T}{a:Nat}{c:Q}{n:Nat}{D:List Int}{b:T}(h:BG w a c n D b)(f:w.heap.size<a){r:Loop}{k:Nat}(g:a+1<k)(e:b.heap[k]?=M (.loop r))(o:Obj):BG w a c n D (b.putObj k o):=
 ⟨h.bl.grown (A7 b k o) h.bl.size (fun i d=>by cases d;omega),ownsRow_putObj h.row o e rfl,(World.putObj_heap_other (by omega)).trans h.bx,(World.putObj_heap_other (by omega)).trans h.bs,h.ok⟩
structure alr (w:T) (B:Nat) (vs:Q) (n t:Nat) (ks D:List Int) (j:Nat) (E:List Int) (W0 W:T):Prop where
 st:BG w B vs n E W
 rest:Io t (ks.drop j) E=Io t ks D
 kf:KeepsFrom (B+2) W0 W
theorem xD{b:T}{base e size n:Nat}{v:Q}{d:List Q}(h:b.ownsRow base e size v n d):∃a cap,v= Y a n cap:=by
 rcases h.2 with⟨rfl,c⟩|⟨g,cap,f,rfl,_⟩
 ·exact⟨O,0,by rw[c]⟩
 ·exact⟨_,_,rfl⟩
theorem Ic{b:T}{base e size n m c:Nat}{a:Option Addr}{d:List Q}(h:b.ownsRow base e size (Y a n c) m d):n=m:=by
 obtain⟨f,g,e⟩:=xD h;cases e;rfl
theorem kF.at{a:T}{base g n c:Nat}{L:List Im}(h:kF a base (Y (M ⟨g,0,O⟩) n c) L){i:Nat}{x:Im}(d:L[i]?=M x):a.cell? ⟨g,i,O⟩=M (B6 (nF (ic x.N.k)) (A1 (M ⟨x.b,0,O⟩))):=by
 have f:i<L.length:=(List.getElem?_eq_some_iff.1 d).1;have e:=Ic h.row;subst e;rw[h.row.cellAt i (by omega),cA,d];rfl
theorem kF.kidAt{l:T}{base:Nat}{r:Q}{L:List Im}(h:kF l base r L){i:Nat}{x:Im}(d:L[i]?=M x){g n c:Nat}(p:x.kv= Y (M ⟨g,0,O⟩) n c){j:Nat}{f:Int}(e:x.N.ks[j]?=M f):
  ∃q y,f=((q:Nat):Int)/\q<i/\L[q]?=M y/\l.cell? ⟨g,j,O⟩=M (B6 (nF (ic y.N.k)) (A1 (M ⟨y.b,0,O⟩))):=by
 obtain⟨z0,u⟩:=h.rng i x f d (dl e);obtain⟨q,rfl⟩:=gc z0;have s:i<L.length:=(List.getElem?_eq_some_iff.1 d).1;have t:j<x.N.ks.length:=(List.getElem?_eq_some_iff.1 e).1;have m:q<i:=by omega
 refine⟨q,L[q]'(by omega),rfl,m,aE _,?_⟩;have a:=h.kid i x d;rw[p]at a;have o:=Ic a;subst o;rw[a.cellAt j (by omega)];unfold pz;rw[cA,e];simp only[uK,fD];rw[mF,ab m,aE (by omega)];rfl
theorem CD(w:T)(base:Nat)(b0:Q)(L:List Im)(a2:kF w base b0 L)(ns:List Nd)(cl:L.map Im.N=ns)(n:Nat)(bn:L.length=n)(em:1<=n)(r:n<=3000)(ck:∀x∈L,x.N.ks.length<=200):
  Br X 27 #[b0] w fun e o=>e= .returned (aaA (gp (iG (Ca ns)) n 0))/\U w.heap.size w o:=by
 obtain⟨f,j,rfl⟩:∃f b3,b0= .slice (M ⟨f,0,O⟩) n b3:=by
  rcases bK a2.row with⟨h,_⟩|h
  ·omega
  ·rw[<-bn];exact h
 have df:n<=j:=by
  rcases a2.row.2 with⟨r,_⟩|⟨el,ee,eg,r,_,_,en,_⟩
  ·cases r
  ·cases r;omega
 obtain⟨d5,dn,d2,d3,d4⟩:=fl pJ;obtain⟨bf,bo⟩:=aA (gp (iG (Ca ns)) n 0);rw[bo];have q:=ags a2 cl bn bo ck;clear a2 cl bn bo ck;refine DF (n:=5).1 ?_;refine callsIn_of_wp_marks Tryz.func27 rfl trivial ?_ rfl;simp only[Tryz.ntmps27,jG,cC,gq,Nat.reduceAdd,Nat.reduceSub,mC,mD,mE,yE,fx,fy];refine wpIn_wide.2 ?_;go_wp2_with (first|(at_make;refine zb _ rfl _ _ 31 rfl w.heap.size 3 d5 (.int .i64 0) 1 Tryz.underlying31 dn d2 d3 .i64 .i64 _ _ n rfl rfl rfl rfl (by rw[d4];omega) (by unfold Ck;omega) (ag _) ?_;intro E a8 H)|(go_at_call 52;refine(wD (M ⟨f,0,O⟩) n j _).mono ?_;rintro e e4 ⟨rfl,rfl⟩));rename_i d9 b8;have ca:U w.heap.size w E:=⟨H.os,H.tape,H.output,H.size,fun g ds=>H.block g ds (by simp)⟩;rw[show(madeCells (B4 .i64 0).cells (n*1)).toList=A9 n (B4 .i64 0) by rw[uJ];exact yJ _ n]at a8;have bw:w.heap.size<E.heap.size:=(a8.lt w.heap.size rfl).2;obtain⟨c,a1⟩:=aA E.heap.size;have I:BG w c (.slice (M ⟨f,0,O⟩) n j) n (A9 n 0) ((E.alloc (.cells #[.slice (M ⟨w.heap.size,0,O⟩) n n] 31)).alloc (.cells #[.slice (M ⟨f,0,O⟩) n j] 55)):=by
  refine⟨(ca.alloc (by omega) _).alloc (by simp;omega) _,?_,?_,?_,?_⟩
  ·rw[List.map_replicate];exact(a8.alloc _).alloc _
  ·exact(dt _ _ _ (by simp;omega)).trans (by rw[<-a1];exact ar E _)
  ·have:=ar (E.alloc (.cells #[.slice (M ⟨w.heap.size,0,O⟩) n n] 31)) (.cells #[.slice (M ⟨f,0,O⟩) n j] 55);rw[bu,a1]at this;exact this
  ·refine⟨by simp,fun s ap a5=>?_⟩;obtain⟨r,c7⟩:=List.getElem?_eq_some_iff.1 a5;simp at r c7;omega
 have J:((E.alloc (.cells #[.slice (M ⟨w.heap.size,0,O⟩) n n] 31)).alloc (.cells #[.slice (M ⟨f,0,O⟩) n j] 55)).heap.size=c+2:=by simp;omega
 rw[a1]at bw⊢;generalize (E.alloc (.cells #[.slice (M ⟨w.heap.size,0,O⟩) n n] 31)).alloc (.cells #[.slice (M ⟨f,0,O⟩) n j] 55)=ec at I J⊢;clear a8 H ca a1;refine(DL (n:=5)).1 ?_;refine Dc (P:=X) (gf:=110) (lb:=#[.pointer (M ⟨c+1,0,O⟩)]) rfl (enters_of Tryz.func110 (by kernel_rfl) rfl)
  (fun a=>#[.int .i64 (a:Int),match L[a]? with|some x=> .iface (nF (ic x.N.k)) (.pointer (M ⟨x.b,0,O⟩))|none=> .nilIface]) (fun _=>rfl) n
  (fun a b=>∃D,BG w c (.slice (M ⟨f,0,O⟩) n j) n D b/\dpN ns a D=Ca ns)
  (fun a K b=>(∃D,BG w c (.slice (M ⟨f,0,O⟩) n j) n D b/\dpN ns (a+1) D=Ca ns)/\∃x,L[a]?=M x/\
   K={tmps:=#[.slice (M ⟨f,0,O⟩) n j,V,.int .i64 0,.bool R,.pointer (M ⟨c,0,O⟩),.int .i64 (a:Int),.iface (nF (ic x.N.k)) (.pointer (M ⟨x.b,0,O⟩)),V,V,V,V,
    .slice (M ⟨f,0,O⟩) n j,.int .i64 (n:Int),.slice (M ⟨w.heap.size,0,O⟩) n n,.slice (M ⟨f,0,O⟩) n j,.func (.func 110) #[] #[.pointer (M ⟨c+1,0,O⟩)],.int .i64 (a:Int),.iface (nF (ic x.N.k)) (.pointer (M ⟨x.b,0,O⟩)),
    V,V,V,V,V,V,V,V,V,V,V,V,V,V,V,V,V,V,V,V,V,V,V,V,V,V,V,V,V,V,V,V,V,V],defers:=[]})
  (fun _=>False)
  ?pZ ?pAx ?pX ?h0 ?assign ?body ?seq ?done ?ret
 case pZ=>
  rintro a b cx ba ⟨D,h,m⟩ al;rw[J]at al⊢;exact⟨D,h.put bw (by omega) al ba,m⟩
 case pAx=>
  rintro a K b cx ba ⟨⟨D,h,m⟩,x,p,rfl⟩ al;rw[J]at al⊢;exact⟨⟨D,h.put bw (by omega) al ba,m⟩,x,p,rfl⟩
 case pX=>intro b cx ba h;exact h.elim
 case h0=>
  intro c3 a3 e0;have dd:U w.heap.size w c3:=I.bl.trans (a3.mono (by omega));exact⟨A9 n 0,⟨dd,aI I.row a3,(a3.block _ (by omega)).trans I.bx,(a3.block _ (by omega)).trans I.bs,I.ok⟩,by rw[Ca,<-q.out.2.1,dL,q.out.2.2.1]⟩
 case assign=>
  rintro a9 a b ea a6 ⟨D,h,m⟩ b9;obtain⟨x,p⟩:=bH q.out.2.2.1 a6;rw[p]at⊢;have d8:=fun K=>b9 K b;have i:=jn h m p;clear h m p
  gi_wp2
  exact b9 _ _ ⟨⟨D,i.out.1,i.out.2.1⟩,x,i.out.2.2,rfl⟩ (KeepsFrom.refl _ _)
 case body=>
  rintro a9 a K b a6 ⟨⟨D,h,m⟩,x,p,rfl⟩;rw[J];have bp:=ah h.bl (q.out.1.box a x p).cells.2.2.2.2.1;have ak:=q.out.1.kid a x p;obtain⟨c4,eh,B⟩:=xD ak;rw[B]at bp;have dx:=q.out.2.2.2.2 x (dl p);obtain⟨an,bt⟩:=aA x.N.ks.length;rw[bt]at bp dx B;have cn:ns[a]?=M x.N:=by rw[<-q.out.2.1,cA,p];rfl
  have cc:dpN ns a (Io a x.N.ks D)=Ca ns:=by
   rw[dpN,bc,cn,ii]at m;exact m
  have i:=tH p cc bt B;have b2:B0 (alr w c (.slice (M ⟨f,0,O⟩) n j) n a x.N.ks D 0 D b b):=⟨h,rfl,KeepsFrom.refl _ _⟩;have a7:=fun w=>py x.N.k x.b w;have ey:(a:Int)<(n:Int):=by omega
  have ex:(0:Int)<=(a:Int):=by omega
  have cu:=fun (c5:Nat) w=>CallsIn.inRound a9 (DF (n:=2).2 (gl c5 w));generalize nF (ic x.N.k)=e3 at a7⊢;clear p m cc ak cn bt B h
  gi_wp2_with (refine⟨trivial,?_⟩;gi_at_call 222;refine(cu _ _).mono ?_;rintro e ao ⟨rfl,cr⟩;subst ao)
  gi_loopw [24] (fun F d7=>∃(s:Nat) (v:List Int),s<=an/\F= .int .i64 s/\B0 (alr w c (.slice (M ⟨f,0,O⟩) n j) n a x.N.ks D s v b d7)) (fun F _=>an-(B2 F).toNat)
  case atStart=>exact⟨0,D,aG _,rfl,b2⟩
  case round=>
   obtain⟨s,v,a5,rfl,l⟩:=hrel;clear b2 bp a7;by_cases dp:s<an
   ·have er:(s:Int)<(an:Int):=by omega
    have eq:(0:Int)<=(s:Int):=by omega
    obtain⟨ap,C⟩:=bH i.out.2.2.1 dp;have B:=i.out.2.2.2;obtain⟨gk,dj⟩:∃gk,c4=M ⟨gk,0,O⟩:=by
     have ak:=q.out.1.kid a x i.out.1;rw[B]at ak;rcases bK ak with⟨h,_⟩|⟨gk,b3,h⟩
     ·rw[i.out.2.2.1]at h;omega
     ·cases h;exact⟨_,rfl⟩
    subst dj;obtain⟨d,u,rfl,d1,bA,dg⟩:=(q.out.1.below (l.out.st.bl)).kidAt i.out.1 B C;have cm:=ah l.out.st.bl (q.out.1.box d u bA).cells.2.2.2.1;obtain⟨k,a4⟩:=bH l.out.st.ok.1 a6;obtain⟨c6,ce⟩:=bH l.out.st.ok.1 (show d<n by omega);have ep:=l.out.st.ok.2 a k a4;have G:BG w c (.slice (M ⟨f,0,O⟩) n j) n v wr.drew:=⟨l.out.st.bl.drew,l.out.st.row,l.out.st.bx,l.out.st.bs,l.out.st.ok⟩;have am:=G.row;have b4:wr.drew.cell? ⟨w.heap.size,a,O⟩=M (.int .i64 k):=by rw[am.cellAt a (by omega),cA,a4];rfl
    have ef:wr.drew.cell? ⟨w.heap.size,d,O⟩=M (.int .i64 c6):=by rw[am.cellAt d (by omega),cA,ce];rfl
    have ek:=am.frozenAt d;have br:v.getD a 0=k:=by rw[bc,a4];rfl
    have bD:=(am.stored d (.int .i64 (k+1))).1;rw[<-List.map_set]at bD;have bE:=l.out.st.ok.set a d a6 d1;rw[br]at bE;have cp:Io a (x.N.ks.drop (s+1)) (v.set d (k+1))=Io a x.N.ks D:=by
     have r:=l.out.rest;have cf:=(List.getElem?_eq_some_iff.1 C);rw[ly cf.1,cf.2,Io,br]at r;exact r
    have bj:wr.drew.cell? ⟨c,0,O⟩=_:=cK G.bx;have cy:BG w c (.slice (M ⟨f,0,O⟩) n j) n (v.set d (k+1)) (wr.drew.setCell ⟨w.heap.size,d,O⟩ (.int .i64 (k+1))):=
     ⟨G.bl.setCell (ag _) _,bD,(bh _ _ _ _ (by simp;omega)).trans G.bx,(bh _ _ _ _ (by simp;omega)).trans G.bs,bE⟩
    have cB:B0 (alr w c (.slice (M ⟨f,0,O⟩) n j) n a x.N.ks D (s+1) (v.set d (k+1)) b (wr.drew.setCell ⟨w.heap.size,d,O⟩ (.int .i64 (k+1)))):=⟨cy,cp,l.out.kf.trans (((KeepsOthers.drew wr).from _).trans ((KeepsOthers.setCell _ _ _).from _))⟩;have eA:d≠a:=by omega
    have e1:IntKind.i64.wrap (k+1)=k+1:=by rw[cw];omega
    have e2:=au (q.out.1.box d u bA);have c9:(wr.drew.setCell ⟨w.heap.size,d,O⟩ (.int .i64 (k+1))).cell? ⟨c,0,O⟩=M (.slice (M ⟨w.heap.size,0,O⟩) n n)/\(wr.drew.setCell ⟨w.heap.size,d,O⟩ (.int .i64 (k+1))).cell? ⟨u.b,4,O⟩=M (.int .i64 (d:Int))/\(wr.drew.setCell ⟨w.heap.size,d,O⟩ (.int .i64 (k+1))).cell? ⟨w.heap.size,a,O⟩=M (.int .i64 k):=
     ⟨(World.cell?_setCell_far _ _ _ _ (by simp;omega)).trans bj,(World.cell?_setCell_far _ _ _ _ (by simp;omega)).trans cm,(World.cell?_setCell_other _ _ _ _ (by simp;try omega)).trans b4⟩
    have eL:(d:Int)<(n:Int):=by omega
    have eF:(0:Int)<=(d:Int):=by omega
    have a7:=fun w=>py u.N.k u.b w;generalize nF (ic u.N.k)=d6 at a7 dg;clear C l bD bE cp cy am a4 ce br B bA G
    gi_wp2_with (refine⟨trivial,?_⟩;gi_at_call 222;refine(cu _ _).mono ?_;rintro e ao ⟨rfl,cr⟩;subst ao)
    have c8:wr.drew.cell? ⟨c,0,O⟩=M (.slice (M ⟨w.heap.size,0,O⟩) n n)/\wr.drew.cell? ⟨u.b,4,O⟩=M (.int .i64 (d:Int))/\wr.drew.cell? ⟨w.heap.size,a,O⟩=M (.int .i64 k):=⟨bj,cm,b4⟩;refine ri (S:=fun o=>o.cell? ⟨c,0,O⟩=M (.slice (M ⟨w.heap.size,0,O⟩) n n)/\o.cell? ⟨u.b,4,O⟩=M (.int .i64 (d:Int))/\o.cell? ⟨w.heap.size,a,O⟩=M (.int .i64 k)) (by kernel_rfl) (by kernel_rfl) (fun ⟨_,_,h⟩=>h) c8 (fun hS=>?_);refine di 0 (.slice (M ⟨w.heap.size,0,O⟩) n n) rfl rfl (by kernel_rfl) (fun _ _ _=>id) hS (fun o ⟨y,z,A⟩=>by go_simp) ?_;simp only[A2];refine di 1 (.iface d6 (.pointer (M ⟨u.b,0,O⟩))) rfl rfl (by kernel_rfl) (fun _ _ _=>id) hS (fun o ⟨y,z,A⟩=>by go_simp) ?_;simp only[A2];refine di 6 (.slice (M ⟨w.heap.size,0,O⟩) n n) rfl rfl (by kernel_rfl) (fun _ _ _=>id) hS (fun o ⟨y,z,A⟩=>by go_simp) ?_;simp only[A2];refine di 7 (.int .i64 (a:Int)) rfl rfl (by kernel_rfl) (fun _ _ _=>id) hS (fun o ⟨y,z,A⟩=>by go_simp) ?_;simp only[A2];refine di 8 (.pointer (M ⟨w.heap.size,a,O⟩)) rfl rfl (by kernel_rfl) (fun _ _ _=>id) hS (fun o ⟨y,z,A⟩=>by go_simp) ?_;simp only[A2];refine di 9 (.int .i64 k) rfl rfl (by kernel_rfl) (fun _ _ _=>id) hS (fun o ⟨y,z,A⟩=>by go_simp) ?_;simp only[A2];refine di 10 (.int .i64 (k+1)) rfl rfl (by kernel_rfl) (fun _ _ _=>id) hS (fun o ⟨y,z,A⟩=>by go_simp) ?_;simp only[A2];refine B5 (rs:=[2]) (by kernel_rfl) (by simp) (AllReadyH.cons rfl (fun bd af=>?_) AllReadyH.nil);go_simp;refine cd (gl _ _) fun ao cr=>?_;subst ao;refine af.out _ _ hS (fun hS=>?_);clear af bd;try simp only[Act.put,dv,dw,dA]
    refine di 3 (.pointer (M ⟨u.b,0,O⟩)) rfl rfl (by kernel_rfl) (fun _ _ _=>id) hS (fun o ⟨y,z,A⟩=>by go_simp) ?_;simp only[A2];refine di 4 (.pointer (M ⟨u.b,4,O⟩)) rfl rfl (by kernel_rfl) (fun _ _ _=>id) hS (fun o ⟨y,z,A⟩=>by go_simp) ?_;simp only[A2];refine di 5 (.int .i64 (d:Int)) rfl rfl (by kernel_rfl) (fun _ _ _=>id) hS (fun o ⟨y,z,A⟩=>by go_simp) ?_;simp only[A2];refine di 11 (.pointer (M ⟨w.heap.size,d,O⟩)) rfl rfl (by kernel_rfl) (fun _ _ _=>id) hS (fun o ⟨y,z,A⟩=>by go_simp) ?_;simp only[A2];refine B5 (rs:=[12]) (by kernel_rfl) (by simp) (AllReadyH.cons rfl (fun bd af=>?_) AllReadyH.nil);go_simp;refine af.out _ _ c9 (fun hS=>?_);clear af bd;refine wpAnyH_done (by kernel_rfl) ?_ _
    gi_wp2
    exact⟨⟨s+1,_,by omega,by go_num,cB⟩,by simp[B2];omega⟩
   ·obtain rfl:s=an:=by omega
    have bq:B0 (BG w c (.slice (M ⟨f,0,O⟩) n j) n v wr/\dpN ns a v=Ca ns/\KeepsFrom (c+2) b wr):=by
     refine⟨l.out.st,?_,l.out.kf⟩;have r:=l.out.rest;rw[lA (by rw[i.out.2.2.1];exact ag _),Io]at r;rw[r];exact i.out.2.1
    clear l
    gi_wp2
    exact⟨bq.out.2.2,v,bq.out.1,bq.out.2.1⟩
 case seq=>
  intro a9 c1 c2 b7 dc b da;refine Ib 4 a9 (c+1) n j (M ⟨f,0,O⟩) _ r df c1 c2 (fun a b h=>?_) (fun a b h s a5=>?_) dc b da
  ·obtain⟨D,m,_⟩:=b7 a b h;exact cK m.bs
  ·obtain⟨D,m,_⟩:=b7 a b h;obtain⟨x,p⟩:=bH q.out.2.2.1 a5;refine⟨_,rfl,?_⟩;rw[qh,p];exact ah m.bl (q.out.1.at p)
 case ret=>intro b h;exact h.elim
 case done=>
  rintro b ⟨D,h,m⟩ b5;have b6:D=Ca ns:=m;refine b8 _ _ ?_;have bj:=cK h.bx;have i:B0 (BG w c (.slice (M ⟨f,0,O⟩) n j) n D b/\b.heap[c+2]?=M (.deferred (M []))):=⟨h,by rw[<-J];exact b5⟩;have b1:uB (iG D) (n-0) 0 bf:=⟨by rw[b6];exact q.out.2.2.2.1⟩;have eo:w.heap.size<c+2:=by omega
  rw[J];clear h m b5 b6 b8;go_wp2_with fail;go_loop [43] (fun F=>∃g:Nat,g<=n/\F= .int .i64 g/\uB (iG D) (n-g) g bf) (fun F=>n-(B2 F).toNat)
  case atStart=>exact⟨0,aG _,rfl,b1⟩
  case round=>
   obtain⟨g,ev,rfl,a0⟩:=hrel;clear b1;have t:=a0.out;by_cases d0:g<n
   ·have ew:(g:Int)<(n:Int):=by omega
    have es:(0:Int)<=(g:Int):=by omega
    obtain⟨ap,C⟩:=bH i.out.1.ok.1 d0;have ei:b.cell? ⟨w.heap.size,g,O⟩=M (.int .i64 ap):=by rw[i.out.1.row.cellAt g (by omega),cA,C];rfl
    rw[show n-g=(n-(g+1))+1 by omega,gp]at t;have bk:iG D g=decide (100<ap):=by unfold iG;rw[bc,C];rfl
    rw[bk]at t;by_cases cs:100<ap
    ·rw[ab (bg cs)]at t;have bb:=aj t.symm;clear t bk C a0;go_wp2_with fail;refine⟨by simp,.inl ⟨_,_,rfl,run_takeDeferred i.out.2,?_⟩⟩;refine⟨_,results_tmp2 rfl _ _ _,by rw[bb.out];rfl,?_⟩;exact i.out.1.bl.grown (A7 b (c+2) (.deferred O)) i.out.1.bl.size (fun g e=>by cases e;omega)
    ·rw[aa (by simpa using cs)]at t;have c0:uB (iG D) (n-(g+1)) (g+1) bf:=⟨t⟩;clear t bk C a0;go_wp2_with fail;go_round
     case rel=>exact⟨g+1,by omega,by go_num,c0⟩
     case measure=>simp[B2];omega
   ·obtain rfl:g=n:=by omega
    rw[gH,gp]at t;have bb:=aj t.symm;clear t a0;go_wp2_with fail;refine⟨by simp,.inl ⟨_,_,rfl,run_takeDeferred i.out.2,?_⟩⟩;refine⟨_,results_tmp2 rfl _ _ _,by rw[bb.out];rfl,?_⟩;exact i.out.1.bl.grown (A7 b (c+2) (.deferred O)) i.out.1.bl.size (fun g e=>by cases e;omega)
theorem J8(x:ByteArray):oa x=decide (x=⟨#[]⟩):=by
 unfold oa;rw[gw];by_cases a:x=⟨#[]⟩
 ·subst a;rfl
 ·rw[az a,az];intro b;apply a;cases x;simp only at b
  congr 1
  exact Array.toList_inj.1 b
theorem uF(N:Nd):xL (rE N (ic N.k)) N=(match ic N.k with
  |0=>aD N R R R A5
  |1=>aD N R A5 R R
  |2=>aD N R A5 R R
  |3=>aD N R R A5 R
  |4=>aD N A5 R R R
  |5=>aD N A5 R R A5&&(N.op==0||N.op==1)
  |_=>aD N R R R R):=by
 have p:∀(l m o:Bool)(P f g h:Prop) [Decidable P] [Decidable f] [Decidable g] [Decidable h],decide (P/\f/\g/\h)=(decide P&&decide f&&decide g&&decide h):=fun l m o P f g h _ _ _ _=>by
  by_cases c:P<;>by_cases q:f<;>by_cases r:g<;>by_cases s:h<;>simp[c,q,r,s]
 have d:decide ((0:Int)=N.op)=(N.op==0):=by
  by_cases a:N.op=0
  ·rw[bg a.symm,a];rfl
  ·rw[az (fun b=>a b.symm)];exact(beq_eq_false_iff_ne.2 a).symm
 have j:decide ((0:Int)=N.n)=(N.n==0):=by
  by_cases a:N.n=0
  ·rw[bg a.symm,a];rfl
  ·rw[az (fun b=>a b.symm)];exact(beq_eq_false_iff_ne.2 a).symm
 have e:decide ((⟨#[]⟩:ByteArray)=N.x)=oa N.x:=by
  rw[J8];by_cases a:N.x=⟨#[]⟩
  ·rw[bg a.symm,bg a]
  ·rw[az (fun b=>a b.symm),az a]
 have i:decide (([]:List ByteArray)=N.nm)=decide (N.nm.length=0):=by
  by_cases a:N.nm=[]
  ·rw[bg a.symm,bg (by rw[a];rfl)]
  ·rw[az (fun b=>a b.symm),az (fun b=>a (jr b))]
 unfold xL aD;rw[p A5 A5 A5];rcases BD N.k with hc|hc|hc|hc|hc|hc|hc
 ·rw[hc];simp only[rE,d,j,e];simp
 ·rw[hc];simp only[rE,d,e,i];simp
 ·rw[hc];simp only[rE,d,e,i];simp
 ·rw[hc];simp only[rE,d,j,i];simp
 ·rw[hc];simp only[rE,j,e,i];simp
 ·rw[hc];simp only[rE,j,e];have b:decide ((if N.op=1 then(1:Int) else 0)=N.op)=(N.op==0||N.op==1):=by
   by_cases c:N.op=1
   ·rw[ab c,c];rfl
   ·rw[aa c,d];rw[beq_eq_false_iff_ne.2 c,D2]
  rw[b];simp;cases (N.op==0||N.op==1)<;>cases (N.n==0)<;>cases oa N.x<;>rfl
 ·rw[hc];simp only[rE,d,j,e,i];simp
theorem lw(ns:List Nd)(ks:List Int):(jf ns ks).length=ks.length:=by simp[jf]
theorem aga(ns:List Nd)(N:Nd)(j:Nat)(h:j<N.ks.length):(jf ns N.ks)[j]?=M (eu ns N j):=by
 unfold jf eu;rw[cA,aE h];simp[List.getD,aE h]
theorem J9(a:List Int):ft [] a=a.isEmpty:=rfl
theorem aaB(i:Nat)(a:List Int):ft [(i,1)] a=a.all (ms i):=by
 rw[ft,aa (by omega),J9];have c:FG i 1 a=(a.takeWhile (ms i)).length:=by unfold FG;rw[ab rfl]
 rw[c]
 induction a with
 |nil=>rfl
 |cons b e d=>
  cases h:ms i b with
  |false=>rw[DJ (by simp[h])];simp[h]
  |true=>
   rw[DK (by simp[h]),D7,h,fC,cC,List.drop_succ_cons];exact d (by unfold FG;rw[ab rfl])
theorem ana(i f:Nat)(b:f≠1)(a:Int)(r:List Int):FG i f (a::r)=if ms i a=A5 then 1 else 0:=by
 unfold FG;rw[aa b];cases h:ms i a with
 |false=>rw[DJ (by simp[h])];simp
 |true=>rw[DK (by simp[h]),cC,ab rfl];omega
theorem Fl(i:Nat)(b:List (Nat×Nat))(a:Int)(r:List Int):ft ((i,0)::b) (a::r)=(ms i a&&ft b r):=by
 rw[ft,ana i 0 (by omega)];cases h:ms i a with
 |false=>simp
 |true=>simp
theorem aaC(i:Nat)(a:List (Nat×Nat)):ft ((i,0)::a) []=R:=by
 rw[ft];simp[FG]
theorem als(i:Nat)(b:List (Nat×Nat))(a:Int)(r:List Int):ft ((i,2)::b) (a::r)=if ms i a=A5 then ft b r else ft b (a::r):=by
 rw[ft,ana i 2 (by omega)];cases h:ms i a with
 |false=>simp
 |true=>simp
theorem ait(i:Nat)(a:List (Nat×Nat)):ft ((i,2)::a) []=ft a []:=by
 rw[ft];simp[FG]
theorem alt(n:Nat):∀(b:List Int),n<b.length->ft (Cy n) b=((b.take n).all (ms 5)&&(b.drop n).all (ms 3)):=by
 induction n with
 |zero=>
  intro b c
  match b,c with
  |a::d,_=>
   show ft ((3,0)::[(3,1)]) (a::d)=_;rw[Fl,aaB];simp
 |succ n e=>
  intro b c
  match b,c with
  |a::d,c=>
   show ft ((5,0)::Cy n) (a::d)=_;rw[Fl,e d (by simpa using c)];simp[Bool.and_assoc]
theorem qG(ns:List Nd)(N:Nd)(j:Nat)(h:j<N.ks.length):eu ns N j=(jf ns N.ks).getD j 0:=by
 rw[bc,aga ns N j h];rfl
theorem wE(a:List Int)(p:Int->Bool)(f j:Nat)(h:j+(f+1)<=a.length):((a.drop j).take (f+1)).all p=(p (a.getD j 0)&&((a.drop (j+1)).take f).all p):=by
 have b:j<a.length:=by omega
 rw[ly b,List.take_succ_cons,D7,bc,aE b];rfl
theorem Ka(ns:List Nd)(N:Nd):∀(f j:Nat),j+f<=N.ks.length->iF ns N f j=(((jf ns N.ks).drop j).take f).all eK
 |0,j,_=>by simp[iF]
 |f+1,j,h=>by
  rw[iF,Ka ns N f (j+1) (by omega),wE _ _ _ _ (by rw[lw];exact h),qG ns N j (by omega)]
theorem agb(ns:List Nd)(N:Nd):∀(f j:Nat),j+f<=N.ks.length->G8 ns N f j=(((jf ns N.ks).drop j).take f).all ja
 |0,j,_=>by simp[G8]
 |f+1,j,h=>by
  rw[G8,agb ns N f (j+1) (by omega),wE _ _ _ _ (by rw[lw];exact h),qG ns N j (by omega)]
theorem agc(ns:List Nd)(N:Nd):∀(f j:Nat),j+f<=N.ks.length->C7 ns N f j=(((jf ns N.ks).drop j).take f).all rx
 |0,j,_=>by simp[C7]
 |f+1,j,h=>by
  rw[C7,agc ns N f (j+1) (by omega),wE _ _ _ _ (by rw[lw];exact h),qG ns N j (by omega)]
theorem agd(ns:List Nd)(N:Nd):∀(f j:Nat),j+f<=N.ks.length->Gp ns N f j=(((jf ns N.ks).drop j).take f).all (ms 9)
 |0,j,_=>by simp[Gp]
 |f+1,j,h=>by
  rw[Gp,agd ns N f (j+1) (by omega),wE _ _ _ _ (by rw[lw];exact h),qG ns N j (by omega)];rfl
theorem aiu(k:Int):ms 5 k=rx k:=by
 unfold ms rx;by_cases a:k=26<;>by_cases b:k=32<;>by_cases c:k=33<;>simp[a,b,c]
def uk(ns:List Nd)(N:Nd):Bool:=xL (rE N (ic N.k)) N&&(ffB N N.ks.length (ic N.k)&&kfB N (jf ns N.ks))
theorem anb(ns:List Nd)(N:Nd)(hk:N.k=3\/N.k=4\/N.k=6\/N.k=7\/N.k=8\/N.k=9\/N.k=10\/N.k=11\/N.k=12\/N.k=14\/N.k=15\/N.k=16\/N.k=20\/N.k=21\/N.k=22\/N.k=23\/N.k=24\/N.k=25\/N.k=26\/N.k=27\/N.k=28\/N.k=29\/N.k=30\/N.k=31\/N.k=32\/N.k=33\/N.k=36\/N.k=37\/N.k=40\/N.k=41\/N.k=42)(j:N.nm.length<=200):uk ns N=mq ns N:=by
 have a:=lw ns N.ks;have b:=qG ns N;have h:eK 1=R:=rfl;unfold uk kfB rkB;rw[uF];revert a b;generalize jf ns N.ks=c;intro a b;rcases hk with hk|hk|hk|hk|hk|hk|hk|hk|hk|hk|hk|hk|hk|hk|hk|hk|hk|hk|hk|hk|hk|hk|hk|hk|hk|hk|hk|hk|hk|hk|hk;all_goals
  rcases c with _|⟨d,_|⟨e,_|⟨f,_|⟨g,_|⟨i,l⟩⟩⟩⟩⟩;all_goals
   simp at a;simp[mq,ja,stB,jp,ic,J6,ffB,txB,AI,hk,<-a,b,iF,ez,Fl,aaC,J9,als,ait,ms]<;>grind
theorem anc(ns:List Nd)(N:Nd)(hk:N.k=1\/N.k=2\/N.k=13\/N.k=34\/N.k=35)(j:N.nm.length<=200):uk ns N=mq ns N:=by
 have b:=lw ns N.ks;have e:=qG ns N 0;have d:=Ka ns N N.ks.length 0 (by omega);have c:=agb ns N N.ks.length 0 (by omega);have a:=agd ns N N.ks.length 0 (by omega);have g:ms 0=ja:=rfl;have h:ms 3=eK:=rfl;rw[<-b]at d c a e;rw[jt,za]at d c a;unfold uk kfB rkB;rw[uF,<-b];revert b e d c a;generalize jf ns N.ks=f;intro b e d c a;rcases hk with hk|hk|hk|hk|hk;all_goals
  rcases f with _|⟨i,l⟩;all_goals
   simp at b e;simp only[cC,D7,gq,List.all_nil]at d c a;simp[mq,ja,stB,jp,ic,J6,ffB,txB,AI,hk,d,c,a,g,h,<-b,e,ez,aaB,Fl,aaC,J9,ms]<;>grind
theorem ane(ns:List Nd)(N:Nd)(a:N.k=5)(e:N.nm.length<=200):uk ns N=mq ns N:=by
 have c:ic N.k=1:=by rw[a];rfl
 have d:mq ns N=(aD N R A5 R R&&(decide (1<=N.n/\N.n<(N.ks.length:Int))&&(C7 ns N N.n.toNat 0&&iF ns N (N.ks.length-N.n.toNat) N.n.toNat))):=by
  unfold mq;rw[ab (by rw[a];rfl)];unfold stB;rw[aa (by rw[a];decide),aa (by rw[a];decide),aa (by rw[a];decide),aa (by rw[a];decide),ab a]
 unfold uk kfB;rw[uF,c,d,ab rfl];simp only[ffB];by_cases b:1<=N.n/\N.n<(N.ks.length:Int)
 ·rw[bg b,fC,fC,alt _ _ (by rw[lw];omega),agc ns N _ _ (by omega),Ka ns N _ _ (by omega)]
  congr 1
  congr 1
  ·rw[jt]
   congr 1
   funext k
   exact aiu k
  ·have:(jf ns N.ks).drop N.n.toNat=((jf ns N.ks).drop N.n.toNat).take (N.ks.length-N.n.toNat):=by
    rw[cI (by rw[ij,lw];exact ag _)]
   rw[<-this];rfl
 ·rw[az b,eG,eG]
theorem alu(ns:List Nd)(N:Nd)(h:N.k ∉ mA)(f:N.k≠5):uk ns N=mq ns N:=by
 have d:=(Fj N.k h).1;simp only[mA,jI,lE,lF,not_or]at h;have e:ja N.k=R:=by unfold ja;exact az (by omega)
 have b:mq ns N=R:=by
  unfold mq;rw[aa (by rw[e];decide)];unfold jp
  repeat rw[aa (by omega)]
 have a:ic N.k=6:=by
  unfold ic
  repeat rw[aa (by omega)]
 have c:rkB N.k (jf ns N.ks)=R:=by unfold rkB;rw[d]
 unfold uk kfB;rw[b,a,aa (by decide),c,oz,oz]
theorem age(ns:List Nd)(N:Nd)(a:N.nm.length<=200):uk ns N=mq ns N:=by
 by_cases b:N.k∈mA
 ·simp only[mA,jI,lE,lF]at b;by_cases d:N.k=1\/N.k=2\/N.k=13\/N.k=34\/N.k=35
  ·exact anc ns N d a
  ·exact anb ns N (by omega) a
 ·by_cases c:N.k=5
  ·exact ane ns N c a
  ·exact alu ns N b c
theorem Kc(ns:List Nd)(N:Nd)(l:200<N.nm.length):mq ns N=R:=by
 have f:∀c d e,aD N c d e R=R:=fun c d e=>by unfold aD;rw[az (by omega)];simp
 have a:∀g b,b<=200->ez N g b=R:=fun g b m=>by unfold ez;rw[az (by omega)];rfl
 have h:=a 1 1 (by omega);have i:=a 1 2 (by omega);have j:=a 1 200 (by omega);have k:=a 0 200 (by omega);unfold mq;split
 ·unfold stB;simp only[f,h,i,j,eG,oz];simp
 ·unfold jp;simp only[f,k,eG,oz];simp
theorem aiv(ns:List Nd)(i:Nat)(N:Nd):CC ns i N=iJ ns i N:=by
 unfold CC iJ;by_cases c:N.nm.length<=200
 ·have d:CA N=AH N:=by
   unfold CA AH;by_cases a:0<=N.f/\N.f<=N.t/\0<=N.l/\N.ks.length<=200
   ·rw[bg a,bg ⟨a.1,a.2.1,a.2.2.1,a.2.2.2,c⟩]
   ·rw[az a,az (fun b=>a ⟨b.1,b.2.1,b.2.2.1,b.2.2.2.1⟩)]
  have e:=age ns N c;unfold uk at e;rw[d,<-e];generalize xL (rE N (ic N.k)) N=g;generalize FE N.ks i N.ks.length 0=h;cases g<;>cases h<;>rfl
 ·have d:CA N=R:=by unfold CA;exact az (fun b=>c b.2.2.2.2)
  rw[d,Kc ns N (by omega),eG,oz,oz]
