import Derived.Test.YtnoojdbdapljoaaGreatDoorHOk46
import Derived.Test.YtnoojdbdapljoaaGreatDoorHOk41
set_option linter.all false
set_option maxRecDepth 100000
set_option maxHeartbeats 12800000
open Option renaming some->M,none->O
open Go renaming Value->Q,World->S,TypeId->Ax
open Go.RowKit renaming Below->R,Hid->A0
open Go.Value renaming slice->T,ownBlock->U,slice->Z,int->A2,nilIface->A3
open Go.Obj renaming cells->V
open Go.Proofs.Tryz renaming prog->X
open Go.Lib renaming asciiSpaceTab->Y,TabIs->A1
namespace Go.Proofs.YtnoojdbdapljoaaGreatDoor
open Go.RowKit Go.Maps Go.WideMaps
structure Im where
 N:Nd
 b:Nat
 vn:Q
 kv:Q
def nV(x:Im):Q:=gy x.N.k x.b
def nu(a:List Im)(ks:List Int):List Q:=ks.map fun c=>match a[c.toNat]? with|some b=>nV b|none=> A3
structure js (W:S) (base:Nat) (vs:Q) (L:List Im):Prop where
 row:W.ownsRow base 53 1 vs L.length (L.map nV)
 box:∀(i:Nat) x,L[i]?=M x->fE W x.b x.N x.vn i x.kv
 kid:∀(i:Nat) x,L[i]?=M x->W.ownsRow base 53 1 x.kv x.N.ks.length (nu (L.take i) x.N.ks)
 far:∀x∈L,x.kv.ownBlock=O\/x.kv.ownBlock≠vs.ownBlock
 rng:∀(i:Nat) x z,L[i]?=M x->z∈x.N.ks->0<=z/\z<(i:Int)
theorem fE.below{a c:S}{b:Nat}{N:Nd}{vn d:Q}{e:Int}(h:fE a b N vn e d)(f:R a.heap.size a c):fE c b N vn e d:=(f.block _ (ax h)).trans h
theorem js.below{a g:S}{base:Nat}{i:Q}{f:List Im}(h:js a base i f)(b:R a.heap.size a g):js g base i f:=
 ⟨aG h.row b,fun d e c=>(h.box d e c).below b,fun d e c=>aG (h.kid d e c) b,h.far,h.rng⟩
theorem oF{c:S}{a b:Nat}{c1 g:Array Q}{e f:Ax}{h i:Nat×Nat}(j:c.heap[a]?=M (V c1 e h))(k:c.heap[b]?=M (V g f i))(l:e≠f):a≠b:=by
 rintro rfl;have d:=j.symm.trans k;simp only[gg,jh]at d;exact l d.2.1
theorem ny(c:Nat):stT c≠53/\stT c≠93/\stT c≠35:=by
 unfold stT;split<;>decide
theorem Al{a:S}{mb b:Nat}{cs:Array Q}{t:Ax}{d:Nat×Nat}(h:a.ownsMap X 9 (plainElem (H:=Unit) X 3) mb 22 (GE 22))(e:a.heap[b]?=M (V cs t d)):mb≠b:=by
 rintro rfl;obtain⟨g,f,c,i⟩:=h;rw[e]at c;cases c
def JJ(a:S)(g:Nat):Prop:=∃b,a.heap[g]?=M (V b 53 (0,0))
theorem mE{b:S}{base n g:Nat}{v:Q}{j:List Q}(h:b.ownsRow base 53 1 v n j)(c:v.ownBlock=M g):JJ b g/\base<=g:=by
 rcases bq h with⟨_,rfl⟩|⟨e,k,rfl⟩
 ·simp[U]at c
 ·obtain rfl:e=g:=by simpa [U] using c
  rcases h.2 with⟨a,_⟩|⟨m,l,d,a,f,i,_⟩
  ·cases a
  ·cases a;exact⟨⟨d,i⟩,f⟩
structure xA (w0:S) (lb mb p bn:Nat) (vs:Q) (L:List Im) (N:Nd) (vn vk kv:Q) (j:Nat) (W:S):Prop where
 lk:Lk W lb mb vs
 ns:js W w0.heap.size vs L
 rb:de p W 35 N vn vk
 bx:fE W bn N vn L.length kv
 kr:W.ownsRow w0.heap.size 53 1 kv j (nu L (N.ks.take j))
 fr:kv.ownBlock=O\/kv.ownBlock≠vs.ownBlock
 fo:∀x∈L,x.kv.ownBlock=O\/x.kv.ownBlock≠kv.ownBlock
 bl:R w0.heap.size w0 W
 lo:w0.heap.size<=lb/\w0.heap.size<=bn/\w0.heap.size<=p
theorem xA.below{w0:S}{lb mb p e:Nat}{g:Q}{c:List Im}{N:Nd}{vn vk f:Q}{j:Nat}{b d:S}(h:xA w0 lb mb p e g c N vn vk f j b)(a:R b.heap.size b d):xA w0 lb mb p e g c N vn vk f j d:=
 ⟨h.lk.below a,h.ns.below a,h.rb.below a,h.bx.below a,aG h.kr a,h.fr,h.fo,h.bl.trans (a.mono h.bl.size),h.lo⟩
theorem xA.kid{w0:S}{lb mb p c:Nat}{y:Q}{o:List Im}{N:Nd}{vn vk k:Q}{j:Nat}{q b:S}(a0:nI w0)(h:xA w0 lb mb p c y o N vn vk k j q)(w:q.grownBy b k.ownBlock){g cap H:Nat}(A:b.ownsRow w0.heap.size 53 1 (Z (M ⟨g,0,O⟩) (j+1) cap) (j+1) (nu o (N.ks.take (j+1))))(av:k.ownBlock=M g\/g=H)(a3:q.heap.size=H):
  fE b c N vn o.length k/\xA w0 lb mb p c y o N vn vk (Z (M ⟨g,0,O⟩) (j+1) cap) (j+1) (b.setCell ⟨c,5,O⟩ (Z (M ⟨g,0,O⟩) (j+1) cap)):=by
 have G:∀a,k.ownBlock=M a->JJ q a/\w0.heap.size<=a:=fun a x=>mE h.kr x;have C:∀{t:Nat}{u:Array Q}{n:Ax},q.heap[t]?=M (V u n (0,0))->n≠53->b.heap[t]?=M (V u n (0,0)):=fun i I=>
  (w.block _ (ax i) (fun e=>by obtain⟨⟨z,v⟩,_⟩:=G _ e.symm;exact oF i v I rfl)).trans i
 have r:fE b c N vn o.length k:=C h.bx (ny _).1;have ao:R w0.heap.size w0 b:=h.bl.grown w h.bl.size (fun a x=>(G a x).2);have ad:R w0.heap.size w0 (b.setCell ⟨c,5,O⟩ (Z (M ⟨g,0,O⟩) (j+1) cap)):=ao.setCell h.lo.2.1 _;have set:∀{t:Nat}{u:Array Q}{n:Ax},b.heap[t]?=M (V u n (0,0))->n≠stT (fJ N.k)->(b.setCell ⟨c,5,O⟩ (Z (M ⟨g,0,O⟩) (j+1) cap)).heap[t]?=M (V u n (0,0)):=fun i I=>
  (bh _ _ _ _ (fun e=>by exact oF i r I e)).trans i
 have J:∀{ak:Q}{af:Nat}{an:List Q},b.ownsRow w0.heap.size 53 1 ak af an->(b.setCell ⟨c,5,O⟩ (Z (M ⟨g,0,O⟩) (j+1) cap)).ownsRow w0.heap.size 53 1 ak af an:=fun A=>
  A.kept (row:=M c) ⟨rfl,rfl,rfl,by simp[World.setCell],fun a x s=>bh _ _ _ _ (fun e=>s (by rw[e]))⟩ (by
   cases hv:U _ with
   |none=>exact .inl rfl
   |some a=>exact .inr (fun e=>by obtain⟨⟨z,v⟩,_⟩:=mE A hv;obtain rfl:=db e;exact oF r v (ny _).1 rfl))
 have am:y.ownBlock=O\/y.ownBlock≠k.ownBlock:=by
  rcases h.fr with e|e
  ·cases hv:y.ownBlock with
   |none=>exact .inl rfl
   |some a=>rw[e];exact .inr (by simp)
  ·exact .inr (gI e)
 have K:∀a,a<q.heap.size->k.ownBlock≠M a->M g≠M a:=fun a x s e=>by
  obtain rfl:=db e;rcases av with e2|e2
  ·exact s e2
  ·omega
 refine⟨r,⟨⟨set (C h.lk.b (by decide)) (gI (ny _).2.1),?_,a0.keep ad⟩,⟨J (h.ns.row.kept w am),?_,?_,h.ns.far,h.ns.rng⟩,set (C h.rb (by decide)) (gI (ny _).2.2),?_,J A,?_,?_,ad,h.lo⟩⟩
 ·have L:=qa h.lk.m (w.block _ h.lk.m.lt (fun e=>by obtain⟨⟨z,v⟩,_⟩:=G _ e.symm;exact Al h.lk.m v rfl));exact qa L (bh _ _ _ _ (fun e=>by exact Al L r e))
 ·intro l d f;have i:=C (h.ns.box l d f) (ny _).1;by_cases s:d.b=c
  ·exfalso;have E:=h.ns.box l d f;have e2:=h.bx;unfold fE at E e2;rw[s,e2]at E;have ap:=congrArg (fun a2=>match a2 with|some (Obj.cells z _ _)=>z[4]?|_=>O) E;simp at ap;have a4:l<o.length:=(List.getElem?_eq_some_iff.1 f).1;omega
  ·exact(bh _ _ _ _ s).trans i
 ·intro l d f;exact J ((h.ns.kid l d f).kept w (h.fo d (bC f)))
 ·unfold fE at r⊢;have:=cD b c 5 _ _ (Z (M ⟨g,0,O⟩) (j+1) cap) r;rw[this];simp
 ·refine .inr fun e=>?_;have B:=e.symm;have F:=(h.ns.row.lt g B).2;exact K g F (by rcases am with e2|e2;rw[e2]at B;cases B;rw[B]at e2;exact gI e2) rfl
 ·intro d f;cases hxk:d.kv.ownBlock with
  |none=>exact .inl rfl
  |some a=>
   refine .inr fun e=>?_;obtain⟨l,a1,ar⟩:=fH f;have F:=((h.ns.kid l d (by rw[aI a1,ar])).lt a hxk).2;refine K a F ?_ e.symm;rcases h.fo d f with e2|e2
   ·rw[hxk]at e2;cases e2
   ·rw[hxk]at e2;exact gI e2
theorem xA.start{w0 w b:S}{lb mb p a:Nat}{k:Q}{c:List Im}{N:Nd}{vn vk:Q}(B:nI w0)(z:js w w0.heap.size k c)(I:w.heap.size<=a)(C:lb≠a)(E:p≠a)(lk:Lk b lb mb k)(g:js b w0.heap.size k c)(F:de p b 35 N vn vk)(h:fE b a N vn 0 (Z O 0 0))(y:R w0.heap.size w0 b)(s:w0.heap.size<=lb/\w0.heap.size<=a/\w0.heap.size<=p):
  xA w0 lb mb p a k c N vn vk (Z O 0 0) 0 (b.setCell ⟨a,4,O⟩ (A2 .i64 c.length)):=by
 have q:R w0.heap.size w0 (b.setCell ⟨a,4,O⟩ (A2 .i64 c.length)):=y.setCell s.2.1 _;have j:∀{l:Nat},l≠a->(b.setCell ⟨a,4,O⟩ (A2 .i64 c.length)).heap[l]?=b.heap[l]?:=fun n=>bh _ _ _ _ n;have u:∀{v:Q}{t:Nat}{x:List Q},b.ownsRow w0.heap.size 53 1 v t x->(b.setCell ⟨a,4,O⟩ (A2 .i64 c.length)).ownsRow w0.heap.size 53 1 v t x:=fun o=>
  o.kept (row:=M a) ⟨rfl,rfl,rfl,by simp[World.setCell],fun r H n=>bh _ _ _ _ (fun e=>n (by rw[e]))⟩ (by
   cases hv:U _ with
   |none=>exact .inl rfl
   |some r=>exact .inr (fun e=>by obtain⟨⟨G,A⟩,_⟩:=mE o hv;obtain rfl:=db e;exact oF h A (ny _).1 rfl))
 refine⟨⟨(j C).trans lk.b,qa lk.m (j (fun e=>Al lk.m h e)),B.keep q⟩,⟨u g.row,fun i d f=>?_,fun i d f=>u (g.kid i d f),g.far,g.rng⟩,(j E).trans F,?_,?_,.inl rfl,fun d f=>?_,q,s⟩
 ·have:=ax (z.box i d f);exact(j (by omega)).trans (g.box i d f)
 ·unfold fE at h⊢;have:=cD b a 4 _ _ (A2 .i64 c.length) h;rw[this];simp
 ·rw[iG];exact bk _ _ _ _
 ·cases d.kv.ownBlock with
  |none=>exact .inl rfl
  |some r=>exact .inr (by simp[U])
theorem rf(g m:Nat):(⟨g,0,O⟩:Addr).add m=⟨g,m,O⟩:=by unfold Addr.add;split<;>simp_all
theorem xA.done{w0:S}{lb mb p t:Nat}{r:Q}{b:List Im}{N:Nd}{vn vk E:Q}{o a:S}(av:nI w0)(h:xA w0 lb mb p t r b N vn vk E N.ks.length o)(a3:∀z∈N.ks,0<=z/\z<(b.length:Int)){c:Q}(x:o.grownBy a r.ownBlock)(q:a.ownsRow w0.heap.size 53 1 c (b.length+1) (b.map nV++[gy N.k t]))(ar:c.ownBlock=r.ownBlock\/c.ownBlock=M o.heap.size):
  a.heap[lb]?=M (V #[.map (M mb),r] 93 (0,0))/\
  Lk (a.setCell ⟨lb,1,O⟩ c) lb mb c/\js (a.setCell ⟨lb,1,O⟩ c) w0.heap.size c (b++[⟨N,t,vn,E⟩])/\fE (a.setCell ⟨lb,1,O⟩ c) t N vn b.length E/\R w0.heap.size w0 (a.setCell ⟨lb,1,O⟩ c):=by
 have G:∀k,r.ownBlock=M k->JJ o k/\w0.heap.size<=k:=fun k C=>mE h.ns.row C;have J:∀{s:Nat}{u:Array Q}{n:Ax},o.heap[s]?=M (V u n (0,0))->n≠53->a.heap[s]?=M (V u n (0,0)):=fun i H=>
  (x.block _ (ax i) (fun e=>by obtain⟨⟨ad,w⟩,_⟩:=G _ e.symm;exact oF i w H rfl)).trans i
 have y:=J h.lk.b (by decide);have ao:R w0.heap.size w0 a:=h.bl.grown x h.bl.size (fun k C=>(G k C).2);have am:R w0.heap.size w0 (a.setCell ⟨lb,1,O⟩ c):=ao.setCell h.lo.1 _;have set:∀{s:Nat}{u:Array Q}{n:Ax},a.heap[s]?=M (V u n (0,0))->n≠93->(a.setCell ⟨lb,1,O⟩ c).heap[s]?=M (V u n (0,0)):=fun i H=>
  (bh _ _ _ _ (fun e=>by exact oF i y H e)).trans i
 have K:∀{f:Q}{A:Nat}{B:List Q},a.ownsRow w0.heap.size 53 1 f A B->(a.setCell ⟨lb,1,O⟩ c).ownsRow w0.heap.size 53 1 f A B:=fun q=>
  q.kept (row:=M lb) ⟨rfl,rfl,rfl,by simp[World.setCell],fun k C a2=>bh _ _ _ _ (fun e=>a2 (by rw[e]))⟩ (by
   cases I:U _ with
   |none=>exact .inl rfl
   |some k=>exact .inr (fun e=>by obtain⟨⟨ad,w⟩,_⟩:=mE q I;obtain rfl:=db e;exact oF y w (by decide) rfl))
 have L:fE (a.setCell ⟨lb,1,O⟩ c) t N vn b.length E:=set (J h.bx (ny _).1) (ny _).2.1;have ak:=qa h.lk.m (x.block _ h.lk.m.lt (fun e=>by obtain⟨⟨ad,w⟩,_⟩:=G _ e.symm;exact Al h.lk.m w rfl));have a0:nu b (N.ks.take N.ks.length)=nu b N.ks:=by rw[yu]
 have F:=h.kr;rw[a0]at F;have af:∀{f:Q}{A:Nat}{B:List Q},o.ownsRow w0.heap.size 53 1 f A B->(f.ownBlock=O\/f.ownBlock≠r.ownBlock)->(f.ownBlock=O\/f.ownBlock≠c.ownBlock):=fun q I=>by
  rcases I with e|e
  ·exact .inl e
  ·rename_i f A B;cases i:f.ownBlock with
   |none=>exact .inl rfl
   |some k=>
    have:=(q.lt k i).2;rcases ar with e2|e2
    ·rw[e2,<-i];exact .inr e
    ·rw[e2];exact .inr (by simp only[ne_eq,gg];omega)
 refine⟨y,⟨cD a lb 1 _ _ _ y,qa ak (bh _ _ _ _ (fun e=>by exact Al ak y e)),av.keep am⟩,⟨?_,?_,?_,?_,?_⟩,L,am⟩
 ·rw[aC,en];exact K q
 ·intro d j hx;rcases cA d b.length with g|g
  ·rw[ie g]at hx;exact set (J (h.ns.box d j hx) (ny _).1) (ny _).2.1
  ·rw[gc g]at hx;obtain⟨v,l⟩:=List.getElem?_eq_some_iff.1 hx;simp at v l;subst l;obtain rfl:d=b.length:=by omega
   exact L
 ·intro d j hx;rcases cA d b.length with g|g
  ·rw[ie g]at hx;rw[List.take_append_of_le_length (by omega)];exact K ((h.ns.kid d j hx).kept x (h.ns.far j (bC hx)))
  ·rw[gc g]at hx;obtain⟨v,l⟩:=List.getElem?_eq_some_iff.1 hx;simp at v l;subst l;obtain rfl:d=b.length:=by omega
   rw[List.take_left];exact K (F.kept x h.fr)
 ·intro j hx;rcases List.mem_append.1 hx with hx|hx
  ·obtain⟨d,a1,ap⟩:=fH hx;exact af (h.ns.kid d j (by rw[aI a1,ap])) (h.ns.far j hx)
  ·obtain rfl:=List.mem_singleton.1 hx;exact af F h.fr
 ·intro d j z hx an;rcases cA d b.length with g|g
  ·rw[ie g]at hx;exact h.ns.rng d j z hx an
  ·rw[gc g]at hx;obtain⟨v,l⟩:=List.getElem?_eq_some_iff.1 hx;simp at v l;subst l;obtain rfl:d=b.length:=by omega
   exact a3 z an
def ic(a:List Nd)(ks:List Int):List Int:=ks.map fun b=>(a.getD b.toNat AB).k
theorem js.kids{j:S}{base:Nat}{w:Q}{a:List Im}(h:js j base w a){f:List Nd}(v:a.map Im.N=f.take a.length){i:Nat}{x:Im}(m:a[i]?=M x):gq j x.kv (ic f x.N.ks):=by
 have g:=h.kid i x m;have q:(ic f x.N.ks).length=x.N.ks.length:=by simp[ic]
 have B:i<a.length:=(List.getElem?_eq_some_iff.1 m).1;rcases bq g with⟨E,k⟩|⟨t,s,k⟩
 ·exact .inl ⟨iE (by omega),_,_,k⟩
 ·rw[k]at g⊢;refine .inr ⟨⟨t,0,O⟩,s,by rw[q],?_,fun o F d=>?_⟩
  ·rw[q];rcases g.2 with⟨l,_⟩|⟨A,y,z,l,_,_,u,_⟩
   ·cases l
   ·cases l;exact u
  ·unfold ic at d;rw[cj]at d;cases hz:x.N.ks[o]? with
   |none=>rw[hz]at d;cases d
   |some e=>
    rw[hz]at d;obtain rfl:=db d;obtain⟨z0,G⟩:=h.rng i x e m (bC hz);obtain⟨c,n⟩:∃c,a[e.toNat]?=M c:=⟨a[e.toNat]'(by omega),aI _⟩;have r:(f.getD e.toNat AB)=c.N:=by
     have p:(a.map Im.N)[e.toNat]?=M c.N:=by rw[cj,n];rfl
     rw[v,lc,ab (by omega)]at p;rw[bm,p];rfl
    have C:o<x.N.ks.length:=(List.getElem?_eq_some_iff.1 hz).1;refine⟨c.b,?_,?_⟩
    ·rw[rf,g.cellAt o (by omega)];unfold nu;rw[cj,hz];simp only[ym];rw[lc,ab (by omega),n,r];rfl
    ·show j.cell? ⟨c.b,0,O⟩=M (A2 .i64 (f.getD e.toNat AB).k);rw[r];exact(h.box _ c n).cells.1
theorem aaq:(Tryz.prog.info? 53).map (fun i=>(i.zero,i.size,i.bytes))=M (M A3,1,16):=by kernel_rfl
def Bl(N:Nd):Bool:=decide (0<=N.f/\N.f<=N.t/\0<=N.l/\N.ks.length<=200/\N.nm.length<=200)
def Bm(a:List Nd)(i:Nat)(N:Nd):Bool:=
 Bl N&&(wG (qp N (fJ N.k)) N&&(D9 N.ks i N.ks.length 0&&(ffB N N.ks.length (fJ N.k)&&kfB N (ic a N.ks))))
def Dy(w0:S)(lb mb:Nat)(a:List Im)(d:List Nd)(N:Nd)(vn:Q)(e:Ending)(b:S):Prop:=
 e= .returned (.bool (Bm d a.length N))/\R w0.heap.size w0 b/\(Bm d a.length N=true->∃f c,c.N=N/\c.vn=vn/\Lk b lb mb f/\js b w0.heap.size f (a++[c]))
theorem aar(w:S)(lb:Nat)(N:Nd)(vn vk:Q)(g:bu w vn N.nm)(f:bi w vk N.ks)(d:fx N)(h:Bl N=false):
  Calls X 34 #[.pointer (M ⟨lb,0,O⟩),dj N vn vk] w fun e p=>e= .returned (.bool false)/\R w.heap.size w p:=by
 have b:∀c,R w.heap.size w (w.alloc c):=fun c=>(aj _ w).alloc (ah _) c;obtain⟨q,s,rfl⟩:=g.form;obtain⟨r,t,rfl⟩:=f.form;have l:=d.l1;have m:=d.l2;unfold Bl at h;have a:=ig h;unfold dj;generalize N.nm.length=j at l a⊢;generalize N.ks.length=k at m a⊢;clear g f d h;obtain⟨A,i,o,n,F,C,G,E,B⟩:=N;simp only at a⊢;by_cases u:i<0
 ·clear a;go_in;go_wp2;go_ret;exact⟨rfl,b _⟩
 by_cases v:o<i
 ·clear a;go_in;go_wp2;go_ret;exact⟨rfl,b _⟩
 by_cases x:n<0
 ·clear a;go_in;go_wp2;go_ret;exact⟨rfl,b _⟩
 by_cases y:(200:Int)<(k:Int)
 ·clear a;go_in;go_wp2;go_ret;exact⟨rfl,b _⟩
 have z:(200:Int)<(j:Int):=by omega
 clear a;go_in;go_wp2;go_ret;exact⟨rfl,b _⟩
theorem F9{b c:S}(e:R b.heap.size b c){a:Addr}(d:a.block<b.heap.size){r:Bool}(h:b.frozen? a=r):c.frozen? a=r:=by
 rw[<-h];exact World.frozen?_of_block (e.block _ d)
theorem akC{w:S}{N:Nd}{vn:Q}(h:bu w vn N.nm)(k:Int):bu w (aad vn (fJ k)) (qp N (fJ k)).nm:=by
 rcases wh k with hc|hc|hc|hc|hc|hc|hc
 ·rw[hc];exact h
 ·rw[hc];exact .inl ⟨rfl,_,_,rfl⟩
 ·rw[hc];exact .inl ⟨rfl,_,_,rfl⟩
 ·rw[hc];exact .inl ⟨rfl,_,_,rfl⟩
 ·rw[hc];exact .inl ⟨rfl,_,_,rfl⟩
 ·rw[hc];exact h
 ·rw[hc];exact .inl ⟨rfl,_,_,rfl⟩
theorem adJ{N:Nd}(k:Int)(h:N.nm.length<=1048576):(qp N (fJ k)).nm.length<=1048576:=by
 rcases wh k with hc|hc|hc|hc|hc|hc|hc
 ·rw[hc];exact h
 ·rw[hc];exact be _
 ·rw[hc];exact be _
 ·rw[hc];exact be _
 ·rw[hc];exact be _
 ·rw[hc];exact h
 ·rw[hc];exact be _
theorem adK(w0 w:S)(J:nI w0)(L:R w0.heap.size w0 w)(lb mb:Nat)(hJ:w0.heap.size<=lb)(co:Q)(e:List Im)(h:Lk w lb mb co)(fg:js w w0.heap.size co e)(N:Nd)(vn vk:Q)(cB:bu w0 vn N.nm)(bf:bi w0 vk N.ks)(af:fx N)(hx:e.length<=3000)(C:List Nd)(fv:e.map Im.N=C.take e.length)(a5:C[e.length]?=M N)(a6:∀y,R w0.heap.size w0 y->A1 X y "strings.asciiSpace" .u8 Y)(cz:Bl N=true):
  Calls X 34 #[.pointer (M ⟨lb,0,O⟩),dj N vn vk] w (Dy w0 lb mb e C N vn):=by
 have cn:=fun y (dp:R w.heap.size w y)=>Ib y N vn vk (by obtain⟨c9,b0,o⟩:=cB.form;exact⟨_,_,_,o⟩) (by obtain⟨c9,b0,o⟩:=bf.form;exact⟨_,_,_,o⟩);obtain⟨bt,cb⟩:=aA (Bm C e.length N);unfold Dy;rw[cb];unfold Bm at cb;rw[cz,eC]at cb;obtain⟨i,j,rfl⟩:=cB.form;obtain⟨H,I,rfl⟩:=bf.form;unfold Bl at cz;obtain⟨hp,hq,hs,ht,hv⟩:=bc cz;have v:A0 (Lk w lb mb co/\js w w0.heap.size co e/\bu w0 (.slice i N.nm.length j) N.nm/\bi w0 (.slice H N.ks.length I) N.ks/\fx N/\e.map Im.N=C.take e.length/\(∀y,R w0.heap.size w0 y->A1 X y "strings.asciiSpace" .u8 Y)/\nI w0/\R w0.heap.size w0 w/\C[e.length]?=M N):=⟨h,fg,cB,bf,af,fv,a6,J,L,a5⟩;have fa:=aq cb;have j1:¬N.f<0:=by omega
 have j2:¬N.t<N.f:=by omega
 have j3:¬N.l<0:=by omega
 unfold dj at cn⊢;obtain⟨g,dq⟩:=aA N.nm.length;obtain⟨k,ds⟩:=aA N.ks.length;have cq:=dx dq ds;rw[dq]at cn v hv⊢;rw[ds]at cn v ht⊢;have j4:¬(200:Int)<(k:Int):=by omega
 have j5:¬(200:Int)<(g:Int):=by omega
 have kd:lb<w.heap.size:=ax v.out.1.b;clear dq ds cB bf af fv a6 J L h fg cb cz hp hq hs a5;go_in;go_wp2_with fail;have cy:R w.heap.size w (w.alloc (.cells #[.int .i64 N.k,.int .i64 N.f,.int .i64 N.t,.int .i64 N.l,.int .i64 N.op,.int .i64 N.n,.string N.x,.slice i g j,.slice H k I] 35)):=(aj _ w).alloc (ah _) _;have em:de w.heap.size (w.alloc (.cells #[.int .i64 N.k,.int .i64 N.f,.int .i64 N.t,.int .i64 N.l,.int .i64 N.op,.int .i64 N.n,.string N.x,.slice i g j,.slice H k I] 35)) 35 N (.slice i g j) (.slice H k I):=aw w _;have fB:(w.alloc (.cells #[.int .i64 N.k,.int .i64 N.f,.int .i64 N.t,.int .i64 N.l,.int .i64 N.op,.int .i64 N.n,.string N.x,.slice i g j,.slice H k I] 35)).heap.size=w.heap.size+1:=ba _ _;generalize w.alloc (.cells #[.int .i64 N.k,.int .i64 N.f,.int .i64 N.t,.int .i64 N.l,.int .i64 N.op,.int .i64 N.n,.string N.x,.slice i g j,.slice H k I] 35)=hb at cy em fB⊢;refine(cn hb cy).mono ?_;rintro o B ⟨rfl,cc,d9⟩;rw[fB]at cc⊢;obtain⟨m,hH⟩:=aA (w.heap.size+1+1+1);rw[hH]at cc⊢;have e3:=em.below d9;have bw:R w.heap.size w B:=cy.trans (d9.mono (by omega));obtain⟨b1,b2,b3,b4,b5,b6,b7,b8,b9,hl⟩:=au e3;have dd:R B.heap.size B B.drew:=aL (aj _ B);have eh:bu B.drew (.slice i g j) N.nm:=((v.out.2.2.1.below v.out.2.2.2.2.2.2.2.2.1).below bw).below dd;have ao:=aam B.drew m N (.slice i g j) (.slice O 0 0) 0 ⟨_,_,_,rfl⟩ (cc.below dd);have a7:=fun y (dp:R B.drew.heap.size B.drew y)=>zA y (qp N (fJ N.k)) N (aad (.slice i g j) (fJ N.k)) (.slice O 0 0) (.slice i g j) (.slice H k I) ((akC eh N.k).below dp) (eh.below dp) ⟨_,_,_,rfl⟩ ⟨_,_,_,rfl⟩ (adJ _ v.out.2.2.2.2.1.l1) v.out.2.2.2.2.1.l1;obtain⟨i7,kj,i8,fA⟩:∃c9 ih b0,aad (.slice i g j) (fJ N.k)= .slice c9 ih b0:=by
  unfold aad;split<;>exact⟨_,_,_,rfl⟩
 rw[fA]at ao a7;unfold dj at ao a7;obtain⟨iv,eq⟩:=aA (wG (qp N (fJ N.k)) N);rw[eq]at a7;have cr:=aq eq;obtain⟨i5,eo⟩:=aA (qp N (fJ N.k));rw[eo]at ao a7 cr;clear eq eh fA cn em cy d9;have h1:=fun w=>ma N.k m w;have h6:=fun w=>eK m w;unfold gy at ao⊢;have i4:A0 (lG (fJ N.k)=lG (fJ N.k)):=rfl;generalize es:lG (fJ N.k)=e6 at ao h1⊢;go_wp2_with fail;cases iv with
 |false=>
  have G:A0 (false=bt):=by have:=fa.out;rw[eo,cr.out,dK]at this;exact this
  go_region_held3 (fun p=>p.cell? ⟨w.heap.size,0,O⟩=M (.int .i64 N.k)/\p.cell? ⟨w.heap.size,1,O⟩=M (.int .i64 N.f)/\p.cell? ⟨w.heap.size,2,O⟩=M (.int .i64 N.t)/\p.cell? ⟨w.heap.size,3,O⟩=M (.int .i64 N.l)/\p.cell? ⟨w.heap.size,4,O⟩=M (.int .i64 N.op)/\p.cell? ⟨w.heap.size,5,O⟩=M (.int .i64 N.n)/\p.cell? ⟨w.heap.size,6,O⟩=M (.string N.x)/\p.cell? ⟨w.heap.size,7,O⟩=M (.slice i g j)/\p.cell? ⟨w.heap.size,8,O⟩=M (.slice H k I)) (first|go_keep|exact⟨cell_kept n (cell_kept a b1),cell_kept n (cell_kept a b2),cell_kept n (cell_kept a b3),cell_kept n (cell_kept a b4),cell_kept n (cell_kept a b5),cell_kept n (cell_kept a b6),cell_kept n (cell_kept a b7),cell_kept n (cell_kept a b8),cell_kept n (cell_kept a b9)⟩|exact⟨cell_kept a b1,cell_kept a b2,cell_kept a b3,cell_kept a b4,cell_kept a b5,cell_kept a b6,cell_kept a b7,cell_kept a b8,cell_kept a b9⟩) (first|(go_at_call 66;refine ao.mono ?_;rintro o i3 ⟨rfl,a⟩)|(go_at_call 65;refine(a7 _ a).mono ?_;rintro o a8 ⟨rfl,n⟩))
  go_wp2_with fail;go_ret;have hE:R w.heap.size w a8:=bw.trans (((aL (aj _ B)).trans (a.trans (n.mono a.size))).mono bw.size);exact⟨by rw[<-G.out];rfl,v.out.2.2.2.2.2.2.2.2.1.trans (hE.mono v.out.2.2.2.2.2.2.2.2.1.size),fun h=>by rw[<-G.out]at h;cases h⟩
 |true=>
  have g6:A0 ((D9 N.ks e.length N.ks.length 0&&(ffB N N.ks.length (fJ N.k)&&kfB N (ic C N.ks)))=bt):=by have:=fa.out;rw[eo,cr.out,eC]at this;exact this
  go_region_held3 (fun p=>p.cell? ⟨w.heap.size,0,O⟩=M (.int .i64 N.k)/\p.cell? ⟨w.heap.size,1,O⟩=M (.int .i64 N.f)/\p.cell? ⟨w.heap.size,2,O⟩=M (.int .i64 N.t)/\p.cell? ⟨w.heap.size,3,O⟩=M (.int .i64 N.l)/\p.cell? ⟨w.heap.size,4,O⟩=M (.int .i64 N.op)/\p.cell? ⟨w.heap.size,5,O⟩=M (.int .i64 N.n)/\p.cell? ⟨w.heap.size,6,O⟩=M (.string N.x)/\p.cell? ⟨w.heap.size,7,O⟩=M (.slice i g j)/\p.cell? ⟨w.heap.size,8,O⟩=M (.slice H k I)) (first|go_keep|exact⟨cell_kept n (cell_kept a b1),cell_kept n (cell_kept a b2),cell_kept n (cell_kept a b3),cell_kept n (cell_kept a b4),cell_kept n (cell_kept a b5),cell_kept n (cell_kept a b6),cell_kept n (cell_kept a b7),cell_kept n (cell_kept a b8),cell_kept n (cell_kept a b9)⟩|exact⟨cell_kept a b1,cell_kept a b2,cell_kept a b3,cell_kept a b4,cell_kept a b5,cell_kept a b6,cell_kept a b7,cell_kept a b8,cell_kept a b9⟩) (first|(go_at_call 66;refine ao.mono ?_;rintro o i3 ⟨rfl,a⟩)|(go_at_call 65;refine(a7 _ a).mono ?_;rintro o a8 ⟨rfl,n⟩))
  have cu:R B.heap.size B a8:=(aL (aj _ B)).trans (a.trans (n.mono a.size));have ct:R w.heap.size w a8:=bw.trans (cu.mono bw.size);obtain⟨lk,bo,c0,eb,af,c4,a6,J,L,a5⟩:=v.out;have fc:R w0.heap.size w0 a8:=L.trans (ct.mono L.size);have eF:=lk.below ct;have e1:=bo.below ct;have gt:=e3.below cu;have bF:=cc.below cu;have h4:=L.size;have d:=xA.start J bo (by omega) (by omega) (by omega) eF e1 gt bF fc ⟨hJ,by omega,h4⟩;obtain⟨ar,a0,bp⟩:=bI e1.row;have ff:a8.cell? ⟨lb,1,O⟩=M (.slice ar e.length a0):=by rw[<-bp,az _ _ _ _ _ _ eF.b];rfl
  have dk:=bF.cells.2.2.2.1;have dn:=bF.cells.2.2.2.2.2;have hG:m<a8.heap.size:=ax bF;have bs:=aq d;obtain⟨nL,ei⟩:=aA e.length;rw[ei]at ff bs hx;have K:=aq ei;clear d eF e1 gt bF cu lk bo c0 eb af c4 a6 J L a5 b1 b2 b3 b4 b5 b6 b7 b8 b9 hl ao a7 cc e3 dd cr ei;go_wp2_with (go_at_call 234;refine(h6 _).mono ?_;rintro o r ⟨rfl,rfl⟩);obtain⟨gd,fn,f7,f8,f9⟩:=dC aaq;clear ff dk dn ct fc hG bp;go_loopw [54] (fun e8 wr=>∃(c:Nat) (ge:Q),e8= .int .i64 c/\c<=k/\A0 ((D9 N.ks nL (k-c) c&&(ffB N k (fJ N.k)&&kfB N (ic C N.ks)))=bt)/\A0 (∀q∈N.ks.take c,0<=q/\q<(nL:Int))/\A0 (xA w0 lb mb w.heap.size m co e N (.slice i g j) (.slice H k I) ge c wr)) (fun e8 _=>k-(intOf e8).toNat)
  case atStart=>
   refine⟨0,_,rfl,be _,?_,fun q ad=>by simp at ad,bs.out⟩;have:=g6.out;rw[K.out,cq.out.2]at this;exact this
  case round=>
   obtain⟨c,ge,rfl,j9,cp,fb,br⟩:=hrel;clear bs;have d:=br.out;have F:=cp.out;by_cases h0:c<k
   ·obtain⟨q,ad⟩:=bj cq.out.2 h0;obtain⟨i6,hC,j8⟩:=(v.out.2.2.2.1.below d.bl).get ad;subst hC;have kb:(c:Int)<(k:Int):=by omega
    have ka:(0:Int)<=(c:Int):=by omega
    have dk:=d.bx.cells.2.2.2.1;rw[K.out]at dk;rw[show k-c=(k-(c+1))+1 by omega,D9,bm,ad,gl]at F;by_cases bd:0<=q/\q<(nL:Int)
    ·obtain⟨e0,rfl⟩:=ir bd.1;have hw:e0<nL:=by omega
     obtain⟨ap,et⟩:=bj K.out hw;have cm:=d.ns.row;rw[K.out]at cm;rcases bq cm with⟨kg,_⟩|⟨ca,cs,bp⟩
     ·omega
     subst bp;have hh:wr.cell? ⟨lb,1,O⟩=M (.slice (M ⟨ca,0,O⟩) nL cs):=by rw[az _ _ _ _ _ _ d.lk.b];rfl
     have fe:wr.cell? ⟨ca,e0,O⟩=M (.iface (lG (fJ ap.N.k)) (.pointer (M ⟨ap.b,0,O⟩))):=by
      rw[cm.cellAt e0 (by omega),cj,et];rfl
     obtain⟨s,u,ec⟩:=bI d.kr;subst ec;have hm:=d.bx.cells.2.2.2.2.1;have dn:=d.bx.cells.2.2.2.2.2 5;have fq:=d.kr;have c8:A0 (nu e (N.ks.take (c+1))=nu e (N.ks.take c)++[.iface (lG (fJ ap.N.k)) (.pointer (M ⟨ap.b,0,O⟩))]):=by
      show _=_;rw[dG,ad];unfold nu;rw[en];simp[et,nV,gy]
     have g0:A0 ((D9 N.ks nL (k-(c+1)) (c+1)&&(ffB N k (fJ N.k)&&kfB N (ic C N.ks)))=bt):=by
      rw[bG bd,eC]at F;exact F
     have ha:A0 (∀q∈N.ks.take (c+1),0<=q/\q<(nL:Int)):=fun q gb=>by
      rw[dG,ad]at gb;rcases List.mem_append.1 gb with h|h
      ·exact fb.out q h
      ·simp at h;subst h;exact bd
     have h8:lb<wr.heap.size:=ax d.lk.b;have h9:m<wr.heap.size:=ax d.bx;have ki:ca<wr.heap.size:=(cm.lt ca rfl).2;have ex:∀ev,(T s c u).ownBlock=M ev->JJ wr ev:=fun ev bf=>(mE fq bf).1;have kl:M lb≠(T s c u).ownBlock:=fun o=>by obtain⟨b0,ce⟩:=ex lb o.symm;exact oF d.lk.b ce (by decide) rfl
     have gr:M m≠(T s c u).ownBlock:=fun o=>by obtain⟨b0,ce⟩:=ex m o.symm;exact oF d.bx ce (ny _).1 rfl
     have km:M ca≠(T s c u).ownBlock:=fun o=>by
      rcases d.fr with e2|e2
      ·rw[e2]at o;cases o
      ·exact e2 o.symm
     have h5:w0.heap.size<=wr.heap.size:=d.bl.size;have g9:A0 (lG (fJ ap.N.k)=lG (fJ ap.N.k)):=rfl;generalize lG (fJ ap.N.k)=e7 at fe c8 g9;generalize ap.b=e9 at fe c8;have bE:∀E,R wr.heap.size wr (wr.alloc E).drew:=fun E=>aL ((aj _ wr).alloc (ah _) E);clear d F et ad bd cm ex;go_wp2_with fail;go_region_law (refine step_append_lies _ (by rfl) _ _ _ (by rfl) w0.heap.size 53 gd _ 1 16 Tryz.underlying57 fn f7 f8 f9 rfl (by omega) (.slice s c u) c (nu e (N.ks.take c)) (by rfl) ((fq.alloc _).drew) ⟨wr.heap.size,0,O⟩ 1 1 [.iface e7 (.pointer (M ⟨e9,0,O⟩))] (by rfl) (by rfl) (World.news_of_block (cs:=#[.iface e7 (.pointer (M ⟨e9,0,O⟩))]) (t:=53) (fr:=(0,0)) (aw wr _)) (by simp[Value.oneCell']) (by omega) (by unfold maxLen;omega) (by omega) (by simp;omega) (wr.heap.size+1) (by simp) ?_;intro j0 i9 r cl cf dz kc;have ji:=(cf.cell_far ⟨m,5,O⟩ (by simp;omega) gr).trans (cell_kept (bE _) hm);have jv:=(cf.frozen_far ⟨m,5,O⟩ (by simp;omega) gr).trans (F9 (bE _) h9 dn))
     all_goals
      go_wp2_with fail;obtain⟨_,bo,_,_,_,_,_,J,_,_⟩:=v.out;have i2:=br.out.below (bE (.cells #[.iface e7 (.pointer (M ⟨e9,0,O⟩))] 53));rw[<-c8.out]at cl;obtain⟨_,stB⟩:=i2.kid J cf cl dz (by simp);exact⟨⟨c+1,_,by go_num,by omega,g0,ha,stB⟩,by simp[intOf];omega⟩
    ·have G:A0 (false=bt):=by rw[aD bd,dK,dK]at F;exact F
     have fk:=d.bl;by_cases j6:q<0
     ·clear F d br cp ad;go_wp2_with fail;go_ret;exact⟨by rw[<-G.out];rfl,fk,fun h=>by rw[<-G.out]at h;cases h⟩
     ·have j7:¬q<(nL:Int):=by omega
      clear F d br cp ad bd;go_wp2_with fail;go_ret;exact⟨by rw[<-G.out];rfl,fk,fun h=>by rw[<-G.out]at h;cases h⟩
   ·obtain rfl:c=k:=by omega
    rw[gj,D9,eC]at F;obtain⟨s,u,ec⟩:=bI d.kr;subst ec;obtain⟨ar,a0,bp⟩:=bI d.ns.row;subst bp;rw[K.out];have hh:wr.cell? ⟨lb,1,O⟩=M (.slice ar nL a0):=by rw[<-K.out,az _ _ _ _ _ _ d.lk.b];rfl
    have ep:=d.ns.row;rw[K.out]at ep;have h5:w0.heap.size<=wr.heap.size:=d.bl.size;have h8:lb<wr.heap.size:=ax d.lk.b;have bE:∀E,R wr.heap.size wr (wr.alloc E):=fun E=>(aj _ wr).alloc (ah _) E;have bs:=aq d;have g7:=aq F;have g8:=aq ep;clear F d br cp ep;obtain⟨_,bo,c0,eb,af,c4,a6,J,L,a5⟩:=v.out;have gv:A0 (∀E r A z,(wr.alloc E).grownBy r (T ar nL a0).ownBlock->r.ownsRow w0.heap.size 53 1 (.slice (M ⟨A,0,O⟩) (nL+1) z) (nL+1) (e.map nV++[.iface e6 (.pointer (M ⟨m,0,O⟩))])->((T (M ⟨A,0,O⟩) (nL+1) z).ownBlock=(T ar nL a0).ownBlock\/(T (M ⟨A,0,O⟩) (nL+1) z).ownBlock=M (wr.alloc E).heap.size)->
      r.heap[lb]?=M (.cells #[.map (M mb),.slice ar nL a0] 93 (0,0))/\Lk (r.setCell ⟨lb,1,O⟩ (.slice (M ⟨A,0,O⟩) (nL+1) z)) lb mb (.slice (M ⟨A,0,O⟩) (nL+1) z)/\js (r.setCell ⟨lb,1,O⟩ (.slice (M ⟨A,0,O⟩) (nL+1) z)) w0.heap.size (.slice (M ⟨A,0,O⟩) (nL+1) z) (e++[⟨N,m,.slice i g j,.slice s c u⟩])/\fE (r.setCell ⟨lb,1,O⟩ (.slice (M ⟨A,0,O⟩) (nL+1) z)) m N (.slice i g j) nL (.slice s c u)/\R w0.heap.size w0 (r.setCell ⟨lb,1,O⟩ (.slice (M ⟨A,0,O⟩) (nL+1) z))):=by
     intro E r A z hI h2 dz;have i1:=bs.out.below (bE E);have el:=K.out;have eg:=cq.out.2;subst eg;subst el;have h3:∀q∈N.ks,0<=q/\q<(e.length:Int):=by
      have:=fb.out;rw[yu]at this;exact this
     refine i1.done J h3 hI ?_ dz;unfold gy;rw[es];exact h2
    clear bo L J;go_wp2_with (at_builtin;refine wpList_append_own_at _ rfl _ _ 57 rfl w0.heap.size 53 gd _ 1 16 Tryz.underlying57 fn f7 f8 f9 rfl (by decide) _ _ _ rfl (g8.out.alloc _) ⟨wr.heap.size,0,O⟩ 1 1 [.iface e6 (.pointer (M ⟨m,0,O⟩))] rfl rfl (World.news_of_block (cs:=#[.iface e6 (.pointer (M ⟨m,0,O⟩))]) (fr:=(0,0)) (aw wr _)) (by intro kn f0;simp at f0;subst f0;rfl) (by unfold maxLen;omega) (by omega) (by simp;omega) ?_;intro ko r cl cf ke hD;obtain⟨A,z,rfl⟩:=ownsRow_succ cl;obtain⟨gf,c6,c7,cx,a9⟩:=gv.out _ r A z cf cl hD;have kq:r.cell? ⟨lb,1,O⟩=M (.slice ar nL a0):=by {rw[az _ _ _ _ _ _ gf];rfl};have kt:r.frozen? ⟨lb,1,O⟩=false:=du _ _ _ _ _ gf);generalize r.setCell ⟨lb,1,O⟩ (.slice (M ⟨A,0,O⟩) (nL+1) z)=hd at c6 c7 cx a9⊢;have el:=K.out;have eg:=cq.out.2;have f6:(e++[⟨N,m,.slice i g j,.slice s c u⟩])[nL]?=M ⟨N,m,.slice i g j,.slice s c u⟩:=by rw[<-el];simp
    have fz:(e++[(⟨N,m,.slice i g j,.slice s c u⟩:Im)]).map Im.N=C.take (e++[(⟨N,m,.slice i g j,.slice s c u⟩:Im)]).length:=by
     rw[en,c4,aC,xL,dG,a5];rfl
    have fo:=c7.kids fz f6;have an:=Bk hd lb mb _ c6 m N (.slice i g j) nL s c u (by omega) (c0.below a9) af.l1 af.ls af.lx cx;unfold gy at an;rw[es]at an;have am:=g7.out;cases hfb:ffB N c (fJ N.k) with
    |false=>
     rw[hfb]at an am;rw[dK]at am;have G:=aq am;refine an.mono ?_;rintro o gu ⟨rfl,a4⟩;have bb:=a9.trans (a4.mono a9.size);clear am hfb an;go_wp2_with fail;go_ret;exact⟨by rw[<-G.out];rfl,bb,fun h=>by rw[<-G.out]at h;cases h⟩
    |true=>
     rw[hfb]at an am;rw[eC]at am;have fu:fJ N.k=1->0<=N.n/\N.n<=200:=fun ce=>by
      rw[ce]at hfb;have:=bc (show decide (1<=N.n/\N.n<(c:Int))=true from hfb);omega
     refine an.mono ?_;rintro o gu ⟨rfl,a4⟩;have bb:=a9.trans (a4.mono a9.size);have h7:=c6.below a4;have io:=c7.below a4;have hK:(ic C N.ks).length<=1048576:=by unfold ic;rw[dv,eg];omega
     have c5:=F8 gu m N (.slice i g j) (.slice s c u) nL (ic C N.ks) (fo.below a4) hK (fun y hA=>a6 y (bb.trans (hA.mono bb.size))) (cx.below a4) fu;rw[am]at c5;unfold gy at c5;rw[es]at c5;clear am hfb an fu fo f6 fz c6 c7 cx a5 c4 a6 af c0 eb;go_wp2_with (go_at_call 68;refine c5.mono ?_;rintro o kp ⟨rfl,ea⟩);go_ret;exact⟨rfl,bb.trans (ea.mono bb.size),fun _=>⟨_,_,rfl,rfl,h7.below ea,io.below ea⟩⟩
theorem adL(w0 w:S)(n:nI w0)(b:R w0.heap.size w0 w)(lb mb:Nat)(p:w0.heap.size<=lb)(d:Q)(a:List Im)(h:Lk w lb mb d)(l:js w w0.heap.size d a)(N:Nd)(vn vk:Q)(i:bu w0 vn N.nm)(g:bi w0 vk N.ks)(j:fx N)(k:a.length<=3000)(c:List Nd)(q:a.map Im.N=c.take a.length)(o:c[a.length]?=M N)(r:∀e,R w0.heap.size w0 e->A1 X e "strings.asciiSpace" .u8 Y):
  Calls X 34 #[.pointer (M ⟨lb,0,O⟩),dj N vn vk] w (Dy w0 lb mb a c N vn):=by
 cases hf:Bl N with
 |true=>exact adK w0 w n b lb mb p d a h l N vn vk i g j k c q o r hf
 |false=>
  refine cd (aar w lb N vn vk (i.below b) (g.below b) j hf) fun s m=>?_;have f:Bm c a.length N=false:=by unfold Bm;rw[hf,dK]
  exact⟨by rw[f],b.trans (m.mono b.size),fun h=>by rw[f]at h;cases h⟩
