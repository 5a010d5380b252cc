import Derived.Test.YthjpdjibdnecoaaGreatDoorHQk47
import Derived.Test.YthjpdjibdnecoaaGreatDoorHQk37
set_option linter.all false
set_option maxRecDepth 100000
set_option maxHeartbeats 12800000
open Option renaming some->M,none->O
open Go renaming Value->Q,World->S,TypeId->Ax
open Go.RowKit renaming Below->R,Hid->A0
open Go.Value renaming slice->T,ownBlock->U,slice->Z,int->A2,nilIface->A3
open Go.Obj renaming cells->V
open Go.Proofs.Tryz renaming prog->X
open Go.Lib renaming asciiSpaceTab->Y,TabIs->A1
namespace Go.Proofs.YthjpdjibdnecoaaGreatDoor
open Go.RowKit Go.Maps Go.WideMaps
structure Im where
 N:Nd
 b:Nat
 vn:Q
 kv:Q
def nV(x:Im):Q:=ey x.N.k x.b
def pd(a:List Im)(ks:List Int):List Q:=ks.map fun c=>match a[c.toNat]? with|some b=>nV b|none=> A3
structure lp (W:S) (base:Nat) (vs:Q) (L:List Im):Prop where
 row:W.ownsRow base 102 1 vs L.length (L.map nV)
 box:∀(i:Nat) x,L[i]?=M x->fy W x.b x.N x.vn i x.kv
 kid:∀(i:Nat) x,L[i]?=M x->W.ownsRow base 102 1 x.kv x.N.ks.length (pd (L.take i) x.N.ks)
 far:∀x∈L,x.kv.ownBlock=O\/x.kv.ownBlock≠vs.ownBlock
 rng:∀(i:Nat) x z,L[i]?=M x->z∈x.N.ks->0<=z/\z<(i:Int)
theorem fy.below{W a:S}{b:Nat}{N:Nd}{vn c:Q}{d:Int}(h:fy W b N vn d c)(e:R W.heap.size W a):fy a b N vn d c:=(e.block _ (ah h)).trans h
theorem lp.below{W f:S}{base:Nat}{g:Q}{e:List Im}(h:lp W base g e)(a:R W.heap.size W f):lp f base g e:=
 ⟨aE h.row a,fun c d b=>(h.box c d b).below a,fun c d b=>aE (h.kid c d b) a,h.far,h.rng⟩
theorem qj{W:S}{a b:Nat}{f g:Array Q}{d e:Ax}{h i:Nat×Nat}(j:W.heap[a]?=M (V f d h))(k:W.heap[b]?=M (V g e i))(l:d≠e):a≠b:=by
 rintro rfl;have c:=j.symm.trans k;simp only[dr,gE]at c;exact l c.2.1
theorem pf(c:Nat):uj c≠102/\uj c≠165/\uj c≠53:=by
 unfold uj;split<;>decide
theorem Cy{W:S}{mb b:Nat}{cs:Array Q}{t:Ax}{f:Nat×Nat}(h:W.ownsMap X 9 (plainElem (H:=Unit) X 3) mb 22 (yl 22))(c:W.heap[b]?=M (V cs t f)):mb≠b:=by
 rintro rfl;obtain⟨e,d,a,g⟩:=h;rw[c]at a;cases a
def aaG(W:S)(g:Nat):Prop:=∃a,W.heap[g]?=M (V a 102 (0,0))
theorem ot{W:S}{base n g:Nat}{v:Q}{i:List Q}(h:W.ownsRow base 102 1 v n i)(b:v.ownBlock=M g):aaG W g/\base<=g:=by
 rcases bp h with⟨_,rfl⟩|⟨d,j,rfl⟩
 ·simp[U]at b
 ·obtain rfl:d=g:=by simpa [U] using b
  rcases h.2 with⟨a,_⟩|⟨l,k,c,a,e,f,_⟩
  ·cases a
  ·cases a;exact⟨⟨c,f⟩,e⟩
structure Al (w0:S) (lb mb p bn:Nat) (vs:Q) (L:List Im) (N:Nd) (vn vk kv:Q) (j:Nat) (W:S):Prop where
 lk:Lk W lb mb vs
 ns:lp W w0.heap.size vs L
 rb:sw p W 53 N vn vk
 bx:fy W bn N vn L.length kv
 kr:W.ownsRow w0.heap.size 102 1 kv j (pd L (N.ks.take j))
 fr:kv.ownBlock=O\/kv.ownBlock≠vs.ownBlock
 fo:∀x∈L,x.kv.ownBlock=O\/x.kv.ownBlock≠kv.ownBlock
 bl:R w0.heap.size w0 W
 lo:w0.heap.size<=lb/\w0.heap.size<=bn/\w0.heap.size<=p
theorem Al.below{g:S}{lb mb p d:Nat}{f:Q}{b:List Im}{N:Nd}{vn vk e:Q}{j:Nat}{W c:S}(h:Al g lb mb p d f b N vn vk e j W)(a:R W.heap.size W c):Al g lb mb p d f b N vn vk e j c:=
 ⟨h.lk.below a,h.ns.below a,h.rb.below a,h.bx.below a,aE h.kr a,h.fr,h.fo,h.bl.trans (a.mono h.bl.size),h.lo⟩
theorem Al.kid{d:S}{lb mb p c:Nat}{y:Q}{q:List Im}{N:Nd}{vn vk l:Q}{j:Nat}{W b:S}(av:mI d)(h:Al d lb mb p c y q N vn vk l j W)(w:W.grownBy b l.ownBlock){g cap H:Nat}(A:b.ownsRow d.heap.size 102 1 (Z (M ⟨g,0,O⟩) (j+1) cap) (j+1) (pd q (N.ks.take (j+1))))(ar:l.ownBlock=M g\/g=H)(a2:W.heap.size=H):
  fy b c N vn q.length l/\Al d lb mb p c y q N vn vk (Z (M ⟨g,0,O⟩) (j+1) cap) (j+1) (b.setCell ⟨c,5,O⟩ (Z (M ⟨g,0,O⟩) (j+1) cap)):=by
 have G:∀a,l.ownBlock=M a->aaG W a/\d.heap.size<=a:=fun a x=>ot h.kr x;have C:∀{t:Nat}{u:Array Q}{o:Ax},W.heap[t]?=M (V u o (0,0))->o≠102->b.heap[t]?=M (V u o (0,0)):=fun k I=>
  (w.block _ (ah k) (fun e=>by obtain⟨⟨z,v⟩,_⟩:=G _ e.symm;exact qj k v I rfl)).trans k
 have r:fy b c N vn q.length l:=C h.bx (pf _).1;have an:R d.heap.size d b:=h.bl.grown w h.bl.size (fun a x=>(G a x).2);have ad:R d.heap.size d (b.setCell ⟨c,5,O⟩ (Z (M ⟨g,0,O⟩) (j+1) cap)):=an.setCell h.lo.2.1 _;have set:∀{t:Nat}{u:Array Q}{o:Ax},b.heap[t]?=M (V u o (0,0))->o≠uj (dF N.k)->(b.setCell ⟨c,5,O⟩ (Z (M ⟨g,0,O⟩) (j+1) cap)).heap[t]?=M (V u o (0,0)):=fun k I=>
  (aD _ _ _ _ (fun e=>by exact qj k r I e)).trans k
 have J:∀{ak:Q}{af:Nat}{am:List Q},b.ownsRow d.heap.size 102 1 ak af am->(b.setCell ⟨c,5,O⟩ (Z (M ⟨g,0,O⟩) (j+1) cap)).ownsRow d.heap.size 102 1 ak af am:=fun A=>
  A.kept (row:=M c) ⟨rfl,rfl,rfl,by simp[World.setCell],fun a x s=>aD _ _ _ _ (fun e=>s (by rw[e]))⟩ (by
   cases hv:U _ with
   |none=>exact .inl rfl
   |some a=>exact .inr (fun e=>by obtain⟨⟨z,v⟩,_⟩:=ot A hv;obtain rfl:=bu e;exact qj r v (pf _).1 rfl))
 have al:y.ownBlock=O\/y.ownBlock≠l.ownBlock:=by
  rcases h.fr with e|e
  ·cases hv:y.ownBlock with
   |none=>exact .inl rfl
   |some a=>rw[e];exact .inr (by simp)
  ·exact .inr (dD e)
 have K:∀a,a<W.heap.size->l.ownBlock≠M a->M g≠M a:=fun a x s e=>by
  obtain rfl:=bu e;rcases ar with e2|e2
  ·exact s e2
  ·omega
 refine⟨r,⟨⟨set (C h.lk.b (by decide)) (dD (pf _).2.1),?_,av.keep ad⟩,⟨J (h.ns.row.kept w al),?_,?_,h.ns.far,h.ns.rng⟩,set (C h.rb (by decide)) (dD (pf _).2.2),?_,J A,?_,?_,ad,h.lo⟩⟩
 ·have L:=rz h.lk.m (w.block _ h.lk.m.lt (fun e=>by obtain⟨⟨z,v⟩,_⟩:=G _ e.symm;exact Cy h.lk.m v rfl));exact rz L (aD _ _ _ _ (fun e=>by exact Cy L r e))
 ·intro n f i;have k:=C (h.ns.box n f i) (pf _).1;by_cases s:f.b=c
  ·exfalso;have E:=h.ns.box n f i;have e2:=h.bx;unfold fy at E e2;rw[s,e2]at E;have ao:=congrArg (fun a1=>match a1 with|some (Obj.cells z _ _)=>z[4]?|_=>O) E;simp at ao;have a3:n<q.length:=(List.getElem?_eq_some_iff.1 i).1;omega
  ·exact(aD _ _ _ _ s).trans k
 ·intro n f i;exact J ((h.ns.kid n f i).kept w (h.fo f (cJ i)))
 ·unfold fy at r⊢;have:=bi b c 5 _ _ (Z (M ⟨g,0,O⟩) (j+1) cap) r;rw[this];simp
 ·refine .inr fun e=>?_;have B:=e.symm;have F:=(h.ns.row.lt g B).2;exact K g F (by rcases al with e2|e2;rw[e2]at B;cases B;rw[B]at e2;exact dD e2) rfl
 ·intro f i;cases hxk:f.kv.ownBlock with
  |none=>exact .inl rfl
  |some a=>
   refine .inr fun e=>?_;obtain⟨n,a0,ap⟩:=mL i;have F:=((h.ns.kid n f (by rw[bJ a0,ap])).lt a hxk).2;refine K a F ?_ e.symm;rcases h.fo f i with e2|e2
   ·rw[hxk]at e2;cases e2
   ·rw[hxk]at e2;exact dD e2
theorem Al.start{b w W:S}{lb mb p a:Nat}{j:Q}{c:List Im}{N:Nd}{vn vk:Q}(z:mI b)(x:lp w b.heap.size j c)(G:w.heap.size<=a)(A:lb≠a)(B:p≠a)(lk:Lk W lb mb j)(ns:lp W b.heap.size j c)(C:sw p W 53 N vn vk)(g:fy W a N vn 0 (Z O 0 0))(v:R b.heap.size b W)(lo:b.heap.size<=lb/\b.heap.size<=a/\b.heap.size<=p):
  Al b lb mb p a j c N vn vk (Z O 0 0) 0 (W.setCell ⟨a,4,O⟩ (A2 .i64 c.length)):=by
 have o:R b.heap.size b (W.setCell ⟨a,4,O⟩ (A2 .i64 c.length)):=v.setCell lo.2.1 _;have i:∀{k:Nat},k≠a->(W.setCell ⟨a,4,O⟩ (A2 .i64 c.length)).heap[k]?=W.heap[k]?:=fun l=>aD _ _ _ _ l;have s:∀{t:Q}{r:Nat}{u:List Q},W.ownsRow b.heap.size 102 1 t r u->(W.setCell ⟨a,4,O⟩ (A2 .i64 c.length)).ownsRow b.heap.size 102 1 t r u:=fun n=>
  n.kept (row:=M a) ⟨rfl,rfl,rfl,by simp[World.setCell],fun q F l=>aD _ _ _ _ (fun e=>l (by rw[e]))⟩ (by
   cases hv:U _ with
   |none=>exact .inl rfl
   |some q=>exact .inr (fun e=>by obtain⟨⟨E,y⟩,_⟩:=ot n hv;obtain rfl:=bu e;exact qj g y (pf _).1 rfl))
 refine⟨⟨(i A).trans lk.b,rz lk.m (i (fun e=>Cy lk.m g e)),z.keep o⟩,⟨s ns.row,fun h d f=>?_,fun h d f=>s (ns.kid h d f),ns.far,ns.rng⟩,(i B).trans C,?_,?_,.inl rfl,fun d f=>?_,o,lo⟩
 ·have:=ah (x.box h d f);exact(i (by omega)).trans (ns.box h d f)
 ·unfold fy at g⊢;have:=bi W a 4 _ _ (A2 .i64 c.length) g;rw[this];simp
 ·rw[rf];exact bc _ _ _ _
 ·cases d.kv.ownBlock with
  |none=>exact .inl rfl
  |some q=>exact .inr (by simp[U])
theorem tz(g m:Nat):(⟨g,0,O⟩:Addr).add m=⟨g,m,O⟩:=by unfold Addr.add;split<;>simp_all
theorem Al.done{d:S}{lb mb p t:Nat}{r:Q}{b:List Im}{N:Nd}{vn vk E:Q}{W a:S}(ar:mI d)(h:Al d lb mb p t r b N vn vk E N.ks.length W)(a2:∀z∈N.ks,0<=z/\z<(b.length:Int)){c:Q}(x:W.grownBy a r.ownBlock)(q:a.ownsRow d.heap.size 102 1 c (b.length+1) (b.map nV++[ey N.k t]))(ap:c.ownBlock=r.ownBlock\/c.ownBlock=M W.heap.size):
  a.heap[lb]?=M (V #[.map (M mb),r] 165 (0,0))/\
  Lk (a.setCell ⟨lb,1,O⟩ c) lb mb c/\lp (a.setCell ⟨lb,1,O⟩ c) d.heap.size c (b++[⟨N,t,vn,E⟩])/\fy (a.setCell ⟨lb,1,O⟩ c) t N vn b.length E/\R d.heap.size d (a.setCell ⟨lb,1,O⟩ c):=by
 have G:∀k,r.ownBlock=M k->aaG W k/\d.heap.size<=k:=fun k C=>ot h.ns.row C;have J:∀{s:Nat}{u:Array Q}{o:Ax},W.heap[s]?=M (V u o (0,0))->o≠102->a.heap[s]?=M (V u o (0,0)):=fun j H=>
  (x.block _ (ah j) (fun e=>by obtain⟨⟨ad,w⟩,_⟩:=G _ e.symm;exact qj j w H rfl)).trans j
 have y:=J h.lk.b (by decide);have an:R d.heap.size d a:=h.bl.grown x h.bl.size (fun k C=>(G k C).2);have al:R d.heap.size d (a.setCell ⟨lb,1,O⟩ c):=an.setCell h.lo.1 _;have set:∀{s:Nat}{u:Array Q}{o:Ax},a.heap[s]?=M (V u o (0,0))->o≠165->(a.setCell ⟨lb,1,O⟩ c).heap[s]?=M (V u o (0,0)):=fun j H=>
  (aD _ _ _ _ (fun e=>by exact qj j y H e)).trans j
 have K:∀{i:Q}{A:Nat}{B:List Q},a.ownsRow d.heap.size 102 1 i A B->(a.setCell ⟨lb,1,O⟩ c).ownsRow d.heap.size 102 1 i A B:=fun q=>
  q.kept (row:=M lb) ⟨rfl,rfl,rfl,by simp[World.setCell],fun k C a1=>aD _ _ _ _ (fun e=>a1 (by rw[e]))⟩ (by
   cases I:U _ with
   |none=>exact .inl rfl
   |some k=>exact .inr (fun e=>by obtain⟨⟨ad,w⟩,_⟩:=ot q I;obtain rfl:=bu e;exact qj y w (by decide) rfl))
 have L:fy (a.setCell ⟨lb,1,O⟩ c) t N vn b.length E:=set (J h.bx (pf _).1) (pf _).2.1;have ak:=rz h.lk.m (x.block _ h.lk.m.lt (fun e=>by obtain⟨⟨ad,w⟩,_⟩:=G _ e.symm;exact Cy h.lk.m w rfl));have av:pd b (N.ks.take N.ks.length)=pd b N.ks:=by rw[Av]
 have F:=h.kr;rw[av]at F;have af:∀{i:Q}{A:Nat}{B:List Q},W.ownsRow d.heap.size 102 1 i A B->(i.ownBlock=O\/i.ownBlock≠r.ownBlock)->(i.ownBlock=O\/i.ownBlock≠c.ownBlock):=fun q I=>by
  rcases I with e|e
  ·exact .inl e
  ·rename_i i A B;cases j:i.ownBlock with
   |none=>exact .inl rfl
   |some k=>
    have:=(q.lt k j).2;rcases ap with e2|e2
    ·rw[e2,<-j];exact .inr e
    ·rw[e2];exact .inr (by simp only[ne_eq,dr];omega)
 refine⟨y,⟨bi a lb 1 _ _ _ y,rz ak (aD _ _ _ _ (fun e=>by exact Cy ak y e)),ar.keep al⟩,⟨?_,?_,?_,?_,?_⟩,L,al⟩
 ·rw[aH,ee];exact K q
 ·intro f l hx;rcases co f b.length with g|g
  ·rw[ie g]at hx;exact set (J (h.ns.box f l hx) (pf _).1) (pf _).2.1
  ·rw[fJ g]at hx;obtain⟨v,n⟩:=List.getElem?_eq_some_iff.1 hx;simp at v n;subst n;obtain rfl:f=b.length:=by omega
   exact L
 ·intro f l hx;rcases co f b.length with g|g
  ·rw[ie g]at hx;rw[List.take_append_of_le_length (by omega)];exact K ((h.ns.kid f l hx).kept x (h.ns.far l (cJ hx)))
  ·rw[fJ g]at hx;obtain⟨v,n⟩:=List.getElem?_eq_some_iff.1 hx;simp at v n;subst n;obtain rfl:f=b.length:=by omega
   rw[List.take_left];exact K (F.kept x h.fr)
 ·intro l hx;rcases List.mem_append.1 hx with hx|hx
  ·obtain⟨f,a0,ao⟩:=mL hx;exact af (h.ns.kid f l (by rw[bJ a0,ao])) (h.ns.far l hx)
  ·obtain rfl:=List.mem_singleton.1 hx;exact af F h.fr
 ·intro f l z hx am;rcases co f b.length with g|g
  ·rw[ie g]at hx;exact h.ns.rng f l z hx am
  ·rw[fJ g]at hx;obtain⟨v,n⟩:=List.getElem?_eq_some_iff.1 hx;simp at v n;subst n;obtain rfl:f=b.length:=by omega
   exact a2 z am
def ir(ns:List Nd)(ks:List Int):List Int:=ks.map fun a=>(ns.getD a.toNat zNd).k
theorem lp.kids{W:S}{base:Nat}{u:Q}{a:List Im}(h:lp W base u a){ns:List Nd}(t:a.map Im.N=ns.take a.length){i:Nat}{x:Im}(k:a[i]?=M x):gB W x.kv (ir ns x.N.ks):=by
 have f:=h.kid i x k;have o:(ir ns x.N.ks).length=x.N.ks.length:=by simp[ir]
 have z:i<a.length:=(List.getElem?_eq_some_iff.1 k).1;rcases bp f with⟨B,g⟩|⟨r,q,g⟩
 ·exact .inl ⟨jK (by omega),_,_,g⟩
 ·rw[g]at f⊢;refine .inr ⟨⟨r,0,O⟩,q,by rw[o],?_,fun m C d=>?_⟩
  ·rw[o];rcases f.2 with⟨j,_⟩|⟨y,v,w,j,_,_,s,_⟩
   ·cases j
   ·cases j;exact s
  ·unfold ir at d;rw[cA]at d;cases hz:x.N.ks[m]? with
   |none=>rw[hz]at d;cases d
   |some e=>
    rw[hz]at d;obtain rfl:=bu d;obtain⟨z0,E⟩:=h.rng i x e k (cJ hz);obtain⟨c,l⟩:∃c,a[e.toNat]?=M c:=⟨a[e.toNat]'(by omega),bJ _⟩;have p:(ns.getD e.toNat zNd)=c.N:=by
     have n:(a.map Im.N)[e.toNat]?=M c.N:=by rw[cA,l];rfl
     rw[t,kE,ab (by omega)]at n;rw[cp,n];rfl
    have A:m<x.N.ks.length:=(List.getElem?_eq_some_iff.1 hz).1;refine⟨c.b,?_,?_⟩
    ·rw[tz,f.cellAt m (by omega)];unfold pd;rw[cA,hz];simp only[xc];rw[kE,ab (by omega),l,p];rfl
    ·show W.cell? ⟨c.b,0,O⟩=M (A2 .i64 (ns.getD e.toNat zNd).k);rw[p];exact(h.box _ c l).cells.1
theorem acg:(Tryz.prog.info? 102).map (fun i=>(i.zero,i.size,i.bytes))=M (M A3,1,16):=by kernel_rfl
def Dg(N:Nd):Bool:=decide (0<=N.f/\N.f<=N.t/\0<=N.l/\N.ks.length<=200/\N.nm.length<=200)
def Dh(ns:List Nd)(i:Nat)(N:Nd):Bool:=
 Dg N&&(zn (lE N (dF N.k)) N&&(Ir N.ks i N.ks.length 0&&(ffB N N.ks.length (dF N.k)&&kfB N (ir ns N.ks))))
def Gb(c:S)(lb mb:Nat)(a:List Im)(ns:List Nd)(N:Nd)(vn:Q)(e:Ending)(b:S):Prop:=
 e= .returned (.bool (Dh ns a.length N))/\R c.heap.size c b/\(Dh ns a.length N=true->∃f d,d.N=N/\d.vn=vn/\Lk b lb mb f/\lp b c.heap.size f (a++[d]))
theorem ach(w:S)(lb:Nat)(N:Nd)(vn vk:Q)(g:cH w vn N.nm)(f:eo w vk N.ks)(d:iA N)(h:Dg N=false):
  Calls X 78 #[.pointer (M ⟨lb,0,O⟩),eC N vn vk] w fun e p=>e= .returned (.bool false)/\R w.heap.size w p:=by
 have b:∀c,R w.heap.size w (w.alloc c):=fun c=>(ag _ w).alloc (ae _) c;obtain⟨q,s,rfl⟩:=g.form;obtain⟨r,t,rfl⟩:=f.form;have l:=d.l1;have m:=d.l2;unfold Dg at h;have a:=iw h;unfold eC;generalize N.nm.length=j at l a⊢;generalize N.ks.length=k at m a⊢;clear g f d h;obtain⟨A,i,o,n,F,C,G,E,B⟩:=N;simp only at a⊢;by_cases u:i<0
 ·clear a;go_in;go_wp2;go_ret;exact⟨rfl,b _⟩
 by_cases v:o<i
 ·clear a;go_in;go_wp2;go_ret;exact⟨rfl,b _⟩
 by_cases x:n<0
 ·clear a;go_in;go_wp2;go_ret;exact⟨rfl,b _⟩
 by_cases y:(200:Int)<(k:Int)
 ·clear a;go_in;go_wp2;go_ret;exact⟨rfl,b _⟩
 have z:(200:Int)<(j:Int):=by omega
 clear a;go_in;go_wp2;go_ret;exact⟨rfl,b _⟩
theorem I4{W b:S}(d:R W.heap.size W b){a:Addr}(c:a.block<W.heap.size){r:Bool}(h:W.frozen? a=r):b.frozen? a=r:=by
 rw[<-h];exact World.frozen?_of_block (d.block _ c)
theorem anl{w:S}{N:Nd}{vn:Q}(h:cH w vn N.nm)(k:Int):cH w (sa vn (dF k)) (lE N (dF k)).nm:=by
 rcases Cw k with hc|hc|hc|hc|hc|hc|hc
 ·rw[hc];exact h
 ·rw[hc];exact .inl ⟨rfl,_,_,rfl⟩
 ·rw[hc];exact .inl ⟨rfl,_,_,rfl⟩
 ·rw[hc];exact .inl ⟨rfl,_,_,rfl⟩
 ·rw[hc];exact .inl ⟨rfl,_,_,rfl⟩
 ·rw[hc];exact h
 ·rw[hc];exact .inl ⟨rfl,_,_,rfl⟩
theorem afn{N:Nd}(k:Int)(h:N.nm.length<=1048576):(lE N (dF k)).nm.length<=1048576:=by
 rcases Cw k with hc|hc|hc|hc|hc|hc|hc
 ·rw[hc];exact h
 ·rw[hc];exact aL _
 ·rw[hc];exact aL _
 ·rw[hc];exact aL _
 ·rw[hc];exact aL _
 ·rw[hc];exact h
 ·rw[hc];exact aL _
theorem afo(e w:S)(I:mI e)(K:R e.heap.size e w)(lb mb:Nat)(hx:e.heap.size<=lb)(cl:Q)(g:List Im)(h:Lk w lb mb cl)(fc:lp w e.heap.size cl g)(N:Nd)(vn vk:Q)(cz:cH e vn N.nm)(bb:eo e vk N.ks)(ad:iA N)(hl:g.length<=3000)(ns:List Nd)(fm:g.map Im.N=ns.take g.length)(a0:ns[g.length]?=M N)(a4:∀W,R e.heap.size e W->A1 X W "strings.asciiSpace" .u8 Y)(cy:Dg N=true):
  Calls X 78 #[.pointer (M ⟨lb,0,O⟩),eC N vn vk] w (Gb e lb mb g ns N vn):=by
 have ch:=fun W (dk:R w.heap.size w W)=>JG W N vn vk (by obtain⟨c6,bE,p⟩:=cz.form;exact⟨_,_,_,p⟩) (by obtain⟨c6,bE,p⟩:=bb.form;exact⟨_,_,_,p⟩);obtain⟨br,ca⟩:=ay (Dh ns g.length N);unfold Gb;rw[ca];unfold Dh at ca;rw[cy,eG]at ca;obtain⟨j,k,rfl⟩:=cz.form;obtain⟨G,H,rfl⟩:=bb.form;unfold Dg at cy;obtain⟨g8,g9,ha,hb,hd⟩:=aC cy;have y:A0 (Lk w lb mb cl/\lp w e.heap.size cl g/\cH e (.slice j N.nm.length k) N.nm/\eo e (.slice G N.ks.length H) N.ks/\iA N/\g.map Im.N=ns.take g.length/\(∀W,R e.heap.size e W->A1 X W "strings.asciiSpace" .u8 Y)/\mI e/\R e.heap.size e w/\ns[g.length]?=M N):=⟨h,fc,cz,bb,ad,fm,a4,I,K,a0⟩;have e7:=aw ca;have i5:¬N.f<0:=by omega
 have i6:¬N.t<N.f:=by omega
 have i7:¬N.l<0:=by omega
 unfold eC at ch⊢;obtain⟨i,dn⟩:=ay N.nm.length;obtain⟨m,dq⟩:=ay N.ks.length;have cn:=gK dn dq;rw[dn]at ch y hd⊢;rw[dq]at ch y hb⊢;have i8:¬(200:Int)<(m:Int):=by omega
 have i9:¬(200:Int)<(i:Int):=by omega
 have j6:lb<w.heap.size:=ah y.out.1.b;clear dn dq cz bb ad fm a4 I K h fc ca cy g8 g9 ha a0;go_in;go_wp2_with fail;have cx:R w.heap.size w (w.alloc (.cells #[.int .i64 N.k,.int .i64 N.f,.int .i64 N.t,.int .i64 N.l,.int .i64 N.op,.int .i64 N.n,.string N.x,.slice j i k,.slice G m H] 53)):=(ag _ w).alloc (ae _) _;have ei:sw w.heap.size (w.alloc (.cells #[.int .i64 N.k,.int .i64 N.f,.int .i64 N.t,.int .i64 N.l,.int .i64 N.op,.int .i64 N.n,.string N.x,.slice j i k,.slice G m H] 53)) 53 N (.slice j i k) (.slice G m H):=aj w _;have fq:(w.alloc (.cells #[.int .i64 N.k,.int .i64 N.f,.int .i64 N.t,.int .i64 N.l,.int .i64 N.op,.int .i64 N.n,.string N.x,.slice j i k,.slice G m H] 53)).heap.size=w.heap.size+1:=aF _ _;generalize w.alloc (.cells #[.int .i64 N.k,.int .i64 N.f,.int .i64 N.t,.int .i64 N.l,.int .i64 N.op,.int .i64 N.n,.string N.x,.slice j i k,.slice G m H] 53)=gu at cx ei fq⊢;refine(ch gu cx).mono ?_;rintro p B ⟨rfl,cb,dz⟩;rw[fq]at cb⊢;obtain⟨n,hv⟩:=ay (w.heap.size+1+1+1);rw[hv]at cb⊢;have ex:=ei.below dz;have bs:R w.heap.size w B:=cx.trans (dz.mono (by omega));obtain⟨b0,b1,b2,b3,b4,b5,b6,b7,b8,g6⟩:=ax ex;have c7:R B.heap.size B B.drew:=cj (ag _ B);have ed:cH B.drew (.slice j i k) N.nm:=((y.out.2.2.1.below y.out.2.2.2.2.2.2.2.2.1).below bs).below c7;have am:=D0 B.drew n N (.slice j i k) (.slice O 0 0) 0 ⟨_,_,_,rfl⟩ (cb.below c7);have a5:=fun W (dk:R B.drew.heap.size B.drew W)=>BD W (lE N (dF N.k)) N (sa (.slice j i k) (dF N.k)) (.slice O 0 0) (.slice j i k) (.slice G m H) ((anl ed N.k).below dk) (ed.below dk) ⟨_,_,_,rfl⟩ ⟨_,_,_,rfl⟩ (afn _ y.out.2.2.2.2.1.l1) y.out.2.2.2.2.1.l1;obtain⟨ii,ka,iy,fo⟩:∃c6 h2 bE,sa (.slice j i k) (dF N.k)= .slice c6 h2 bE:=by
  unfold sa;split<;>exact⟨_,_,_,rfl⟩
 rw[fo]at am a5;unfold eC at am a5;obtain⟨h4,em⟩:=ay (zn (lE N (dF N.k)) N);rw[em]at a5;have cq:=aw em;obtain⟨h9,ek⟩:=ay (lE N (dF N.k));rw[ek]at am a5 cq;clear em ed fo ch ei cx dz;have hD:=fun w=>qH N.k n w;have hJ:=fun w=>eA n w;unfold ey at am⊢;have h8:A0 (nH (dF N.k)=nH (dF N.k)):=rfl;generalize en:nH (dF N.k)=e0 at am hD⊢;go_wp2_with fail;cases h4 with
 |false=>
  have F:A0 (false=br):=by have:=e7.out;rw[ek,cq.out,dJ]at this;exact this
  go_region_held3 (fun q=>q.cell? ⟨w.heap.size,0,O⟩=M (.int .i64 N.k)/\q.cell? ⟨w.heap.size,1,O⟩=M (.int .i64 N.f)/\q.cell? ⟨w.heap.size,2,O⟩=M (.int .i64 N.t)/\q.cell? ⟨w.heap.size,3,O⟩=M (.int .i64 N.l)/\q.cell? ⟨w.heap.size,4,O⟩=M (.int .i64 N.op)/\q.cell? ⟨w.heap.size,5,O⟩=M (.int .i64 N.n)/\q.cell? ⟨w.heap.size,6,O⟩=M (.string N.x)/\q.cell? ⟨w.heap.size,7,O⟩=M (.slice j i k)/\q.cell? ⟨w.heap.size,8,O⟩=M (.slice G m H)) (first|go_keep|exact⟨ai o (ai a b0),ai o (ai a b1),ai o (ai a b2),ai o (ai a b3),ai o (ai a b4),ai o (ai a b5),ai o (ai a b6),ai o (ai a b7),ai o (ai a b8)⟩|exact⟨ai a b0,ai a b1,ai a b2,ai a b3,ai a b4,ai a b5,ai a b6,ai a b7,ai a b8⟩) (first|(go_at_call 75;refine am.mono ?_;rintro p h7 ⟨rfl,a⟩)|(go_at_call 138;refine(a5 _ a).mono ?_;rintro p a6 ⟨rfl,o⟩))
  go_wp2_with fail;go_ret;have hs:R w.heap.size w a6:=bs.trans (((cj (ag _ B)).trans (a.trans (o.mono a.size))).mono bs.size);exact⟨by rw[<-F.out];rfl,y.out.2.2.2.2.2.2.2.2.1.trans (hs.mono y.out.2.2.2.2.2.2.2.2.1.size),fun h=>by rw[<-F.out]at h;cases h⟩
 |true=>
  have gf:A0 ((Ir N.ks g.length N.ks.length 0&&(ffB N N.ks.length (dF N.k)&&kfB N (ir ns N.ks)))=br):=by have:=e7.out;rw[ek,cq.out,eG]at this;exact this
  go_region_held3 (fun q=>q.cell? ⟨w.heap.size,0,O⟩=M (.int .i64 N.k)/\q.cell? ⟨w.heap.size,1,O⟩=M (.int .i64 N.f)/\q.cell? ⟨w.heap.size,2,O⟩=M (.int .i64 N.t)/\q.cell? ⟨w.heap.size,3,O⟩=M (.int .i64 N.l)/\q.cell? ⟨w.heap.size,4,O⟩=M (.int .i64 N.op)/\q.cell? ⟨w.heap.size,5,O⟩=M (.int .i64 N.n)/\q.cell? ⟨w.heap.size,6,O⟩=M (.string N.x)/\q.cell? ⟨w.heap.size,7,O⟩=M (.slice j i k)/\q.cell? ⟨w.heap.size,8,O⟩=M (.slice G m H)) (first|go_keep|exact⟨ai o (ai a b0),ai o (ai a b1),ai o (ai a b2),ai o (ai a b3),ai o (ai a b4),ai o (ai a b5),ai o (ai a b6),ai o (ai a b7),ai o (ai a b8)⟩|exact⟨ai a b0,ai a b1,ai a b2,ai a b3,ai a b4,ai a b5,ai a b6,ai a b7,ai a b8⟩) (first|(go_at_call 75;refine am.mono ?_;rintro p h7 ⟨rfl,a⟩)|(go_at_call 138;refine(a5 _ a).mono ?_;rintro p a6 ⟨rfl,o⟩))
  have ct:R B.heap.size B a6:=(cj (ag _ B)).trans (a.trans (o.mono a.size));have cr:R w.heap.size w a6:=bs.trans (ct.mono bs.size);obtain⟨lk,bd,cB,ea,ad,cF,a4,I,K,a0⟩:=y.out;have e9:R e.heap.size e a6:=K.trans (cr.mono K.size);have es:=lk.below cr;have ev:=bd.below cr;have f9:=ex.below ct;have bw:=cb.below ct;have hH:=K.size;have d:=Al.start I bd (by omega) (by omega) (by omega) es ev f9 bw e9 ⟨hx,by omega,hH⟩;obtain⟨ao,ap,bh⟩:=bz ev.row;have fb:a6.cell? ⟨lb,1,O⟩=M (.slice ao g.length ap):=by rw[<-bh,aq _ _ _ _ _ _ es.b];rfl
  have c8:=bw.cells.2.2.2.1;have c9:=bw.cells.2.2.2.2.2;have ht:n<a6.heap.size:=ah bw;have bo:=aw d;obtain⟨nL,eg⟩:=ay g.length;rw[eg]at fb bo hl;have J:=aw eg;clear d es ev f9 bw ct lk bd cB ea ad cF a4 I K a0 b0 b1 b2 b3 b4 b5 b6 b7 b8 g6 am a5 cb ex c7 cq eg;go_wp2_with (go_at_call 301;refine(hJ _).mono ?_;rintro p s ⟨rfl,rfl⟩);obtain⟨f0,ff,fz,fA,fB⟩:=dt acg;clear fb c8 c9 cr e9 ht bh;go_loopw [54] (fun e3 wr=>∃(c:Nat) (f6:Q),e3= .int .i64 c/\c<=m/\A0 ((Ir N.ks nL (m-c) c&&(ffB N m (dF N.k)&&kfB N (ir ns N.ks)))=br)/\A0 (∀r∈N.ks.take c,0<=r/\r<(nL:Int))/\A0 (Al e lb mb w.heap.size n cl g N (.slice j i k) (.slice G m H) f6 c wr)) (fun e3 _=>m-(intOf e3).toNat)
  case atStart=>
   refine⟨0,_,rfl,aL _,?_,fun r L=>by simp at L,bo.out⟩;have:=gf.out;rw[J.out,cn.out.2]at this;exact this
  case round=>
   obtain⟨c,f6,rfl,j2,cm,e8,bk⟩:=hrel;clear bo;have d:=bk.out;have E:=cm.out;by_cases hC:c<m
   ·obtain⟨r,L⟩:=bL cn.out.2 hC;obtain⟨ih,hp,j1⟩:=(y.out.2.2.2.1.below d.bl).get L;subst hp;have j4:(c:Int)<(m:Int):=by omega
    have j3:(0:Int)<=(c:Int):=by omega
    have c8:=d.bx.cells.2.2.2.1;rw[J.out]at c8;rw[show m-c=(m-(c+1))+1 by omega,Ir,cp,L,ig]at E;by_cases a9:0<=r/\r<(nL:Int)
    ·obtain⟨et,rfl⟩:=tF a9.1;have hh:et<nL:=by omega
     obtain⟨an,ep⟩:=bL J.out hh;have cg:=d.ns.row;rw[J.out]at cg;rcases bp cg with⟨j8,_⟩|⟨b9,cs,bh⟩
     ·omega
     subst bh;have g0:wr.cell? ⟨lb,1,O⟩=M (.slice (M ⟨b9,0,O⟩) nL cs):=by rw[aq _ _ _ _ _ _ d.lk.b];rfl
     have fa:wr.cell? ⟨b9,et,O⟩=M (.iface (nH (dF an.N.k)) (.pointer (M ⟨an.b,0,O⟩))):=by
      rw[cg.cellAt et (by omega),cA,ep];rfl
     obtain⟨u,v,eb⟩:=bz d.kr;subst eb;have g7:=d.bx.cells.2.2.2.2.1;have c9:=d.bx.cells.2.2.2.2.2 5;have fk:=d.kr;have c5:A0 (pd g (N.ks.take (c+1))=pd g (N.ks.take c)++[.iface (nH (dF an.N.k)) (.pointer (M ⟨an.b,0,O⟩))]):=by
      show _=_;rw[fK,L];unfold pd;rw[ee];simp[ep,nV,ey]
     have ge:A0 ((Ir N.ks nL (m-(c+1)) (c+1)&&(ffB N m (dF N.k)&&kfB N (ir ns N.ks)))=br):=by
      rw[bC a9,eG]at E;exact E
     have gt:A0 (∀r∈N.ks.take (c+1),0<=r/\r<(nL:Int)):=fun r fF=>by
      rw[fK,L]at fF;rcases List.mem_append.1 fF with h|h
      ·exact e8.out r h
      ·simp at h;subst h;exact a9
     have h0:lb<wr.heap.size:=ah d.lk.b;have h1:n<wr.heap.size:=ah d.bx;have j9:b9<wr.heap.size:=(cg.lt b9 rfl).2;have er:∀eq,(T u c v).ownBlock=M eq->aaG wr eq:=fun eq bb=>(ot fk bb).1;have kb:M lb≠(T u c v).ownBlock:=fun p=>by obtain⟨bE,cc⟩:=er lb p.symm;exact qj d.lk.b cc (by decide) rfl
     have f8:M n≠(T u c v).ownBlock:=fun p=>by obtain⟨bE,cc⟩:=er n p.symm;exact qj d.bx cc (pf _).1 rfl
     have kc:M b9≠(T u c v).ownBlock:=fun p=>by
      rcases d.fr with e2|e2
      ·rw[e2]at p;cases p
      ·exact e2 p.symm
     have hI:e.heap.size<=wr.heap.size:=d.bl.size;have gr:A0 (nH (dF an.N.k)=nH (dF an.N.k)):=rfl;generalize nH (dF an.N.k)=e1 at fa c5 gr;generalize an.b=e6 at fa c5;have bt:∀C,R wr.heap.size wr (wr.alloc C).drew:=fun C=>cj ((ag _ wr).alloc (ae _) C);clear d E ep L a9 cg er;go_wp2_with fail;go_region_law (refine step_append_lies _ (by rfl) _ _ _ (by rfl) e.heap.size 102 f0 _ 1 16 Tryz.underlying155 ff fz fA fB rfl (by omega) (.slice u c v) c (pd g (N.ks.take c)) (by rfl) ((fk.alloc _).drew) ⟨wr.heap.size,0,O⟩ 1 1 [.iface e1 (.pointer (M ⟨e6,0,O⟩))] (by rfl) (by rfl) (World.news_of_block (cs:=#[.iface e1 (.pointer (M ⟨e6,0,O⟩))]) (t:=102) (fr:=(0,0)) (aj wr _)) (by simp[Value.oneCell']) (by omega) (by unfold maxLen;omega) (by omega) (by simp;omega) (wr.heap.size+1) (by simp) ?_;intro i4 i1 s cf ce ds j5;have i2:=(ce.cell_far ⟨n,5,O⟩ (by simp;omega) f8).trans (ai (bt _) g7);have i3:=(ce.frozen_far ⟨n,5,O⟩ (by simp;omega) f8).trans (I4 (bt _) h1 c9))
     all_goals
      go_wp2_with fail;obtain⟨_,bd,_,_,_,_,_,I,_,_⟩:=y.out;have h6:=bk.out.below (bt (.cells #[.iface e1 (.pointer (M ⟨e6,0,O⟩))] 102));rw[<-c5.out]at cf;obtain⟨_,stB⟩:=h6.kid I ce cf ds (by simp);exact⟨⟨c+1,_,by go_num,by omega,ge,gt,stB⟩,by simp[intOf];omega⟩
    ·have F:A0 (false=br):=by rw[aB a9,dJ,dJ]at E;exact E
     have fd:=d.bl;by_cases ji:r<0
     ·clear E d bk cm L;go_wp2_with fail;go_ret;exact⟨by rw[<-F.out];rfl,fd,fun h=>by rw[<-F.out]at h;cases h⟩
     ·have j0:¬r<(nL:Int):=by omega
      clear E d bk cm L a9;go_wp2_with fail;go_ret;exact⟨by rw[<-F.out];rfl,fd,fun h=>by rw[<-F.out]at h;cases h⟩
   ·obtain rfl:c=m:=by omega
    rw[eB,Ir,eG]at E;obtain⟨u,v,eb⟩:=bz d.kr;subst eb;obtain⟨ao,ap,bh⟩:=bz d.ns.row;subst bh;rw[J.out];have g0:wr.cell? ⟨lb,1,O⟩=M (.slice ao nL ap):=by rw[<-J.out,aq _ _ _ _ _ _ d.lk.b];rfl
    have el:=d.ns.row;rw[J.out]at el;have hI:e.heap.size<=wr.heap.size:=d.bl.size;have h0:lb<wr.heap.size:=ah d.lk.b;have bt:∀C,R wr.heap.size wr (wr.alloc C):=fun C=>(ag _ wr).alloc (ae _) C;have bo:=aw d;have gn:=aw E;have gp:=aw el;clear E d bk cm el;obtain⟨_,bd,cB,ea,ad,cF,a4,I,K,a0⟩:=y.out;have gd:A0 (∀C s A z,(wr.alloc C).grownBy s (T ao nL ap).ownBlock->s.ownsRow e.heap.size 102 1 (.slice (M ⟨A,0,O⟩) (nL+1) z) (nL+1) (g.map nV++[.iface e0 (.pointer (M ⟨n,0,O⟩))])->((T (M ⟨A,0,O⟩) (nL+1) z).ownBlock=(T ao nL ap).ownBlock\/(T (M ⟨A,0,O⟩) (nL+1) z).ownBlock=M (wr.alloc C).heap.size)->
      s.heap[lb]?=M (.cells #[.map (M mb),.slice ao nL ap] 165 (0,0))/\Lk (s.setCell ⟨lb,1,O⟩ (.slice (M ⟨A,0,O⟩) (nL+1) z)) lb mb (.slice (M ⟨A,0,O⟩) (nL+1) z)/\lp (s.setCell ⟨lb,1,O⟩ (.slice (M ⟨A,0,O⟩) (nL+1) z)) e.heap.size (.slice (M ⟨A,0,O⟩) (nL+1) z) (g++[⟨N,n,.slice j i k,.slice u c v⟩])/\fy (s.setCell ⟨lb,1,O⟩ (.slice (M ⟨A,0,O⟩) (nL+1) z)) n N (.slice j i k) nL (.slice u c v)/\R e.heap.size e (s.setCell ⟨lb,1,O⟩ (.slice (M ⟨A,0,O⟩) (nL+1) z))):=by
     intro C s A z hw hE ds;have h5:=bo.out.below (bt C);have eh:=J.out;have ec:=cn.out.2;subst ec;subst eh;have hG:∀r∈N.ks,0<=r/\r<(g.length:Int):=by
      have:=e8.out;rw[Av]at this;exact this
     refine h5.done I hG hw ?_ ds;unfold ey;rw[en];exact hE
    clear bd K I;go_wp2_with (at_builtin;refine wpList_append_own_at _ rfl _ _ 155 rfl e.heap.size 102 f0 _ 1 16 Tryz.underlying155 ff fz fA fB rfl (by decide) _ _ _ rfl (gp.out.alloc _) ⟨wr.heap.size,0,O⟩ 1 1 [.iface e0 (.pointer (M ⟨n,0,O⟩))] rfl rfl (World.news_of_block (cs:=#[.iface e0 (.pointer (M ⟨n,0,O⟩))]) (fr:=(0,0)) (aj wr _)) (by intro kd fu;simp at fu;subst fu;rfl) (by unfold maxLen;omega) (by omega) (by simp;omega) ?_;intro ke s cf ce j7 hq;obtain⟨A,z,rfl⟩:=ownsRow_succ cf;obtain⟨f7,c0,c4,cw,a7⟩:=gd.out _ s A z ce cf hq;have ki:s.cell? ⟨lb,1,O⟩=M (.slice ao nL ap):=by {rw[aq _ _ _ _ _ _ f7];rfl};have kj:s.frozen? ⟨lb,1,O⟩=false:=cC _ _ _ _ _ f7);generalize s.setCell ⟨lb,1,O⟩ (.slice (M ⟨A,0,O⟩) (nL+1) z)=gv at c0 c4 cw a7⊢;have eh:=J.out;have ec:=cn.out.2;have fv:(g++[⟨N,n,.slice j i k,.slice u c v⟩])[nL]?=M ⟨N,n,.slice j i k,.slice u c v⟩:=by rw[<-eh];simp
    have fn:(g++[(⟨N,n,.slice j i k,.slice u c v⟩:Im)]).map Im.N=ns.take (g++[(⟨N,n,.slice j i k,.slice u c v⟩:Im)]).length:=by
     rw[ee,cF,aH,wH,fK,a0];rfl
    have fg:=c4.kids fn fv;have al:=Df gv lb mb _ c0 n N (.slice j i k) nL u c v (by omega) (cB.below a7) ad.l1 ad.ls ad.lx cw;unfold ey at al;rw[en]at al;have af:=gn.out;cases hfb:ffB N c (dF N.k) with
    |false=>
     rw[hfb]at al af;rw[dJ]at af;have F:=aw af;refine al.mono ?_;rintro p gb ⟨rfl,ar⟩;have a8:=a7.trans (ar.mono a7.size);clear af hfb al;go_wp2_with fail;go_ret;exact⟨by rw[<-F.out];rfl,a8,fun h=>by rw[<-F.out]at h;cases h⟩
    |true=>
     rw[hfb]at al af;rw[eG]at af;have fl:dF N.k=1->0<=N.n/\N.n<=200:=fun cc=>by
      rw[cc]at hfb;have:=aC (show decide (1<=N.n/\N.n<(c:Int))=true from hfb);omega
     refine al.mono ?_;rintro p gb ⟨rfl,ar⟩;have a8:=a7.trans (ar.mono a7.size);have hK:=c0.below ar;have h3:=c4.below ar;have hA:(ir ns N.ks).length<=1048576:=by unfold ir;rw[dc,ec];omega
     have cI:=I3 gb n N (.slice j i k) (.slice u c v) nL (ir ns N.ks) (fg.below ar) hA (fun W hm=>a4 W (a8.trans (hm.mono a8.size))) (cw.below ar) fl;rw[af]at cI;unfold ey at cI;rw[en]at cI;clear af hfb al fl fg fv fn c0 c4 cw a0 cF a4 ad cB ea;go_wp2_with (go_at_call 140;refine cI.mono ?_;rintro p kg ⟨rfl,d9⟩);go_ret;exact⟨rfl,a8.trans (d9.mono a8.size),fun _=>⟨_,_,rfl,rfl,hK.below d9,h3.below d9⟩⟩
theorem afp(a w:S)(m:mI a)(c:R a.heap.size a w)(lb mb:Nat)(o:a.heap.size<=lb)(d:Q)(b:List Im)(h:Lk w lb mb d)(k:lp w a.heap.size d b)(N:Nd)(vn vk:Q)(g:cH a vn N.nm)(f:eo a vk N.ks)(i:iA N)(j:b.length<=3000)(ns:List Nd)(p:b.map Im.N=ns.take b.length)(n:ns[b.length]?=M N)(q:∀W,R a.heap.size a W->A1 X W "strings.asciiSpace" .u8 Y):
  Calls X 78 #[.pointer (M ⟨lb,0,O⟩),eC N vn vk] w (Gb a lb mb b ns N vn):=by
 cases hf:Dg N with
 |true=>exact afo a w m c lb mb o d b h k N vn vk g f i j ns p n q hf
 |false=>
  refine aJ (ach w lb N vn vk (g.below c) (f.below c) i hf) fun r l=>?_;have e:Dh ns b.length N=false:=by unfold Dh;rw[hf,dJ]
  exact⟨by rw[e],c.trans (l.mono c.size),fun h=>by rw[e]at h;cases h⟩
