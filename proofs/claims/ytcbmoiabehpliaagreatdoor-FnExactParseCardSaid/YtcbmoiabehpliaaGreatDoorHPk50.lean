import Derived.Test.YtcbmoiabehpliaaGreatDoorHPk48
import Derived.Test.YtcbmoiabehpliaaGreatDoorHPk40
import Derived.Test.YtcbmoiabehpliaaGreatDoorHPk09
import Derived.Deep.AppendLies
import Derived.Maps.AppendAt
import Derived.Test.YtcbmoiabehpliaaGreatDoorHPk01
import Derived.Deep.RegionLaw
set_option linter.unusedVariables false
set_option maxRecDepth 100000
set_option maxHeartbeats 12800000
namespace Go.Proofs.YtcbmoiabehpliaaGreatDoor
open Go.RowKit Go.Maps Go.WideMaps
structure Im where
 N:Nd
 b:Nat
 vn:Value
 kv:Value
def nV(x:Im):Value:=bi x.N.k x.b
def fl(c:List Im)(ks:List Int):List Value:=ks.map fun a=>match c[a.toNat]? with|some b=>nV b|none=> .nilIface
structure dS (W:World) (base:Nat) (vs:Value) (L:List Im):Prop where
 row:W.ownsRow base 51 1 vs L.length (L.map nV)
 box:∀(i:Nat) x,L[i]?=some x->bK W x.b x.N x.vn i x.kv
 kid:∀(i:Nat) x,L[i]?=some x->W.ownsRow base 51 1 x.kv x.N.ks.length (fl (L.take i) x.N.ks)
 far:∀x∈L,x.kv.ownBlock=none\/x.kv.ownBlock≠vs.ownBlock
 rng:∀(i:Nat) x z,L[i]?=some x->z∈x.N.ks->0<=z/\z<(i:Int)
theorem bK.below{W c:World}{b:Nat}{N:Nd}{vn d:Value}{a:Int}(h:bK W b N vn a d)(e:Below W.heap.size W c):bK c b N vn a d:=(e.block _ (lt_of_block h)).trans h
theorem dS.below{W f:World}{base:Nat}{e:Value}{g:List Im}(h:dS W base e g)(c:Below W.heap.size W f):dS f base e g:=
 ⟨ai h.row c,fun a d b=>(h.box a d b).below c,fun a d b=>ai (h.kid a d b) c,h.far,h.rng⟩
theorem fS{W:World}{a b:Nat}{i g:Array Value}{c e:TypeId}{f j:Nat×Nat}(l:W.heap[a]?=some (.cells i c f))(h:W.heap[b]?=some (.cells g e j))(k:c≠e):a≠b:=by
 rintro rfl;have d:=l.symm.trans h;simp only[Option.some.injEq,Obj.cells.injEq]at d;exact k d.2.1
theorem fp(c:Nat):iU c≠51/\iU c≠155/\iU c≠69:=by
 unfold iU;split<;>decide
theorem pi{W:World}{mb b:Nat}{cs:Array Value}{t:TypeId}{f:Nat×Nat}(h:W.ownsMap Tryz.prog 9 (plainElem (H:=Unit) Tryz.prog 3) mb 22 (kV 22))(c:W.heap[b]?=some (.cells cs t f)):mb≠b:=by
 rintro rfl;obtain⟨e,g,a,d⟩:=h;rw[c]at a;cases a
def yG(W:World)(g:Nat):Prop:=∃a,W.heap[g]?=some (.cells a 51 (0,0))
theorem eR{W:World}{base n g:Nat}{v:Value}{d:List Value}(h:W.ownsRow base 51 1 v n d)(b:v.ownBlock=some g):yG W g/\base<=g:=by
 rcases ay h with⟨_,rfl⟩|⟨i,k,rfl⟩
 ·simp[Value.ownBlock]at b
 ·obtain rfl:i=g:=by simpa [Value.ownBlock] using b
  rcases h.2 with⟨a,_⟩|⟨j,l,c,a,f,e,_⟩
  ·cases a
  ·cases a;exact⟨⟨c,e⟩,f⟩
structure mN (w0:World) (lb mb p bn:Nat) (vs:Value) (L:List Im) (N:Nd) (vn vk kv:Value) (j:Nat) (W:World):Prop where
 lk:Lk W lb mb vs
 ns:dS W w0.heap.size vs L
 rb:jj p W 69 N vn vk
 bx:bK W bn N vn L.length kv
 kr:W.ownsRow w0.heap.size 51 1 kv j (fl L (N.ks.take j))
 fr:kv.ownBlock=none\/kv.ownBlock≠vs.ownBlock
 fo:∀x∈L,x.kv.ownBlock=none\/x.kv.ownBlock≠kv.ownBlock
 bl:Below w0.heap.size w0 W
 lo:w0.heap.size<=lb/\w0.heap.size<=bn/\w0.heap.size<=p
theorem mN.below{f:World}{lb mb p b:Nat}{c:Value}{e:List Im}{N:Nd}{vn vk g:Value}{j:Nat}{W d:World}(h:mN f lb mb p b c e N vn vk g j W)(a:Below W.heap.size W d):mN f lb mb p b c e N vn vk g j d:=
 ⟨h.lk.below a,h.ns.below a,h.rb.below a,h.bx.below a,ai h.kr a,h.fr,h.fo,h.bl.trans (a.mono h.bl.size),h.lo⟩
theorem mN.kid{d:World}{lb mb p c:Nat}{u:Value}{s:List Im}{N:Nd}{vn vk l:Value}{j:Nat}{W b:World}(V:eF d)(h:mN d lb mb p c u s N vn vk l j W)(w:W.grownBy b l.ownBlock){g cap H:Nat}(B:b.ownsRow d.heap.size 51 1 (.slice (some ⟨g,0,none⟩) (j+1) cap) (j+1) (fl s (N.ks.take (j+1))))(T:l.ownBlock=some g\/g=H)(al:W.heap.size=H):
  bK b c N vn s.length l/\mN d lb mb p c u s N vn vk (.slice (some ⟨g,0,none⟩) (j+1) cap) (j+1) (b.setCell ⟨c,5,none⟩ (.slice (some ⟨g,0,none⟩) (j+1) cap)):=by
 have G:∀a,l.ownBlock=some a->yG W a/\d.heap.size<=a:=fun a y=>eR h.kr y;have z:∀{v:Nat}{x:Array Value}{n:TypeId},W.heap[v]?=some (.cells x n (0,0))->n≠51->b.heap[v]?=some (.cells x n (0,0)):=fun k F=>
  (w.block _ (lt_of_block k) (fun e=>by obtain⟨⟨A,t⟩,_⟩:=G _ e.symm;exact fS k t F rfl)).trans k
 have r:bK b c N vn s.length l:=z h.bx (fp _).1;have X:Below d.heap.size d b:=h.bl.grown w h.bl.size (fun a y=>(G a y).2);have K:Below d.heap.size d (b.setCell ⟨c,5,none⟩ (.slice (some ⟨g,0,none⟩) (j+1) cap)):=X.setCell h.lo.2.1 _;have set:∀{v:Nat}{x:Array Value}{n:TypeId},b.heap[v]?=some (.cells x n (0,0))->n≠iU (aY N.k)->(b.setCell ⟨c,5,none⟩ (.slice (some ⟨g,0,none⟩) (j+1) cap)).heap[v]?=some (.cells x n (0,0)):=fun k F=>
  (heap_setCell_other _ _ _ _ (fun e=>by exact fS k r F e)).trans k
 have J:∀{R:Value}{L:Nat}{M:List Value},b.ownsRow d.heap.size 51 1 R L M->(b.setCell ⟨c,5,none⟩ (.slice (some ⟨g,0,none⟩) (j+1) cap)).ownsRow d.heap.size 51 1 R L M:=fun B=>
  B.kept (row:=some c) ⟨rfl,rfl,rfl,by simp[World.setCell],fun a y q=>heap_setCell_other _ _ _ _ (fun e=>q (by rw[e]))⟩ (by
   cases hv:Value.ownBlock _ with
   |none=>exact .inl rfl
   |some a=>exact .inr (fun e=>by obtain⟨⟨A,t⟩,_⟩:=eR B hv;obtain rfl:=Option.some.inj e;exact fS r t (fp _).1 rfl))
 have S:u.ownBlock=none\/u.ownBlock≠l.ownBlock:=by
  rcases h.fr with e|e
  ·cases hv:u.ownBlock with
   |none=>exact .inl rfl
   |some a=>rw[e];exact .inr (by simp)
  ·exact .inr (Ne.symm e)
 have O:∀a,a<W.heap.size->l.ownBlock≠some a->some g≠some a:=fun a y q e=>by
  obtain rfl:=Option.some.inj e;rcases T with e2|e2
  ·exact q e2
  ·omega
 refine⟨r,⟨⟨set (z h.lk.b (by decide)) (Ne.symm (fp _).2.1),?_,V.keep K⟩,⟨J (h.ns.row.kept w S),?_,?_,h.ns.far,h.ns.rng⟩,set (z h.rb (by decide)) (Ne.symm (fp _).2.2),?_,J B,?_,?_,K,h.lo⟩⟩
 ·have Q:=gJ h.lk.m (w.block _ h.lk.m.lt (fun e=>by obtain⟨⟨A,t⟩,_⟩:=G _ e.symm;exact pi h.lk.m t rfl));exact gJ Q (heap_setCell_other _ _ _ _ (fun e=>by exact pi Q r e))
 ·intro o f i;have k:=z (h.ns.box o f i) (fp _).1;by_cases q:f.b=c
  ·exfalso;have E:=h.ns.box o f i;have e2:=h.bx;unfold bK at E e2;rw[q,e2]at E;have U:=congrArg (fun Y=>match Y with|some (Obj.cells A _ _)=>A[4]?|_=>none) E;simp at U;have am:o<s.length:=(List.getElem?_eq_some_iff.1 i).1;omega
  ·exact(heap_setCell_other _ _ _ _ q).trans k
 ·intro o f i;exact J ((h.ns.kid o f i).kept w (h.fo f (List.mem_of_getElem? i)))
 ·unfold bK at r⊢;have:=heap_setCell_same b c 5 _ _ (.slice (some ⟨g,0,none⟩) (j+1) cap) r;rw[this];simp
 ·refine .inr fun e=>?_;have C:=e.symm;have I:=(h.ns.row.lt g C).2;exact O g I (by rcases S with e2|e2;rw[e2]at C;cases C;rw[C]at e2;exact Ne.symm e2) rfl
 ·intro f i;cases hxk:f.kv.ownBlock with
  |none=>exact .inl rfl
  |some a=>
   refine .inr fun e=>?_;obtain⟨o,af,Z⟩:=List.getElem_of_mem i;have I:=((h.ns.kid o f (by rw[List.getElem?_eq_getElem af,Z])).lt a hxk).2;refine O a I ?_ e.symm;rcases h.fo f i with e2|e2
   ·rw[hxk]at e2;cases e2
   ·rw[hxk]at e2;exact Ne.symm e2
theorem mN.start{b w W:World}{lb mb p a:Nat}{g:Value}{c:List Im}{N:Nd}{vn vk:Value}(C:eF b)(B:dS w b.heap.size g c)(E:w.heap.size<=a)(z:lb≠a)(x:p≠a)(lk:Lk W lb mb g)(ns:dS W b.heap.size g c)(A:jj p W 69 N vn vk)(h:bK W a N vn 0 (.slice none 0 0))(y:Below b.heap.size b W)(lo:b.heap.size<=lb/\b.heap.size<=a/\b.heap.size<=p):
  mN b lb mb p a g c N vn vk (.slice none 0 0) 0 (W.setCell ⟨a,4,none⟩ (.int .i64 c.length)):=by
 have n:Below b.heap.size b (W.setCell ⟨a,4,none⟩ (.int .i64 c.length)):=y.setCell lo.2.1 _;have j:∀{l:Nat},l≠a->(W.setCell ⟨a,4,none⟩ (.int .i64 c.length)).heap[l]?=W.heap[l]?:=fun k=>heap_setCell_other _ _ _ _ k;have r:∀{u:Value}{q:Nat}{s:List Value},W.ownsRow b.heap.size 51 1 u q s->(W.setCell ⟨a,4,none⟩ (.int .i64 c.length)).ownsRow b.heap.size 51 1 u q s:=fun t=>
  t.kept (row:=some a) ⟨rfl,rfl,rfl,by simp[World.setCell],fun o G k=>heap_setCell_other _ _ _ _ (fun e=>k (by rw[e]))⟩ (by
   cases hv:Value.ownBlock _ with
   |none=>exact .inl rfl
   |some o=>exact .inr (fun e=>by obtain⟨⟨F,v⟩,_⟩:=eR t hv;obtain rfl:=Option.some.inj e;exact fS h v (fp _).1 rfl))
 refine⟨⟨(j z).trans lk.b,gJ lk.m (j (fun e=>pi lk.m h e)),C.keep n⟩,⟨r ns.row,fun i d f=>?_,fun i d f=>r (ns.kid i d f),ns.far,ns.rng⟩,(j x).trans A,?_,?_,.inl rfl,fun d f=>?_,n,lo⟩
 ·have:=lt_of_block (B.box i d f);exact(j (by omega)).trans (ns.box i d f)
 ·unfold bK at h⊢;have:=heap_setCell_same W a 4 _ _ (.int .i64 c.length) h;rw[this];simp
 ·rw[List.take_zero];exact World.ownsRow_nil _ _ _ _
 ·cases d.kv.ownBlock with
  |none=>exact .inl rfl
  |some o=>exact .inr (by simp[Value.ownBlock])
theorem iJ(g m:Nat):(⟨g,0,none⟩:Addr).add m=⟨g,m,none⟩:=by unfold Addr.add;split<;>simp_all
theorem mN.done{d:World}{lb mb p v:Nat}{q:Value}{b:List Im}{N:Nd}{vn vk E:Value}{W a:World}(X:eF d)(h:mN d lb mb p v q b N vn vk E N.ks.length W)(T:∀z∈N.ks,0<=z/\z<(b.length:Int)){c:Value}(A:W.grownBy a q.ownBlock)(r:a.ownsRow d.heap.size 51 1 c (b.length+1) (b.map nV++[bi N.k v]))(V:c.ownBlock=q.ownBlock\/c.ownBlock=some W.heap.size):
  a.heap[lb]?=some (.cells #[.map (some mb),q] 155 (0,0))/\
  Lk (a.setCell ⟨lb,1,none⟩ c) lb mb c/\dS (a.setCell ⟨lb,1,none⟩ c) d.heap.size c (b++[⟨N,v,vn,E⟩])/\bK (a.setCell ⟨lb,1,none⟩ c) v N vn b.length E/\Below d.heap.size d (a.setCell ⟨lb,1,none⟩ c):=by
 have I:∀k,q.ownBlock=some k->yG W k/\d.heap.size<=k:=fun k C=>eR h.ns.row C;have G:∀{t:Nat}{B:Array Value}{o:TypeId},W.heap[t]?=some (.cells B o (0,0))->o≠51->a.heap[t]?=some (.cells B o (0,0)):=fun j F=>
  (A.block _ (lt_of_block j) (fun e=>by obtain⟨⟨O,s⟩,_⟩:=I _ e.symm;exact fS j s F rfl)).trans j
 have y:=G h.lk.b (by decide);have Y:Below d.heap.size d a:=h.bl.grown A h.bl.size (fun k C=>(I k C).2);have L:Below d.heap.size d (a.setCell ⟨lb,1,none⟩ c):=Y.setCell h.lo.1 _;have set:∀{t:Nat}{B:Array Value}{o:TypeId},a.heap[t]?=some (.cells B o (0,0))->o≠155->(a.setCell ⟨lb,1,none⟩ c).heap[t]?=some (.cells B o (0,0)):=fun j F=>
  (heap_setCell_other _ _ _ _ (fun e=>by exact fS j y F e)).trans j
 have J:∀{i:Value}{u:Nat}{x:List Value},a.ownsRow d.heap.size 51 1 i u x->(a.setCell ⟨lb,1,none⟩ c).ownsRow d.heap.size 51 1 i u x:=fun r=>
  r.kept (row:=some lb) ⟨rfl,rfl,rfl,by simp[World.setCell],fun k C U=>heap_setCell_other _ _ _ _ (fun e=>U (by rw[e]))⟩ (by
   cases H:Value.ownBlock _ with
   |none=>exact .inl rfl
   |some k=>exact .inr (fun e=>by obtain⟨⟨O,s⟩,_⟩:=eR r H;obtain rfl:=Option.some.inj e;exact fS y s (by decide) rfl))
 have M:bK (a.setCell ⟨lb,1,none⟩ c) v N vn b.length E:=set (G h.bx (fp _).1) (fp _).2.1;have Q:=gJ h.lk.m (A.block _ h.lk.m.lt (fun e=>by obtain⟨⟨O,s⟩,_⟩:=I _ e.symm;exact pi h.lk.m s rfl));have Z:fl b (N.ks.take N.ks.length)=fl b N.ks:=by rw[List.take_length]
 have K:=h.kr;rw[Z]at K;have R:∀{i:Value}{u:Nat}{x:List Value},W.ownsRow d.heap.size 51 1 i u x->(i.ownBlock=none\/i.ownBlock≠q.ownBlock)->(i.ownBlock=none\/i.ownBlock≠c.ownBlock):=fun r H=>by
  rcases H with e|e
  ·exact .inl e
  ·rename_i i u x;cases j:i.ownBlock with
   |none=>exact .inl rfl
   |some k=>
    have:=(r.lt k j).2;rcases V with e2|e2
    ·rw[e2,<-j];exact .inr e
    ·rw[e2];exact .inr (by simp only[ne_eq,Option.some.injEq];omega)
 refine⟨y,⟨heap_setCell_same a lb 1 _ _ _ y,gJ Q (heap_setCell_other _ _ _ _ (fun e=>by exact pi Q y e)),X.keep L⟩,⟨?_,?_,?_,?_,?_⟩,M,L⟩
 ·rw[List.length_append,List.map_append];exact J r
 ·intro f l hx;rcases Nat.lt_or_ge f b.length with g|g
  ·rw[List.getElem?_append_left g]at hx;exact set (G (h.ns.box f l hx) (fp _).1) (fp _).2.1
  ·rw[List.getElem?_append_right g]at hx;obtain⟨w,n⟩:=List.getElem?_eq_some_iff.1 hx;simp at w n;subst n;obtain rfl:f=b.length:=by omega
   exact M
 ·intro f l hx;rcases Nat.lt_or_ge f b.length with g|g
  ·rw[List.getElem?_append_left g]at hx;rw[List.take_append_of_le_length (by omega)];exact J ((h.ns.kid f l hx).kept A (h.ns.far l (List.mem_of_getElem? hx)))
  ·rw[List.getElem?_append_right g]at hx;obtain⟨w,n⟩:=List.getElem?_eq_some_iff.1 hx;simp at w n;subst n;obtain rfl:f=b.length:=by omega
   rw[List.take_left];exact J (K.kept A h.fr)
 ·intro l hx;rcases List.mem_append.1 hx with hx|hx
  ·obtain⟨f,ak,af⟩:=List.getElem_of_mem hx;exact R (h.ns.kid f l (by rw[List.getElem?_eq_getElem ak,af])) (h.ns.far l hx)
  ·obtain rfl:=List.mem_singleton.1 hx;exact R K h.fr
 ·intro f l z hx S;rcases Nat.lt_or_ge f b.length with g|g
  ·rw[List.getElem?_append_left g]at hx;exact h.ns.rng f l z hx S
  ·rw[List.getElem?_append_right g]at hx;obtain⟨w,n⟩:=List.getElem?_eq_some_iff.1 hx;simp at w n;subst n;obtain rfl:f=b.length:=by omega
   exact T z S
def cJ(ns:List Nd)(ks:List Int):List Int:=ks.map fun a=>(ns.getD a.toNat za).k
theorem dS.kids{W:World}{base:Nat}{q:Value}{a:List Im}(h:dS W base q a){ns:List Nd}(r:a.map Im.N=ns.take a.length){i:Nat}{x:Im}(m:a[i]?=some x):cd W x.kv (cJ ns x.N.ks):=by
 have f:=h.kid i x m;have p:(cJ ns x.N.ks).length=x.N.ks.length:=by simp[cJ]
 have y:i<a.length:=(List.getElem?_eq_some_iff.1 m).1;rcases ay f with⟨z,j⟩|⟨t,s,j⟩
 ·exact .inl ⟨List.eq_nil_of_length_eq_zero (by omega),_,_,j⟩
 ·rw[j]at f⊢;refine .inr ⟨⟨t,0,none⟩,s,by rw[p],?_,fun g C d=>?_⟩
  ·rw[p];rcases f.2 with⟨l,_⟩|⟨v,A,E,l,_,_,u,_⟩
   ·cases l
   ·cases l;exact u
  ·unfold cJ at d;rw[List.getElem?_map]at d;cases hz:x.N.ks[g]? with
   |none=>rw[hz]at d;cases d
   |some e=>
    rw[hz]at d;obtain rfl:=Option.some.inj d;obtain⟨z0,B⟩:=h.rng i x e m (List.mem_of_getElem? hz);obtain⟨c,k⟩:∃c,a[e.toNat]?=some c:=⟨a[e.toNat]'(by omega),List.getElem?_eq_getElem _⟩;have o:(ns.getD e.toNat za)=c.N:=by
     have n:(a.map Im.N)[e.toNat]?=some c.N:=by rw[List.getElem?_map,k];rfl
     rw[r,List.getElem?_take,if_pos (by omega)]at n;rw[List.getD_eq_getElem?_getD,n];rfl
    have w:g<x.N.ks.length:=(List.getElem?_eq_some_iff.1 hz).1;refine⟨c.b,?_,?_⟩
    ·rw[iJ,f.cellAt g (by omega)];unfold fl;rw[List.getElem?_map,hz];simp only[Option.map_some];rw[List.getElem?_take,if_pos (by omega),k,o];rfl
    ·show W.cell? ⟨c.b,0,none⟩=some (.int .i64 (ns.getD e.toNat za).k);rw[o];exact(h.box _ c k).cells.1
theorem zY:(Tryz.prog.info? 51).map (fun i=>(i.zero,i.size,i.bytes))=some (some .nilIface,1,16):=by kernel_rfl
def qa(N:Nd):Bool:=decide (0<=N.f/\N.f<=N.t/\0<=N.l/\N.ks.length<=200/\N.nm.length<=200)
def qc(ns:List Nd)(i:Nat)(N:Nd):Bool:=
 qa N&&(lZ (dY N (aY N.k)) N&&(uG N.ks i N.ks.length 0&&(Dz N N.ks.length (aY N.k)&&C0 N (cJ ns N.ks))))
def sx(b:World)(lb mb:Nat)(a:List Im)(ns:List Nd)(N:Nd)(vn:Value)(e:Ending)(d:World):Prop:=
 e= .returned (.bool (qc ns a.length N))/\Below b.heap.size b d/\(qc ns a.length N=true->∃f c,c.N=N/\c.vn=vn/\Lk d lb mb f/\dS d b.heap.size f (a++[c]))
theorem zZ(w:World)(lb:Nat)(N:Nd)(vn vk:Value)(f:aH w vn N.nm)(g:aV w vk N.ks)(c:dP N)(h:qa N=false):
  Calls Tryz.prog 71 #[.pointer (some ⟨lb,0,none⟩),bu N vn vk] w fun e l=>e= .returned (.bool false)/\Below w.heap.size w l:=by
 have b:∀d,Below w.heap.size w (w.alloc d):=fun d=>(Below.refl _ w).alloc (Nat.le_refl _) d;obtain⟨s,F,rfl⟩:=f.form;obtain⟨A,z,rfl⟩:=g.form;have p:=c.l1;have j:=c.l2;unfold qa at h;have a:=of_decide_eq_false h;unfold bu;generalize N.nm.length=o at p a⊢;generalize N.ks.length=m at j a⊢;clear f g c h;obtain⟨B,i,k,n,G,v,y,C,u⟩:=N;simp only at a⊢;by_cases r:i<0
 ·clear a;go_in;go_wp2;go_ret;exact⟨rfl,b _⟩
 by_cases q:k<i
 ·clear a;go_in;go_wp2;go_ret;exact⟨rfl,b _⟩
 by_cases x:n<0
 ·clear a;go_in;go_wp2;go_ret;exact⟨rfl,b _⟩
 by_cases E:(200:Int)<(m:Int)
 ·clear a;go_in;go_wp2;go_ret;exact⟨rfl,b _⟩
 have t:(200:Int)<(o:Int):=by omega
 clear a;go_in;go_wp2;go_ret;exact⟨rfl,b _⟩
theorem uW{W b:World}(c:Below W.heap.size W b){a:Addr}(d:a.block<W.heap.size){r:Bool}(h:W.frozen? a=r):b.frozen? a=r:=by
 rw[<-h];exact World.frozen?_of_block (c.block _ d)
theorem Ky{w:World}{N:Nd}{vn:Value}(h:aH w vn N.nm)(k:Int):aH w (gY vn (aY k)) (dY N (aY k)).nm:=by
 rcases oW k with hc|hc|hc|hc|hc|hc|hc
 ·rw[hc];exact h
 ·rw[hc];exact .inl ⟨rfl,_,_,rfl⟩
 ·rw[hc];exact .inl ⟨rfl,_,_,rfl⟩
 ·rw[hc];exact .inl ⟨rfl,_,_,rfl⟩
 ·rw[hc];exact .inl ⟨rfl,_,_,rfl⟩
 ·rw[hc];exact h
 ·rw[hc];exact .inl ⟨rfl,_,_,rfl⟩
theorem Db{N:Nd}(k:Int)(h:N.nm.length<=1048576):(dY N (aY k)).nm.length<=1048576:=by
 rcases oW k with hc|hc|hc|hc|hc|hc|hc
 ·rw[hc];exact h
 ·rw[hc];exact Nat.zero_le _
 ·rw[hc];exact Nat.zero_le _
 ·rw[hc];exact Nat.zero_le _
 ·rw[hc];exact Nat.zero_le _
 ·rw[hc];exact h
 ·rw[hc];exact Nat.zero_le _
theorem Dc(e w:World)(H:eF e)(K:Below e.heap.size e w)(lb mb:Nat)(ht:e.heap.size<=lb)(a5:Value)(g:List Im)(h:Lk w lb mb a5)(ep:dS w e.heap.size a5 g)(N:Nd)(vn vk:Value)(b7:aH e vn N.nm)(ao:aV e vk N.ks)(L:dP N)(gv:g.length<=3000)(ns:List Nd)(e7:g.map Im.N=ns.take g.length)(Z:ns[g.length]?=some N)(af:∀W,Below e.heap.size e W->Lib.TabIs Tryz.prog W "strings.asciiSpace" .u8 Lib.asciiSpaceTab)(ch:qa N=true):
  Calls Tryz.prog 71 #[.pointer (some ⟨lb,0,none⟩),bu N vn vk] w (sx e lb mb g ns N vn):=by
 have b0:=fun W (ds:Below w.heap.size w W)=>wU W N vn vk (by obtain⟨ec,a9,p⟩:=b7.form;exact⟨_,_,_,p⟩) (by obtain⟨ec,a9,p⟩:=ao.form;exact⟨_,_,_,p⟩);obtain⟨a6,a7⟩:=ah (qc ns g.length N);unfold sx;rw[a7];unfold qc at a7;rw[ch,Bool.true_and]at a7;obtain⟨j,i,rfl⟩:=b7.form;obtain⟨I,F,rfl⟩:=ao.form;unfold qa at ch;obtain⟨f8,hv,f9,gp,ha⟩:=of_decide_eq_true ch;have A:Hid (Lk w lb mb a5/\dS w e.heap.size a5 g/\aH e (.slice j N.nm.length i) N.nm/\aV e (.slice I N.ks.length F) N.ks/\dP N/\g.map Im.N=ns.take g.length/\(∀W,Below e.heap.size e W->Lib.TabIs Tryz.prog W "strings.asciiSpace" .u8 Lib.asciiSpaceTab)/\eF e/\Below e.heap.size e w/\ns[g.length]?=some N):=⟨h,ep,b7,ao,L,e7,af,H,K,Z⟩;have fb:=ab a7;have i1:¬N.f<0:=by omega
 have h5:¬N.t<N.f:=by omega
 have hM:¬N.l<0:=by omega
 unfold bu at b0⊢;obtain⟨k,el⟩:=ah N.nm.length;obtain⟨o,dq⟩:=ah N.ks.length;have cm:=cK el dq;rw[el]at b0 A ha⊢;rw[dq]at b0 A gp⊢;have i8:¬(200:Int)<(o:Int):=by omega
 have hZ:¬(200:Int)<(k:Int):=by omega
 have hX:lb<w.heap.size:=lt_of_block A.out.1.b;clear el dq b7 ao L e7 af H K h ep a7 ch f8 hv f9 Z;go_in;go_wp2_with fail;have cl:Below w.heap.size w (w.alloc (.cells #[.int .i64 N.k,.int .i64 N.f,.int .i64 N.t,.int .i64 N.l,.int .i64 N.op,.int .i64 N.n,.string N.x,.slice j k i,.slice I o F] 69)):=(Below.refl _ w).alloc (Nat.le_refl _) _;have cT:jj w.heap.size (w.alloc (.cells #[.int .i64 N.k,.int .i64 N.f,.int .i64 N.t,.int .i64 N.l,.int .i64 N.op,.int .i64 N.n,.string N.x,.slice j k i,.slice I o F] 69)) 69 N (.slice j k i) (.slice I o F):=heap_alloc_new w _;have e6:(w.alloc (.cells #[.int .i64 N.k,.int .i64 N.f,.int .i64 N.t,.int .i64 N.l,.int .i64 N.op,.int .i64 N.n,.string N.x,.slice j k i,.slice I o F] 69)).heap.size=w.heap.size+1:=World.size_alloc _ _;generalize w.alloc (.cells #[.int .i64 N.k,.int .i64 N.f,.int .i64 N.t,.int .i64 N.l,.int .i64 N.op,.int .i64 N.n,.string N.x,.slice j k i,.slice I o F] 69)=fF at cl cT e6⊢;refine(b0 fF cl).mono ?_;rintro p z ⟨rfl,bh,d9⟩;rw[e6]at bh⊢;obtain⟨n,hH⟩:=ah (w.heap.size+1+1+1);rw[hH]at bh⊢;have dk:=cT.below d9;have b5:Below w.heap.size w z:=cl.trans (d9.mono (by omega));obtain⟨bs,b2,bb,b1,bd,b6,bN,bo,bE,hp⟩:=ad dk;have ct:Below z.heap.size z z.drew:=aE (Below.refl _ z);have c7:aH z.drew (.slice j k i) N.nm:=((A.out.2.2.1.below A.out.2.2.2.2.2.2.2.2.1).below b5).below ct;have R:=qG z.drew n N (.slice j k i) (.slice none 0 0) 0 ⟨_,_,_,rfl⟩ (bh.below ct);have Y:=fun W (ds:Below z.drew.heap.size z.drew W)=>oq W (dY N (aY N.k)) N (gY (.slice j k i) (aY N.k)) (.slice none 0 0) (.slice j k i) (.slice I o F) ((Ky c7 N.k).below ds) (c7.below ds) ⟨_,_,_,rfl⟩ ⟨_,_,_,rfl⟩ (Db _ A.out.2.2.2.2.1.l1) A.out.2.2.2.2.1.l1;obtain⟨hQ,hV,h2,e8⟩:∃ec fB a9,gY (.slice j k i) (aY N.k)= .slice ec fB a9:=by
  unfold gY;split<;>exact⟨_,_,_,rfl⟩
 rw[e8]at R Y;unfold bu at R Y;obtain⟨f0,ek⟩:=ah (lZ (dY N (aY N.k)) N);rw[ek]at Y;have b9:=ab ek;obtain⟨iy,c6⟩:=ah (dY N (aY N.k));rw[c6]at R Y b9;clear ek c7 e8 b0 cT cl d9;have gr:=fun w=>gw N.k n w;have hw:=fun w=>bm n w;unfold bi at R⊢;have i5:Hid (eK (aY N.k)=eK (aY N.k)):=rfl;generalize cP:eK (aY N.k)=ea at R gr⊢;go_wp2_with fail;cases f0 with
 |false=>
  have G:Hid (false=a6):=by have:=fb.out;rw[c6,b9.out,Bool.false_and]at this;exact this
  go_region_held3 (fun q=>q.cell? ⟨w.heap.size,0,none⟩=some (.int .i64 N.k)/\q.cell? ⟨w.heap.size,1,none⟩=some (.int .i64 N.f)/\q.cell? ⟨w.heap.size,2,none⟩=some (.int .i64 N.t)/\q.cell? ⟨w.heap.size,3,none⟩=some (.int .i64 N.l)/\q.cell? ⟨w.heap.size,4,none⟩=some (.int .i64 N.op)/\q.cell? ⟨w.heap.size,5,none⟩=some (.int .i64 N.n)/\q.cell? ⟨w.heap.size,6,none⟩=some (.string N.x)/\q.cell? ⟨w.heap.size,7,none⟩=some (.slice j k i)/\q.cell? ⟨w.heap.size,8,none⟩=some (.slice I o F)) (first|go_keep|exact⟨aa m (aa a bs),aa m (aa a b2),aa m (aa a bb),aa m (aa a b1),aa m (aa a bd),aa m (aa a b6),aa m (aa a bN),aa m (aa a bo),aa m (aa a bE)⟩|exact⟨aa a bs,aa a b2,aa a bb,aa a b1,aa a bd,aa a b6,aa a bN,aa a bo,aa a bE⟩) (first|(go_at_call 34;refine R.mono ?_;rintro p f7 ⟨rfl,a⟩)|(go_at_call 139;refine(Y _ a).mono ?_;rintro p V ⟨rfl,m⟩))
  go_wp2_with fail;go_ret;have fz:Below w.heap.size w V:=b5.trans (((aE (Below.refl _ z)).trans (a.trans (m.mono a.size))).mono b5.size);exact⟨by rw[<-G.out];rfl,A.out.2.2.2.2.2.2.2.2.1.trans (fz.mono A.out.2.2.2.2.2.2.2.2.1.size),fun h=>by rw[<-G.out]at h;cases h⟩
 |true=>
  have hA:Hid ((uG N.ks g.length N.ks.length 0&&(Dz N N.ks.length (aY N.k)&&C0 N (cJ ns N.ks)))=a6):=by have:=fb.out;rw[c6,b9.out,Bool.true_and]at this;exact this
  go_region_held3 (fun q=>q.cell? ⟨w.heap.size,0,none⟩=some (.int .i64 N.k)/\q.cell? ⟨w.heap.size,1,none⟩=some (.int .i64 N.f)/\q.cell? ⟨w.heap.size,2,none⟩=some (.int .i64 N.t)/\q.cell? ⟨w.heap.size,3,none⟩=some (.int .i64 N.l)/\q.cell? ⟨w.heap.size,4,none⟩=some (.int .i64 N.op)/\q.cell? ⟨w.heap.size,5,none⟩=some (.int .i64 N.n)/\q.cell? ⟨w.heap.size,6,none⟩=some (.string N.x)/\q.cell? ⟨w.heap.size,7,none⟩=some (.slice j k i)/\q.cell? ⟨w.heap.size,8,none⟩=some (.slice I o F)) (first|go_keep|exact⟨aa m (aa a bs),aa m (aa a b2),aa m (aa a bb),aa m (aa a b1),aa m (aa a bd),aa m (aa a b6),aa m (aa a bN),aa m (aa a bo),aa m (aa a bE)⟩|exact⟨aa a bs,aa a b2,aa a bb,aa a b1,aa a bd,aa a b6,aa a bN,aa a bo,aa a bE⟩) (first|(go_at_call 34;refine R.mono ?_;rintro p f7 ⟨rfl,a⟩)|(go_at_call 139;refine(Y _ a).mono ?_;rintro p V ⟨rfl,m⟩))
  have cn:Below z.heap.size z V:=(aE (Below.refl _ z)).trans (a.trans (m.mono a.size));have cr:Below w.heap.size w V:=b5.trans (cn.mono b5.size);obtain⟨lk,ar,cc,eh,L,cg,af,H,K,Z⟩:=A.out;have eq:Below e.heap.size e V:=K.trans (cr.mono K.size);have eg:=lk.below cr;have ed:=ar.below cr;have fk:=dk.below cn;have bt:=bh.below cn;have hx:=K.size;have d:=mN.start H ar (by omega) (by omega) (by omega) eg ed fk bt eq ⟨ht,by omega,hx⟩;obtain⟨T,X,am⟩:=aB ed.row;have es:V.cell? ⟨lb,1,none⟩=some (.slice T g.length X):=by rw[<-am,cell_of_row _ _ _ _ _ _ eg.b];rfl
  have dn:=bt.cells.2.2.2.1;have cx:=bt.cells.2.2.2.2.2;have g6:n<V.heap.size:=lt_of_block bt;have bk:=ab d;obtain⟨nL,c9⟩:=ah g.length;rw[c9]at es bk gv;have J:=ab c9;clear d eg ed fk bt cn lk ar cc eh L cg af H K Z bs b2 bb b1 bd b6 bN bo bE hp R Y bh dk ct b9 c9;go_wp2_with (go_at_call 265;refine(hw _).mono ?_;rintro p s ⟨rfl,rfl⟩);obtain⟨ey,fc,e1,ex,fm⟩:=info_parts zY;clear es dn cx cr eq g6 am;go_loopw [54] (fun eb wr=>∃(c:Nat) (fq:Value),eb= .int .i64 c/\c<=o/\Hid ((uG N.ks nL (o-c) c&&(Dz N o (aY N.k)&&C0 N (cJ ns N.ks)))=a6)/\Hid (∀r∈N.ks.take c,0<=r/\r<(nL:Int))/\Hid (mN e lb mb w.heap.size n a5 g N (.slice j k i) (.slice I o F) fq c wr)) (fun eb _=>o-(intOf eb).toNat)
  case atStart=>
   refine⟨0,_,rfl,Nat.zero_le _,?_,fun r M=>by simp at M,bk.out⟩;have:=hA.out;rw[J.out,cm.out.2]at this;exact this
  case round=>
   obtain⟨c,fq,rfl,hP,cf,ev,bw⟩:=hrel;clear bk;have d:=bw.out;have E:=cf.out;by_cases gt:c<o
   ·obtain⟨r,M⟩:=aF cm.out.2 gt;obtain⟨hI,hh,hT⟩:=(A.out.2.2.2.1.below d.bl).get M;subst hh;have i4:(c:Int)<(o:Int):=by omega
    have h7:(0:Int)<=(c:Int):=by omega
    have dn:=d.bx.cells.2.2.2.1;rw[J.out]at dn;rw[show o-c=(o-(c+1))+1 by omega,uG,List.getD_eq_getElem?_getD,M,Option.getD_some]at E;by_cases an:0<=r/\r<(nL:Int)
    ·obtain⟨c5,rfl⟩:=Int.eq_ofNat_of_zero_le an.1;have gu:c5<nL:=by omega
     obtain⟨S,cN⟩:=aF J.out gu;have a0:=d.ns.row;rw[J.out]at a0;rcases ay a0 with⟨ih,_⟩|⟨b4,cs,am⟩
     ·omega
     subst am;have gb:wr.cell? ⟨lb,1,none⟩=some (.slice (some ⟨b4,0,none⟩) nL cs):=by rw[cell_of_row _ _ _ _ _ _ d.lk.b];rfl
     have e9:wr.cell? ⟨b4,c5,none⟩=some (.iface (eK (aY S.N.k)) (.pointer (some ⟨S.b,0,none⟩))):=by
      rw[a0.cellAt c5 (by omega),List.getElem?_map,cN];rfl
     obtain⟨v,u,cw⟩:=aB d.kr;subst cw;have hG:=d.bx.cells.2.2.2.2.1;have cx:=d.bx.cells.2.2.2.2.2 5;have fn:=d.kr;have en:Hid (fl g (N.ks.take (c+1))=fl g (N.ks.take c)++[.iface (eK (aY S.N.k)) (.pointer (some ⟨S.b,0,none⟩))]):=by
      show _=_;rw[List.take_add_one,M];unfold fl;rw[List.map_append];simp[cN,nV,bi]
     have ge:Hid ((uG N.ks nL (o-(c+1)) (c+1)&&(Dz N o (aY N.k)&&C0 N (cJ ns N.ks)))=a6):=by
      rw[decide_eq_true an,Bool.true_and]at E;exact E
     have g7:Hid (∀r∈N.ks.take (c+1),0<=r/\r<(nL:Int)):=fun r fg=>by
      rw[List.take_add_one,M]at fg;rcases List.mem_append.1 fg with h|h
      ·exact ev.out r h
      ·simp at h;subst h;exact an
     have gf:lb<wr.heap.size:=lt_of_block d.lk.b;have gn:n<wr.heap.size:=lt_of_block d.bx;have hK:b4<wr.heap.size:=(a0.lt b4 rfl).2;have cF:∀cB,(Value.slice v c u).ownBlock=some cB->yG wr cB:=fun cB ao=>(eR fn ao).1;have hJ:some lb≠(Value.slice v c u).ownBlock:=fun p=>by obtain⟨a9,a4⟩:=cF lb p.symm;exact fS d.lk.b a4 (by decide) rfl
     have fd:some n≠(Value.slice v c u).ownBlock:=fun p=>by obtain⟨a9,a4⟩:=cF n p.symm;exact fS d.bx a4 (fp _).1 rfl
     have i7:some b4≠(Value.slice v c u).ownBlock:=fun p=>by
      rcases d.fr with e2|e2
      ·rw[e2]at p;cases p
      ·exact e2 p.symm
     have gd:e.heap.size<=wr.heap.size:=d.bl.size;have f6:Hid (eK (aY S.N.k)=eK (aY S.N.k)):=rfl;generalize eK (aY S.N.k)=em at e9 en f6;generalize S.b=ei at e9 en;have b3:∀C,Below wr.heap.size wr (wr.alloc C).drew:=fun C=>aE ((Below.refl _ wr).alloc (Nat.le_refl _) C);clear d E cN M an a0 cF;go_wp2_with fail;go_region_law (refine step_append_lies _ (by rfl) _ _ _ (by rfl) e.heap.size 51 ey _ 1 16 Tryz.underlying92 fc e1 ex fm rfl (by omega) (.slice v c u) c (fl g (N.ks.take c)) (by rfl) ((fn.alloc _).drew) ⟨wr.heap.size,0,none⟩ 1 1 [.iface em (.pointer (some ⟨ei,0,none⟩))] (by rfl) (by rfl) (World.news_of_block (cs:=#[.iface em (.pointer (some ⟨ei,0,none⟩))]) (t:=51) (fr:=(0,0)) (heap_alloc_new wr _)) (by simp[Value.oneCell']) (by omega) (by unfold maxLen;omega) (by omega) (by simp;omega) (wr.heap.size+1) (by simp) ?_;intro i6 h8 s br a8 cI i3;have h9:=(a8.cell_far ⟨n,5,none⟩ (by simp;omega) fd).trans (aa (b3 _) hG);have ii:=(a8.frozen_far ⟨n,5,none⟩ (by simp;omega) fd).trans (uW (b3 _) gn cx))
     all_goals
      go_wp2_with fail;obtain⟨_,ar,_,_,_,_,_,H,_,_⟩:=A.out;have hs:=bw.out.below (b3 (.cells #[.iface em (.pointer (some ⟨ei,0,none⟩))] 51));rw[<-en.out]at br;obtain⟨_,stB⟩:=hs.kid H a8 br cI (by simp);exact⟨⟨c+1,_,by go_num,by omega,ge,g7,stB⟩,by simp[intOf];omega⟩
    ·have G:Hid (false=a6):=by rw[decide_eq_false an,Bool.false_and,Bool.false_and]at E;exact E
     have fu:=d.bl;by_cases hO:r<0
     ·clear E d bw cf M;go_wp2_with fail;go_ret;exact⟨by rw[<-G.out];rfl,fu,fun h=>by rw[<-G.out]at h;cases h⟩
     ·have i2:¬r<(nL:Int):=by omega
      clear E d bw cf M an;go_wp2_with fail;go_ret;exact⟨by rw[<-G.out];rfl,fu,fun h=>by rw[<-G.out]at h;cases h⟩
   ·obtain rfl:c=o:=by omega
    rw[Nat.sub_self,uG,Bool.true_and]at E;obtain⟨v,u,cw⟩:=aB d.kr;subst cw;obtain⟨T,X,am⟩:=aB d.ns.row;subst am;rw[J.out];have gb:wr.cell? ⟨lb,1,none⟩=some (.slice T nL X):=by rw[<-J.out,cell_of_row _ _ _ _ _ _ d.lk.b];rfl
    have c8:=d.ns.row;rw[J.out]at c8;have gd:e.heap.size<=wr.heap.size:=d.bl.size;have gf:lb<wr.heap.size:=lt_of_block d.lk.b;have b3:∀C,Below wr.heap.size wr (wr.alloc C):=fun C=>(Below.refl _ wr).alloc (Nat.le_refl _) C;have bk:=ab d;have g8:=ab E;have hd:=ab c8;clear E d bw cf c8;obtain⟨_,ar,cc,eh,L,cg,af,H,K,Z⟩:=A.out;have hD:Hid (∀C s B y,(wr.alloc C).grownBy s (Value.slice T nL X).ownBlock->s.ownsRow e.heap.size 51 1 (.slice (some ⟨B,0,none⟩) (nL+1) y) (nL+1) (g.map nV++[.iface ea (.pointer (some ⟨n,0,none⟩))])->((Value.slice (some ⟨B,0,none⟩) (nL+1) y).ownBlock=(Value.slice T nL X).ownBlock\/(Value.slice (some ⟨B,0,none⟩) (nL+1) y).ownBlock=some (wr.alloc C).heap.size)->
      s.heap[lb]?=some (.cells #[.map (some mb),.slice T nL X] 155 (0,0))/\Lk (s.setCell ⟨lb,1,none⟩ (.slice (some ⟨B,0,none⟩) (nL+1) y)) lb mb (.slice (some ⟨B,0,none⟩) (nL+1) y)/\dS (s.setCell ⟨lb,1,none⟩ (.slice (some ⟨B,0,none⟩) (nL+1) y)) e.heap.size (.slice (some ⟨B,0,none⟩) (nL+1) y) (g++[⟨N,n,.slice j k i,.slice v c u⟩])/\bK (s.setCell ⟨lb,1,none⟩ (.slice (some ⟨B,0,none⟩) (nL+1) y)) n N (.slice j k i) nL (.slice v c u)/\Below e.heap.size e (s.setCell ⟨lb,1,none⟩ (.slice (some ⟨B,0,none⟩) (nL+1) y))):=by
     intro C s B y hl hC cI;have hE:=bk.out.below (b3 C);have c4:=J.out;have cz:=cm.out.2;subst cz;subst c4;have g9:∀r∈N.ks,0<=r/\r<(g.length:Int):=by
      have:=ev.out;rw[List.take_length]at this;exact this
     refine hE.done H g9 hl ?_ cI;unfold bi;rw[cP];exact hC
    clear ar K H;go_wp2_with (at_builtin;refine wpList_append_own_at _ rfl _ _ 92 rfl e.heap.size 51 ey _ 1 16 Tryz.underlying92 fc e1 ex fm rfl (by decide) _ _ _ rfl (hd.out.alloc _) ⟨wr.heap.size,0,none⟩ 1 1 [.iface ea (.pointer (some ⟨n,0,none⟩))] rfl rfl (World.news_of_block (cs:=#[.iface ea (.pointer (some ⟨n,0,none⟩))]) (fr:=(0,0)) (heap_alloc_new wr _)) (by intro h4 et;simp at et;subst et;rfl) (by unfold maxLen;omega) (by omega) (by simp;omega) ?_;intro h0 s br a8 hY hq;obtain⟨B,y,rfl⟩:=ownsRow_succ br;obtain⟨fa,cb,ca,b8,al⟩:=hD.out _ s B y a8 br hq;have h3:s.cell? ⟨lb,1,none⟩=some (.slice T nL X):=by {rw[cell_of_row _ _ _ _ _ _ fa];rfl};have h1:s.frozen? ⟨lb,1,none⟩=false:=frozen_of_row _ _ _ _ _ fa);generalize s.setCell ⟨lb,1,none⟩ (.slice (some ⟨B,0,none⟩) (nL+1) y)=g0 at cb ca b8 al⊢;have c4:=J.out;have cz:=cm.out.2;have eN:(g++[⟨N,n,.slice j k i,.slice v c u⟩])[nL]?=some ⟨N,n,.slice j k i,.slice v c u⟩:=by rw[<-c4];simp
    have fo:(g++[(⟨N,n,.slice j k i,.slice v c u⟩:Im)]).map Im.N=ns.take (g++[(⟨N,n,.slice j k i,.slice v c u⟩:Im)]).length:=by
     rw[List.map_append,cg,List.length_append,List.length_singleton,List.take_add_one,Z];rfl
    have ff:=ca.kids fo eN;have O:=pY g0 lb mb _ cb n N (.slice j k i) nL v c u (by omega) (cc.below al) L.l1 L.ls L.lx b8;unfold bi at O;rw[cP]at O;have Q:=g8.out;cases hfb:Dz N c (aY N.k) with
    |false=>
     rw[hfb]at O Q;rw[Bool.false_and]at Q;have G:=ab Q;refine O.mono ?_;rintro p e3 ⟨rfl,U⟩;have ap:=al.trans (U.mono al.size);clear Q hfb O;go_wp2_with fail;go_ret;exact⟨by rw[<-G.out];rfl,ap,fun h=>by rw[<-G.out]at h;cases h⟩
    |true=>
     rw[hfb]at O Q;rw[Bool.true_and]at Q;have e0:aY N.k=1->0<=N.n/\N.n<=200:=fun a4=>by
      rw[a4]at hfb;have:=of_decide_eq_true (show decide (1<=N.n/\N.n<(c:Int))=true from hfb);omega
     refine O.mono ?_;rintro p e3 ⟨rfl,U⟩;have ap:=al.trans (U.mono al.size);have hb:=cb.below U;have hm:=ca.below U;have fv:(cJ ns N.ks).length<=1048576:=by unfold cJ;rw[List.length_map,cz];omega
     have cq:=uQ e3 n N (.slice j k i) (.slice v c u) nL (cJ ns N.ks) (ff.below U) fv (fun W fA=>af W (ap.trans (fA.mono ap.size))) (b8.below U) e0;rw[Q]at cq;unfold bi at cq;rw[cP]at cq;clear Q hfb O e0 ff eN fo cb ca b8 Z cg af L cc eh;go_wp2_with (go_at_call 141;refine cq.mono ?_;rintro p h6 ⟨rfl,c0⟩);go_ret;exact⟨rfl,ap.trans (c0.mono ap.size),fun _=>⟨_,_,rfl,rfl,hb.below c0,hm.below c0⟩⟩
theorem Dd(a w:World)(q:eF a)(c:Below a.heap.size a w)(lb mb:Nat)(m:a.heap.size<=lb)(d:Value)(b:List Im)(h:Lk w lb mb d)(n:dS w a.heap.size d b)(N:Nd)(vn vk:Value)(f:aH a vn N.nm)(e:aV a vk N.ks)(i:dP N)(o:b.length<=3000)(ns:List Nd)(p:b.map Im.N=ns.take b.length)(k:ns[b.length]?=some N)(l:∀W,Below a.heap.size a W->Lib.TabIs Tryz.prog W "strings.asciiSpace" .u8 Lib.asciiSpaceTab):
  Calls Tryz.prog 71 #[.pointer (some ⟨lb,0,none⟩),bu N vn vk] w (sx a lb mb b ns N vn):=by
 cases hf:qa N with
 |true=>exact Dc a w q c lb mb m d b h n N vn vk f e i o ns p k l hf
 |false=>
  refine au (zZ w lb N vn vk (f.below c) (e.below c) i hf) fun r j=>?_;have g:qc ns b.length N=false:=by unfold qc;rw[hf,Bool.false_and]
  exact⟨by rw[g],c.trans (j.mono c.size),fun h=>by rw[g]at h;cases h⟩
end Go.Proofs.YtcbmoiabehpliaaGreatDoor
