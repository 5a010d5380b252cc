import Derived.Test.YtkfgnpcanadjhaaGreatDoorHSk21
set_option linter.all false
set_option maxRecDepth 100000
set_option maxHeartbeats 12800000
namespace Go.Proofs.YtkfgnpcanadjhaaGreatDoor
open Go.RowKit Go.Maps Go.WideMaps
def rc(r:List Int):List Value:=(r++List.replicate (6-r.length) 0).map (Value.int .u8)
def akx(R:List (Int×List (List Int)))(a:Int):List (List Int):=((R.find? (fun b=>b.1==a)).map (·.2)).getD []
def aiA:Array Value:=#[.int .i64 26,.int .i64 1,.int .i64 2,.int .i64 10,.int .i64 2,.int .i64 3,.int .i64 73,.int .i64 3,.int .i64 4,.int .i64 74,.int .i64 3,.int .i64 4,.int .i64 75,.int .i64 3,.int .i64 4,.int .i64 76,.int .i64 3,.int .i64 4,.int .i64 77,.int .i64 3,.int .i64 4,.int .i64 78,.int .i64 3,.int .i64 4,
 .int .i64 72,.int .i64 4,.int .i64 4,.int .i64 68,.int .i64 5,.int .i64 6,.int .i64 69,.int .i64 6,.int .i64 7,.int .i64 67,.int .i64 7,.int .i64 8,.int .i64 70,.int .i64 8,.int .i64 9,.int .i64 71,.int .i64 8,.int .i64 9,.int .i64 61,.int .i64 9,.int .i64 10,.int .i64 62,.int .i64 9,.int .i64 10,
 .int .i64 63,.int .i64 10,.int .i64 11,.int .i64 64,.int .i64 10,.int .i64 11,.int .i64 65,.int .i64 10,.int .i64 11,.int .i64 66,.int .i64 10,.int .i64 11]
theorem wC.start{b w W:World}{lb mb p a:Nat}{i:Value}{L:List Im}{N:Nd}{vn vk:Value}(z:mC b)(x:jm w b.heap.size i L)(G:w.heap.size<=a)(A:lb≠a)(B:p≠a)(lk:Lk W lb mb i)(f:jm W b.heap.size i L)(C:nc p W 50 N vn vk)(bx:gl W a N vn 0 (.slice none 0 0))(v:Below b.heap.size b W)(q:b.heap.size<=lb/\b.heap.size<=a/\b.heap.size<=p):
  wC b lb mb p a i L N vn vk (.slice none 0 0) 0 (W.setCell ⟨a,4,none⟩ (.int .i64 L.length)):=by
 have n:Below b.heap.size b (W.setCell ⟨a,4,none⟩ (.int .i64 L.length)):=v.setCell q.2.1 _
 have h:∀{j:Nat},j≠a->(W.setCell ⟨a,4,none⟩ (.int .i64 L.length)).heap[j]?=W.heap[j]?:=fun k=>aK _ _ _ _ k
 have s:∀{t:Value}{r:Nat}{u:List Value},W.ownsRow b.heap.size 45 1 t r u->(W.setCell ⟨a,4,none⟩ (.int .i64 L.length)).ownsRow b.heap.size 45 1 t r u:=fun l=>
  l.kept (row:=some a) ⟨rfl,rfl,rfl,by simp[World.setCell],fun o F k=>aK _ _ _ _ (fun d=>k (by rw[d]))⟩ (by
   cases hv:Value.ownBlock _ with
   |none=>exact .inl rfl
   |some o=>exact .inr (fun d=>by obtain⟨⟨E,y⟩,_⟩:=lG l hv;obtain rfl:=bh d;exact nJ bx y (mp _).1 rfl))
 refine⟨⟨(h A).trans lk.b,pA lk.m (h (fun d=>zj lk.m bx d)),z.keep n⟩,⟨s f.row,fun g c e=>?_,fun g c e=>s (f.kid g c e),f.far,f.rng⟩,(h B).trans C,?_,?_,.inl rfl,fun c e=>?_,n,q⟩
 ·have:=aw (x.box g c e)
  exact(h (by omega)).trans (f.box g c e)
 ·unfold gl at bx⊢
  have:=bI W a 4 _ _ (.int .i64 L.length) bx
  rw[this]
  simp
 ·rw[Bp];exact dy _ _ _ _
 ·cases c.kv.ownBlock with
  |none=>exact .inl rfl
  |some o=>exact .inr (by simp[Value.ownBlock])
theorem qy(g m:Nat):(⟨g,0,none⟩:Addr).add m=⟨g,m,none⟩:=by unfold Addr.add;split<;>simp_all
theorem wC.done{d:World}{lb mb p s:Nat}{q:Value}{L:List Im}{N:Nd}{vn vk C:Value}{W b:World}(ar:mC d)(a:wC d lb mb p s q L N vn vk C N.ks.length W)(a2:∀z∈N.ks,0<=z/\z<(L.length:Int)){c:Value}(w:W.grownBy b q.ownBlock)(o:b.ownsRow d.heap.size 45 1 c (L.length+1) (L.map nV++[gC N.k s]))(ap:c.ownBlock=q.ownBlock\/c.ownBlock=some W.heap.size):
  b.heap[lb]?=some (.cells #[.map (some mb),q] 98 (0,0))/\
  Lk (b.setCell ⟨lb,1,none⟩ c) lb mb c/\jm (b.setCell ⟨lb,1,none⟩ c) d.heap.size c (L++[⟨N,s,vn,C⟩])/\gl (b.setCell ⟨lb,1,none⟩ c) s N vn L.length C/\Below d.heap.size d (b.setCell ⟨lb,1,none⟩ c):=by
 have F:∀k,q.ownBlock=some k->IK W k/\d.heap.size<=k:=fun k B=>lG a.ns.row B
 have I:∀{r:Nat}{t:Array Value}{n:TypeId},W.heap[r]?=some (.cells t n (0,0))->n≠45->b.heap[r]?=some (.cells t n (0,0)):=fun i G=>
  (w.block _ (aw i) (fun e=>by obtain⟨⟨ad,v⟩,_⟩:=F _ e.symm;exact nJ i v G rfl)).trans i
 have x:=I a.lk.b (by decide)
 have an:Below d.heap.size d b:=a.bl.grown w a.bl.size (fun k B=>(F k B).2)
 have al:Below d.heap.size d (b.setCell ⟨lb,1,none⟩ c):=an.setCell a.lo.1 _
 have set:∀{r:Nat}{t:Array Value}{n:TypeId},b.heap[r]?=some (.cells t n (0,0))->n≠98->(b.setCell ⟨lb,1,none⟩ c).heap[r]?=some (.cells t n (0,0)):=fun i G=>
  (aK _ _ _ _ (fun e=>by exact nJ i x G e)).trans i
 have J:∀{h:Value}{y:Nat}{A:List Value},b.ownsRow d.heap.size 45 1 h y A->(b.setCell ⟨lb,1,none⟩ c).ownsRow d.heap.size 45 1 h y A:=fun o=>
  o.kept (row:=some lb) ⟨rfl,rfl,rfl,by simp[World.setCell],fun k B a1=>aK _ _ _ _ (fun e=>a1 (by rw[e]))⟩ (by
   cases H:Value.ownBlock _ with
   |none=>exact .inl rfl
   |some k=>exact .inr (fun e=>by obtain⟨⟨ad,v⟩,_⟩:=lG o H;obtain rfl:=bh e;exact nJ x v (by decide) rfl))
 have K:gl (b.setCell ⟨lb,1,none⟩ c) s N vn L.length C:=set (I a.bx (mp _).1) (mp _).2.1
 have ak:=pA a.lk.m (w.block _ a.lk.m.lt (fun e=>by obtain⟨⟨ad,v⟩,_⟩:=F _ e.symm;exact zj a.lk.m v rfl))
 have av:lh L (N.ks.take N.ks.length)=lh L N.ks:=by rw[xe]
 have E:=a.kr
 rw[av]at E
 have af:∀{h:Value}{y:Nat}{A:List Value},W.ownsRow d.heap.size 45 1 h y A->(h.ownBlock=none\/h.ownBlock≠q.ownBlock)->(h.ownBlock=none\/h.ownBlock≠c.ownBlock):=fun o H=>by
  rcases H with e|e
  ·exact .inl e
  ·rename_i h y A
   cases i:h.ownBlock with
   |none=>exact .inl rfl
   |some k=>
    have:=(o.lt k i).2
    rcases ap with e2|e2
    ·rw[e2,<-i];exact .inr e
    ·rw[e2];exact .inr (by simp only[ne_eq,fe];omega)
 refine⟨x,⟨bI b lb 1 _ _ _ x,pA ak (aK _ _ _ _ (fun e=>by exact zj ak x e)),ar.keep al⟩,⟨?_,?_,?_,?_,?_⟩,K,al⟩
 ·rw[aD,dm];exact J o
 ·intro f j hx
  rcases ci f L.length with g|g
  ·rw[gL g]at hx
   exact set (I (a.ns.box f j hx) (mp _).1) (mp _).2.1
  ·rw[gq g]at hx
   obtain⟨u,l⟩:=List.getElem?_eq_some_iff.1 hx
   simp at u l
   subst l
   obtain rfl:f=L.length:=by omega
   exact K
 ·intro f j hx
  rcases ci f L.length with g|g
  ·rw[gL g]at hx
   rw[List.take_append_of_le_length (by omega)]
   exact J ((a.ns.kid f j hx).kept w (a.ns.far j (bJ hx)))
  ·rw[gq g]at hx
   obtain⟨u,l⟩:=List.getElem?_eq_some_iff.1 hx
   simp at u l
   subst l
   obtain rfl:f=L.length:=by omega
   rw[List.take_left]
   exact J (E.kept w a.fr)
 ·intro j hx
  rcases List.mem_append.1 hx with hx|hx
  ·obtain⟨f,a0,ao⟩:=gh hx
   exact af (a.ns.kid f j (by rw[aF a0,ao])) (a.ns.far j hx)
  ·obtain rfl:=List.mem_singleton.1 hx
   exact af E a.fr
 ·intro f j z hx am
  rcases ci f L.length with g|g
  ·rw[gL g]at hx
   exact a.ns.rng f j z hx am
  ·rw[gq g]at hx
   obtain⟨u,l⟩:=List.getElem?_eq_some_iff.1 hx
   simp at u l
   subst l
   obtain rfl:f=L.length:=by omega
   exact a2 z am
def kinds(a:List Nd)(ks:List Int):List Int:=ks.map fun b=>(a.getD b.toNat Hy).k
theorem jm.kids{W:World}{base:Nat}{u:Value}{L:List Im}(h:jm W base u L){e:List Nd}(t:L.map Im.N=e.take L.length){i:Nat}{x:Im}(k:L[i]?=some x):ga W x.kv (kinds e x.N.ks):=by
 have f:=h.kid i x k
 have o:(kinds e x.N.ks).length=x.N.ks.length:=by simp[kinds]
 have z:i<L.length:=(List.getElem?_eq_some_iff.1 k).1
 rcases bg f with⟨B,g⟩|⟨r,q,g⟩
 ·exact .inl ⟨fj (by omega),_,_,g⟩
 ·rw[g]at f⊢
  refine .inr ⟨⟨r,0,none⟩,q,by rw[o],?_,fun m C c=>?_⟩
  ·rw[o]
   rcases f.2 with⟨j,_⟩|⟨y,v,w,j,_,_,s,_⟩
   ·cases j
   ·cases j;exact s
  ·unfold kinds at c
   rw[bq]at c
   cases hz:x.N.ks[m]? with
   |none=>rw[hz]at c;cases c
   |some d=>
    rw[hz]at c
    obtain rfl:=bh c
    obtain⟨z0,E⟩:=h.rng i x d k (bJ hz)
    obtain⟨a,l⟩:∃a,L[d.toNat]?=some a:=⟨L[d.toNat]'(by omega),aF _⟩
    have p:(e.getD d.toNat Hy)=a.N:=by
     have n:(L.map Im.N)[d.toNat]?=some a.N:=by rw[bq,l];rfl
     rw[t,iE,ab (by omega)]at n
     rw[aL,n];rfl
    have A:m<x.N.ks.length:=(List.getElem?_eq_some_iff.1 hz).1
    refine⟨a.b,?_,?_⟩
    ·rw[qy,f.cellAt m (by omega)]
     unfold lh
     rw[bq,hz]
     simp only[qI]
     rw[iE,ab (by omega),l,p]
     rfl
    ·show W.cell? ⟨a.b,0,none⟩=some (.int .i64 (e.getD d.toNat Hy).k)
     rw[p];exact(h.box _ a l).cells.1
theorem Ks:(Tryz.prog.info? 45).map (fun i=>(i.zero,i.size,i.bytes))=some (some .nilIface,1,16):=by kernel_rfl
def Ai(N:Nd):Bool:=decide (0<=N.f/\N.f<=N.t/\0<=N.l/\N.ks.length<=200/\N.nm.length<=200)
def Aj(a:List Nd)(i:Nat)(N:Nd):Bool:=
 Ai N&&(vF (qd N (dL N.k)) N&&(Dw N.ks i N.ks.length 0&&(ffB N N.ks.length (dL N.k)&&kfB N (kinds a N.ks))))
def C6(b:World)(lb mb:Nat)(L:List Im)(d:List Nd)(N:Nd)(vn:Value)(e:Ending)(a:World):Prop:=
 e= .returned (.bool (Aj d L.length N))/\Below b.heap.size b a/\(Aj d L.length N=true->∃f c,c.N=N/\c.vn=vn/\Lk a lb mb f/\jm a b.heap.size f (L++[c]))
theorem Kt(w:World)(lb:Nat)(N:Nd)(vn vk:Value)(h:bp w vn N.nm)(g:cH w vk N.ks)(f:fm N)(c:Ai N=false):
  Calls Tryz.prog 42 #[.pointer (some ⟨lb,0,none⟩),gF N vn vk] w fun e p=>e= .returned (.bool false)/\Below w.heap.size w p:=by
 have b:∀d,Below w.heap.size w (w.alloc d):=fun d=>(ag _ w).alloc (ah _) d
 obtain⟨q,s,rfl⟩:=h.form
 obtain⟨r,t,rfl⟩:=g.form
 have l:=f.l1
 have m:=f.l2
 unfold Ai at c
 have a:=iA c
 unfold gF
 generalize N.nm.length=j at l a⊢
 generalize N.ks.length=k at m a⊢
 clear h g f c
 obtain⟨A,i,o,n,F,C,G,E,B⟩:=N
 simp only at a⊢
 by_cases u:i<0
 ·clear a
  go_in
  go_wp2
  go_ret
  exact⟨rfl,b _⟩
 by_cases v:o<i
 ·clear a
  go_in
  go_wp2
  go_ret
  exact⟨rfl,b _⟩
 by_cases x:n<0
 ·clear a
  go_in
  go_wp2
  go_ret
  exact⟨rfl,b _⟩
 by_cases y:(200:Int)<(k:Int)
 ·clear a
  go_in
  go_wp2
  go_ret
  exact⟨rfl,b _⟩
 have z:(200:Int)<(j:Int):=by omega
 clear a
 go_in
 go_wp2
 go_ret
 exact⟨rfl,b _⟩
theorem E4{W b:World}(e:Below W.heap.size W b){a:Addr}(d:a.block<W.heap.size){r:Bool}(c:W.frozen? a=r):b.frozen? a=r:=by
 rw[<-c];exact World.frozen?_of_block (e.block _ d)
theorem ajD{w:World}{N:Nd}{vn:Value}(a:bp w vn N.nm)(k:Int):bp w (Ka vn (dL k)) (qd N (dL k)).nm:=by
 rcases yE k with hc|hc|hc|hc|hc|hc|hc
 ·rw[hc];exact a
 ·rw[hc];exact .inl ⟨rfl,_,_,rfl⟩
 ·rw[hc];exact .inl ⟨rfl,_,_,rfl⟩
 ·rw[hc];exact .inl ⟨rfl,_,_,rfl⟩
 ·rw[hc];exact .inl ⟨rfl,_,_,rfl⟩
 ·rw[hc];exact a
 ·rw[hc];exact .inl ⟨rfl,_,_,rfl⟩
theorem abH{N:Nd}(k:Int)(a:N.nm.length<=1048576):(qd N (dL k)).nm.length<=1048576:=by
 rcases yE k with hc|hc|hc|hc|hc|hc|hc
 ·rw[hc];exact a
 ·rw[hc];exact aJ _
 ·rw[hc];exact aJ _
 ·rw[hc];exact aJ _
 ·rw[hc];exact aJ _
 ·rw[hc];exact a
 ·rw[hc];exact aJ _
theorem abI(e w:World)(H:mC e)(J:Below e.heap.size e w)(lb mb:Nat)(hE:e.heap.size<=lb)(cf:Value)(L:List Im)(h:Lk w lb mb cf)(fc:jm w e.heap.size cf L)(N:Nd)(vn vk:Value)(ct:bp e vn N.nm)(bc:cH e vk N.ks)(ad:fm N)(hs:L.length<=3000)(C:List Nd)(fu:L.map Im.N=C.take L.length)(a0:C[L.length]?=some N)(a4:∀W,Below e.heap.size e W->Lib.TabIs Tryz.prog W "strings.asciiSpace" .u8 Lib.asciiSpaceTab)(cr:Ai N=true):
  Calls Tryz.prog 42 #[.pointer (some ⟨lb,0,none⟩),gF N vn vk] w (C6 e lb mb L C N vn):=by
 have ce:=fun W (c7:Below w.heap.size w W)=>Gt W N vn vk (by obtain⟨c0,bw,k⟩:=ct.form;exact⟨_,_,_,k⟩) (by obtain⟨c0,bw,k⟩:=bc.form;exact⟨_,_,_,k⟩)
 obtain⟨br,b8⟩:=aE (Aj C L.length N)
 unfold C6
 rw[b8]
 unfold Aj at b8
 rw[cr,ez]at b8
 obtain⟨o,p,rfl⟩:=ct.form
 obtain⟨a7,ba,rfl⟩:=bc.form
 unfold Ai at cr
 obtain⟨hd,hh,hl,hm,hp⟩:=bi cr
 have y:Hid (Lk w lb mb cf/\jm w e.heap.size cf L/\bp e (.slice o N.nm.length p) N.nm/\cH e (.slice a7 N.ks.length ba) N.ks/\fm N/\L.map Im.N=C.take L.length/\(∀W,Below e.heap.size e W->Lib.TabIs Tryz.prog W "strings.asciiSpace" .u8 Lib.asciiSpaceTab)/\mC e/\Below e.heap.size e w/\C[L.length]?=some N):=⟨h,fc,ct,bc,ad,fu,a4,H,J,a0⟩
 have e6:=aj b8
 have i8:¬N.f<0:=by omega
 have i9:¬N.t<N.f:=by omega
 have ji:¬N.l<0:=by omega
 unfold gF at ce⊢
 obtain⟨n,c8⟩:=aE N.nm.length
 obtain⟨q,c9⟩:=aE N.ks.length
 have cl:=eJ c8 c9
 rw[c8]at ce y hp⊢
 rw[c9]at ce y hm⊢
 have jn:¬(200:Int)<(q:Int):=by omega
 have j0:¬(200:Int)<(n:Int):=by omega
 have j8:lb<w.heap.size:=aw y.1.b
 clear c8 c9 ct bc ad fu a4 H J h fc b8 cr hd hh hl a0
 go_in
 go_wp2_with fail
 generalize ff:w.alloc _=e8
 obtain⟨cx,dn,h0⟩:=al1 ff
 replace cx:nc w.heap.size e8 50 N (.slice o n p) (.slice a7 q ba):=cx
 clear ff
 refine(ce e8 dn).mono ?_
 rintro k B ⟨rfl,b9,dg⟩
 rw[h0]at b9⊢
 obtain⟨i,hC⟩:=aE (w.heap.size+1+1+1)
 rw[hC]at b9⊢
 have ex:=cx.below dg
 have bs:Below w.heap.size w B:=dn.trans (dg.mono (by omega))
 obtain⟨bE,bF,b0,b1,b2,b3,b4,b5,b6,ha⟩:=bz ex
 have c4:Below B.heap.size B B.drew:=aq (ag _ B)
 have ea:bp B.drew (.slice o n p) N.nm:=((y.2.2.1.below y.2.2.2.2.2.2.2.2.1).below bs).below c4
 have am:=Kb B.drew i N (.slice o n p) (.slice none 0 0) 0 ⟨_,_,_,rfl⟩ (b9.below c4)
 have a5:=fun W (c7:Below B.drew.heap.size B.drew W)=>yy W (qd N (dL N.k)) N (Ka (.slice o n p) (dL N.k)) (.slice none 0 0) (.slice o n p) (.slice a7 q ba) ((ajD ea N.k).below c7) (ea.below c7) ⟨_,_,_,rfl⟩ ⟨_,_,_,rfl⟩ (abH _ y.2.2.2.2.1.l1) y.2.2.2.2.1.l1
 obtain⟨i2,kc,i3,fx⟩:∃c0 h7 bw,Ka (.slice o n p) (dL N.k)= .slice c0 h7 bw:=by
  unfold Ka;split<;>exact⟨_,_,_,rfl⟩
 rw[fx]at am a5
 unfold gF at am a5
 obtain⟨h9,eh⟩:=aE (vF (qd N (dL N.k)) N)
 rw[eh]at a5
 have cm:=aj eh
 obtain⟨ir,ed⟩:=aE (qd N (dL N.k))
 rw[ed]at am a5 cm
 clear eh ea fx ce cx dn dg
 have hI:=fun w=>ou N.k i w
 have h3:=fun w=>de i w
 unfold gC at am⊢
 have il:Hid (jd (dL N.k)=jd (dL N.k)):=rfl
 generalize ei:jd (dL N.k)=eF at am hI⊢
 go_wp2_with fail
 cases h9 with
 |false=>
  have G:Hid (false=br):=by have:=e6.out;rw[ed,cm.out,dC]at this;exact this
  go_region_held3 (fun m=>m.cell? ⟨w.heap.size,0,none⟩=some (.int .i64 N.k)/\m.cell? ⟨w.heap.size,1,none⟩=some (.int .i64 N.f)/\m.cell? ⟨w.heap.size,2,none⟩=some (.int .i64 N.t)/\m.cell? ⟨w.heap.size,3,none⟩=some (.int .i64 N.l)/\m.cell? ⟨w.heap.size,4,none⟩=some (.int .i64 N.op)/\m.cell? ⟨w.heap.size,5,none⟩=some (.int .i64 N.n)/\m.cell? ⟨w.heap.size,6,none⟩=some (.string N.x)/\m.cell? ⟨w.heap.size,7,none⟩=some (.slice o n p)/\m.cell? ⟨w.heap.size,8,none⟩=some (.slice a7 q ba)) (first|go_keep|exact⟨ai j (ai a bE),ai j (ai a bF),ai j (ai a b0),ai j (ai a b1),ai j (ai a b2),ai j (ai a b3),ai j (ai a b4),ai j (ai a b5),ai j (ai a b6)⟩|exact⟨ai a bE,ai a bF,ai a b0,ai a b1,ai a b2,ai a b3,ai a b4,ai a b5,ai a b6⟩) (first|(go_at_call 121;refine am.mono ?_;rintro k ik ⟨rfl,a⟩)|(go_at_call 120;refine(a5 _ a).mono ?_;rintro k a6 ⟨rfl,j⟩))
  go_wp2_with fail
  go_ret
  have hx:Below w.heap.size w a6:=bs.trans (((aq (ag _ B)).trans (a.trans (j.mono a.size))).mono bs.size)
  exact⟨by rw[<-G.out];rfl,y.2.2.2.2.2.2.2.2.1.trans (hx.mono y.2.2.2.2.2.2.2.2.1.size),fun h=>by rw[<-G.out]at h;cases h⟩
 |true=>
  have gt:Hid ((Dw N.ks L.length N.ks.length 0&&(ffB N N.ks.length (dL N.k)&&kfB N (kinds C N.ks)))=br):=by have:=e6.out;rw[ed,cm.out,ez]at this;exact this
  go_region_held3 (fun m=>m.cell? ⟨w.heap.size,0,none⟩=some (.int .i64 N.k)/\m.cell? ⟨w.heap.size,1,none⟩=some (.int .i64 N.f)/\m.cell? ⟨w.heap.size,2,none⟩=some (.int .i64 N.t)/\m.cell? ⟨w.heap.size,3,none⟩=some (.int .i64 N.l)/\m.cell? ⟨w.heap.size,4,none⟩=some (.int .i64 N.op)/\m.cell? ⟨w.heap.size,5,none⟩=some (.int .i64 N.n)/\m.cell? ⟨w.heap.size,6,none⟩=some (.string N.x)/\m.cell? ⟨w.heap.size,7,none⟩=some (.slice o n p)/\m.cell? ⟨w.heap.size,8,none⟩=some (.slice a7 q ba)) (first|go_keep|exact⟨ai j (ai a bE),ai j (ai a bF),ai j (ai a b0),ai j (ai a b1),ai j (ai a b2),ai j (ai a b3),ai j (ai a b4),ai j (ai a b5),ai j (ai a b6)⟩|exact⟨ai a bE,ai a bF,ai a b0,ai a b1,ai a b2,ai a b3,ai a b4,ai a b5,ai a b6⟩) (first|(go_at_call 121;refine am.mono ?_;rintro k ik ⟨rfl,a⟩)|(go_at_call 120;refine(a5 _ a).mono ?_;rintro k a6 ⟨rfl,j⟩))
  have cp:Below B.heap.size B a6:=(aq (ag _ B)).trans (a.trans (j.mono a.size))
  have cn:Below w.heap.size w a6:=bs.trans (cp.mono bs.size)
  obtain⟨lk,bd,cu,ds,ad,cw,a4,H,J,a0⟩:=y.out
  have e9:Below e.heap.size e a6:=J.trans (cn.mono J.size)
  have es:=lk.below cn
  have ev:=bd.below cn
  have gf:=ex.below cp
  have bv:=b9.below cp
  have h1:=J.size
  have d:=wC.start H bd (by omega) (by omega) (by omega) es ev gf bv e9 ⟨hE,by omega,h1⟩
  obtain⟨ao,ap,bf⟩:=bG ev.row
  have fb:a6.cell? ⟨lb,1,none⟩=some (.slice ao L.length ap):=by rw[<-bf,au _ _ _ _ _ _ es.b];rfl
  have c5:=bv.cells.2.2.2.1
  have c6:=bv.cells.2.2.2.2.2
  have hA:i<a6.heap.size:=aw bv
  have bo:=aj d
  obtain⟨g,eb⟩:=aE L.length
  rw[eb]at fb bo hs
  have I:=aj eb
  clear d es ev gf bv cp lk bd cu ds ad cw a4 H J a0 bE bF b0 b1 b2 b3 b4 b5 b6 ha am a5 b9 ex c4 cm eb
  go_wp2_with (go_at_call 307;refine(h3 _).mono ?_;rintro k s ⟨rfl,rfl⟩)
  obtain⟨f8,fk,fB,f0,f6⟩:=dD Ks
  clear fb c5 c6 cn e9 hA bf
  go_loopw [54] (fun e1 wr=>∃(c:Nat) (f9:Value),e1= .int .i64 c/\c<=q/\Hid ((Dw N.ks g (q-c) c&&(ffB N q (dL N.k)&&kfB N (kinds C N.ks)))=br)/\Hid (∀r∈N.ks.take c,0<=r/\r<(g:Int))/\Hid (wC e lb mb w.heap.size i cf L N (.slice o n p) (.slice a7 q ba) f9 c wr)) (fun e1 _=>q-(intOf e1).toNat)
  case atStart=>
   refine⟨0,_,rfl,aJ _,?_,fun r K=>by simp at K,bo⟩
   have:=gt.out
   rw[I.out,cl.out.2]at this
   exact this
  case round=>
   obtain⟨c,f9,rfl,j4,cg,e7,bk⟩:=hrel
   clear bo
   have d:=bk.out
   have F:=cg.out
   by_cases hH:c<q
   ·obtain⟨r,K⟩:=bC cl.2 hH
    obtain⟨i1,hv,j3⟩:=(y.2.2.2.1.below d.bl).get K
    subst hv
    have j6:(c:Int)<(q:Int):=by omega
    have j5:(0:Int)<=(c:Int):=by omega
    have c5:=d.bx.cells.2.2.2.1
    rw[I.out]at c5
    rw[show q-c=(q-(c+1))+1 by omega,Dw,aL,K,fH]at F
    by_cases bb:0<=r/\r<(g:Int)
    ·obtain⟨et,rfl⟩:=dv bb.1
     have hq:et<g:=by omega
     obtain⟨an,el⟩:=bC I.out hq
     have cd:=d.ns.row
     rw[I.out]at cd
     rcases bg cd with⟨ka,_⟩|⟨b7,cs,bf⟩
     ·omega
     subst bf
     have g9:wr.cell? ⟨lb,1,none⟩=some (.slice (some ⟨b7,0,none⟩) g cs):=by rw[au _ _ _ _ _ _ d.lk.b];rfl
     have fa:wr.cell? ⟨b7,et,none⟩=some (.iface (jd (dL an.N.k)) (.pointer (some ⟨an.b,0,none⟩))):=by
      rw[cd.cellAt et (by omega),bq,el];rfl
     obtain⟨u,v,dz⟩:=bG d.kr
     subst dz
     have hb:=d.bx.cells.2.2.2.2.1
     have c6:=d.bx.cells.2.2.2.2.2 5
     have fo:=d.kr
     have cI:Hid (lh L (N.ks.take (c+1))=lh L (N.ks.take c)++[.iface (jd (dL an.N.k)) (.pointer (some ⟨an.b,0,none⟩))]):=by
      show _=_
      rw[gv,K]
      unfold lh
      rw[dm]
      simp[el,nV,gC]
     have gr:Hid ((Dw N.ks g (q-(c+1)) (c+1)&&(ffB N q (dL N.k)&&kfB N (kinds C N.ks)))=br):=by
      rw[bB bb,ez]at F;exact F
     have g7:Hid (∀r∈N.ks.take (c+1),0<=r/\r<(g:Int)):=fun r f7=>by
      rw[gv,K]at f7
      rcases List.mem_append.1 f7 with h|h
      ·exact e7 r h
      ·simp at h;subst h;exact bb
     have h5:lb<wr.heap.size:=aw d.lk.b
     have h6:i<wr.heap.size:=aw d.bx
     have kb:b7<wr.heap.size:=(cd.lt b7 rfl).2
     have eq:∀em,(Value.slice u c v).ownBlock=some em->IK wr em:=fun em bc=>(lG fo bc).1
     have kd:some lb≠(Value.slice u c v).ownBlock:=fun k=>by obtain⟨bw,ca⟩:=eq lb k.symm;exact nJ d.lk.b ca (by decide) rfl
     have ge:some i≠(Value.slice u c v).ownBlock:=fun k=>by obtain⟨bw,ca⟩:=eq i k.symm;exact nJ d.bx ca (mp _).1 rfl
     have ke:some b7≠(Value.slice u c v).ownBlock:=fun k=>by
      rcases d.fr with e2|e2
      ·rw[e2]at k;cases k
      ·exact e2 k.symm
     have h2:e.heap.size<=wr.heap.size:=d.bl.size
     have g6:Hid (jd (dL an.N.k)=jd (dL an.N.k)):=rfl
     generalize jd (dL an.N.k)=e0 at fa cI g6
     generalize an.b=e3 at fa cI
     have bt:∀E,Below wr.heap.size wr (wr.alloc E).drew:=fun E=>aq ((ag _ wr).alloc (ah _) E)
     clear d F el K bb cd eq
     go_wp2_with fail
     go_region_law (refine step_append_lies _ (by rfl) _ _ _ (by rfl) e.heap.size 45 f8 _ 1 16 Tryz.underlying62 fk fB f0 f6 rfl (by omega) (.slice u c v) c (lh L (N.ks.take c)) (by rfl) ((fo.alloc _).drew) ⟨wr.heap.size,0,none⟩ 1 1 [.iface e0 (.pointer (some ⟨e3,0,none⟩))] (by rfl) (by rfl) (World.news_of_block (cs:=#[.iface e0 (.pointer (some ⟨e3,0,none⟩))]) (t:=45) (fr:=(0,0)) (ay wr _)) (by simp[Value.oneCell']) (by omega) (by unfold maxLen;omega) (by omega) (by simp;omega) (wr.heap.size+1) (by simp) ?_;intro i7 i4 s cc cb dd j7;have i5:=(cb.cell_far ⟨i,5,none⟩ (by simp;omega) ge).trans (ai (bt _) hb);have i6:=(cb.frozen_far ⟨i,5,none⟩ (by simp;omega) ge).trans (E4 (bt _) h6 c6))
     all_goals
      go_wp2_with fail
      obtain⟨_,bd,_,_,_,_,_,H,_,_⟩:=y.out
      have ii:=bk.below (bt (.cells #[.iface e0 (.pointer (some ⟨e3,0,none⟩))] 45))
      rw[<-cI.out]at cc
      obtain⟨_,stB⟩:=ii.kid H cb cc dd (by simp)
      exact⟨⟨c+1,_,by go_num,by omega,gr,g7,stB⟩,by simp[intOf];omega⟩
    ·have G:Hid (false=br):=by rw[az bb,dC,dC]at F;exact F
     have fg:=d.bl
     by_cases j1:r<0
     ·clear F d bk cg K
      go_wp2_with fail
      go_ret
      exact⟨by rw[<-G.out];rfl,fg,fun h=>by rw[<-G.out]at h;cases h⟩
     ·have j2:¬r<(g:Int):=by omega
      clear F d bk cg K bb
      go_wp2_with fail
      go_ret
      exact⟨by rw[<-G.out];rfl,fg,fun h=>by rw[<-G.out]at h;cases h⟩
   ·obtain rfl:c=q:=by omega
    rw[fw,Dw,ez]at F
    obtain⟨u,v,dz⟩:=bG d.kr
    subst dz
    obtain⟨ao,ap,bf⟩:=bG d.ns.row
    subst bf
    rw[I.out]
    have g9:wr.cell? ⟨lb,1,none⟩=some (.slice ao g ap):=by rw[<-I.out,au _ _ _ _ _ _ d.lk.b];rfl
    have eg:=d.ns.row
    rw[I.out]at eg
    have h2:e.heap.size<=wr.heap.size:=d.bl.size
    have h5:lb<wr.heap.size:=aw d.lk.b
    have bt:∀E,Below wr.heap.size wr (wr.alloc E):=fun E=>(ag _ wr).alloc (ah _) E
    have bo:=aj d
    have gu:=aj F
    have g0:=aj eg
    clear F d bk cg eg
    obtain⟨_,bd,cu,ds,ad,cw,a4,H,J,a0⟩:=y.out
    have gp:Hid (∀E s A z,(wr.alloc E).grownBy s (Value.slice ao g ap).ownBlock->s.ownsRow e.heap.size 45 1 (.slice (some ⟨A,0,none⟩) (g+1) z) (g+1) (L.map nV++[.iface eF (.pointer (some ⟨i,0,none⟩))])->((Value.slice (some ⟨A,0,none⟩) (g+1) z).ownBlock=(Value.slice ao g ap).ownBlock\/(Value.slice (some ⟨A,0,none⟩) (g+1) z).ownBlock=some (wr.alloc E).heap.size)->
      s.heap[lb]?=some (.cells #[.map (some mb),.slice ao g ap] 98 (0,0))/\Lk (s.setCell ⟨lb,1,none⟩ (.slice (some ⟨A,0,none⟩) (g+1) z)) lb mb (.slice (some ⟨A,0,none⟩) (g+1) z)/\jm (s.setCell ⟨lb,1,none⟩ (.slice (some ⟨A,0,none⟩) (g+1) z)) e.heap.size (.slice (some ⟨A,0,none⟩) (g+1) z) (L++[⟨N,i,.slice o n p,.slice u c v⟩])/\gl (s.setCell ⟨lb,1,none⟩ (.slice (some ⟨A,0,none⟩) (g+1) z)) i N (.slice o n p) g (.slice u c v)/\Below e.heap.size e (s.setCell ⟨lb,1,none⟩ (.slice (some ⟨A,0,none⟩) (g+1) z))):=by
     intro E s A z hD hJ dd
     have ih:=bo.below (bt E)
     have ec:=I.out
     have d9:=cl.2
     subst d9
     subst ec
     have hK:∀r∈N.ks,0<=r/\r<(L.length:Int):=by
      have:=e7.out
      rw[xe]at this
      exact this
     refine ih.done H hK hD ?_ dd
     unfold gC
     rw[ei]
     exact hJ
    clear bd J H
    go_wp2_with (at_builtin;refine wpList_append_own_at _ rfl _ _ 62 rfl e.heap.size 45 f8 _ 1 16 Tryz.underlying62 fk fB f0 f6 rfl (by decide) _ _ _ rfl (g0.alloc _) ⟨wr.heap.size,0,none⟩ 1 1 [.iface eF (.pointer (some ⟨i,0,none⟩))] rfl rfl (World.news_of_block (cs:=#[.iface eF (.pointer (some ⟨i,0,none⟩))]) (fr:=(0,0)) (ay wr _)) (by intro kg fz;simp at fz;subst fz;rfl) (by unfold maxLen;omega) (by omega) (by simp;omega) ?_;intro ki s cc cb j9 hw;obtain⟨A,z,rfl⟩:=ownsRow_succ cc;obtain⟨gd,cz,cB,cq,a8⟩:=gp.out _ s A z cb cc hw;have kl:s.cell? ⟨lb,1,none⟩=some (.slice ao g ap):=by {rw[au _ _ _ _ _ _ gd];rfl};have km:s.frozen? ⟨lb,1,none⟩=false:=cA _ _ _ _ _ gd)
    generalize s.setCell ⟨lb,1,none⟩ (.slice (some ⟨A,0,none⟩) (g+1) z)=g8 at cz cB cq a8⊢
    have ec:=I.out
    have d9:=cl.2
    have fA:(L++[⟨N,i,.slice o n p,.slice u c v⟩])[g]?=some ⟨N,i,.slice o n p,.slice u c v⟩:=by rw[<-ec];simp
    have fv:(L++[(⟨N,i,.slice o n p,.slice u c v⟩:Im)]).map Im.N=C.take (L++[(⟨N,i,.slice o n p,.slice u c v⟩:Im)]).length:=by
     rw[dm,cw,aD,Bo,gv,a0];rfl
    have fn:=cB.kids fv fA
    have al:=Ah g8 lb mb _ cz i N (.slice o n p) g u c v (by omega) (cu.below a8) ad.l1 ad.ls ad.lx cq
    unfold gC at al
    rw[ei]at al
    have af:=gu.out
    cases hfb:ffB N c (dL N.k) with
    |false=>
     rw[hfb]at al af
     rw[dC]at af
     have G:=aj af
     refine al.mono ?_
     rintro k gg ⟨rfl,ar⟩
     have a9:=a8.trans (ar.mono a8.size)
     clear af hfb al
     go_wp2_with fail
     go_ret
     exact⟨by rw[<-G.out];rfl,a9,fun h=>by rw[<-G.out]at h;cases h⟩
    |true=>
     rw[hfb]at al af
     rw[ez]at af
     have fq:dL N.k=1->0<=N.n/\N.n<=200:=fun ca=>by
      rw[ca]at hfb
      have:=bi (show decide (1<=N.n/\N.n<(c:Int))=true from hfb)
      omega
     refine al.mono ?_
     rintro k gg ⟨rfl,ar⟩
     have a9:=a8.trans (ar.mono a8.size)
     have h4:=cz.below ar
     have h8:=cB.below ar
     have hG:(kinds C N.ks).length<=1048576:=by unfold kinds;rw[aI,d9];omega
     have cy:=EK gg i N (.slice o n p) (.slice u c v) g (kinds C N.ks) (fn.below ar) hG (fun W ht=>a4 W (a9.trans (ht.mono a9.size))) (cq.below ar) fq
     rw[af]at cy
     unfold gC at cy
     rw[ei]at cy
     clear af hfb al fq fn fA fv cz cB cq a0 cw a4 ad cu ds
     go_wp2_with (go_at_call 123;refine cy.mono ?_;rintro k kj ⟨rfl,dk⟩)
     go_ret
     exact⟨rfl,a9.trans (dk.mono a9.size),fun _=>⟨_,_,rfl,rfl,h4.below dk,h8.below dk⟩⟩
theorem abJ(a w:World)(m:mC a)(b:Below a.heap.size a w)(lb mb:Nat)(o:a.heap.size<=lb)(e:Value)(L:List Im)(d:Lk w lb mb e)(k:jm w a.heap.size e L)(N:Nd)(vn vk:Value)(h:bp a vn N.nm)(g:cH a vk N.ks)(i:fm N)(j:L.length<=3000)(c:List Nd)(p:L.map Im.N=c.take L.length)(n:c[L.length]?=some N)(q:∀W,Below a.heap.size a W->Lib.TabIs Tryz.prog W "strings.asciiSpace" .u8 Lib.asciiSpaceTab):
  Calls Tryz.prog 42 #[.pointer (some ⟨lb,0,none⟩),gF N vn vk] w (C6 a lb mb L c N vn):=by
 cases hf:Ai N with
 |true=>exact abI a w m b lb mb o e L d k N vn vk h g i j c p n q hf
 |false=>
  refine dG (Kt w lb N vn vk (h.below b) (g.below b) i hf) fun r l=>?_
  have f:Aj c L.length N=false:=by unfold Aj;rw[hf,dC]
  exact⟨by rw[f],b.trans (l.mono b.size),fun d=>by rw[f]at d;cases d⟩
theorem C7(b:World)(a t:Nat)(v:Value)(c:ByteArray)(e:Pw b a 83 #[vP a,fJ b t,v] c):
  Pw b a 140 #[vP a,fJ b t,v,.bool false] c:=by
 intro h k d
 have g:Hid (Pw b a 83 #[vP a,fJ b t,v] c):=e
 have f:Hid (Ps b a h k):=d
 unfold fJ kF at *
 generalize ek t=m at *
 clear d e
 go_enter_defers Tryz.func140,Tryz.ntmps140
 go_wp2_with (go_at_call 83;fail)
 refine(g.out _ _ f.out).mono ?_
 rintro l n ⟨rfl,j,i⟩
 go_wp2_with fail
 exact⟨_,gx rfl _ _ _,rfl,j,i⟩
theorem nA(b:World)(a t:Nat)(v:Value)(c:ByteArray)(d:Bool)(e:Pw b a 83 #[vP a,fJ b t,v] c):
  Pw b a 140 #[vP a,fJ b t,v,.bool d] (if d=true then ft c else c):=by
 cases d
 ·rw[aa (by simp)];exact C7 b a t v c e
 ·rw[ab rfl];exact tL b a t v c e
theorem IL(a:World)(b t:Nat)(v:Value)(e:ByteArray)(l:Pw a b 83 #[vP b,fJ a t,v] e):
  Pw a b 145 #[vP b,fJ a t,v] (⟨#[91]⟩++e++⟨#[93]⟩):=by
 intro d c h
 have B:=fun c=>mj a.heap.size (ek t) c
 have w:Hid (Pw a b 306 #[kF a t,.string ⟨#[91]⟩] ⟨#[91]⟩):=iw a b t _ (by decide)
 have x:Hid (Pw a b 83 #[vP b,fJ a t,v] e):=l
 have y:Hid (∀d c,Ps a b d c->∀i,CallsD Tryz.prog 306 #[kF a t,.string ⟨#[93]⟩] i c fun g p q=>p=i/\(g= .returned (.tuple #[])/\Ps a b (d++⟨#[93]⟩) q/\Kq a.heap.size c q)):=fun d c h i=>jC a b t _ d (by decide) i c h
 have u:Hid (Ps a b d c):=h
 unfold fJ kF at *
 generalize ek t=C at *
 clear h l
 go_enter_defers Tryz.func145,Tryz.ntmps145
 go_wp2_with (go_at_call 306;fail)
 refine(w.out _ _ u.out).mono ?_
 rintro g r ⟨rfl,p2,m⟩
 have j:Hid (Ps a b (d++⟨#[91]⟩) r/\Kq a.heap.size c r):=⟨p2,m⟩
 clear p2 m
 go_wp2_with (go_at_call 83;fail)
 refine(x.out _ _ j.out.1).mono ?_
 rintro g s ⟨rfl,o,n⟩
 have k:Hid (Ps a b (d++⟨#[91]⟩++e) s/\Kq a.heap.size c s):=⟨o,j.out.2.trans n⟩
 clear o n
 go_wp2_with fail
 refine pf (f:=306) (by simp) (pE _ _ _ _) ?_
 refine(y.out _ _ k.out.1 .returning).mono ?_
 rintro g p E ⟨rfl,rfl,A,z⟩
 refine⟨_,gx rfl _ _ _,rfl,?_,k.out.2.trans z⟩
 simpa only[be] using A
theorem Ku(b:World)(d:Nat)(a:List Nd)(L:List Im)(base:Nat)(B:Value)(x:Tp b a L base B)(t i:Nat)(z:i<a.length)(e:ByteArray)(r:zH b d L t i e):
  Pw b d 144 #[vP d,fJ b t,nV (jo L i)] (if pL (ae a i).k=true then e else ft e):=by
 intro w f h
 obtain⟨p,al,F,af,G,u,o⟩:=rx x z
 have E:=(o.cells h.pg.bel).1
 have v:=fun f=>de p f
 have s:=fun f=>mq (dL (ae a i).k) p f
 have c:Hid (Pw b d 140 #[vP d,fJ b t,nV (jo L i),.bool (!pL (ae a i).k)] (if pL (ae a i).k=true then e else ft e)):=by
  have:=nA b d t (nV (jo L i)) e (!pL (ae a i).k) r
  cases hb:pL (ae a i).k<;>simp[hb]at this⊢ <;>exact this
 have n:Hid (Ps b d w f):=h
 rw[u]at c⊢
 generalize (ae a i).k=k at E s c⊢
 generalize jd (dL k)=ak at s c⊢
 generalize fJ b t=ad at c⊢
 clear h o u r
 cases hb:pL k with
 |true=>
  rw[hb]at c
  have y:k=26\/k=32\/k=33\/k=34\/k=37:=by unfold pL at hb;simp at hb;omega
  clear hb
  rcases y with rfl|rfl|rfl|rfl|rfl<;>
  ·go_enter Tryz.func144,Tryz.ntmps144
   go_wp2_with (first|(go_at_call 307;refine(v _).mono ?_;rintro g m ⟨rfl,A⟩;subst m)|(go_at_call 140;refine(c.out _ _ n.out).mono ?_;rintro g C ⟨rfl,l,j⟩))
   go_end0
   exact⟨rfl,l,j⟩
 |false=>
  rw[hb]at c
  have q:(k==26)=false/\(k==32)=false/\(k==33)=false/\(k==34)=false/\(k==37)=false:=by unfold pL at hb;simp at hb;simp;omega
  obtain⟨q,H,I,J,K⟩:=q
  clear hb
  go_enter Tryz.func144,Tryz.ntmps144
  go_wp2_with (first|(go_at_call 307;refine(v _).mono ?_;rintro g m ⟨rfl,A⟩;subst m)|(go_at_call 140;refine(c.out _ _ n.out).mono ?_;rintro g C ⟨rfl,l,j⟩))
  go_end0
  exact⟨rfl,l,j⟩
