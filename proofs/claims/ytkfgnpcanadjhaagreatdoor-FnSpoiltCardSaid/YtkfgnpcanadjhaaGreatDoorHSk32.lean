import Derived.Test.YtkfgnpcanadjhaaGreatDoorHSk25
import Derived.Test.YtkfgnpcanadjhaaGreatDoorHSk29
import Derived.Test.YtkfgnpcanadjhaaGreatDoorHSk30
import Derived.Test.YtkfgnpcanadjhaaGreatDoorHSk31
import Derived.Test.YtkfgnpcanadjhaaGreatDoorHSk28
set_option linter.all false
set_option maxRecDepth 100000
set_option maxHeartbeats 6400000
namespace Go.Proofs.YtkfgnpcanadjhaaGreatDoor
open Go.RowKit Go.Maps Go.WideMaps
structure Tn (L:List Nd):Prop where
 nd:∀N∈L,KF N
 n:L.length<=1048576
def DzP(W:World)(L:List Nd)(e:Ending)(a:World):Prop:=∃v,e= .returned (.agg #[v])/\Nl a v L/\Below W.heap.size W a
def Dz(C:Cd)(f:FuncId)(L:List Nd):Prop:=∀ ⦃W:World⦄ ⦃a:Option Addr⦄ ⦃b:Nat⦄,Code C W.heap.size W a->Calls Tryz.prog f #[.slice a C.len b] W (DzP W L)
theorem ahL{W w:World}{v:Value}{L:List Nd}(b:w.heap[W.heap.size]?=some (.cells #[.slice none 0 0] 25 (0,0)))(h:Below W.heap.size W w)(g:Nl w v L):Hid (DzP W L (.returned (.agg #[v])) (w.setCell ⟨W.heap.size,0,none⟩ v)/\(w.setCell ⟨W.heap.size,0,none⟩ v).heap[W.heap.size]?=some (.cells #[v] 25 (0,0))):=by
 obtain⟨e,i,f,a⟩:=g
 exact⟨⟨v,rfl,⟨e,i,f,jA a.row (ee a.row b (by decide)) 0 _,fun d c=>⟨jA (a.each d c).1 (ee (a.each d c).1 b (by decide)) 0 _,jA (a.each d c).2 (ee (a.each d c).2 b (by decide)) 0 _⟩⟩,h.setCell (ah _) _⟩,bI _ _ 0 _ _ _ b⟩
abbrev dzW(W:World)(C:Cd)(a:Option Addr)(cap:Nat):World:=(W.alloc (.cells #[.slice none 0 0] 25)).alloc (.cells #[.slice a C.len cap,.int .i64 0,.int .u64 0,.int .i64 0] 40)
theorem Ds{C:Cd}{W:World}{a:Option Addr}{cap:Nat}(c:Code C W.heap.size W a):∃E:Bs,E.base=W.heap.size+1/\E.cb=W.heap.size+1/\Cy C E (dzW W C a cap) (dzW W C a cap) ⟨0,0,0⟩:=by
 have h:=dh W (.cells #[.slice none 0 0] 25)
 have f:=dh (W.alloc (.cells #[.slice none 0 0] 25)) (.cells #[.slice a C.len cap,.int .i64 0,.int .u64 0,.int .i64 0] 40)
 rw[db]at f
 have g:=ay (W.alloc (.cells #[.slice none 0 0] 25)) (.cells #[.slice a C.len cap,.int .i64 0,.int .u64 0,.int .i64 0] 40)
 rw[db]at g
 refine⟨⟨W.heap.size+1,W.heap.size+1,0,a,cap⟩,rfl,rfl,⟨⟨ah _,by show W.heap.size+1<=_;simp⟩,?_,g⟩,ag _ _⟩
 rcases c with c|⟨b,e,i,l,j⟩
 ·exact .inl c
 ·exact .inr ⟨b,e,i,by show b<W.heap.size+1;omega,fun d k=>(f.cell (p:=⟨b,e+d,none⟩) (by show b<_;omega)).trans ((h.cell (p:=⟨b,e+d,none⟩) l).trans (j d k))⟩
theorem ac2{C:Cd}{W w:World}{b:Option Addr}{cap:Nat}(c:Below (W.heap.size+1) (dzW W C b cap) w):w.heap[W.heap.size]?=some (.cells #[.slice none 0 0] 25 (0,0))/\Below W.heap.size W w:=by
 have d:=dh W (.cells #[.slice none 0 0] 25)
 have a:=dh (W.alloc (.cells #[.slice none 0 0] 25)) (.cells #[.slice b C.len cap,.int .i64 0,.int .u64 0,.int .i64 0] 40)
 rw[db]at a
 exact⟨((c.block _ (by omega)).trans (a.block _ (by omega))).trans (ay W _),(d.trans (a.mono (by omega))).trans (c.mono (by omega))⟩
theorem Cy.tree{C:Cd}{E:Bs}{W w:World}{c e:Cr}{L:List Nd}{f:FuncId}{d:Ending->World->Prop}(a:Cy C E W w c)(k:Rt C f c L e)(h:∀b g cp M,M.map Mb.N=L->Tw b E.base (.slice (some ⟨g,0,none⟩) L.length cp) M->Cy C E W b e->d (.returned (.agg #[.slice (some ⟨g,0,none⟩) L.length cp])) b):Calls Tryz.prog f #[cV E] w d:=by
 refine(k a.cu).mono ?_
 rintro n b ⟨g,cp,M,rfl,i,j,l,m⟩
 exact h b g cp M i j ⟨l,a.bel.trans m⟩
theorem Nl.form{w:World}{v:Value}{L:List Nd}(b:Nl w v L):∃a c,v= .slice a L.length c:=by
 obtain⟨d,e,rfl,b⟩:=b
 rw[aI]
 exact bG b.row
theorem Nl.below{w c:World}{v:Value}{L:List Nd}(a:Nl w v L)(b:Below w.heap.size w c):Nl c v L:=by
 obtain⟨d,h,e,a⟩:=a
 exact⟨d,h,e,a.mono fun g _ f=>b.block g f⟩
theorem sx{C:Cd}{E:Bs}{W w:World}{c:Option Addr}{cap:Nat}{v:Value}{L:List Nd}(d:E.base=W.heap.size+1)(e:Nl w v L)(b:Below E.base (dzW W C c cap) w):Hid ((DzP W L (.returned (.agg #[v])) (w.setCell ⟨W.heap.size,0,none⟩ v)/\(w.setCell ⟨W.heap.size,0,none⟩ v).heap[W.heap.size]?=some (.cells #[v] 25 (0,0)))/\w.cell? ⟨W.heap.size,0,none⟩=some (.slice none 0 0)/\w.frozen? ⟨W.heap.size,0,none⟩=false):=by
 rw[d]at b
 obtain⟨a,f⟩:=ac2 b
 exact⟨ahL a f e,by rw[au _ _ _ _ _ _ a];rfl,cA _ _ _ _ _ a⟩
inductive Dzw (C:Cd):List Nd->Prop
 |full {c1 c2:Cr}{L:List Nd}:Rc C 13 [.int .i64 40] ⟨0,0,0⟩ (.int .i64 0) c1->Rt C 34 c1 L c2->Dzw C L
 |steep {z:Int}{c1 c2 c3:Cr}{L:List Nd}:Rc C 13 [.int .i64 40] ⟨0,0,0⟩ (.int .i64 z) c1->(z==0)=false->Rc C 13 [.int .i64 12] c1 (.int .i64 0) c2->Rt C 35 c2 L c3->Dzw C L
 |text {z a b:Int}{c1 c2 c3:Cr}{s:ByteArray}{L:List Nd}:Rc C 13 [.int .i64 40] ⟨0,0,0⟩ (.int .i64 z) c1->(z==0)=false->Rc C 13 [.int .i64 12] c1 (.int .i64 1) c2->Rcw C 37 [] c2 (.string s) c3->s.size<=1048576->Out s a b L->Dzw C L
 |tree {z k:Int}{c1 c2 c3:Cr}{L:List Nd}:Rc C 13 [.int .i64 40] ⟨0,0,0⟩ (.int .i64 z) c1->(z==0)=false->Rc C 13 [.int .i64 12] c1 (.int .i64 k) c2->5<=k->Rt C 15 c2 L c3->Dzw C L
 |spoil {z k:Int}{c1 c2 c3 c4:Cr}{L L':List Nd}:Rc C 13 [.int .i64 40] ⟨0,0,0⟩ (.int .i64 z) c1->(z==0)=false->Rc C 13 [.int .i64 12] c1 (.int .i64 k) c2->2<=k->k<5->Rt C 15 c2 L c3->Sp C c3 L c4 L'->L'.length=L.length->Dzw C L'
theorem qA{C:Cd}{L:List Nd}(P:Dzw C L):Dz C 14 L:=by
 intro m bk cap J
 obtain⟨ao,H,I,E⟩:=Ds (cap:=cap) J
 clear J
 have d:=eJ H I
 have k:=aj E
 clear H I E
 cases P with
 |full q l=>?_
 |steep q y l i=>?_
 |@text an ba bb bl bn bo bc _ q y l i a8 a7=>?_
 |@tree an j _ _ _ _ q y l n i=>?_
 |@spoil an j _ _ _ _ ap _ q y l n br i B K=>?_
 all_goals
  go_in
  go_wp2_with fail
  rw[show m.heap.size+1=ao.cb from d.out.2.symm]
  refine k.out.run q.rw fun w1 s=>?_
  clear k
  go_wp2_with fail
 ·refine s.tree l fun am g cp M e c b=>?_
  have a:=sx d.out.1 ⟨M,_,e,c.lw⟩ b.bel
  clear c e b s d
  obtain⟨a,t,u⟩:=a
  go_wp2_with fail
  exact aH (du rfl _ _ m.heap.size _ _ _ _ rfl a.2 Tryz.underlying25 rfl (by kernel_rfl)) rfl a.1
 all_goals
  refine s.run l.rw fun am b=>?_
  clear s
 ·go_wp2_with fail
  refine b.tree i fun am g cp M e c b=>?_
  have a:=sx d.out.1 ⟨M,_,e,c.lw⟩ b.bel
  clear c e b d
  obtain⟨a,t,u⟩:=a
  go_wp2_with fail
  exact aH (du rfl _ _ m.heap.size _ _ _ _ rfl a.2 Tryz.underlying25 rfl (by kernel_rfl)) rfl a.1
 ·go_wp2_with fail
  refine b.run i fun h f=>?_
  clear b
  have n:=Ao h bc a8 a7
  go_wp2_with fail
  refine n.mono ?_
  rintro av A ⟨bt,rfl,v,G⟩
  obtain⟨bd,bf,rfl⟩:=v.form
  obtain⟨r,p⟩:=aE L.length
  rw[p]at v⊢
  have a:=sx d.out.1 (v.below (dh A (.cells #[.int .i64 ba,.int .i64 bb,.slice bd r bf] 90))) (f.below G).al.bel
  clear n f G v d
  unfold psV
  obtain⟨a,t,u⟩:=a
  go_wp2_with fail
  exact aH (du rfl _ _ m.heap.size _ _ _ _ rfl a.2 Tryz.underlying25 rfl (by kernel_rfl)) rfl a.1
 ·have w:(j==0)=false/\(j==1)=false:=by simp only[cJ];omega
  obtain⟨a4,a5⟩:=w
  go_wp2_with fail
  refine b.tree i fun h g cp M e c f=>?_
  have a:=sx d.out.1 (Nl.below ⟨M,_,e,c.lw⟩ (dh h (.cells #[.slice (some ⟨g,0,none⟩) L.length cp] 25))) f.al.bel
  clear e c f b d
  obtain⟨a,t,u⟩:=a
  go_wp2_with fail
  exact aH (du rfl _ _ m.heap.size _ _ _ _ rfl a.2 Tryz.underlying25 rfl (by kernel_rfl)) rfl a.1
 ·have w:(j==0)=false/\(j==1)=false:=by simp only[cJ];omega
  obtain⟨a4,a5⟩:=w
  go_wp2_with fail
  refine b.tree i fun h g cp M e c f=>?_
  clear b
  obtain⟨r,p⟩:=aE ap.length
  rw[p]at c⊢
  have F:=dh h (.cells #[.slice (some ⟨g,0,none⟩) r cp] 25)
  have z:=B (g:=g) (cp:=cp) (a:=M) (f.al (o:= .cells #[.slice (some ⟨g,0,none⟩) r cp] 25)).cu e (by rw[p];exact⟨c.lw.mono fun j _ n=>F.block j n,c.sep⟩)
  rw[p]at z
  have k:=eJ f K
  clear e c f F B K
  go_wp2_with fail
  refine z.mono ?_
  rintro av A ⟨rfl,ar,ad,x,a6,af,ak⟩
  have a9:=ak h.heap.size _ _ (ay h _)
  rw[k.out.2,p]at x
  have a:=sx d.out.1 ⟨ar,_,ad,x⟩ (k.out.1.al.bel.trans af)
  have bs:A.cell? ⟨h.heap.size,0,none⟩=some (.slice (some ⟨g,0,none⟩) r cp):=by rw[au _ _ _ _ _ _ a9];rfl
  clear ad x a6 af ak k z d
  obtain⟨a,t,u⟩:=a
  go_wp2_with fail
  exact aH (du rfl _ _ m.heap.size _ _ _ _ rfl a.2 Tryz.underlying25 rfl (by kernel_rfl)) rfl a.1
theorem afl{C:Cd}{E:Bs}{W w:World}{a:Option Addr}{cap:Nat}(j:E.base=W.heap.size+1)(b:Code C W.heap.size W a)(e:Below E.base (dzW W C a cap) w):Code C w.heap.size w a:=by
 rw[j]at e
 have c:=(ac2 e).2
 rcases b with b|⟨d,h,i,f,k⟩
 ·exact .inl b
 ·exact .inr ⟨d,h,i,fi f c.size,fun g l=>(c.cell (p:=⟨d,h+g,none⟩) f).trans (k g l)⟩
theorem Tg.tn{L:List Nd}(a:Tg L):Tn L:=⟨a.nd,by have:=a.n.2;omega⟩
theorem ac3(C:Cd):∃L,Tn L/\Dz C 14 L:=by
 obtain⟨t,i,al,x,h⟩:=dc C ⟨0,0,0⟩ 40 (by decide) (by decide) (by decide) (by decide)
 have am:i.p=1/\i.r=0:=x
 by_cases s:t=0
 ·subst s
  obtain⟨L,j,a,b⟩:=ahp C i (by omega)
  exact⟨L,a.tn,qA (.full h b)⟩
 have l:(t==0)=false:=by rw[cJ];exact s
 obtain⟨o,j,K,I,b⟩:=dc C i 12 (by decide) (by decide) (by omega) (by omega)
 by_cases z:o=0
 ·subst z
  obtain⟨L,m,a,c⟩:=ae4 C j (by omega)
  exact⟨L,a.tn,qA (.steep h l b c)⟩
 by_cases A:o=1
 ·subst A
  obtain⟨E,m,ak,J,c⟩:=ahl C j (by omega) (by omega)
  obtain⟨F,G,L,q⟩:=ahJ E
  have k:=q.nn
  exact⟨L,⟨fun d e=>⟨k.sm d e,k.int d e⟩,k.len⟩,qA (.text h l b c (by omega) q)⟩
 obtain⟨L,m,a,c⟩:=Gs C j (by omega) (by omega)
 have k:=a.n.2
 have ad:=a.p
 have af:=a.r
 by_cases B:5<=o
 ·exact⟨L,⟨fun d e=>(a.nd d e).f.g,by omega⟩,qA (.tree h l b B c)⟩
 obtain⟨v,H,w,y,u⟩:=Jc C m L (by omega) (by omega) a.n.1 (by omega) fun d e=>(a.nd d e).f
 exact⟨v,⟨y,by omega⟩,qA (.spoil h l b (by omega) (by omega) c u w)⟩
theorem ah0{C:Cd}{q:Cr}{L:List Nd}(o:Rc C 13 [.int .i64 3] ⟨0,0,0⟩ (.int .i64 0) q)(p:Dz C 14 L):Dz C 4 L:=by
 intro i r cap d
 obtain⟨n,l,m,j⟩:=Ds (cap:=cap) d
 have a:=jw l m d
 have g:=aj j
 clear l m j d
 go_in
 go_wp2_with fail
 rw[show i.heap.size+1=n.cb from a.out.2.1.symm]
 refine g.out.run o.rw fun w1 c=>?_
 clear g
 have h:=aj (afl a.out.1 a.out.2.2 c.bel)
 have f:=aj c
 clear c
 go_wp2_with fail
 refine(p h.out).mono ?_
 rintro t y ⟨v,rfl,e,k⟩
 have b:=sx a.out.1 e (f.out.below k).bel
 obtain⟨w,x,rfl⟩:=e.form
 clear h f e k a
 obtain⟨b,s,u⟩:=b
 go_wp2_with fail
 exact aH (du rfl _ _ i.heap.size _ _ _ _ rfl b.2 Tryz.underlying25 rfl (by kernel_rfl)) rfl b.1
theorem ah1{C:Cd}{z:Int}{s t J:Cr}{c L:List Nd}(G:Rc C 13 [.int .i64 3] ⟨0,0,0⟩ (.int .i64 z) s)(av:(z==0)=false)(H:Rt C 15 s c t)(m:Sp C t c J L)(x:L.length=c.length):Dz C 4 L:=by
 intro n an cap w
 obtain⟨F,u,v,p⟩:=Ds (cap:=cap) w
 have h:=eJ u v
 have a:=aj p
 clear u v p w
 go_in
 go_wp2_with fail
 rw[show n.heap.size+1=F.cb from h.out.2.symm]
 refine a.out.run G.rw fun w1 q=>?_
 clear a
 go_wp2_with fail
 refine q.tree H fun f g cp M y d i=>?_
 clear q
 obtain⟨l,e⟩:=aE c.length
 rw[e]at d⊢
 have r:=dh f (.cells #[.slice (some ⟨g,0,none⟩) l cp] 25)
 have k:=m (g:=g) (cp:=cp) (a:=M) (i.al (o:= .cells #[.slice (some ⟨g,0,none⟩) l cp] 25)).cu y (by rw[e];exact⟨d.lw.mono fun ak _ ad=>r.block ak ad,d.sep⟩)
 rw[e]at k
 have a:=eJ i x
 clear y d i r m x
 go_wp2_with fail
 refine k.mono ?_
 rintro ap am ⟨rfl,I,A,j,K,B,E⟩
 have af:=E f.heap.size _ _ (ay f _)
 rw[a.out.2,e]at j
 have b:=sx h.out.1 ⟨I,_,A,j⟩ (a.out.1.al.bel.trans B)
 have a2:am.cell? ⟨f.heap.size,0,none⟩=some (.slice (some ⟨g,0,none⟩) l cp):=by rw[au _ _ _ _ _ _ af];rfl
 clear A j K B E a k h
 obtain⟨b,ao,ar⟩:=b
 go_wp2_with fail
 exact aH (du rfl _ _ n.heap.size _ _ _ _ rfl b.2 Tryz.underlying25 rfl (by kernel_rfl)) rfl b.1
theorem ah2(C:Cd):∃L,Tn L/\Dz C 4 L:=by
 obtain⟨e,b,y,q,c⟩:=dc C ⟨0,0,0⟩ 3 (by decide) (by decide) (by decide) (by decide)
 have z:b.p=1/\b.r=0:=q
 by_cases d:e=0
 ·subst d
  obtain⟨L,a,g⟩:=ac3 C
  exact⟨L,a,ah0 c g⟩
 have t:(e==0)=false:=by rw[cJ];exact d
 obtain⟨L,l,a,h⟩:=Gs C b (by omega) (by omega)
 have v:=a.n.2
 have w:=a.p
 have x:=a.r
 obtain⟨j,u,m,s,i⟩:=Jc C l L (by omega) (by omega) a.n.1 (by omega) fun k o=>(a.nd k o).f
 exact⟨j,⟨s,by omega⟩,ah1 c t h i m⟩
theorem K8(w:World)(k m:Value)(l:List Int)(f:cH w k l)(g:cH w m l)(t:l.length<=1048576):
  Calls Tryz.prog 91 #[k,m] w fun e v=>e= .returned (.bool true)/\Below w.heap.size w v:=by
 obtain⟨o,q,rfl⟩:=f.form
 obtain⟨p,r,rfl⟩:=g.form
 obtain⟨b,d⟩:=aE l.length
 have n:=aj d
 have j:Hid (cH w (.slice o b q) l/\cH w (.slice p b r) l):=by rw[<-d];exact⟨f,g⟩
 rw[d]at t⊢
 clear f g d
 go_in
 go_wp21
 go_loopw [13] (fun i wr=>∃a:Nat,a<=b/\i= .int .i64 a/\Below w.heap.size w wr) (fun i _=>b-(intOf i).toNat)
 case atStart=>exact⟨0,by omega,rfl,ag _ _⟩
 case round=>
  obtain⟨a,B,rfl,c⟩:=hrel
  by_cases u:a<b
  ·obtain⟨C,h⟩:=bC n.out u
   obtain⟨x,rfl,z⟩:=(j.1.below c).get h
   obtain⟨y,rfl,A⟩:=(j.2.below c).get h
   have s:(a:Int)<(b:Int):=by omega
   clear h
   go_wp21
   go_quiet (fail)
   go_wp21
   exact⟨⟨a+1,by omega,by go_num,jc c _⟩,by simp[intOf];omega⟩
  ·obtain rfl:a=b:=by omega
   have s:¬(a:Int)<(a:Int):=by omega
   go_wp21
   go_ret
   exact⟨rfl,c⟩
theorem Hp(w:World)(k m:Value)(l:List ByteArray)(f:bp w k l)(g:bp w m l)(t:l.length<=1048576):
  Calls Tryz.prog 90 #[k,m] w fun e v=>e= .returned (.bool true)/\Below w.heap.size w v:=by
 obtain⟨o,q,rfl⟩:=f.form
 obtain⟨p,r,rfl⟩:=g.form
 obtain⟨b,d⟩:=aE l.length
 have n:=aj d
 have j:Hid (bp w (.slice o b q) l/\bp w (.slice p b r) l):=by rw[<-d];exact⟨f,g⟩
 rw[d]at t⊢
 clear f g d
 go_in
 go_wp21
 go_loopw [13] (fun i wr=>∃a:Nat,a<=b/\i= .int .i64 a/\Below w.heap.size w wr) (fun i _=>b-(intOf i).toNat)
 case atStart=>exact⟨0,by omega,rfl,ag _ _⟩
 case round=>
  obtain⟨a,B,rfl,c⟩:=hrel
  by_cases u:a<b
  ·obtain⟨C,h⟩:=bC n.out u
   obtain⟨x,rfl,z⟩:=(j.1.below c).get h
   obtain⟨y,rfl,A⟩:=(j.2.below c).get h
   have s:(a:Int)<(b:Int):=by omega
   clear h
   go_wp21
   go_quiet (fail)
   go_wp21
   exact⟨⟨a+1,by omega,by go_num,jc c _⟩,by simp[intOf];omega⟩
  ·obtain rfl:a=b:=by omega
   have s:¬(a:Int)<(a:Int):=by omega
   go_wp21
   go_ret
   exact⟨rfl,c⟩
theorem Lc(w:World)(N:Nd)(K I L J:Value)(G:bp w K N.nm)(B:cH w I N.ks)(H:bp w L N.nm)(C:cH w J N.ks)(ak:N.nm.length<=1048576)(al:N.ks.length<=1048576):
  Calls Tryz.prog 30 #[gF N K I,gF N L J] w fun e ao=>e= .returned (.bool true)/\Below w.heap.size w ao:=by
 have u:∀o p,Below w.heap.size w ((w.alloc o).alloc p):=fun o p=>((ag _ w).alloc (ah _) o).alloc (by simp) p
 have ks:=fun o p=>Hp ((w.alloc o).alloc p) K L N.nm (G.below (u o p)) (H.below (u o p)) ak
 have F:=fun ad (af:Below w.heap.size w ad)=>K8 ad I J N.ks (B.below af) (C.below af) al
 obtain⟨q,s,rfl⟩:=G.form
 obtain⟨r,t,rfl⟩:=H.form
 obtain⟨k,m,rfl⟩:=B.form
 obtain⟨l,n,rfl⟩:=C.form
 unfold gF
 generalize N.nm.length=b at ks⊢
 generalize N.ks.length=a at F⊢
 clear G B H C ak al
 obtain⟨d,c,i,f,h,g,j,a5,a0⟩:=N
 simp only
 go_in
 go_wp2_with fail
 have y:((w.alloc (.cells #[.int .i64 d,.int .i64 c,.int .i64 i,.int .i64 f,.int .i64 h,.int .i64 g,.string j,.slice q b s,.slice k a m] 50)).alloc (.cells #[.int .i64 d,.int .i64 c,.int .i64 i,.int .i64 f,.int .i64 h,.int .i64 g,.string j,.slice r b t,.slice l a n] 50)).cell? ⟨w.heap.size,8,none⟩=some (.slice k a m):=by
  rw[au _ _ _ _ _ _ ((eo _ _ _ (by simp)).trans (ay w _))];rfl
 have z:((w.alloc (.cells #[.int .i64 d,.int .i64 c,.int .i64 i,.int .i64 f,.int .i64 h,.int .i64 g,.string j,.slice q b s,.slice k a m] 50)).alloc (.cells #[.int .i64 d,.int .i64 c,.int .i64 i,.int .i64 f,.int .i64 h,.int .i64 g,.string j,.slice r b t,.slice l a n] 50)).cell? ⟨w.heap.size+1,8,none⟩=some (.slice l a n):=by
  have:=ay (w.alloc (.cells #[.int .i64 d,.int .i64 c,.int .i64 i,.int .i64 f,.int .i64 h,.int .i64 g,.string j,.slice q b s,.slice k a m] 50)) (.cells #[.int .i64 d,.int .i64 c,.int .i64 i,.int .i64 f,.int .i64 h,.int .i64 g,.string j,.slice r b t,.slice l a n] 50)
  rw[db]at this
  rw[au _ _ _ _ _ _ this];rfl
 have x:=u (.cells #[.int .i64 d,.int .i64 c,.int .i64 i,.int .i64 f,.int .i64 h,.int .i64 g,.string j,.slice q b s,.slice k a m] 50) (.cells #[.int .i64 d,.int .i64 c,.int .i64 i,.int .i64 f,.int .i64 h,.int .i64 g,.string j,.slice r b t,.slice l a n] 50)
 have E:=ks (.cells #[.int .i64 d,.int .i64 c,.int .i64 i,.int .i64 f,.int .i64 h,.int .i64 g,.string j,.slice q b s,.slice k a m] 50) (.cells #[.int .i64 d,.int .i64 c,.int .i64 i,.int .i64 f,.int .i64 h,.int .i64 g,.string j,.slice r b t,.slice l a n] 50)
 generalize (w.alloc (.cells #[.int .i64 d,.int .i64 c,.int .i64 i,.int .i64 f,.int .i64 h,.int .i64 g,.string j,.slice q b s,.slice k a m] 50)).alloc (.cells #[.int .i64 d,.int .i64 c,.int .i64 i,.int .i64 f,.int .i64 h,.int .i64 g,.string j,.slice r b t,.slice l a n] 50)=ap at y z x E⊢
 refine E.mono ?_
 rintro e w1 ⟨rfl,v⟩
 have ar:=ai v y
 have av:=ai v z
 have A:=x.trans (v.mono x.size)
 have an:=F w1 A
 clear y z E ks F v x u
 go_wp2_with (go_at_call 91;refine an.mono ?_;rintro e a6 ⟨rfl,am⟩)
 go_ret
 exact⟨rfl,A.trans (am.mono A.size)⟩
theorem Ld(w:World)(bk bl:Value)(l:List Nd)(q:dK w bk l)(r:dK w bl l)(bt:l.length<=1048576)(F:∀N∈l,N.nm.length<=1048576/\N.ks.length<=1048576):
  Calls Tryz.prog 11 #[.agg #[bk],.agg #[bl]] w fun e c=>e= .returned (.bool true)/\Below w.heap.size w c:=by
 obtain⟨j,h,rfl⟩:=q.form
 obtain⟨k,i,rfl⟩:=r.form
 obtain⟨d,o⟩:=aE l.length
 have bn:=aj o
 have B:Hid (dK w (.slice j d h) l/\dK w (.slice k d i) l):=by rw[<-o];exact⟨q,r⟩
 have bo:=aj F
 rw[o]at bt⊢
 clear q r o F
 have G:∀x y,Below w.heap.size w ((w.alloc x).alloc y):=fun x y=>((ag _ w).alloc (ah _) x).alloc (by simp) y
 have A:Hid (Below w.heap.size w ((w.alloc (.cells #[.slice j d h] 25)).alloc (.cells #[.slice k d i] 25))/\((w.alloc (.cells #[.slice j d h] 25)).alloc (.cells #[.slice k d i] 25)).cell? ⟨w.heap.size,0,none⟩=some (.slice j d h)/\((w.alloc (.cells #[.slice j d h] 25)).alloc (.cells #[.slice k d i] 25)).cell? ⟨w.heap.size+1,0,none⟩=some (.slice k d i)):=by
  refine⟨G _ _,by rw[au _ _ _ _ _ _ ((eo _ _ _ (by simp)).trans (ay w _))];rfl,?_⟩
  have:=ay (w.alloc (.cells #[.slice j d h] 25)) (.cells #[.slice k d i] 25)
  rw[db]at this
  rw[au _ _ _ _ _ _ this];rfl
 clear G
 go_in
 go_wp2_with fail
 go_loopw [16] (fun z wr=>∃a:Nat,a<=d/\z= .int .i64 a/\Below w.heap.size w wr/\wr.cell? ⟨w.heap.size,0,none⟩=some (.slice j d h)/\wr.cell? ⟨w.heap.size+1,0,none⟩=some (.slice k d i)) (fun z _=>d-(intOf z).toNat)
 case atStart=>exact⟨0,by omega,rfl,A.out⟩
 case round=>
  clear A
  obtain⟨a,b8,rfl,m,bd,bf⟩:=hrel
  by_cases bv:a<d
  ·obtain⟨N,p⟩:=bC bn.out bv
   obtain⟨H,I⟩:=bo.out N (bJ p)
   obtain⟨f,rfl,bA,bw,br⟩:=(B.1.below m).get p
   obtain⟨g,rfl,bD,bx,bs⟩:=(B.2.below m).get p
   have ca:(a:Int)<(d:Int):=by omega
   have b9:(0:Int)<=(a:Int):=by omega
   obtain⟨am,an,p2,ao,ap,ar,av,a0,a3,u,s⟩:=br
   obtain⟨a4,a5,a6,a7,a8,a9,ba,bb,bc,v,t⟩:=bs
   have n:=Lc wr.drew N bA bw bD bx u s v t H I
   obtain⟨bE,b4,rfl⟩:=u.form
   obtain⟨bF,b5,rfl⟩:=v.form
   obtain⟨b0,b6,rfl⟩:=s.form
   obtain⟨b3,b7,rfl⟩:=t.form
   unfold gF at n
   clear p u s v t H I
   generalize N.nm.length=C at a0 bb n
   generalize N.ks.length=E at a3 bc n
   obtain⟨K,J,ak,L,af,ad,al,cc,cb⟩:=N
   simp only at am an p2 ao ap ar av a4 a5 a6 a7 a8 a9 ba n
   go_wp2_with fail
   go_region_held3 (fun c=>c.cell? ⟨w.heap.size,0,none⟩=some (.slice (some f) d h)/\c.cell? ⟨w.heap.size+1,0,none⟩=some (.slice (some g) d i)/\c.cell? (f.add (a*9))=some (.int .i64 K)/\c.cell? ⟨(f.add (a*9)).block,(f.add (a*9)).off+1,none⟩=some (.int .i64 J)/\c.cell? ⟨(f.add (a*9)).block,(f.add (a*9)).off+2,none⟩=some (.int .i64 ak)/\c.cell? ⟨(f.add (a*9)).block,(f.add (a*9)).off+3,none⟩=some (.int .i64 L)/\c.cell? ⟨(f.add (a*9)).block,(f.add (a*9)).off+4,none⟩=some (.int .i64 af)/\c.cell? ⟨(f.add (a*9)).block,(f.add (a*9)).off+5,none⟩=some (.int .i64 ad)/\c.cell? ⟨(f.add (a*9)).block,(f.add (a*9)).off+6,none⟩=some (.string al)/\c.cell? ⟨(f.add (a*9)).block,(f.add (a*9)).off+7,none⟩=some (.slice bE C b4)/\c.cell? ⟨(f.add (a*9)).block,(f.add (a*9)).off+8,none⟩=some (.slice b0 E b6)/\c.cell? (g.add (a*9))=some (.int .i64 K)/\c.cell? ⟨(g.add (a*9)).block,(g.add (a*9)).off+1,none⟩=some (.int .i64 J)/\c.cell? ⟨(g.add (a*9)).block,(g.add (a*9)).off+2,none⟩=some (.int .i64 ak)/\c.cell? ⟨(g.add (a*9)).block,(g.add (a*9)).off+3,none⟩=some (.int .i64 L)/\c.cell? ⟨(g.add (a*9)).block,(g.add (a*9)).off+4,none⟩=some (.int .i64 af)/\c.cell? ⟨(g.add (a*9)).block,(g.add (a*9)).off+5,none⟩=some (.int .i64 ad)/\c.cell? ⟨(g.add (a*9)).block,(g.add (a*9)).off+6,none⟩=some (.string al)/\c.cell? ⟨(g.add (a*9)).block,(g.add (a*9)).off+7,none⟩=some (.slice bF C b5)/\c.cell? ⟨(g.add (a*9)).block,(g.add (a*9)).off+8,none⟩=some (.slice b3 E b7)) (first|go_keep|exact⟨ai b bd,ai b bf,ai b am,ai b an,ai b p2,ai b ao,ai b ap,ai b ar,ai b av,ai b a0,ai b a3,ai b a4,ai b a5,ai b a6,ai b a7,ai b a8,ai b a9,ai b ba,ai b bb,ai b bc⟩) ((go_at_call 30;refine n.mono ?_;rintro e cd ⟨rfl,b⟩))
   go_wp2_with fail
   exact⟨⟨a+1,by omega,by go_num,(aq m).trans (b.mono m.size),ai b bd,ai b bf⟩,by simp[intOf];omega⟩
  ·obtain rfl:a=d:=by omega
   go_wp2_with fail
   go_ret
   exact⟨rfl,m⟩
theorem afm{op:Int}(a:1<=op/\op<=18):((rB op).2=(rB op).1+1/\(rB op).1≠4/\1<=(rB op).1/\(rB op).1<=10)\/((rB op).1=4/\(rB op).2=4):=by
 unfold rB
 repeat' split
 all_goals first|(left;exact⟨rfl,by decide,by decide,by decide⟩)|(right;exact⟨rfl,rfl⟩)
theorem vq{N:Nd}(a:fE N.k=true):N.k=28\/N.k=29\/N.k=31:=by unfold fE at a;simp at a;omega
theorem qB{N:Nd}(a:fE N.k=true)(b:N.k=31->1<=N.op/\N.op<=18):((gK N=jD N+1/\jD N≠4/\1<=jD N/\jD N<=10)\/(jD N=4/\gK N=4))/\gB N.k N.op=jD N/\qc N.k N.op=gK N:=by
 unfold jD gK gB qc
 rcases vq a with e|e|e
 ·rw[e];exact⟨.inl ⟨rfl,by simp,by simp,by simp⟩,rfl,rfl⟩
 ·rw[e];exact⟨.inl ⟨rfl,by simp,by simp,by simp⟩,rfl,rfl⟩
 ·rw[e];exact⟨afm (b e),rfl,rfl⟩
theorem ac4{M:Nd}(a:fE M.k=false):11<=gB M.k M.op:=by
 unfold fE at a
 simp at a
 unfold gB
 rw[aa (by omega),aa (by omega),aa (by omega)]
 split<;>omega
theorem afn(a:List Nd)(E:Int->ByteArray)(N:Nd)(q:Int)(f:fE N.k=true)(h:N.k=31->1<=N.op/\N.op<=18)(g:(ae a q).k=31->1<=(ae a q).op/\(ae a q).op<=18):
  (if Jn N (ae a q)=true then ft (E q) else E q)=mo a E q (vK N (gB N.k N.op)):=by
 obtain⟨l,d,e⟩:=qB f h
 unfold mo vK Jn
 rw[d,e]
 cases hM:fE (ae a q).k with
 |false=>
  have:=ac4 hM
  rw[aa (by simp),aa]
  split<;>omega
 |true=>
  obtain⟨i,c,j⟩:=qB hM g
  rw[c]
  by_cases b:gK (ae a q)<=jD N
  ·rw[ab (by simp[b]),ab]
   split<;>omega
  ·rw[aa (by simp[b]),aa]
   split<;>omega
theorem ac5(a:List Nd)(E:Int->ByteArray)(N:Nd)(q:Int)(e:fE N.k=true)(g:N.k=31->1<=N.op/\N.op<=18)(f:(ae a q).k=31->1<=(ae a q).op/\(ae a q).op<=18):
  (if Dr N (ae a q)=true then ft (E q) else E q)=mo a E q (qc N.k N.op):=by
 obtain⟨j,l,d⟩:=qB e g
 unfold mo Dr
 rw[d]
 cases hM:fE (ae a q).k with
 |false=>
  have:=ac4 hM
  rw[aa (by simp),aa (by omega)]
 |true=>
  obtain⟨h,c,i⟩:=qB hM f
  rw[c]
  by_cases b:jD (ae a q)<gK N
  ·rw[ab (by simp[b]),ab b]
  ·rw[aa (by simp[b]),aa b]
theorem ajj(a:List Nd)(E:Int->ByteArray)(N:Nd)(q:Nat)(b:dl N 0=(q:Int))(h:19<=N.op/\N.op<=22)(c:(ae a q).k=31->1<=(ae a q).op/\(ae a q).op<=18):
  Aq N.op++(if(decide (N.op=19)&&C1 (ae a q))=true then⟨#[32]⟩ else ByteArray.empty)++(if fE (ae a q).k=true then ft (E q) else E q)=unB a E N:=by
 unfold unB
 rw[b]
 congr 1
 ·unfold Aq unS
  rw[b]
  rcases(show N.op=19\/N.op=20\/N.op=21\/N.op=22 by omega) with e|e|e|e
  ·rw[e]
   cases hn:C1 (ae a q)<;>simp
  ·rw[e];simp
  ·rw[e];simp
  ·rw[e];simp
 ·unfold mo
  cases hM:fE (ae a q).k with
  |false=>
   have:=ac4 hM
   rw[aa (by simp),aa (by omega)]
  |true=>
   obtain⟨d,f,g⟩:=qB hM c
   rw[ab rfl,ab (by omega)]
theorem Jo{op:Int}(a:1<=op/\op<=18):mA (60+op)=wh (60+op):=by
 obtain⟨b,c⟩:=a
 rcases(show op=1\/op=2\/op=3\/op=4\/op=5\/op=6\/op=7\/op=8\/op=9\/op=10\/op=11\/op=12\/op=13\/op=14\/op=15\/op=16\/op=17\/op=18 by omega) with rfl|rfl|rfl|rfl|rfl|rfl|rfl|rfl|rfl|rfl|rfl|rfl|rfl|rfl|rfl|rfl|rfl|rfl
 all_goals decide+kernel
theorem afo{N:Nd}(a:N.k=28):vh N=⟨#[32,97,110,100,32]⟩:=by unfold vh iJ;rw[ab a];decide+kernel
theorem ah3{N:Nd}(a:N.k=29):vh N=⟨#[32,111,114,32]⟩:=by unfold vh iJ;rw[aa (by omega),ab a];decide+kernel
theorem afp{N:Nd}(a:N.k=31)(b:1<=N.op/\N.op<=18):vh N=⟨#[32]⟩++wh (60+N.op)++⟨#[32]⟩:=by unfold vh iJ;rw[aa (by omega),aa (by omega),ab a,Jo b]
theorem afq{N:Nd}(b:N.k=31->1<=N.op/\N.op<=18):iJ N<=100/\0<=iJ N:=by
 unfold iJ
 by_cases a:N.k=31
 ·have:=b a
  rw[aa (by omega),aa (by omega),ab a];omega
 ·split
  ·omega
  ·split
   ·omega
   ·omega
theorem Le{N:Nd}(b:fE N.k=true)(c:N.k=31->1<=N.op/\N.op<=18):(mA (iJ N)).size<=100:=by
 rcases vq b with e|e|e
 ·unfold iJ;rw[ab e];decide+kernel
 ·unfold iJ;rw[aa (by omega),ab e];decide+kernel
 ·have a:=c e
  unfold iJ;rw[aa (by omega),aa (by omega),ab e,Jo a]
  have:=zv a
  omega
theorem Dt(x:ByteArray):bK [x]=x:=by rw[Bg];show x++ByteArray.empty=x;exact ByteArray.append_empty
theorem ah4(N:Nd):⟨#[40]⟩++bK (kL N)++⟨#[41]⟩++⟨#[32]⟩=Kj N:=by
 unfold Kj kL
 by_cases b:N.op=1
 ·rw[ab b,ab b,KH]
  by_cases a:N.nm=[]
  ·rw[ab a,ab a,a]
   show(⟨#[40]⟩++Hn)++⟨#[41]⟩++⟨#[32]⟩=⟨#[40]⟩++ByteArray.empty++⟨#[46,46,46]⟩++⟨#[41,32]⟩
   decide+kernel
  ·rw[aa a,aa a]
   have c:(⟨#[41]⟩:ByteArray)++⟨#[32]⟩=⟨#[41,32]⟩:=by decide+kernel
   rw[<-c]
   unfold Hn
   simp only[be]
 ·rw[aa b,aa b]
  have c:(⟨#[41]⟩:ByteArray)++⟨#[32]⟩=⟨#[41,32]⟩:=by decide+kernel
  rw[<-c,show ∀d:ByteArray,d++ByteArray.empty=d from fun d=>ByteArray.append_empty]
  simp only[be]
theorem ac6{d:List Nd}{N:Nd}(b:lF d N=true)(g:N.nm.length<=200):(bK (kL N)).size<=1000000:=by
 have c:∀a∈kL N,a.size<=4000:=by
  intro a hs
  unfold kL at hs
  split at hs
  ·rcases List.mem_append.1 hs with hs|hs
   ·exact oC b a hs
   ·obtain rfl:=List.mem_singleton.1 hs;decide
  ·exact oC b a hs
 have e:=ue _ c
 have f:(kL N).length<=201:=by
  unfold kL
  split
  ·rw[aD];show _+1<=_;omega
  ·omega
 omega
theorem uk{ks:List Int}(E:Int->ByteArray){q:Int}(b:ks.length=1)(c:ks[0]?=some q):bK (ks.map E)=E q:=by
 match ks,b with
 |[a],_=>
  obtain rfl:a=q:=by simpa using c
  exact Dt _
structure Cx (w0:World) (ns:List Nd) (L:List Im) (base:Nat) (vs:Value):Prop where
 tp:Tp w0 ns L base vs
 pow:oF w0
 lay:Lm w0
 sz:Lz ns
 len:ns.length<=3000
 n0:∀i:Int, -9223372036854775808<=(ae ns i).n
 n1:∀i:Int,(ae ns i).n<=9223372036854775807
structure VA (w0:World) (vb:Nat) (ns:List Nd) (L:List Im) (f:Nat):Prop where
 e:∀(z t:Nat),z<f->z<ns.length->eB (ae ns z).k=true->t+f<=50000->zH w0 vb L t z (oG ns f z t)
 s:∀(z t:Nat),z<f->z<ns.length->gI (ae ns z).k=true->t+f<=50000->zH w0 vb L t z (oH ns f z t)
 b:∀(z t:Nat)(word:ByteArray),z<f->z<ns.length->(ae ns z).k=7->t+f<=50000->word.size<=100->Pw w0 vb 136 #[vP vb,fJ w0 t,.string word,nV (jo L z)] (tJ ns f z word t)
theorem VA.zero(d:World)(c:Nat)(b:List Nd)(L:List Im):VA d c b L 0:=⟨fun _ _ a=>absurd a (by omega),fun _ _ a=>absurd a (by omega),fun _ _ _ a=>absurd a (by omega)⟩
section
variable {w0 : World} {vb : Nat} {ns : List Nd} {L : List Im} {base : Nat} {vs : Value} {f : Nat}
theorem Cx.op(C:Cx w0 ns L base vs):∀j:Nat,j<ns.length->(ae ns j).k=31->1<=(ae ns j).op/\(ae ns j).op<=18:=fun j b a=>(jK (iy (C.sz.nb j b)).1).2.2 a
theorem Ar(C:Cx w0 ns L base vs)(V:VA w0 vb ns L f){q t:Nat}(n:q<=f)(a:q<ns.length)(d:(ae ns q).k=1)(ht:t+f<50000):zH w0 vb L t q (wA (fun k t=>oH ns f k t) (ae ns q).ks t):=by
 obtain⟨i,m⟩:=iy (C.sz.nb q a)
 have g:=ud i d
 refine oI 1 C.tp a d (afh w0 vb ns L base vs C.tp t (by omega) q a _ rfl (by omega) (fun k t=>oH ns f k t) (fun o j=>?_))
 obtain⟨e,h,rfl⟩:=lB j
 obtain⟨l,b⟩:=fG (C.sz.nb q a) a e h
 have c:=Fb _ 0 g e (by omega) (by omega)
 rw[b.id]at c⊢
 exact V.s l (t+1) (by have:=b.lt;omega) b.len c (by omega)
theorem Hq(C:Cx w0 ns L base vs)(V:VA w0 vb ns L f){i t:Nat}(e:i<ns.length)(p:i<=f)(ht:t+f<=50000){a m:Nat}(h:∀j,a<=j->j<a+m->eB (ae ns (dl (ae ns i) j)).k=true)(q:a+m<=(ae ns i).ks.length):∀z∈((ae ns i).ks.drop a).take m,zH w0 vb L t z (oG ns f z t):=by
 intro z n
 obtain⟨j,l,c⟩:=gh n
 rw[dt,dH]at l
 rw[List.getElem_take,List.getElem_drop]at c
 obtain⟨o,b⟩:=fG (C.sz.nb i e) e (a+j) (by omega)
 have g:=zu (N:=ae ns i) (j:=a+j) (by omega)
 rw[g,b.id]at c
 have d:=h (a+j) (by omega) (by omega)
 rw[b.id]at d
 rw[<-c]
 exact V.e o t (by have:=b.lt;omega) b.len d ht
theorem Hr{t:Nat}{a:List Int}(b:∀z∈a,zH w0 vb L t z (oG ns f z t))(c:a.length<=1048576):∀v,nK w0 L v a->Pw w0 vb 135 #[vP vb,fJ w0 t,v] (bK (a.map fun k=>oG ns f k t)):=fun v d=>E3 w0 vb L t a v d c _ b
theorem bsV(C:Cx w0 ns L base vs)(V:VA w0 vb ns L f){q t:Nat}(c:q<f)(a:q<ns.length)(b:eB (ae ns q).k=true)(ht:t+f<=50000):Pw w0 vb 144 #[vP vb,fJ w0 t,nV (jo L q)] (Ly ns (fun k=>oG ns f k t) q):=by
 have:=Ku w0 vb ns L base vs C.tp t q a _ (V.e q t c a b ht)
 unfold Ly
 exact this
theorem ajk(C:Cx w0 ns L base vs)(V:VA w0 vb ns L f){q t:Nat}(m:q<=f)(b:q<ns.length)(e:(ae ns q).k=36)(ht:t+f<50000):Pw w0 vb 134 #[vP vb,fJ w0 t,nV (jo L q)] (EF ns (fun k t=>oH ns f k t) (ae ns q) t):=by
 obtain⟨g,l⟩:=iy (C.sz.nb q b)
 obtain⟨i,c,d,j⟩:=ab9 g e
 obtain⟨h,a⟩:=fG (C.sz.nb q b) b 0 (by omega)
 rw[a.id]at c
 have:=ahK w0 vb ns L base vs C.tp t (by omega) q b _ rfl e (by omega) d (ac6 g d) h a.at_ _ (Ar C V (by have:=a.lt;omega) a.len c ht)
 unfold EF
 rw[a.id,<-ah4]
 exact this
theorem aj9(C:Cx w0 ns L base vs)(V:VA w0 vb ns L f){q t:Nat}(u:q<=f)(c:q<ns.length)(I:40<=(ae ns q).k/\(ae ns q).k<=42)(ht:t+f<=50000):zH w0 vb L t q (wy ns (fun k=>oG ns f k t) (ae ns q)):=by
 obtain⟨v,J⟩:=iy (C.sz.nb q c)
 have F:=sr (C.sz.nb q c)
 have o:=fun h E=>fG (C.sz.nb q c) c h E
 unfold wy
 by_cases n:(ae ns q).k=41
 ·rw[ab n]
  obtain⟨j,d,A⟩:=jK v
  obtain⟨a,b⟩:=o 0 (by omega)
  obtain⟨p,r⟩:=o 1 (by omega)
  have x:=fF 2 0 d 0 (by omega) (by omega)
  have G:=b.lt
  have e:=Hq C V (t:=t) c u ht (a:=1) (m:=1) (fun h y z=>by have l:h=1:=(by omega);subst l;exact fF 2 0 d 1 (by omega) (by omega)) (by omega)
  rw[bH (by rw[dH];omega)]at e
  have g:=Dx C.tp (by omega) c rfl (by omega) (.par j b.at_ (IL w0 vb t _ _ (V.e a t (by omega) b.len (by rw[<-b.id];exact x) ht)) (Hr e (by rw[dH];omega)))
  have B:((ae ns q).ks.drop 1).map (fun k=>oG ns f k t)=[oG ns f p t]:=by
   have s:=r.at_
   match hks:(ae ns q).ks,j with
   |[K,H],_=>
    rw[hks]at s
    obtain rfl:H=(p:Int):=by simpa using s
    rfl
  rw[B,Dt]at g
  rw[b.id,r.id]
  have w:(⟨#[93]⟩:ByteArray)++⟨#[32,61,32]⟩=⟨#[93,32,61,32]⟩:=by decide+kernel
  rw[<-w]
  have:=oI 41 C.tp c n g
  simpa only[be] using this
 rw[aa n]
 obtain⟨j,d,A⟩:=li v (show _ by omega)
 obtain⟨a,b⟩:=o 0 (by omega)
 have G:=b.lt
 rw[b.id]at d
 by_cases i:(ae ns q).k=42
 ·rw[ab i]
  have e:=Hq C V (t:=t) c u ht (a:=0) (m:=1) (fun h y z=>by have l:h=0:=(by omega);subst l;rw[b.id];exact d) (by omega)
  rw[dJ,bH (by omega)]at e
  have g:=m_v C.tp (by omega) c rfl (by omega) F (.nmd i (Hr e (by omega)))
  rw[uk _ j b.at_]at g
  rw[b.id]
  exact oI 42 C.tp c i g
 ·rw[aa i,b.id]
  exact oI 40 C.tp c (by omega) (Dx C.tp (by omega) c rfl (by omega) (.itm b.at_ (V.e a t (by omega) b.len d ht)))
theorem ajl(C:Cx w0 ns L base vs)(V:VA w0 vb ns L f){i t:Nat}(an:i<=f)(b:i<ns.length)(ao:eB (ae ns i).k=true)(ht:t+f<50000):zH w0 vb L t i (prE ns (fun q=>oG ns f q t) (fun q t=>oH ns f q t) (ae ns i) t):=by
 obtain⟨p,a4⟩:=iy (C.sz.nb i b)
 have J:=sr (C.sz.nb i b)
 have l:=fun v af=>fG (C.sz.nb i b) b v af
 have g:(ae ns i).ks.length<=1048576:=by omega
 have h:t<=100000:=by omega
 have a3:=bi ao
 have al:fE (ae ns i).k=true->Pw w0 vb 72 #[vP vb,fJ w0 t,nV (jo L i)] (C0 ns (fun q=>oG ns f q t) (ae ns i) (vh (ae ns i)) (gB (ae ns i).k (ae ns i).op)):=by
  intro A
  have a2:=vq A
  obtain⟨o,d,u⟩:=jK p
  obtain⟨a,c⟩:=l 0 (by omega)
  obtain⟨r,j⟩:=l 1 (by omega)
  have n:=fF 2 0 d 0 (by omega) (by omega)
  have z:=fF 2 0 d 1 (by omega) (by omega)
  rw[c.id]at n
  rw[j.id]at z
  have E:=c.lt
  have a0:=j.lt
  have B:=afk w0 vb ns L base vs C.tp C.pow C.lay.tabs t i b A C.op a c.at_ c.len _ (V.e a t (by omega) c.len n (by omega)) r j.at_ j.len _ (V.e r t (by omega) j.len z (by omega)) (afq (C.op i b)) (Le A (C.op i b))
  rw[afn ns (fun q=>oG ns f q t) _ (a:Int) A (C.op i b) (C.op a c.len),ac5 ns (fun q=>oG ns f q t) _ (r:Int) A (C.op i b) (C.op r j.len)]at B
  unfold C0
  rw[c.id,j.id]
  exact B
 unfold prE
 by_cases w:(ae ns i).k=28
 ·rw[ab w,<-afo w];exact oI 28 C.tp b w (al (by rw[w];rfl))
 rw[aa w]
 by_cases x:(ae ns i).k=29
 ·rw[ab x,<-ah3 x];exact oI 29 C.tp b x (al (by rw[x];rfl))
 rw[aa x]
 by_cases s:(ae ns i).k=31
 ·rw[ab s,<-afp s (C.op i b s)];exact oI 31 C.tp b s (al (by rw[s];rfl))
 rw[aa s]
 by_cases y:(ae ns i).k=30
 ·rw[ab y]
  obtain⟨o,d,u⟩:=li p
  obtain⟨a,c⟩:=l 0 (by omega)
  have E:=c.lt
  rw[c.id]at d
  have B:=ac1 w0 vb ns L base vs C.tp C.pow t i b y C.op a c.at_ c.len _ (V.e a t (by omega) c.len d (by omega))
  rw[ajj ns (fun q=>oG ns f q t) _ a c.id (u y) (C.op a c.len)]at B
  exact oI 30 C.tp b y B
 rw[aa y]
 by_cases ad:(ae ns i).k=32
 ·rw[ab ad]
  obtain⟨o,d,u⟩:=jK p
  obtain⟨a,c⟩:=l 0 (by omega)
  obtain⟨r,j⟩:=l 1 (by omega)
  have n:=fF 2 0 d 0 (by omega) (by omega)
  have z:=fF 2 0 d 1 (by omega) (by omega)
  have E:=c.lt
  have a0:=j.lt
  rw[c.id]at n⊢
  rw[j.id]at z⊢
  have:=oI 32 C.tp b ad (Dx C.tp h b rfl g (.ind c.at_ j.at_ (bsV C V (by omega) c.len n (by omega)) (IL w0 vb t _ _ (V.e r t (by omega) j.len z (by omega)))))
  simpa only[be] using this
 rw[aa ad]
 by_cases F:(ae ns i).k=33
 ·rw[ab F]
  obtain⟨o,d,u⟩:=li p
  obtain⟨a,c⟩:=l 0 (by omega)
  have E:=c.lt
  rw[c.id]at d⊢
  exact oI 33 C.tp b F (m_v C.tp h b rfl g J (.fld F c.at_ (bsV C V (by omega) c.len d (by omega))))
 rw[aa F]
 by_cases G:(ae ns i).k=34
 ·rw[ab G]
  obtain⟨o,d⟩:=Da p G
  obtain⟨a,c⟩:=l 0 (by omega)
  have E:=c.lt
  have n:=fF _ 0 d 0 (by omega) (by omega)
  have am:=Hq C V (t:=t) b an (by omega) (a:=1) (m:=(ae ns i).ks.length-1) (fun v u a1=>fF _ 0 d v (by omega) (by omega)) (by omega)
  rw[bH (by rw[dH];exact ah _)]at am
  rw[c.id]at n⊢
  exact oI 34 C.tp b G (m_d C.tp h b rfl g (.call c.at_ (bsV C V (by omega) c.len n (by omega)) (Hr am (by rw[dH];omega))))
 rw[aa G]
 by_cases H:(ae ns i).k=35
 ·rw[ab H]
  have o:=zo p H
  unfold abr
  refine oI 35 C.tp b H (m_d C.tp h b rfl g (.tab (fun av ap=>E3 w0 vb L t _ av ap g (fun k=>wy ns (fun q=>oG ns f q t) (ae ns k)) (fun a6 ar=>?_))))
  obtain⟨v,af,rfl⟩:=lB ar
  obtain⟨a5,ak⟩:=l v af
  have d:=I9 _ 0 o v (by omega) (by omega)
  rw[ak.id]at d⊢
  exact aj9 C V (by have:=ak.lt;omega) ak.len d (by omega)
 rw[aa H]
 by_cases I:(ae ns i).k=36
 ·rw[ab I]
  exact oI 36 C.tp b I (Dx C.tp h b rfl g (.fnx (ajk C V an b I ht)))
 rw[aa I]
 by_cases K:(ae ns i).k=37
 ·rw[ab K]
  obtain⟨o,d,u⟩:=li p
  obtain⟨a,c⟩:=l 0 (by omega)
  have E:=c.lt
  rw[c.id]at d⊢
  exact oI 37 C.tp b K (Dx C.tp h b rfl g (.one c.at_ (tL w0 vb t _ _ (V.e a t (by omega) c.len d (by omega)))))
 rw[aa K]
 unfold plB
 rcases(show(ae ns i).k=20\/(ae ns i).k=21\/(ae ns i).k=22\/(ae ns i).k=23\/(ae ns i).k=24\/(ae ns i).k=25\/(ae ns i).k=26\/(ae ns i).k=27 by omega) with e|e|e|e|e|e|e|e
 ·rw[ab e];exact oI 20 C.tp b e (Dx C.tp h b rfl g .nil_)
 ·rw[aa (by omega),ab e];exact oI 21 C.tp b e (Dx C.tp h b rfl g .tru)
 ·rw[aa (by omega),aa (by omega),ab e];exact oI 22 C.tp b e (Dx C.tp h b rfl g .fls)
 ·rw[aa (by omega),aa (by omega),aa (by omega),ab e];exact oI 23 C.tp b e (m_v C.tp h b rfl g (sr (C.sz.nb i b)) (.int_ e C.lay (C.n0 i) (C.n1 i)))
 ·rw[aa (by omega),aa (by omega),aa (by omega),aa (by omega),ab (by omega)];exact oI 24 C.tp b e (m_v C.tp h b rfl g J (.flt e))
 ·rw[aa (by omega),aa (by omega),aa (by omega),aa (by omega),aa (by omega),ab e];exact oI 25 C.tp b e (m_v C.tp h b rfl g J (.str e))
 ·rw[aa (by omega),aa (by omega),aa (by omega),aa (by omega),ab (by omega)];exact oI 26 C.tp b e (m_v C.tp h b rfl g J (.nam e))
 ·rw[aa (by omega),aa (by omega),aa (by omega),aa (by omega),aa (by omega),aa (by omega),ab e];exact oI 27 C.tp b e (Dx C.tp h b rfl g .rst)
end
section
variable {w0 : World} {vb : Nat} {ns : List Nd} {L : List Im} {base : Nat} {vs : Value} {f : Nat}
theorem afK{N:Nd}{q:Nat}(E:Int->ByteArray)(b:0<N.ks.length)(a:N.ks[0]?=some (q:Int)):bK ((N.ks.take 1).map E)=E q:=by
 refine uk E (by rw[dt];omega) ?_
 rw[iE,ab (by omega)];exact a
theorem brV(C:Cx w0 ns L base vs)(V:VA w0 vb ns L f){i t:Nat}(F:i<=f)(e:i<ns.length)(H:(ae ns i).k=7)(ht:t+f<50000)(u:ByteArray)(p:u.size<=100):
  Pw w0 vb 136 #[vP vb,fJ w0 t,.string u,nV (jo L i)] (za ns (fun q=>oG ns f q t) (fun q t=>oH ns f q t) (fun q w=>tJ ns f q w t) (ae ns i) u t):=by
 obtain⟨I,ak⟩:=iy (C.sz.nb i e)
 have s:=fun r G=>fG (C.sz.nb i e) e r G
 have n:(ae ns i).ks.length<=1048576:=by omega
 have o:t<=100000:=by omega
 obtain⟨ad,af,B,y,E⟩:=acd I H
 obtain⟨a,l⟩:=s 0 (by omega)
 obtain⟨A,d⟩:=s 1 (by omega)
 have al:=l.lt
 have am:=d.lt
 have z:=Hq C V (t:=t) e F (by omega) (a:=0) (m:=1) (fun r J K=>by have c:r=0:=(by omega);subst c;exact B) (by omega)
 rw[dJ]at z
 have h:=Hr z (by rw[dt];omega)
 rw[afK _ (by omega) l.at_]at h
 rw[d.id]at y
 have j:=Ar C V (t:=t) (show A<=f by omega) d.len y ht
 unfold za
 rw[l.id,d.id]
 rcases ci (ae ns i).ks.length 3 with g|g
 ·rw[ab g,show ∀v:ByteArray,v++ByteArray.empty=v from fun v=>ByteArray.append_empty]
  exact b_w C.tp o e rfl n p (.two (by omega) h d.at_ j)
 ·rw[aa (by omega)]
  obtain⟨x,b⟩:=s 2 (by omega)
  have wc:=b.lt
  rw[b.id]at E⊢
  by_cases c:(ae ns x).k=7
  ·rw[ab c]
   exact b_w C.tp o e rfl n p (.elf (by omega) h d.at_ j b.at_ b.len c (V.b x t _ (by omega) b.len c (by omega) (by decide)))
  ·rw[aa c]
   exact b_w C.tp o e rfl n p (.els (by omega) h d.at_ j b.at_ b.len c (Ar C V (by omega) b.len (by omega) ht))
theorem ajm(C:Cx w0 ns L base vs)(V:VA w0 vb ns L f){i t:Nat}(r:i<=f)(b:i<ns.length)(bf:gI (ae ns i).k=true)(ht:t+f<50000):
  zH w0 vb L t i (prS ns (fun q=>oG ns f q t) (fun q t=>oH ns f q t) (fun _ w=>za ns (fun q=>oG ns f q t) (fun q t=>oH ns f q t) (fun q w=>tJ ns f q w t) (ae ns i) w t) (ae ns i) t):=by
 obtain⟨u,bl⟩:=iy (C.sz.nb i b)
 have v:=fun l bc=>fG (C.sz.nb i b) b l bc
 have j:(ae ns i).ks.length<=1048576:=by omega
 have p:t<=100000:=by omega
 have bk:=bi bf
 have a6:∀k:Int,k=34->eB k=true:=fun k e=>by rw[e];rfl
 have A:(ae ns i).nm.length<=200->(bK (ae ns i).nm).size<=1000000:=fun a7=>by have:=ue _ (oC u);omega
 have bb:(ae ns i).nm.length=1->bK (ae ns i).nm=nm0 (ae ns i):=fun a7=>by
  unfold nm0
  match hn:(ae ns i).nm,a7 with
  |[z],_=>exact Dt z
 unfold prS
 by_cases ap:(ae ns i).k=1
 ·rw[ab ap];exact Ar C V r b ap ht
 rw[aa ap]
 by_cases B:(ae ns i).k=2
 ·rw[ab B]
  obtain⟨h1,c⟩:=G4 u B
  by_cases x:(ae ns i).ks=[]
  ·rw[ab x,show ∀z:ByteArray,z++ByteArray.empty=z from fun z=>ByteArray.append_empty]
   exact oI 2 C.tp b B (m_n C.tp p b rfl j (by omega) (A c) (.let0 B (by rw[x];rfl)))
  ·rw[aa x]
   have g:=Hq C V (t:=t) b r (by omega) (a:=0) (m:=(ae ns i).ks.length) (fun l o y=>fF _ 0 h1 l (by omega) (by omega)) (by omega)
   rw[dJ,bH (ah _)]at g
   exact oI 2 C.tp b B (m_n C.tp p b rfl j (by omega) (A c) (.let1 B (by rcases mJ (ae ns i).ks.length with e|e;exact absurd (fj e) x;exact e) (Hr g j)))
 rw[aa B]
 by_cases H:(ae ns i).k=3
 ·rw[ab H]
  obtain⟨h1,c,o⟩:=zq u H
  obtain⟨a,d⟩:=v 0 (by omega)
  have g:=Hq C V (t:=t) b r (by omega) (a:=0) (m:=1) (fun l am an=>by have e:l=0:=(by omega);subst e;exact c) (by omega)
  rw[dJ,bH (by omega)]at g
  have s:=m_n C.tp p b rfl j (by omega) (A (by omega)) (.cst H (Hr g j))
  rw[uk _ h1 d.at_,bb o]at s
  rw[d.id]
  exact oI 3 C.tp b H s
 rw[aa H]
 by_cases I:(ae ns i).k=4
 ·rw[ab I]
  obtain⟨h1,c,o⟩:=G5 u I
  obtain⟨a,d⟩:=v 0 (by omega)
  have a4:=d.lt
  rw[d.id]at c⊢
  have s:=m_n C.tp p b rfl j (by omega) (A (by omega)) (.fns I d.at_ (ajk C V (by omega) d.len c ht))
  rw[bb o]at s
  exact oI 4 C.tp b I s
 rw[aa I]
 by_cases J:(ae ns i).k=5
 ·rw[ab J]
  obtain⟨h1,c,o,y⟩:=acb u J
  obtain⟨m,s⟩:∃m:Nat,(ae ns i).n=(m:Int):=⟨(ae ns i).n.toNat,by omega⟩
  have bd:(ae ns i).n.toNat=m:=by omega
  rw[bd]at o y⊢
  have a8:=Hq C V (t:=t) b r (by omega) (a:=0) (m:=m) (fun l a2 a3=>ab8 _ 0 o l (by omega) (by omega)) (by omega)
  rw[dJ]at a8
  have a9:=Hq C V (t:=t) b r (by omega) (a:=m) (m:=(ae ns i).ks.length-m) (fun l a2 a3=>fF _ m y l (by omega) (by omega)) (by omega)
  rw[bH (by rw[dH];exact ah _)]at a9
  have:=oI 5 C.tp b J (m_v C.tp p b rfl j (sr (C.sz.nb i b)) (.set J s (by omega) (Hr a8 (by rw[dt];omega)) (Hr a9 (by rw[dH];omega))))
  simpa only[be] using this
 rw[aa J]
 by_cases a1:(ae ns i).k=6
 ·rw[ab a1]
  obtain⟨h1,c⟩:=Be u (by omega)
  obtain⟨a,d⟩:=v 0 (by omega)
  have a4:=d.lt
  rw[d.id]at c⊢
  exact oI 6 C.tp b a1 (Dx C.tp p b rfl j (.do_ d.at_ (V.e a t (by omega) d.len (a6 _ c) (by omega))))
 rw[aa a1]
 by_cases ak:(ae ns i).k=7
 ·rw[ab ak]
  exact oI 7 C.tp b ak (Dx C.tp p b rfl j (.iff (brV C V r b ak ht _ (by decide))))
 rw[aa ak]
 by_cases al:(ae ns i).k=8
 ·rw[ab al]
  obtain⟨h1,c,o⟩:=zr u al
  obtain⟨a,d⟩:=v 0 (by omega)
  obtain⟨ad,h⟩:=v 1 (by omega)
  have a4:=d.lt
  have ao:=h.lt
  have g:=Hq C V (t:=t) b r (by omega) (a:=0) (m:=1) (fun l am an=>by have e:l=0:=(by omega);subst e;exact c) (by omega)
  rw[dJ]at g
  have ba:=Hr g (by rw[dt];omega)
  rw[afK _ (by omega) d.at_]at ba
  rw[h.id]at o
  rw[d.id,h.id]
  exact oI 8 C.tp b al (Dx C.tp p b rfl j (.whl h1 ba h.at_ (Ar C V (by omega) h.len o ht)))
 rw[aa al]
 by_cases a5:(ae ns i).k=9\/(ae ns i).k=10
 ·rw[ab a5]
  by_cases ar:(ae ns i).k=10
  ·rw[aa (by omega)]
   obtain⟨h1,c,o,y⟩:=Db u ar
   rw[h1]
   have g:=Hq C V (t:=t) b r (by omega) (a:=0) (m:=1) (fun l am an=>by have e:l=0:=(by omega);subst e;exact c) (by omega)
   rw[dJ]at g
   obtain⟨ad,h⟩:=v 1 (by omega)
   have ao:=h.lt
   show zH _ _ _ _ _ (_++_++_++_++_++wA _ (ae ns (dl (ae ns i) 1)).ks t)
   rw[h.id]at o⊢
   exact oI 10 C.tp b ar (m_n C.tp p b rfl j (by omega) (A y) (.eac ar h1 (Hr g (by rw[dt];omega)) h.at_ (Ar C V (by omega) h.len o ht)))
  ·have E:(ae ns i).k=9:=by omega
   rw[ab E]
   obtain⟨h1,c,o,y⟩:=G6 u E
   rcases h1 with h1|h1
   ·rw[h1]at c o⊢
    have g:=Hq C V (t:=t) b r (by omega) (a:=0) (m:=2) (fun l a2 a3=>fF _ 0 c l (by omega) (by omega)) (by omega)
    rw[dJ]at g
    obtain⟨ad,h⟩:=v 2 (by omega)
    have ao:=h.lt
    have K:(ae ns (dl (ae ns i) 2)).k=1:=o
    show zH _ _ _ _ _ (_++_++_++_++_++wA _ (ae ns (dl (ae ns i) 2)).ks t)
    rw[h.id]at K⊢
    exact oI 9 C.tp b E (m_n C.tp p b rfl j (by omega) (A (by omega)) (.fr E (.inl rfl) h1 (Hr g (by rw[dt];omega)) h.at_ (Ar C V (by omega) h.len K ht)))
   ·rw[h1]at c o⊢
    have g:=Hq C V (t:=t) b r (by omega) (a:=0) (m:=3) (fun l a2 a3=>fF _ 0 c l (by omega) (by omega)) (by omega)
    rw[dJ]at g
    obtain⟨ad,h⟩:=v 3 (by omega)
    have ao:=h.lt
    have K:(ae ns (dl (ae ns i) 3)).k=1:=o
    show zH _ _ _ _ _ (_++_++_++_++_++wA _ (ae ns (dl (ae ns i) 3)).ks t)
    rw[h.id]at K⊢
    exact oI 9 C.tp b E (m_n C.tp p b rfl j (by omega) (A (by omega)) (.fr E (.inr rfl) h1 (Hr g (by rw[dt];omega)) h.at_ (Ar C V (by omega) h.len K ht)))
 rw[aa a5]
 by_cases av:(ae ns i).k=11
 ·rw[ab av];exact oI 11 C.tp b av (Dx C.tp p b rfl j .brk)
 rw[aa av]
 by_cases a0:(ae ns i).k=12
 ·rw[ab a0];exact oI 12 C.tp b a0 (Dx C.tp p b rfl j .nxt)
 rw[aa a0]
 by_cases F:(ae ns i).k=13
 ·rw[ab F]
  have h1:=ace u F
  by_cases x:(ae ns i).ks=[]
  ·rw[ab x,show ∀z:ByteArray,z++ByteArray.empty=z from fun z=>ByteArray.append_empty]
   exact oI 13 C.tp b F (Dx C.tp p b rfl j (.ret0 (by rw[x];rfl)))
  ·rw[aa x]
   have g:=Hq C V (t:=t) b r (by omega) (a:=0) (m:=(ae ns i).ks.length) (fun l o y=>fF _ 0 h1 l (by omega) (by omega)) (by omega)
   rw[dJ,bH (ah _)]at g
   exact oI 13 C.tp b F (Dx C.tp p b rfl j (.ret (by rcases mJ (ae ns i).ks.length with e|e;exact absurd (fj e) x;exact e) (Hr g j)))
 rw[aa F]
 by_cases G:(ae ns i).k=14
 ·rw[ab G]
  obtain⟨h1,c,o,y⟩:=G7 u G
  obtain⟨a,d⟩:=v 0 (by omega)
  obtain⟨ad,h⟩:=v 1 (by omega)
  have a4:=d.lt
  have ao:=h.lt
  rw[d.id]at c⊢
  rw[h.id]at o⊢
  exact oI 14 C.tp b G (m_n C.tp p b rfl j (by omega) (A y) (.try_ G d.at_ h.at_ (Ar C V (by omega) d.len c ht) (Ar C V (by omega) h.len o ht)))
 rw[aa G]
 by_cases af:(ae ns i).k=15
 ·rw[ab af]
  obtain⟨h1,c⟩:=zt u af
  obtain⟨a,d⟩:=v 0 (by omega)
  have g:=Hq C V (t:=t) b r (by omega) (a:=0) (m:=1) (fun l am an=>by have e:l=0:=(by omega);subst e;exact c) (by omega)
  rw[dJ,bH (by omega)]at g
  have s:=Dx C.tp p b rfl j (.thr (Hr g j))
  rw[uk _ h1 d.at_]at s
  rw[d.id]
  exact oI 15 C.tp b af s
 rw[aa af,ab (by omega)]
 obtain⟨h1,c⟩:=Be u (by omega)
 obtain⟨a,d⟩:=v 0 (by omega)
 have g:=Hq C V (t:=t) b r (by omega) (a:=0) (m:=1) (fun l am an=>by have e:l=0:=(by omega);subst e;exact a6 _ c) (by omega)
 rw[dJ,bH (by omega)]at g
 have s:=Dx C.tp p b rfl j (.dfr (Hr g j))
 rw[uk _ h1 d.at_]at s
 rw[d.id]
 exact oI 16 C.tp b (by omega) s
theorem afr(C:Cx w0 ns L base vs)(V:VA w0 vb ns L f):VA w0 vb ns L (f+1):=
 ⟨fun g e d a b c=>by rw[oG];exact ajl C V (by omega) a b (by omega),
  fun g e d a b c=>by rw[oH];exact ajm C V (by omega) a b (by omega),
  fun g e j d a h c i=>by rw[tJ];exact brV C V (by omega) a h (by omega) j i⟩
theorem vA(C:Cx w0 ns L base vs):∀f,VA w0 vb ns L f
 |0=>VA.zero w0 vb ns L
 |f+1=>afr C (vA C f)
end
open Go.Lib (strCells strCells_length)
theorem Pg.new(a:World):Pg a ByteArray.empty (a.alloc (.cells #[.slice none 0 0,.bool false] 55)):=
 ⟨(ag _ a).alloc (ah _) _,.slice none 0 0,ByteArray.empty,false,ay a _,dy _ _ _ _,by decide,fun _=>⟨rfl,rfl⟩,fun b=>absurd b (by decide)⟩
theorem afs(x:ByteArray):ByteArray.empty++x=x:=ByteArray.empty_append
theorem As(w:World)(v:Value)(a:List Nd)(y:dK w v a)(bs:∀(m:Addr) (n c i:Nat) (N:Nd) (vn:Value),v= .slice (some m) n c->a[i]?=some N->w.cell? ⟨(m.add (i*9)).block,(m.add (i*9)).off+7,none⟩=some vn->oz vn)(bE:a.length<=1048576)(bc:∀N∈a,fm N)(bD:∀N∈a,rA N)(I:Lm w)(b9:oF w)
  (b4:∀W,Below w.heap.size w W->Lib.TabIs Tryz.prog W "strings.asciiSpace" .u8 Lib.asciiSpaceTab):
  Calls Tryz.prog 7 #[.agg #[v]] w fun e cI=>e= .returned (.string (eH a))/\Below w.heap.size w cI:=by
 have bw:∀d,Below w.heap.size w (w.alloc d):=fun d=>(ag _ w).alloc (ah _) d
 obtain⟨cB,cm,a0⟩:=I.tabs.word
 have al:Hid (∀W,Below w.heap.size w W->Calls Tryz.prog 17 #[.agg #[v]] W (Hj oz W a)):=fun W j=>
  wd oz W v a (fun m n c i N vn e bv E=>by
   subst e
   obtain⟨c5,e,ca,c6,ap⟩:=y.get bv
   cases e
   have:=ai j ap.c7
   rw[this]at E
   obtain rfl:ca=vn:=by simpa using E
   exact bs m n c i N ca rfl bv ap.c7) (y.below j) bE bc (I.errs.below j (ah _)) cB cm ((j.block _ (aw a0)).trans a0) (fun cf cn=>b4 cf (j.trans (cn.mono j.size)))
 obtain⟨bl,c,rfl⟩:=y.form
 obtain⟨n,o⟩:∃n,a.length=n:=⟨_,rfl⟩
 rw[o]at al⊢
 have r:Hid (a.length=n/\(∀N∈a,fm N)/\(∀N∈a,rA N)/\Lm w/\oF w):=⟨o,bc,bD,I,b9⟩
 have a9:=al.out _ (bw (.cells #[.slice bl n c] 25))
 clear y bE bc bD I b9 a0 b4 o al bs
 go_enter Tryz.func7,Tryz.ntmps7
 go_wp2_with (go_at_call 17;fail)
 refine a9.mono ?_
 rintro e w1 ⟨A,E⟩
 have c4:(w.alloc (.cells #[.slice bl n c] 25)).heap.size=w.heap.size+1:=db _ _
 have B:=(bw _).trans (A.mono (by omega))
 have x:∀d,Below w1.heap.size w1 (w1.alloc d):=fun d=>(ag _ w1).alloc (ah _) d
 rcases E with⟨f,rfl⟩|⟨f,bn,cb,am,af,rfl,b5,bt,b0,a6⟩
 ·have bo:((bu a).1 !=0)=true:=by rw[lq];exact f
  have h:Hid (eH a=⟨#[]⟩):=by show _=_;unfold eH;rw[aa f]
  generalize (bu a).1=c1 at bo
  generalize (bu a).2=c2
  clear a9 f
  go_wp21
  go_ret
  exact⟨by rw[h.out];rfl,B.trans ((x _).mono B.size)⟩
 ·have J:(bu a).1=0:=by rw[f]
  have C:Below w.heap.size w (w1.alloc (.cells #[.int .i64 0,.int .i64 0] 28)):=B.trans ((x _).mono B.size)
  obtain⟨cy,b8,bb⟩:=acq J
  have l:Cx (w1.alloc (.cells #[.int .i64 0,.int .i64 0] 28)) a am bn cb:=by
   refine⟨⟨b0.below (x _),bt,fun q g=>(a6 q g).1.below (A.trans ((x _).mono A.size)),fun q g=>(a6 q g).2⟩,r.out.2.2.2.2.below C (ah _),r.out.2.2.2.1.below C (ah _),aca J,b8,fun i=>?_,fun i=>?_⟩
   all_goals
    unfold ae
    rw[aL]
    cases e:a[i.toNat]? with
    |none=>decide
    |some N=>have:=(r.out.2.2.1 N (bJ e)).n;simp only[fH];omega
  have bo:((0:Int)!=0)=false:=rfl
  have a7:(w1.alloc (.cells #[.int .i64 0,.int .i64 0] 28)).heap.size=w1.heap.size+1:=db _ _
  have o:=r.out.1
  have b6:jo am ((n-1:Nat):Int)=af:=by
   unfold jo
   rw[mH,aL,<-o,b5];rfl
  have a1:ae a ((a.length:Int)-1)=ae a ((n-1:Nat):Int):=by congr 1;omega
  rw[a1]at bb
  obtain⟨b3,cs⟩:=iy (l.sz.nb (n-1) (by omega))
  have bx:=ud b3 bb
  have b2:jl a=fC ((ae a ((n-1:Nat):Int)).ks.map fun cu=>oH a a.length cu 0++(⟨#[10]⟩:ByteArray)):=by unfold jl;rw[a1]
  have t:Hid (∀L,Pw (w1.alloc (.cells #[.int .i64 0,.int .i64 0] 28)) L 21 #[vP L,fJ (w1.alloc (.cells #[.int .i64 0,.int .i64 0] 28)) 0,nV af] (jl a)):=fun L=>by
   have:=afi (w1.alloc (.cells #[.int .i64 0,.int .i64 0] 28)) L a am bn cb l.tp (n-1) (by omega) _ rfl (by omega) (fun cc=>oH a a.length cc 0) (fun cc ct=>by
    obtain⟨b7,cr,rfl⟩:=lB ct
    obtain⟨q,g⟩:=fG (l.sz.nb (n-1) (by omega)) (by omega) b7 cr
    have br:=Fb _ 0 bx b7 (by omega) (by omega)
    rw[g.id]at br⊢
    exact(vA l a.length).s q 0 g.len g.len br (by omega))
   rw[b6,<-b2]at this
   exact this
  have bk:Hid (eH a=uG a):=by show _=_;unfold eH;rw[ab J]
  obtain⟨D,ar⟩:∃D,jl a=D:=⟨_,rfl⟩
  have bf:Hid (uG a=if 65536<D.size then ByteArray.empty else D):=by show _=_;unfold uG;rw[ar]
  rw[ar]at t
  obtain⟨bd,G⟩:∃bd,nV af=bd:=⟨_,rfl⟩
  rw[G]at t
  unfold nV gC at G
  have bA:=Pg.new (w1.alloc (.cells #[.int .i64 0,.int .i64 0] 28))
  have b:Hid (Below w.heap.size w (w1.alloc (.cells #[.int .i64 0,.int .i64 0] 28))/\Pg (w1.alloc (.cells #[.int .i64 0,.int .i64 0] 28)) ByteArray.empty ((w1.alloc (.cells #[.int .i64 0,.int .i64 0] 28)).alloc (.cells #[.slice none 0 0,.bool false] 55))/\(w1.alloc (.cells #[.int .i64 0,.int .i64 0] 28)).heap.size=w1.heap.size+1):=⟨C,bA,a7⟩
  have ba:=yr ((w1.alloc (.cells #[.int .i64 0,.int .i64 0] 28)).alloc (.cells #[.slice none 0 0,.bool false] 55))
  rw[db,a7]at ba
  have b1:nV af=bd:=G
  rw[b1]
  clear a9 l b0 a6 f J A b5 bt cy b8 bb b6 a1 b3 cs bx b2 ar G b1 bA C a7
  go_wp2_with (go_at_call 20;fail)
  refine ba.mono ?_
  rintro e c0 ⟨rfl,a8,a4⟩
  generalize w1.alloc (.cells #[.int .i64 0,.int .i64 0] 28)=ce at t b a4 a8⊢
  have cd:Hid (Ps ce (w1.heap.size+1+1) ByteArray.empty c0):=⟨b.out.2.1.below (by rw[db,b.out.2.2];exact a4),by rw[b.out.2.2];omega,a8⟩
  have H:=t.out (w1.heap.size+1+1) _ _ cd.out
  unfold fJ kF vP at H
  rw[b.out.2.2]at H
  clear a8 a4 ba
  go_wp2_with (go_at_call 21;fail)
  refine H.mono ?_
  rintro e p ⟨rfl,K,cw⟩
  rw[afs]at K
  have ak:Hid (Below w.heap.size w p):=b.out.1.trans (K.pg.bel.mono b.out.1.size)
  obtain⟨d,u,cz,z,k,cq,a2,a3⟩:=K.pg.row
  rw[b.out.2.2]at z
  obtain⟨an,F⟩:∃an,u.size=an:=⟨_,rfl⟩
  rw[F]at k cq
  obtain⟨cg,ck,rfl⟩:=bG k
  have c8:p.cell? ⟨w1.heap.size+1,0,none⟩=some (.slice cg an ck):=by rw[au _ _ _ _ _ _ z];rfl
  have c9:p.cell? ⟨w1.heap.size+1,1,none⟩=some (.bool cz):=by rw[au _ _ _ _ _ _ z];rfl
  clear K cw H z
  by_cases a5:65536<D.size
  ·have ao:=a3 a5
   subst ao
   have h:Hid (eH a=ByteArray.empty):=by show _=_;rw[bk.out,bf.out,ab a5]
   clear a2 a3 k
   go_wp21
   go_ret
   exact⟨by rw[h.out];rfl,ak.out⟩
  ·obtain⟨ao,cl⟩:=a2 (by omega)
   subst ao cl
   have h:Hid (eH a=u):=by show _=_;rw[bk.out,bf.out,aa a5]
   clear a2 a3
   rcases bg k with⟨f,e⟩|⟨ap,c3,e⟩
   ·cases e
    have cp:u=⟨#[]⟩:=by
     apply mG
     have:u.data.size=0:=F
     exact Array.eq_empty_of_size_eq_zero this
    have cx:(convert 22 9 (.slice none 0 0)).run Tryz.prog p= .ok (.string ⟨#[]⟩) p:=by kernel_rfl
    clear k F
    go_wp21
    go_ret
    exact⟨by rw[h.out,cp];rfl,ak.out⟩
   ·cases e
    have cx:=Bf k
    clear F
    go_wp21
    go_ret
    exact⟨by rw[h.out];rfl,ak.out⟩
end Go.Proofs.YtkfgnpcanadjhaaGreatDoor
namespace Go.Proofs.YtkfgnpcanadjhaaGreatDoor
open Go.RowKit Go.Maps Go.WideMaps
section
variable {w : World} {lo e size n m c g : Nat} {a : Option Addr} {v : Value} {L : List Mb} {xs : List Value}
theorem ac7(o:w.ownsRow lo e size (.slice a n c) m xs):n<=c/\∀b,a=some b->b=⟨b.block,b.off,none⟩:=by
 rcases o.2 with⟨d,_⟩|⟨i,g,h,d,_,_,f,_⟩
 ·cases d
  exact⟨ah _,fun b d=>by cases d⟩
 ·cases d
  exact⟨f,fun b d=>by cases d;rfl⟩
theorem Lw.ex(b:Lw w lo (.slice (some ⟨g,0,none⟩) n c) L){i:Nat}{N:Nd}(a:(L.map Mb.N)[i]?=some N):∃x∈L,w.cell? ⟨((⟨g,0,none⟩:Addr).add (i*9)).block,((⟨g,0,none⟩:Addr).add (i*9)).off+7,none⟩=some x.vn:=by
 rw[bq]at a
 cases hx:L[i]? with
 |none=>rw[hx]at a;cases a
 |some x=>
  have h:L.length=n:=by obtain⟨_,_,e⟩:=bG b.row;simp at e;exact e.2.1.symm
  have d:=b.row
  rw[h]at d
  obtain⟨j,k,l,m,o,p,q,f,r⟩:=en d hx
  rw[show(⟨g,0,none⟩:Addr).add (i*9)=⟨g,i*9,none⟩ by unfold Addr.add;split<;>simp_all]
  exact⟨x,bJ hx,f⟩
theorem Lw.strj(d:Lw w lo v L):∀(a:Addr)(n c i:Nat)(N:Nd)(vn:Value),v= .slice (some a) n c->(L.map Mb.N)[i]?=some N->w.cell? ⟨(a.add (i*9)).block,(a.add (i*9)).off+7,none⟩=some vn->oz vn:=by
 intro a n c i N vn b l g h s p k
 rcases bg d.row with⟨_,e⟩|⟨r,q,e⟩
 ·rw[e]at b;cases b
 rw[e]at b d
 cases b
 obtain⟨o,m,j⟩:=d.ex l
 rw[j]at g
 have f:=(d.each o m).1
 rw[bh g,k]at f
 exact⟨(ac7 f).1,(ac7 f).2 h rfl⟩
end
structure PsL (w:World):Prop where
 lay:Lm w
 pow:oF w
 asc:Lib.TabIs Tryz.prog w "strings.asciiSpace" .u8 Lib.asciiSpaceTab
structure Sl (w W:World) (L:List Nd) (x y:Nat) (v u:Value):Prop where
 bel:Below w.heap.size w W
 tq:W.cell? ⟨x,0,none⟩=some v
 uq:W.cell? ⟨y,0,none⟩=some u
 nt:Nl W v L
 nu:Nl W u L
 tn:Tn L
 ps:PsL w
section
variable {w W W' : World} {L : List Nd} {x y : Nat} {v u : Value}
theorem Sl.below(S:Sl w W L x y v u)(b:Below W.heap.size W W'):Sl w W' L x y v u:=⟨S.bel.trans (b.mono S.bel.size),ai b S.tq,ai b S.uq,S.nt.below b,S.nu.below b,S.tn,S.ps⟩
theorem Sl.asc(S:Sl w W L x y v u){a:World}(b:Below W.heap.size W a):Lib.TabIs Tryz.prog a "strings.asciiSpace" .u8 Lib.asciiSpaceTab:=AI S.ps.asc (S.below b).bel (ah _)
theorem Sl.bt(S:Sl w W L x y v u):Bt W v L:=by
 have a:=S.ps.lay.below S.bel (ah _)
 exact⟨S.nt.nds,S.tn.n,fun b d=>(S.tn.nd b d).sm,a.errs,a.tabs.word,fun e c=>S.asc c⟩
theorem Sl.print(S:Sl w W L x y v u):Calls Tryz.prog 7 #[.agg #[v]] W fun e g=>e= .returned (.string (eH L))/\Below W.heap.size W g:=by
 have c:=S.tn
 obtain⟨h,j,rfl,d⟩:=S.nt
 exact As W v _ d.nds d.strj c.n (fun a b=>(c.nd a b).sm) (fun a b=>(c.nd a b).int) (S.ps.lay.below S.bel (ah _)) (oF.below S.ps.pow S.bel (ah _)) fun i f=>S.asc f
theorem Sl.ok(S:Sl w W L x y v u):Calls Tryz.prog 6 #[.agg #[u]] W fun e c=>e= .returned (.agg #[.int .i64 (bu L).1,.int .i64 (bu L).2])/\Below W.heap.size W c:=so W u L S.nu.nds S.tn.n fun a b=>(S.tn.nd a b).sm
theorem Sl.prnt(S:Sl w W L x y v u)(f:(bu L).1=0):Calls Tryz.prog 12 #[.agg #[u]] W fun e i=>e= .returned (.string (eH L))/\Below W.heap.size W i:=by
 have c:=S.tn
 obtain⟨j,k,rfl,d⟩:=S.nu
 rcases bg d.row with⟨a,rfl⟩|⟨h,g,rfl⟩
 ·rw[fj a]at f
  exact absurd f (by decide)
 ·exact rG _ ⟨h,0,none⟩ _ g _ d.nds (d.kcap rfl) (by simp) (by have:=c.n;simpa using this) (fun b a=>(c.nd b a).sm) fun b a=>(c.nd b a).int
theorem Sl.same(S:Sl w W L x y v u):Calls Tryz.prog 11 #[.agg #[v],.agg #[u]] W fun e c=>e= .returned (.bool true)/\Below W.heap.size W c:=Ld W v u L S.nt.nds S.nu.nds S.tn.n fun a b=>⟨(S.tn.nd a b).sm.l1,(S.tn.nd a b).sm.l2⟩
end
theorem Code.up{C:Cd}{w c:World}{d:Option Addr}(a:Code C w.heap.size w d)(b:Below w.heap.size w c):Code C c.heap.size c d:=by
 rcases a with a|⟨e,h,i,f,j⟩
 ·exact .inl a
 ·exact .inr ⟨e,h,i,fi f b.size,fun g k=>(b.cell (p:=⟨e,h+g,none⟩) f).trans (j g k)⟩
theorem ah5{w w1 a:World}{L:List Nd}{v u:Value}(e:Below w.heap.size w w1)(h:Nl w1 v L)(b:Below (w1.alloc (.cells #[v] 25)).heap.size (w1.alloc (.cells #[v] 25)) a)(g:Nl a u L)(i:Tn L)(ps:PsL w):Sl w (a.alloc (.cells #[u] 25)) L w1.heap.size a.heap.size v u:=by
 have f:=dh w1 (.cells #[v] 25)
 have c:=dh a (.cells #[u] 25)
 have k:=b.size
 have j:=db w1 (.cells #[v] 25)
 have d:=f.trans ((b.mono f.size).trans (c.mono (by omega)))
 refine⟨e.trans (d.mono e.size),?_,?_,h.below d,g.below c,i,ps⟩
 ·rw[au _ _ _ _ _ _ ((c.block _ (by omega)).trans ((b.block _ (by omega)).trans (ay w1 _)))];rfl
 ·rw[au _ _ _ _ _ _ (ay a _)];rfl
theorem ajn(a b:Int)(w:World):(binOp .neq 28 (.agg #[.int .i64 a,.int .i64 b]) (.agg #[.int .i64 a,.int .i64 b])).run Tryz.prog w= .ok (.bool false) w:=by
 rw[run_neq_struct,run_equalIn_agg w 9999 28 _ _ (by kernel_rfl) (by kernel_rfl)]
 have c:∀a w,(Op.equalIn 9999 3 (.int .i64 a) (.int .i64 a)).run Tryz.prog w= .ok true w:=fun a w=>by rw[run_equalIn_int w 9998 3 .i64 .i64 a a (by kernel_rfl)];simp
 simp[Op.eqFields,Program.fieldsOf,Tryz.underlying28,c,go_sem]
theorem Fw(w:World)(a:Option Addr)(n cap:Nat)(c:1048576<n)(d:n<=9223372036854775807):Calls Tryz.prog 3 #[.slice a n cap] w fun e b=>e= .returned (.bool true)/\Below w.heap.size w b:=by
 have f:(1048576:Int)<(n:Int):=by omega
 go_in
 go_wp2_with fail
 go_ret
 exact⟨rfl,ag _ _⟩
theorem ac8{C:Cd}{w:World}{ad:Option Addr}{cap:Nat}(a6:Code C w.heap.size w ad)(ps:PsL w):Calls Tryz.prog 3 #[.slice ad C.len cap] w fun e r=>e= .returned (.bool true)/\Below w.heap.size w r:=by
 obtain⟨h,a8,K⟩:=ah2 C
 have bF:¬(1048576:Int)<(C.len:Int):=by have:=C.ok;omega
 have m:=jw a6 ps a8
 clear a6 ps a8
 go_in
 go_wp2_with fail
 refine(K m.out.1).mono ?_
 rintro e w1 ⟨b3,rfl,B,af⟩
 obtain⟨b5,b6,rfl⟩:=B.form
 obtain⟨a7,am⟩:=aE h.length
 rw[am]at B⊢
 have H:=eJ B af
 have ar:Hid (∀E,Code C (w1.alloc E).heap.size (w1.alloc E) ad):=fun E=>(m.out.1.up af).up (dh w1 E)
 clear B af
 go_wp2_with fail
 refine(K (ar.out _)).mono ?_
 rintro e bd ⟨b0,rfl,A,av⟩
 obtain⟨a9,bc,rfl⟩:=A.form
 rw[am]at A⊢
 have L:=ah5 H.out.2 H.out.1 av A m.out.2.2 m.out.2.1
 have f:=L.tq
 have i:=aj L
 clear L A av H ar m K am
 go_wp2_with fail
 generalize bd.alloc (.cells #[.slice a9 a7 bc] 25)=bD at f i⊢
 generalize w1.heap.size=ce at f i⊢
 generalize bd.heap.size=bA at i⊢
 refine dG i.out.bt.tok fun l ak=>?_
 obtain⟨b,y⟩:=aE (bu h).1
 obtain⟨g,z⟩:=aE (bu h).2
 have s:=eJ y z
 rw[y,z]
 have u:=aj (i.out.below (ak.trans ((dh l (.cells #[.int .i64 b,.int .i64 g] 28)).mono ak.size)))
 have a3:ix l.heap.size (l.alloc (.cells #[.int .i64 b,.int .i64 g] 28)) b g:=ay l _
 obtain⟨j,q,bl⟩:=gD a3
 have I:=eJ j q
 have t:=aj (u.out.below (aq (ag _ _)))
 clear i ak f a3 bl j q
 go_wp2_with fail
 generalize l.alloc (.cells #[.int .i64 b,.int .i64 g] 28)=bE at u I t⊢
 generalize l.heap.size=bf at I⊢
 obtain⟨j,q⟩:=I
 have F:=u.out.uq
 have an:=t.out.ok
 rw[y,z]at an
 have bn:=ajn b g
 clear y z u
 go_region_held3 (fun r=>r.cell? ⟨bf,0,none⟩=some (.int .i64 b)/\r.cell? ⟨bf,1,none⟩=some (.int .i64 g)/\r.cell? ⟨bA,0,none⟩=some (.slice a9 a7 bc)) (first|go_keep|exact⟨ai k j,ai k q,ai k F⟩) ((go_at_call 6;refine an.mono ?_;rintro e ca ⟨rfl,k⟩))
 have v:=aj (t.out.below k)
 have a4:=ai k j
 have f:=v.out.tq
 clear j q F an bn k t
 go_wp2_with fail
 refine dG v.out.print fun cb al=>?_
 have c:=aj (v.out.below al)
 have a5:=ai al a4
 clear v a4 f al
 by_cases d:(bu h).1=0
 ·have ao:=c.out.prnt d
  have bk:(b !=0)=false:=by rw[<-s.out.1,d];rfl
  generalize eH h=P at ao⊢
  have F:=c.out.uq
  clear s d
  go_wp2_with fail
  refine dG ao fun bw o=>?_
  have a:=aj (c.out.below o)
  have ap:=a.out.tq
  have bs:=a.out.uq
  clear ao c a5 F o
  go_wp2_with fail
  refine dG a.out.same fun bx p=>?_
  have G:=aj (a.out.below p).bel
  clear a ap bs p
  go_wp2_with fail
  go_ret
  exact⟨rfl,G.out⟩
 ·have bk:(b !=0)=true:=by rw[<-s.out.1,lq];exact d
  rw[show eH h=⟨#[]⟩ by unfold eH;rw[aa d]]
  have J:=aj d
  have f:=c.out.tq
  clear s d
  go_wp2_with fail
  refine dG (acG c.out.bt J.out) fun bw o=>?_
  have a:=aj (c.out.below o)
  have ap:=a.out.tq
  clear c a5 f o
  go_wp2_with fail
  refine dG (Fr a.out.bt J.out) fun bx p=>?_
  have x:=aj (a.out.below p)
  have bo:=x.out.tq
  clear a ap p
  go_wp2_with fail
  refine dG (acH x.out.bt J.out) fun cc a1=>?_
  have n:=aj (x.out.below a1)
  have br:=n.out.tq
  have bv:=n.out.uq
  clear x bo a1
  go_wp2_with fail
  refine dG n.out.same fun cd a2=>?_
  have G:=aj (n.out.below a2).bel
  clear n br bv a2
  go_wp2_with fail
  go_ret
  exact⟨rfl,G.out⟩
