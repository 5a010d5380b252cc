import Derived.Test.YtkfgnpcanadjhaaGreatDoorHSk24
set_option linter.all false
set_option maxRecDepth 100000
set_option maxHeartbeats 6400000
namespace Go.Proofs.YtkfgnpcanadjhaaGreatDoor
open Go.RowKit Go.Maps Go.WideMaps
theorem Lw.kcap{w:World}{p g n c:Nat}{L:List Mb}(b:Lw w p (.slice (some ⟨g,0,none⟩) n c) L)(m:L.length=n):zg w ⟨g,0,none⟩ (L.map Mb.N):=fun a N r s e d=>by
 subst m
 rw[bq]at e
 obtain⟨q,f,rfl⟩:=Option.map_eq_some_iff.1 e
 obtain⟨_,_,_,_,_,_,_,_,k⟩:=en b.row f
 have l:(⟨((⟨g,0,none⟩:Addr).add (a*9)).block,((⟨g,0,none⟩:Addr).add (a*9)).off+8,none⟩:Addr)=⟨g,a*9+8,none⟩:=by
  unfold Addr.add;split<;>simp_all
 rw[l,k]at d
 have o:=bh d
 have h:=(b.each q (bJ f)).2
 rw[o]at h
 rcases h.2 with⟨i,j⟩|⟨v,t,u,i,_,_,j,_⟩
 ·omega
 ·cases i;exact j
theorem Lt.small{N:Nd}(a:Lt N):fm N:=⟨by have:=a.nm;omega,by have:=a.ks;omega,by have:=a.x.size;omega,fun c b=>by have:=(a.s c b).sz;omega⟩
theorem Fe(a:List Nd):(eH a).size<=65536:=by
 unfold eH
 split
 ·unfold uG
  split
  ·decide
  ·omega
 ·decide
def GdX(t:ByteArray):Prop:=∃L:List Nd,(∀N∈L,Lt N)/\L.length<=265/\EB L<=3/\LoR (eH L) (kJ (eH L)).1 t
structure Cy (C:Cd) (E:Bs) (W w:World) (c:Cr):Prop where
 cu:Cu C E w c
 bel:Below E.base W w
section
variable {C : Cd} {E : Bs} {w w' W : World} {c c' : Cr} {v : Value} {ar : List Value} {f : FuncId} {Q : Ending → World → Prop}
theorem Cu.cy(a:Cu C E w c):Cy C E w w c:=⟨a,ag _ _⟩
theorem Cy.below(a:Cy C E W w c)(b:Below w.heap.size w w'):Cy C E W w' c:=⟨a.cu.below b,a.bel.trans (b.mono a.cu.lo.2)⟩
theorem Cy.al{o:Obj}(a:Cy C E W w c):Cy C E W (w.alloc o) c:=a.below (dh w o)
theorem Rc.rw(d:Rc C f ar c v c'):Rcw C f ar c v c':=fun e h a=>(d a).mono fun g i b=>⟨b.1,b.2.1,jy b.2.2 a.lo.1 a.lo.2⟩
theorem Cy.run(a:Cy C E W w c)(k:Rcw C f ar c v c')(d:∀w',Cy C E W w' c'->Q (.returned v) w'):Calls Tryz.prog f (cV E::ar).toArray w Q:=
 (k a.cu).mono fun e w' b=>b.1 ▸ d w' ⟨b.2.1,a.bel.trans b.2.2⟩
end
theorem ahk(C:Cd)(c:Cr)(ak:0<=c.p/\c.p<=100)(a6:c.r=0):∃(t:ByteArray) (c':Cr),(t.size<=721000/\GdX t)/\(0<=c'.p/\c'.p<=20300000/\0<=c'.r/\c'.r<=3)/\Rcw C 102 [] c (.string t) c':=by
 obtain⟨a,B,b,v⟩:=Gs C c ak (by omega)
 have L:=Fe a
 have a5:=Fa (eH a)
 have j:=ab1 (eH a)
 have I:=b.p
 have a4:=b.r
 obtain⟨t,a0,a1,a2,G,u⟩:=ahf C (eH a) (kJ (eH a)).1 B 0 I.1 (by omega) (fun ar d=>by have:=j.each ar d;omega) j.next (by decide) (by omega)
 refine⟨t,a0,⟨by omega,a,b.nd,b.n.2,by omega,G⟩,by omega,fun ao av h=>?_⟩
 have w:=aeE L u (by omega)
 have m:=b.nd
 have af:=b.n.2
 clear a1 a2 G u j a5 I a4 ak a6 b
 have am:=v h
 have a8:=h.lo
 clear h v
 go_in
 go_wp2_with fail
 refine am.mono ?_
 rintro F w1 ⟨H,E,ap,rfl,i,d,J,ad⟩
 obtain⟨n,f⟩:=aE a.length
 rw[f]at d af⊢
 have K:ap.length=n:=by rw[<-f,<-i,aI]
 have k:∀e,Calls Tryz.prog 12 #[.agg #[.slice (some ⟨H,0,none⟩) n E]] (w1.alloc e) fun F a7=>F= .returned (.string (eH a))/\Below (w1.alloc e).heap.size (w1.alloc e) a7:=fun e=>by
  have z:=dh w1 e
  have nd:=d.lw.nds
  have an:=d.lw.kcap K
  rw[i]at nd an
  exact rG (w1.alloc e) ⟨H,0,none⟩ n E a (nd.below z) (an.below nd z) f (by omega) (fun g l=>(m g l).small) (fun g l=>(m g l).int)
 have x:Cy C ao av w1 B:=⟨J,ad⟩
 generalize eH a=P at k w L
 have o:=aj x
 clear am d J ad i K x f af m
 go_wp2_with fail
 refine dG (k _) fun a9 A=>?_
 have q:=aj (o.out.al.below A)
 clear k A o
 go_wp2_with fail
 refine q.out.run w fun ba y=>?_
 have s:=aj y
 clear y q
 go_wp2_with fail
 go_ret
 exact⟨rfl,s.out.cu,s.out.bel⟩
inductive Edt (C:Cd) (t:ByteArray) (i J:Nat) (c3:Cr):Int->ByteArray->Cr->Prop
 |put {p:ByteArray}{c4:Cr}:p.size<=16010->Rc C 39 [] c3 (.string p) c4->Edt C t i J c3 0 (t.extract 0 i++p++t.extract i t.size) c4
 |cut:Edt C t i J c3 1 (t.extract 0 i++t.extract J t.size) c3
 |swap {p:ByteArray}{c4:Cr}:p.size<=16010->Rc C 39 [] c3 (.string p) c4->Edt C t i J c3 2 (t.extract 0 i++p++⟨#[32]⟩++t.extract J t.size) c4
 |stop:Edt C t i J c3 3 (t.extract 0 i) c3
 |byte {p:ByteArray}{c4:Cr}:p.size<=16010->Rc C 103 [.int .i64 1] c3 (.string p) c4->Edt C t i J c3 4 (t.extract 0 i++p++t.extract J t.size) c4
inductive Edc (C:Cd):Nat->ByteArray->Cr->ByteArray->Cr->Prop
 |nil (t:ByteArray) (c:Cr):Edc C 0 t c t c
 |cons {n i q J:Nat}{t t1 t2:ByteArray}{c c1 c2 c3 c4 c5:Cr}{u:Int}:i<=t.size->q<4->(t.size<i+q/\J=t.size)\/(¬t.size<i+q/\J=i+q)->t.size<=800000->Rc C 13 [.int .i64 ((t.size:Int)+1)] c (.int .i64 i) c1->Rc C 13 [.int .i64 4] c1 (.int .i64 q) c2->Rc C 13 [.int .i64 5] c2 (.int .i64 u) c3->Edt C t i J c3 u t1 c4->Edc C n t1 c4 t2 c5->Edc C (n+1) t c t2 c5
theorem Df(t:ByteArray)(i j:Nat):(t.extract i j).size<=t.size:=by rw[lj];omega
theorem edc(C:Cd):∀(n:Nat)(t:ByteArray)(c:Cr),n<=2->t.size+16020*n<=760000->0<=c.p->c.p<=100000000-400*n->0<=c.r->∃(f:ByteArray) (c':Cr),f.size<=t.size+16020*n/\(0<=c'.p/\c'.p<=c.p+400*n/\0<=c'.r/\(c.r<=3->c'.r<=3))/\Edc C n t c f c':=by
 intro n
 induction n with
 |zero=>exact fun t c _ _ z _ A=>⟨t,c,ah _,by simp;omega,.nil t c⟩
 |succ n H=>
  intro t c af am F ak al
  obtain⟨a,w,E,z,s⟩:=Av C c ((t.size:Int)+1) (by omega) (by omega) F (by omega)
  obtain⟨a,rfl⟩:=dv E.1
  obtain⟨g,x,G,A,u⟩:=dc C w 4 (by decide) (by decide) (by omega) (by omega)
  obtain⟨g,rfl⟩:=dv G.1
  obtain⟨h,e,an,K,v⟩:=dc C x 5 (by decide) (by decide) (by omega) (by omega)
  obtain⟨d,B,L,ad⟩:∃d,((t.size<a+g/\d=t.size)\/(¬t.size<a+g/\d=a+g))/\a<=d/\d<=t.size:=by
   by_cases o:t.size<a+g
   ·exact⟨t.size,.inl ⟨o,rfl⟩,by omega,ah _⟩
   ·exact⟨a+g,.inr ⟨o,rfl⟩,by omega,by omega⟩
  have s0:(t.extract 0 a).size=a:=by rw[lj];omega
  have ao:(t.extract a t.size).size=t.size-a:=by rw[lj];omega
  have ap:(t.extract d t.size).size=t.size-d:=by rw[lj];omega
  have j:∀{m:ByteArray}{b:Cr},m.size<=t.size+16020->(e.p<=b.p/\b.p<=e.p+300/\e.r<=b.r/\(e.r<=3->b.r<=3))->Edt C t a d e h m b->∃(f:ByteArray) (c':Cr),f.size<=t.size+16020*(n+1)/\(0<=c'.p/\c'.p<=c.p+400*((n+1:Nat):Int)/\0<=c'.r/\(c.r<=3->c'.r<=3))/\Edc C (n+1) t c f c':=fun {m b} k l y=>by
   obtain⟨f,c',I,J,q⟩:=H m b (by omega) (by omega) (by omega) (by omega) (by omega)
   exact⟨f,c',by omega,by omega,.cons (by omega) (by omega) B (by omega) s u v y q⟩
  rcases(show h=0\/h=1\/h=2\/h=3\/h=4 by omega) with rfl|rfl|rfl|rfl|rfl
  ·obtain⟨p,b,k,l,i⟩:=Dd C e (by omega) (by omega) (by omega)
   exact j (by simp only[ax];omega) l (.put k i)
  ·exact j (by simp only[ax];omega) (by omega) .cut
  ·obtain⟨p,b,k,l,i⟩:=Dd C e (by omega) (by omega) (by omega)
   exact j (by simp only[ax];have:(⟨#[32]⟩:ByteArray).size=1:=rfl;omega) l (.swap k i)
  ·exact j (by omega) (by omega) .stop
  ·obtain⟨p,b,k,l,i⟩:=B5 C e 1 (by decide) (by omega) (by omega)
   exact j (by simp only[ax];omega) (by omega) (.byte (by omega) i)
theorem ahl(C:Cd)(c:Cr)(o:0<=c.p/\c.p<=100)(av:c.r=0):∃(t:ByteArray) (c':Cr),t.size<=760000/\(0<=c'.p/\c'.p<=30000000)/\Rcw C 37 [] c (.string t) c':=by
 obtain⟨a7,bo,y,br,bc⟩:=ahk C c o av
 obtain⟨v,ad,ar,bs,bd⟩:=dc C bo 3 (by decide) (by decide) (by omega) (by omega)
 obtain⟨v,rfl⟩:=dv ar.1
 obtain⟨t,af,bt,bv,j⟩:=edc C v a7 ad (by omega) (by have:=y.1;omega) (by omega) (by omega) (by omega)
 refine⟨t,af,by have:=y.1;omega,by omega,fun ba bn al=>?_⟩
 have i:=al.cy
 have bA:v<=2:=by omega
 clear al y br bs bt bv o av ar
 go_in
 go_wp2_with fail
 refine i.run bc fun w1 G=>?_
 clear i
 go_wp2_with fail
 refine G.run bd.rw fun cp H=>?_
 clear G
 go_wp2_with fail
 go_loopw [3,4] (fun b1 A wr=>∃(b:Nat) (a:ByteArray) (w:Cr),b1= .string a/\A= .int .i64 b/\b<=2/\Cy C ba bn wr w/\Edc C b a w t af) (fun _ A _=>(intOf A).toNat)
 case atStart=>exact⟨v,a7,ad,rfl,rfl,bA,H,j⟩
 case round=>
  clear H j
  obtain⟨b,a,w,rfl,rfl,ap,i,j⟩:=hrel
  cases j with
  |nil=>
   go_wp2_with fail
   go_ret
   exact⟨rfl,i.cu,i.bel⟩
  |@cons b g a0 h _ cm _ _ b2 b3 b4 b6 _ cn ca cf bw cg bf bk bl bb E=>
   have cd:(0:Int)<((b+1:Nat):Int):=by omega
   have cl:IntKind.i64.wrap (((b+1:Nat):Int)-1)=(b:Int):=by rw[bm];omega
   have ck:IntKind.i64.wrap ((a.size:Int)+1)=(a.size:Int)+1:=by rw[bm];omega
   obtain⟨u,bx⟩:=aE (g+a0)
   have b0:IntKind.i64.wrap ((g:Int)+(a0:Int))=(u:Int):=by rw[bm];omega
   have cb:(0:Int)<=(g:Int):=by omega
   have cc:(g:Int)<=(a.size:Int):=by omega
   have an:(((a.size:Int)<(u:Int)/\(a.size:Int)=(h:Int))\/(¬(a.size:Int)<(u:Int)/\(u:Int)=(h:Int)))/\h<=a.size:=by omega
   have b8:(0:Int)<=(h:Int):=by omega
   have b9:(h:Int)<=(a.size:Int):=by omega
   have bD:=Df a 0 g
   have bE:=Df a g a.size
   have bF:=Df a h a.size
   go_wp2_with fail
   refine i.run bf.rw fun cq I=>?_
   clear i
   go_wp2_with fail
   refine I.run bk.rw fun cr J=>?_
   clear I bw bx
   have d:=aj E
   have m:=aj ap
   have ce:b<=2:=by omega
   clear E ap
   obtain⟨e,k⟩:=aE (a.extract 0 g)
   obtain⟨j,am⟩:=aE (a.extract g a.size)
   obtain⟨D,s⟩:=aE (a.extract h a.size)
   rw[k]at bD
   rw[am]at bE
   rw[s]at bF
   rcases an.1 with⟨ao,z⟩|⟨ao,z⟩
   all_goals
    have F:=aj z
    clear z
    go_wp2_with fail
    rw[F.out]
    refine J.run bl.rw fun a8 K=>?_
    have B:=aj K
    clear J K ao F b0 an
    have L:=aq (ag a8.heap.size a8)
    have q:=aj (B.out.below L)
    clear L
    cases bb with
    |@put p _ o n=>
     rw[k,am]at d
     go_wp2_with fail
     go_region_held3 (fun _=>True) (trivial) ((go_at_call 39;refine q.out.run n.rw fun a9 f=>?_;have l:=aj f;clear f;have x:¬9223372036854775807<e.size+p.size:=(by omega);have ak:¬9223372036854775807<e.size+p.size+j.size:=(by omega)))
     go_wp2_with fail
     go_roundw
     case rel=>exact⟨b,_,_,rfl,by go_num,by have:=m.out;omega,l.out,d.out⟩
     case measure=>simp[intOf]
    |cut=>
     rw[k,s]at d
     have x:¬9223372036854775807<e.size+D.size:=by omega
     go_wp2_with fail
     go_region_held3 (fun _=>True) (trivial) (fail)
     go_wp2_with fail
     go_roundw
     case rel=>exact⟨b,_,_,rfl,by go_num,by have:=m.out;omega,q.out,d.out⟩
     case measure=>simp[intOf]
    |@swap p _ o n=>
     rw[k,s]at d
     go_wp2_with fail
     go_region_held3 (fun _=>True) (trivial) ((go_at_call 39;refine q.out.run n.rw fun a9 f=>?_;have l:=aj f;clear f;have x:¬9223372036854775807<e.size+p.size:=(by omega);have ak:¬9223372036854775807<e.size+p.size+1:=(by omega);have b7:¬9223372036854775807<e.size+p.size+1+D.size:=(by omega)))
     go_wp2_with fail
     go_roundw
     case rel=>exact⟨b,_,_,rfl,by go_num,by have:=m.out;omega,l.out,d.out⟩
     case measure=>simp[intOf]
    |stop=>
     rw[k]at d
     go_wp2_with fail
     go_roundw
     case rel=>exact⟨b,_,_,rfl,by go_num,by have:=m.out;omega,B.out,d.out⟩
     case measure=>simp[intOf]
    |@byte p _ o n=>
     rw[k,s]at d
     go_wp2_with fail
     go_region_held3 (fun _=>True) (trivial) ((go_at_call 103;refine q.out.run n.rw fun a9 f=>?_;have l:=aj f;clear f;have x:¬9223372036854775807<e.size+p.size:=(by omega);have ak:¬9223372036854775807<e.size+p.size+D.size:=(by omega)))
     go_wp2_with fail
     go_roundw
     case rel=>exact⟨b,_,_,rfl,by go_num,by have:=m.out;omega,l.out,d.out⟩
     case measure=>simp[intOf]
theorem ai0{a c:List Mb}{x:Mb}(e:(bL (a++x::c)).Nodup){d:Mb}(m:d∈a++c){b:Nat}(hx:x.vn.ownBlock=some b\/x.vk.ownBlock=some b):d.vn.ownBlock≠some b/\d.vk.ownBlock≠some b:=by
 have j:bL (a++x::c)=bL a++((x.vn.ownBlock.toList++x.vk.ownBlock.toList)++bL c):=by unfold bL;simp
 rw[j]at e
 have n:(bL a++((x.vn.ownBlock.toList++x.vk.ownBlock.toList)++bL c)).Perm ((x.vn.ownBlock.toList++x.vk.ownBlock.toList)++(bL a++bL c)):=by
  exact List.perm_append_comm_assoc _ _ _
 have e:=(n.nodup_iff.1 e)
 have k:b∈x.vn.ownBlock.toList++x.vk.ownBlock.toList:=by
  rcases hx with hx|hx
  ·exact List.mem_append.2 (.inl (Option.mem_toList.2 hx))
  ·exact List.mem_append.2 (.inr (Option.mem_toList.2 hx))
 have i:=(List.nodup_append.1 e).2.2
 have g:∀{f:Value},(f=d.vn\/f=d.vk)->f.ownBlock=some b->False:=fun {f} l h=>by
  refine i b k b ?_ rfl
  rw[<-show bL (a++c)=bL a++bL c by unfold bL;simp]
  refine List.mem_flatMap.2 ⟨d,m,?_⟩
  rcases l with rfl|rfl
  ·exact List.mem_append.2 (.inl (Option.mem_toList.2 h))
  ·exact List.mem_append.2 (.inr (Option.mem_toList.2 h))
 exact⟨g (.inl rfl),g (.inr rfl)⟩
theorem ai1(P R:List Value)(n:Nat)(x:P.length=n)(o p q r s t u v w e f g h i j k l m:Value):(((((((((P++([o,p,q,r,s,t,u,v,w]++R)).set n e).set (n+1) f).set (n+2) g).set (n+3) h).set (n+4) i).set (n+5) j).set (n+6) k).set (n+7) l).set (n+8) m=P++([e,f,g,h,i,j,k,l,m]++R):=by
 subst x
 have a:∀(c:Nat)(b:List Value)(d:Value),(P++b).set (P.length+c) d=P++b.set c d:=fun c b d=>by rw[BB _ _ (Nat.le_add_right _ _),Nat.add_sub_cancel_left]
 have s0:=a 0
 rw[Nat.add_zero]at s0
 rw[s0,a 1,a 2,a 3,a 4,a 5,a 6,a 7,a 8]
 rfl
structure Sx (C:Cd) (E:Bs) (W w:World) (c:Cr) (g n cp tb bx:Nat) (A B:List Mb) (x:Mb) (N:Nd) (vn vk:Value):Prop where
 cu:Cu C E w c
 row:w.ownsRow E.base 50 9 (.slice (some ⟨g,0,none⟩) n cp) n (im (A++x::B))
 oth:∀y∈A++B,w.ownsRow E.base 9 1 y.vn y.N.nm.length (y.N.nm.map Value.string)/\w.ownsRow E.base 3 1 y.vk y.N.ks.length (y.N.ks.map (Value.int .i64))
 on:w.ownsRow E.base 9 1 vn N.nm.length (N.nm.map Value.string)
 ok:w.ownsRow E.base 3 1 vk N.ks.length (N.ks.map (Value.int .i64))
 ht:w.heap[tb]?=some (.cells #[.slice (some ⟨g,0,none⟩) n cp] 25 (0,0))
 hx:w.heap[bx]?=some (.cells (pu N vn vk) 50 (0,0))
 lo:bx≠g/\E.base<=bx
 bel:Below E.base W w
 fr:∀(k:Nat)(cs:Array Value)(f:Nat×Nat),W.heap[k]?=some (.cells cs 25 f)->w.heap[k]?=some (.cells cs 25 f)
section
variable {C : Cd} {E : Bs} {W w w' : World} {c c' : Cr} {g n cp tb bx : Nat} {A B : List Mb} {x : Mb} {N N' : Nd} {vn vk v : Value} {ar : List Value} {f : FuncId} {Q : Ending → World → Prop}
theorem Sx.low(S:Sx C E W w c g n cp tb bx A B x N vn vk):(tb<w.heap.size/\bx<w.heap.size/\tb≠bx)/\E.base<=w.heap.size:=by
 have d:=aw S.ht
 have e:=aw S.hx
 refine⟨⟨d,e,fun b=>?_⟩,S.cu.lo.2⟩
 have a:=S.ht
 rw[b,S.hx]at a
 simp only[fe,ia]at a
 exact absurd a.2.1 (by decide)
theorem Sx.to(S:Sx C E W w c g n cp tb bx A B x N vn vk)(b:Cu C E w' c')(d:∀(k:Nat) (cs:Array Value) (t:TypeId) (fr:Nat×Nat),w.heap[k]?=some (Obj.cells cs t fr)->t≠40->w'.heap[k]?=w.heap[k]?)(u:Below E.base w w'):Sx C E W w' c' g n cp tb bx A B x N vn vk:=by
 have a:∀{l e m n:Nat}{o:Value}{p:List Value},w.ownsRow l e m o n p->e≠40->w'.ownsRow l e m o n p:=fun F v=>by
  obtain⟨G,f⟩:=F
  refine⟨G,?_⟩
  rcases f with f|⟨g,r,s,z,y,b,H⟩
  ·exact .inl f
  ·exact .inr ⟨g,r,s,z,y,(d _ _ _ _ b v).trans b,H⟩
 exact⟨b,a S.row (by decide),fun q j=>⟨a (S.oth q j).1 (by decide),a (S.oth q j).2 (by decide)⟩,a S.on (by decide),a S.ok (by decide),(d _ _ _ _ S.ht (by decide)).trans S.ht,(d _ _ _ _ S.hx (by decide)).trans S.hx,S.lo,S.bel.trans u,fun k cs h i=>(d _ _ _ _ (S.fr k cs h i) (by decide)).trans (S.fr k cs h i)⟩
theorem Sx.below(S:Sx C E W w c g n cp tb bx A B x N vn vk)(a:Below w.heap.size w w'):Sx C E W w' c g n cp tb bx A B x N vn vk:=
 S.to (S.cu.below a) (fun d e h f b _=>a.block d (aw b)) (a.mono S.cu.lo.2)
theorem Sx.run(S:Sx C E W w c g n cp tb bx A B x N vn vk)(k:Rc C f ar c v c')(a:∀w',Sx C E W w' c' g n cp tb bx A B x N vn vk->Q (.returned v) w'):Calls Tryz.prog f (cV E::ar).toArray w Q:=by
 refine(k S.cu).mono ?_
 rintro b w' ⟨rfl,e,d⟩
 refine a w' (S.to e (fun k i l j a h=>d.block k (aw a) fun b=>?_) (jy d S.cu.lo.1 S.cu.lo.2))
 have:=S.cu.cur
 rw[<-bh b,a]at this
 simp only[fe,ia]at this
 exact h this.2.1
theorem Sx.rd(S:Sx C E W w c g n cp tb bx A B x N vn vk):(∀q,w.cell? ⟨bx,q,none⟩=(pu N vn vk)[q]?)/\(∀q,w.frozen? ⟨bx,q,none⟩=false)/\w.cell? ⟨tb,0,none⟩=some (.slice (some ⟨g,0,none⟩) n cp)/\bx<w.heap.size/\tb<w.heap.size/\tb≠bx/\bx≠tb:=
 ⟨fun q=>by rw[au _ _ _ _ _ _ S.hx],fun q=>cA _ _ _ _ _ S.hx,by rw[au _ _ _ _ _ _ S.ht];rfl,aw S.hx,aw S.ht,S.low.1.2.2,S.low.1.2.2.symm⟩
theorem Sx.put{vn' vk':Value}{cs:Array Value}(i:Cu C E w c)(row:w.ownsRow E.base 50 9 (.slice (some ⟨g,0,none⟩) n cp) n (im (A++x::B)))(p:∀b∈A++B,w.ownsRow E.base 9 1 b.vn b.N.nm.length (b.N.nm.map Value.string)/\w.ownsRow E.base 3 1 b.vk b.N.ks.length (b.N.ks.map (Value.int .i64)))(ht:w.heap[tb]?=some (.cells #[.slice (some ⟨g,0,none⟩) n cp] 25 (0,0)))(l:w.heap[bx]?=some (.cells cs 50 (0,0)))(e:bx≠g/\E.base<=bx)(H:Below E.base W w)(fr:∀(k:Nat) (cs:Array Value) (f:Nat×Nat),W.heap[k]?=some (.cells cs 25 f)->w.heap[k]?=some (.cells cs 25 f))(J:tb≠bx)(q:Nat)(u:Value)(I:cs.setIfInBounds q u=pu N' vn' vk')(on:w.ownsRow E.base 9 1 vn' N'.nm.length (N'.nm.map Value.string))(G:w.ownsRow E.base 3 1 vk' N'.ks.length (N'.ks.map (Value.int .i64))):Sx C E W (w.setCell ⟨bx,q,none⟩ u) c g n cp tb bx A B x N' vn' vk':=by
 have z:∀k,k≠bx->(w.setCell ⟨bx,q,none⟩ u).heap[k]?=w.heap[k]?:=fun k d=>aK _ _ _ _ d
 have v:Below E.base w (w.setCell ⟨bx,q,none⟩ u):=(ag _ w).setCell e.2 _
 have j:∀{e a r n:Nat}{h:Value}{s:List Value},w.ownsRow e a r h n s->h.ownBlock≠some bx->(w.setCell ⟨bx,q,none⟩ u).ownsRow e a r h n s:=fun F y=>jA F y q u
 have o:∀{e a r n:Nat}{h:Value}{s:List Value},w.ownsRow e a r h n s->a≠50->h.ownBlock≠some bx:=fun F y=>ee F l (eA y)
 refine⟨⟨⟨i.lo.1,ch i.lo.2 v.size⟩,i.code.below v,(z _ fun a=>?_).trans i.cur⟩,j row (by simp[Value.ownBlock];exact fun a=>e.1 a.symm),fun b m=>⟨j (p b m).1 (o (p b m).1 (by decide)),j (p b m).2 (o (p b m).2 (by decide))⟩,j on (o on (by decide)),j G (o G (by decide)),(z _ J).trans ht,?_,e,H.trans v,fun k cs f d=>(z _ fun a=>?_).trans (fr k cs f d)⟩
 ·have d:=i.cur
  rw[a,l]at d
  simp only[fe,ia]at d
  exact absurd d.2.1 (by decide)
 ·rw[<-I]
  exact bI _ bx q _ _ _ l
 ·have t:=fr k cs f d
  rw[a,l]at t
  simp only[fe,ia]at t
  exact absurd t.2.1 (by decide)
theorem Sx.set{vn' vk':Value}(S:Sx C E W w c g n cp tb bx A B x N vn vk)(q:Nat)(u:Value)(a:(pu N vn vk).setIfInBounds q u=pu N' vn' vk')(on:w.ownsRow E.base 9 1 vn' N'.nm.length (N'.nm.map Value.string))(b:w.ownsRow E.base 3 1 vk' N'.ks.length (N'.ks.map (Value.int .i64))):Sx C E W (w.setCell ⟨bx,q,none⟩ u) c g n cp tb bx A B x N' vn' vk':=Sx.put S.cu S.row S.oth S.ht S.hx S.lo S.bel S.fr S.low.1.2.2 q u a on b
theorem Sx.grow{t:TypeId}{u:Value}{m:Nat}{xs:List Value}(S:Sx C E W w c g n cp tb bx A B x N vn vk)(ad:w.ownsRow E.base t 1 u m xs)(ht:t=9\/t=3)(af:u=x.vn\/u=x.vk)(L:(bL (A++x::B)).Nodup)(p:w.grownBy w' u.ownBlock)(a:Below E.base w w'):Cu C E w' c/\w'.ownsRow E.base 50 9 (.slice (some ⟨g,0,none⟩) n cp) n (im (A++x::B))/\(∀e∈A++B,w'.ownsRow E.base 9 1 e.vn e.N.nm.length (e.N.nm.map Value.string)/\w'.ownsRow E.base 3 1 e.vk e.N.ks.length (e.N.ks.map (Value.int .i64)))/\w'.heap[tb]?=some (.cells #[.slice (some ⟨g,0,none⟩) n cp] 25 (0,0))/\w'.heap[bx]?=some (.cells (pu N vn vk) 50 (0,0))/\Below E.base W w'/\∀(k:Nat)(cs:Array Value)(f:Nat×Nat),W.heap[k]?=some (.cells cs 25 f)->w'.heap[k]?=some (.cells cs 25 f):=by
 have j:∀{k:Nat}{cs:Array Value}{d:TypeId}{G:Nat×Nat},w.heap[k]?=some (.cells cs d G)->d≠t->w'.heap[k]?=some (.cells cs d G):=fun q i=>(p.block _ (aw q) (fun h=>ee ad q i h.symm)).trans q
 have H:∀{v h z n:Nat}{o:Value}{xs:List Value},w.ownsRow v h z o n xs->(∀b,u.ownBlock=some b->o.ownBlock≠some b)->w'.ownsRow v h z o n xs:=fun {v h z n o xs} ak i=>by
  refine ak.kept p ?_
  cases r:o.ownBlock with
  |none=>exact .inl rfl
  |some b=>exact .inr (fun h=>i b h.symm r)
 have l:∀d,d=50\/d=25\/d=40->d≠t:=fun d i=>by rcases ht with rfl|rfl<;>rcases i with rfl|rfl|rfl<;>decide
 have an:w'.ownsRow E.base 50 9 (.slice (some ⟨g,0,none⟩) n cp) n (im (A++x::B)):=by
  obtain⟨al,y⟩:=S.row
  refine⟨al,?_⟩
  rcases y with y|⟨g,I,J,r,p,K,am⟩
  ·exact .inl y
  ·exact .inr ⟨g,I,J,r,p,j K (l _ (.inl rfl)),am⟩
 refine⟨⟨⟨S.cu.lo.1,ch S.cu.lo.2 a.size⟩,S.cu.code.below a,j S.cu.cur (l _ (.inr (.inr rfl)))⟩,an,fun e s=>?_,j S.ht (l _ (.inr (.inl rfl))),j S.hx (l _ (.inl rfl)),S.bel.trans a,fun k cs f i=>j (S.fr k cs f i) (l _ (.inr (.inl rfl)))⟩
 have F:=fun b (a:u.ownBlock=some b)=>ai0 L s (b:=b) (by rcases af with rfl|rfl;exact .inl a;exact .inr a)
 exact⟨H (S.oth e s).1 fun b a=>(F b a).1,H (S.oth e s).2 fun b a=>(F b a).2⟩
theorem Sx.fin(S:Sx C E W w c g n cp tb bx A B x N vn vk){i:Nat}(a1:A.length=i){V:World}(av:V=((((((((w.setCell ⟨g,i*9,none⟩ (.int .i64 N.k)).setCell ⟨g,i*9+1,none⟩ (.int .i64 N.f)).setCell ⟨g,i*9+2,none⟩ (.int .i64 N.t)).setCell ⟨g,i*9+3,none⟩ (.int .i64 N.l)).setCell ⟨g,i*9+4,none⟩ (.int .i64 N.op)).setCell ⟨g,i*9+5,none⟩ (.int .i64 N.n)).setCell ⟨g,i*9+6,none⟩ (.string N.x)).setCell ⟨g,i*9+7,none⟩ vn).setCell ⟨g,i*9+8,none⟩ vk):Lw V E.base (.slice (some ⟨g,0,none⟩) n cp) (A++⟨N,vn,vk⟩::B)/\Cu C E V c/\Below E.base W V/\∀(k:Nat)(cs:Array Value)(f:Nat×Nat),W.heap[k]?=some (.cells cs 25 f)->V.heap[k]?=some (.cells cs 25 f):=by
 subst av
 have a5:=S.row
 have a2:=(S.row.lt g rfl)
 have e:=fun {w:World}{p:List Value}(d:w.ownsRow E.base 50 9 (.slice (some ⟨g,0,none⟩) n cp) n p) a4 bf=>(d.stored a4 bf)
 obtain⟨a6,L⟩:=e a5 (i*9) (.int .i64 N.k)
 obtain⟨a7,ad⟩:=e a6 (i*9+1) (.int .i64 N.f)
 obtain⟨a8,af⟩:=e a7 (i*9+2) (.int .i64 N.t)
 obtain⟨a9,ak⟩:=e a8 (i*9+3) (.int .i64 N.l)
 obtain⟨ba,al⟩:=e a9 (i*9+4) (.int .i64 N.op)
 obtain⟨bb,am⟩:=e ba (i*9+5) (.int .i64 N.n)
 obtain⟨bc,an⟩:=e bb (i*9+6) (.string N.x)
 obtain⟨bd,ao⟩:=e bc (i*9+7) vn
 obtain⟨h,ap⟩:=e bd (i*9+8) vk
 have m:=jb (jb (jb (jb (jb (jb (jb (jb L ad) af) ak) al) am) an) ao) ap
 have I:im (A++x::B)=im A++(cMb x++im B):=by rw[og,ri]
 have J:(im A).length=i*9:=by rw[yu,a1]
 rw[I]at h
 simp only[cMb]at h
 rw[ai1 _ _ _ J]at h
 have K:im A++([.int .i64 N.k,.int .i64 N.f,.int .i64 N.t,.int .i64 N.l,.int .i64 N.op,.int .i64 N.n,.string N.x,vn,vk]++im B)=im (A++⟨N,vn,vk⟩::B):=by rw[og,ri];rfl
 rw[K]at h
 have a3:(A++(⟨N,vn,vk⟩:Mb)::B).length=n:=by
  have ar:=h.1
  rw[yu]at ar
  omega
 generalize World.setCell _ ⟨g,i*9+8,none⟩ vk=V at h m⊢
 have j:∀{z b G n:Nat}{H:Value}{p:List Value},w.ownsRow z b G H n p->b≠50->V.ownsRow z b G H n p:=fun F a0=>by
  refine F.kept m (.inr fun b=>?_)
  rcases S.row.2 with⟨a,_⟩|⟨y,u,v,a,_,o,_⟩
  ·cases a
  ·cases a
   exact ee F o (eA a0) b
 have s:=jy m a2.1 S.cu.lo.2
 refine⟨⟨by rw[a3];exact h,fun q hy=>?_⟩,⟨⟨S.cu.lo.1,ch S.cu.lo.2 s.size⟩,S.cu.code.below s,(m.block _ S.cu.lt fun b=>?_).trans S.cu.cur⟩,S.bel.trans s,fun k cs f d=>(m.block _ (aw (S.fr k cs f d)) fun b=>?_).trans (S.fr k cs f d)⟩
 ·rcases List.mem_append.1 hy with hy|hy
  ·exact⟨j (S.oth q (List.mem_append.2 (.inl hy))).1 (by decide),j (S.oth q (List.mem_append.2 (.inl hy))).2 (by decide)⟩
  ·rcases List.mem_cons.1 hy with rfl|hy
   ·exact⟨j S.on (by decide),j S.ok (by decide)⟩
   ·exact⟨j (S.oth q (List.mem_append.2 (.inr hy))).1 (by decide),j (S.oth q (List.mem_append.2 (.inr hy))).2 (by decide)⟩
 ·rcases S.row.2 with⟨a,_⟩|⟨y,u,v,a,_,o,_⟩
  ·cases a
  ·cases a
   have d:=S.cu.cur
   rw[bh b,o]at d
   simp only[fe,ia]at d
   exact absurd d.2.1 (by decide)
 ·rcases S.row.2 with⟨a,_⟩|⟨y,u,v,a,_,o,_⟩
  ·cases a
  ·cases a
   have r:=S.fr k cs f d
   rw[bh b,o]at r
   simp only[fe,ia]at r
   exact absurd r.2.1 (by decide)
end
theorem Sx.start{C:Cd}{E:Bs}{W w:World}{c r:Cr}{g n cp:Nat}{h i:List Mb}{x:Mb}(f:Cu C E W c)(o:Cu C E w r)(j:(W.alloc (.cells #[.slice (some ⟨g,0,none⟩) n cp] 25)).grownBy w (some E.cb))(T:Tw W E.base (.slice (some ⟨g,0,none⟩) n cp) (h++x::i))(G:(h++x::i).length=n):
  w.ownsRow E.base 50 9 (.slice (some ⟨g,0,none⟩) n cp) n (im (h++x::i))/\w.heap[W.heap.size]?=some (.cells #[.slice (some ⟨g,0,none⟩) n cp] 25 (0,0))/\Sx C E W (w.alloc (.cells (pu x.N x.vn x.vk) 50)) r g n cp W.heap.size w.heap.size h i x x.N x.vn x.vk:=by
 have l:∀{e size u:Nat}{z:Value}{A:List Value},W.ownsRow E.base e size z u A->e≠40->w.ownsRow E.base e size z u A:=fun v F=>(v.alloc _).kept j (.inr (ee v f.cur (eA F)))
 have y:=T.lw.row
 rw[G]at y
 have p:=l y (by decide)
 have q:=(j.block W.heap.size (by simp) (fun e=>by have:=f.lt;have:=bh e;omega)).trans (ay W _)
 have d:=dh w (.cells (pu x.N x.vn x.vk) 50)
 have J:=(p.lt g rfl)
 have B:Below E.base W w:=((dh W _).mono f.lo.2).trans (jy j f.lo.1 (ch f.lo.2 (dh W _).size))
 have s:∀a∈h++x::i,_:=fun a k=>(⟨cF (l (T.lw.each a k).1 (by decide)) d,cF (l (T.lw.each a k).2 (by decide)) d⟩:(w.alloc (.cells (pu x.N x.vn x.vk) 50)).ownsRow E.base 9 1 a.vn a.N.nm.length (a.N.nm.map Value.string)/\(w.alloc (.cells (pu x.N x.vn x.vk) 50)).ownsRow E.base 3 1 a.vk a.N.ks.length (a.N.ks.map (Value.int .i64)))
 have t:=s x (List.mem_append.2 (.inr da))
 refine⟨p,q,o.below d,cF p d,fun a k=>s a ((List.mem_append.1 k).elim (fun b=>List.mem_append.2 (.inl b)) fun b=>List.mem_append.2 (.inr (ep _ b))),t.1,t.2,(d.block _ (aw q)).trans q,ay w _,⟨by omega,o.lo.2⟩,B.trans (d.mono o.lo.2),fun l H I b=>(d.block _ (fi (aw b) (ch (dh W _).size j.size))).trans ((j.block _ (fi (aw b) (dh W _).size) fun e=>?_).trans (((dh W _).block _ (aw b)).trans b))⟩
 have m:=f.cur
 rw[<-bh e,b]at m
 simp only[fe,ia]at m
 exact absurd m.2.1 (by decide)
inductive Sp1 (C:Cd) (N:Nd):Int->Cr->Nat->Value->Nd->Cr->Prop
 |kind {z k:Int}{c c1:Cr}:z=0\/z=1->Rc C 13 [.int .i64 44] c (.int .i64 k) c1->Sp1 C N z c 0 (.int .i64 k) {N with k:=k} c1
 |line {k l:Int}{c c1:Cr}:IntKind.i64.wrap (k-1)=l->Rc C 13 [.int .i64 3] c (.int .i64 k) c1->Sp1 C N 3 c 3 (.int .i64 l) {N with l:=l} c1
 |op {k l:Int}{c c1:Cr}:IntKind.i64.wrap (k-1)=l->Rc C 13 [.int .i64 25] c (.int .i64 k) c1->Sp1 C N 4 c 4 (.int .i64 l) {N with op:=l} c1
 |num {k l:Int}{c c1:Cr}:IntKind.i64.wrap (k-1)=l->Rc C 13 [.int .i64 6] c (.int .i64 k) c1->Sp1 C N 5 c 5 (.int .i64 l) {N with n:=l} c1
 |text {t:ByteArray}{c c1:Cr}:Rc C 39 [] c (.string t) c1->Sp1 C N 6 c 6 (.string t) {N with x:=t} c1
theorem aeJ{C:Cd}{N N':Nd}{z:Int}{c a:Cr}{q:Nat}{u:Value}(P:Sp1 C N z c q u N' a)(vn vk:Value):(pu N vn vk).setIfInBounds q u=pu N' vn vk:=by
 cases P<;>rfl
def SpP(C:Cd)(E:Bs)(W:World)(g cp:Nat)(L:List Nd)(c:Cr)(w:World):Prop:=∃a:List Mb,a.map Mb.N=L/\Lw w E.base (.slice (some ⟨g,0,none⟩) L.length cp) a/\Cu C E w c/\Below E.base W w/\∀(d:Nat)(b:Array Value)(f:Nat×Nat),W.heap[d]?=some (.cells b 25 f)->w.heap[d]?=some (.cells b 25 f)
def Sp(C:Cd)(c:Cr)(L:List Nd)(d:Cr)(b:List Nd):Prop:=∀ ⦃E:Bs⦄ ⦃W:World⦄ ⦃g cp:Nat⦄ ⦃a:List Mb⦄,Cu C E W c->a.map Mb.N=L->Tw W E.base (.slice (some ⟨g,0,none⟩) L.length cp) a->Calls Tryz.prog 16 #[cV E,.agg #[.slice (some ⟨g,0,none⟩) L.length cp]] W fun e w'=>e= .returned (.tuple #[])/\SpP C E W g cp b d w'
theorem Sx.out{C:Cd}{E:Bs}{W w:World}{c:Cr}{g n cp p bx i:Nat}{a b:List Mb}{x:Mb}{N:Nd}{vn vk:Value}(S:Sx C E W w c g n cp p bx a b x N vn vk)(m:a.length=i)(o:(a++x::b).length=n){V:World}(j:V=(((((((((w.setCell ⟨g,i*9,none⟩ (.int .i64 N.k)).setCell ⟨g,i*9+1,none⟩ (.int .i64 N.f)).setCell ⟨g,i*9+2,none⟩ (.int .i64 N.t)).setCell ⟨g,i*9+3,none⟩ (.int .i64 N.l)).setCell ⟨g,i*9+4,none⟩ (.int .i64 N.op)).setCell ⟨g,i*9+5,none⟩ (.int .i64 N.n)).setCell ⟨g,i*9+6,none⟩ (.string N.x)).setCell ⟨g,i*9+7,none⟩ vn).setCell ⟨g,i*9+8,none⟩ vk)):SpP C E W g cp (a.map Mb.N++N::b.map Mb.N) c V:=by
 obtain⟨d,e,h⟩:=S.fin m j
 refine⟨a++⟨N,vn,vk⟩::b,by simp,?_,e,h⟩
 rw[show(a.map Mb.N++N::b.map Mb.N).length=n by rw[<-o];simp]
 exact d
theorem Sx.cg{C:Cd}{E:Bs}{W w:World}{c:Cr}{g n cp d bx i:Nat}{a b:List Mb}{x:Mb}{N:Nd}{vn vk:Value}(S:Sx C E W w c g n cp d bx a b x N vn vk)(e:a.length=i):(∀j,w.frozen? ⟨g,j,none⟩=false)/\bx≠g/\g≠bx/\g<w.heap.size:=⟨fun j=>S.row.frozenAt j,S.lo.1,S.lo.1.symm,(S.row.lt g rfl).2⟩
theorem ug{C:Cd}{c G H I:Cr}{g l:List Nd}{N N':Nd}{z:Int}{q i n:Nat}{u:Value}(s:g.length=i)(j:(g++N::l).length=n)(bD:n<=1000)(a4:Rc C 13 [.int .i64 n] c (.int .i64 i) G)(a5:Rc C 13 [.int .i64 14] G (.int .i64 z) H)(P:Sp1 C N z H q u N' I):Sp C c (g++N::l) I (g++N'::l):=by
 intro bs a7 ba a8 bt o p f
 rw[j]at f⊢
 obtain⟨w,bv,rfl,ad,af⟩:=List.map_eq_append_iff.1 p
 obtain⟨x,a2,rfl,v,bb⟩:=List.map_eq_cons_iff.1 af
 have t:(w++x::a2).length=n:=by rw[<-j,<-p,aI]
 have h:w.length=i:=by rw[<-s,<-ad,aI]
 have bx:(0:Int)<=(i:Int):=by omega
 have bA:(i:Int)<(n:Int):=by rw[<-j,aD,co,s];omega
 obtain⟨a,br,bo⟩:=x
 have v:a=N:=v
 have r:=f.lw.each _ (List.mem_append.2 (.inr da))
 obtain⟨F,K,bk⟩:∃b c,br= .slice b a.nm.length c:=bG r.1
 obtain⟨E,J,bf⟩:∃b c,bo= .slice b a.ks.length c:=bG r.2
 clear r
 subst v ad bb bk bf
 obtain⟨ap,bd⟩:=aE a.nm.length
 obtain⟨ao,bc⟩:=aE a.ks.length
 rw[bd,bc]at f t
 have b:=o.cw
 clear p af j s
 go_in
 go_wp2_with fail
 refine b.al.run a4 fun w1 B L=>?_
 obtain⟨ar,a0,A⟩:=Sx.start o B.cu L f t
 have bn:=en ar (i:=i) (x:=⟨a,.slice F ap K,.slice E ao J⟩) (by rw[<-h];simp)
 have a9:w1.cell? ⟨a7.heap.size,0,none⟩=some (.slice (some ⟨ba,0,none⟩) n a8):=by rw[au _ _ _ _ _ _ a0];rfl
 have y:=aj A
 clear b B L ar a0 f o A
 go_wp2_with fail
 refine y.out.run a5 fun bF m=>?_
 have av:=m.rd
 clear a9 bn y
 have a3:=aj (aeJ P)
 cases P with
 |kind bl d=>?_
 |line am d=>?_
 |op am d=>?_
 |num am d=>?_
 |text d=>?_
 all_goals try rcases bl with rfl|rfl
 all_goals
  go_wp2_with fail
  refine m.run d fun b0 e=>?_
  clear av m
  have av:=e.rd
  have bw:=e.cg h
  have bE:=en e.row (i:=i) (x:=⟨a,.slice F ap K,.slice E ao J⟩) (by rw[<-h];simp)
  have k:=aj e
  clear e
  go_wp2_with fail
  go_end0
  have a6:=k.out.set _ _ (a3.out _ _) k.out.on k.out.ok
  exact⟨rfl,Sx.out a6 h t rfl⟩
theorem KE{w:World}{d e m c:Nat}{a:Option Addr}{xs:List Value}(h:w.ownsRow d e 1 (.slice a (m+1) c) (m+1) xs):w.ownsRow d e 1 (.slice a m c) m (xs.take m)/\m+1<=c:=by
 obtain⟨i,j⟩:=h
 rcases j with⟨b,_⟩|⟨g,r,f,b,k,l,n,o,p,q⟩
 ·simp at b
 ·simp at b
  obtain⟨rfl,rfl⟩:=b
  refine⟨⟨by rw[dt,i];omega,.inr ⟨g,c,f,rfl,k,l,by omega,o,p,?_⟩⟩,n⟩
  rw[<-q,List.take_take,oL,oL,pd (by omega)]
abbrev zN:Nd:=⟨27,0,0,0,0,0,⟨#[]⟩,[],[]⟩
inductive Sp2 (C:Cd) (N:Nd):Int->Cr->Nd->Cr->Prop
 |place {a b l:Int}{c c1 c2:Cr}:IntKind.i64.wrap (a-1)=l->Rc C 13 [.int .i64 3] c (.int .i64 a) c1->Rc C 13 [.int .i64 3] c1 (.int .i64 b) c2->Sp2 C N 2 c {N with f:=l,t:=b} c2
 |nonm {c:Cr}:Sp2 C N 8 c {N with nm:=[]} c
 |less {c:Cr}{m:Nat}:N.ks.length=m+1->Sp2 C N 10 c {N with ks:=N.ks.take m} c
 |keep {z:Int}{c:Cr}:z=12\/z=13->0<N.ks.length->Sp2 C N z c N c
 |kept {z:Int}{c:Cr}:z=10\/z=11->N.ks=[]->Sp2 C N z c N c
 |rest {z:Int}{c:Cr}:z=12\/z=13->N.ks=[]->Sp2 C N z c zN c
theorem Sx.rest{C:Cd}{E:Bs}{W w:World}{c:Cr}{g n cp p bx:Nat}{i j:List Mb}{x:Mb}{N:Nd}{vn vk:Value}(S:Sx C E W w c g n cp p bx i j x N vn vk):Sx C E W (ajs w bx zN (.slice none 0 0) (.slice none 0 0)) c g n cp p bx i j x zN (.slice none 0 0) (.slice none 0 0):=by
 have s0:=S.set (N':={N with k:=27}) 0 (.int .i64 27) rfl S.on S.ok
 have a:=s0.set (N':={N with k:=27,f:=0}) 1 (.int .i64 0) rfl s0.on s0.ok
 have b:=a.set (N':={N with k:=27,f:=0,t:=0}) 2 (.int .i64 0) rfl a.on a.ok
 have d:=b.set (N':={N with k:=27,f:=0,t:=0,l:=0}) 3 (.int .i64 0) rfl b.on b.ok
 have e:=d.set (N':={N with k:=27,f:=0,t:=0,l:=0,op:=0}) 4 (.int .i64 0) rfl d.on d.ok
 have h:=e.set (N':={N with k:=27,f:=0,t:=0,l:=0,op:=0,n:=0}) 5 (.int .i64 0) rfl e.on e.ok
 have m:=h.set (N':={N with k:=27,f:=0,t:=0,l:=0,op:=0,n:=0,x:=⟨#[]⟩}) 6 (.string ⟨#[]⟩) rfl h.on h.ok
 have o:=m.set (N':={N with k:=27,f:=0,t:=0,l:=0,op:=0,n:=0,x:=⟨#[]⟩,nm:=[]}) (vn':= .slice none 0 0) 7 (.slice none 0 0) rfl (dy _ _ _ _) m.ok
 exact o.set (N':=zN) (vk':= .slice none 0 0) 8 (.slice none 0 0) rfl o.on (dy _ _ _ _)
theorem pI{C:Cd}{c a2 a3 a4:Cr}{w E:List Nd}{N N':Nd}{z:Int}{i n:Nat}(K:w.length=i)(y:(w++N::E).length=n)(cf:n<=1000)(bk:Rc C 13 [.int .i64 n] c (.int .i64 i) a2)(bl:Rc C 13 [.int .i64 14] a2 (.int .i64 z) a3)(P:Sp2 C N z a3 N' a4)(bA:N.ks.length<=1000):Sp C c (w++N::E) a4 (w++N'::E):=by
 intro b6 bs bw bt b7 H I u
 rw[y]at u⊢
 obtain⟨ao,b8,rfl,a7,a8⟩:=List.map_eq_append_iff.1 I
 obtain⟨x,bd,rfl,L,bx⟩:=List.map_eq_cons_iff.1 a8
 have g:(ao++x::bd).length=n:=by rw[<-y,<-I,aI]
 have d:ao.length=i:=by rw[<-K,<-a7,aI]
 have cc:(0:Int)<=(i:Int):=by omega
 have cd:(i:Int)<(n:Int):=by rw[<-y,aD,co,K];omega
 obtain⟨a,b5,b4⟩:=x
 have L:a=N:=L
 have J:=u.lw.each _ (List.mem_append.2 (.inr da))
 obtain⟨F,G,b0⟩:∃l c,b5= .slice l a.nm.length c:=bG J.1
 obtain⟨s,m,bF⟩:∃l c,b4= .slice l a.ks.length c:=bG J.2
 clear J
 subst L a7 bx b0 bF
 obtain⟨af,bE⟩:=aE a.nm.length
 obtain⟨j,h⟩:=aE a.ks.length
 rw[bE,h]at u g
 rw[h]at bA
 have l:=H.cw
 clear I a8 y K
 go_in
 go_wp2_with fail
 refine l.al.run bk fun w1 a0 a6=>?_
 obtain⟨bb,bc,av⟩:=Sx.start H a0.cu a6 u g
 have b2:=en bb (i:=i) (x:=⟨a,.slice F af G,.slice s j m⟩) (by rw[<-d];simp)
 have bv:w1.cell? ⟨bs.heap.size,0,none⟩=some (.slice (some ⟨bw,0,none⟩) n bt):=by rw[au _ _ _ _ _ _ bc];rfl
 have ap:=aj av
 clear l a0 a6 bb bc u H av
 go_wp2_with fail
 refine ap.out.run bl fun cr p=>?_
 have A:=p.rd
 have a5:=p.cg d
 have b3:=en p.row (i:=i) (x:=⟨a,.slice F af G,.slice s j m⟩) (by rw[<-d];simp)
 have e:=aj p
 clear bv b2 ap p
 cases P with
 |@place cq ba ad _ _ _ b1 bn bo=>?_
 |nonm=>?_
 |@less _ b o=>?_
 |keep v o=>?_
 |kept v o=>?_
 |rest v o=>?_
 case place=>
  clear a5 b3
  go_wp2_with fail
  refine e.out.run bn fun cs q=>?_
  have k:=q.set (N':={a with f:=ad}) 1 (.int .i64 ad) rfl q.on q.ok
  clear A
  have A:=q.rd
  have bf:=aj k
  clear q k
  go_wp2_with fail
  refine bf.out.run bo fun cv r=>?_
  clear A
  have A:=r.rd
  have a5:=r.cg d
  have cl:=en r.row (i:=i) (x:=⟨a,.slice F af G,.slice s j m⟩) (by rw[<-d];simp)
  have B:=aj r
  clear r
  go_wp2_with fail
  go_end0
  have br:=B.out.set (N':={a with f:=ad,t:=ba}) 2 (.int .i64 ba) rfl B.out.on B.out.ok
  exact⟨rfl,Sx.out br d g rfl⟩
 case nonm=>
  go_wp2_with fail
  go_end0
  have k:=e.out.set (N':={a with nm:=[]}) (vn':= .slice none 0 0) 7 (.slice none 0 0) rfl (dy _ _ _ _) e.out.ok
  exact⟨rfl,Sx.out k d g rfl⟩
 case less=>
  obtain rfl:j=b+1:=by omega
  have am:=e.out.ok
  rw[h]at am
  obtain⟨a9,cm⟩:=KE am
  have b1:IntKind.i64.wrap (((b+1:Nat):Int)-1)=(b:Int):=by rw[bm];omega
  have b9:(0:Int)<((b+1:Nat):Int):=by omega
  have ca:(0:Int)<=(b:Int):=by omega
  have cb:(b:Int)<=(m:Int):=by omega
  have ar:=eJ a9 h
  clear am a9 o h
  go_wp2_with fail
  go_end0
  have bD:(a.ks.take b).length=b:=by rw[dt,ar.2];omega
  have k:=e.out.set (N':={a with ks:=a.ks.take b}) (vk':= .slice s b m) 8 (.slice s b m) rfl e.out.on (by show World.ownsRow _ _ _ _ _ (a.ks.take b).length ((a.ks.take b).map _);rw[bD,List.map_take];exact ar.1)
  exact⟨rfl,Sx.out k d g rfl⟩
 case keep=>
  have ce:((j:Int)==0)=false:=by rw[cJ];omega
  rcases v with rfl|rfl
  all_goals
   go_wp2_with fail
   go_end0
   exact⟨rfl,Sx.out e.out d g rfl⟩
 case kept=>
  obtain rfl:j=0:=by rw[<-h,o];rfl
  rcases v with rfl|rfl
  all_goals
   go_wp2_with fail
   go_end0
   exact⟨rfl,Sx.out e.out d g rfl⟩
 case rest=>
  obtain rfl:j=0:=by rw[<-h,o];rfl
  rcases v with rfl|rfl
  all_goals
   go_wp2_with fail
   go_end0
   exact⟨rfl,Sx.out e.out.rest d g rfl⟩
theorem aeK{C:Cd}{c a2 a3 a4:Cr}{p B:List Nd}{N:Nd}{i n:Nat}{t:ByteArray}(ad:p.length=i)(u:(p++N::B).length=n)(d1:n<=1000)(b4:Rc C 13 [.int .i64 n] c (.int .i64 i) a2)(b5:Rc C 13 [.int .i64 14] a2 (.int .i64 7) a3)(b6:Rc C 40 [] a3 (.string t) a4)(cs:N.nm.length<=1000)(cr:N.ks.length<=1000):Sp C c (p++N::B) a4 (p++{N with nm:=N.nm++[t]}::B):=by
 intro A b7 ce ca dg J K l
 rw[u]at l⊢
 obtain⟨ap,dk,rfl,bb,bc⟩:=List.map_eq_append_iff.1 K
 obtain⟨x,b1,rfl,am,cl⟩:=List.map_eq_cons_iff.1 bc
 have af:(ap++x::b1).length=n:=by rw[<-u,<-K,aI]
 have q:ap.length=i:=by rw[<-ad,<-bb,aI]
 have ds:(0:Int)<=(i:Int):=by omega
 have dz:(i:Int)<(n:Int):=by rw[<-u,aD,co,ad];omega
 obtain⟨d,df,dd⟩:=x
 have am:d=N:=am
 have L:=l.lw.each _ (List.mem_append.2 (.inr da))
 obtain⟨f,g,cy⟩:∃k c,df= .slice k d.nm.length c:=bG L.1
 obtain⟨H,I,cx⟩:∃k c,dd= .slice k d.ks.length c:=bG L.2
 clear L
 subst am bb cl cy cx
 obtain⟨b,s⟩:=aE d.nm.length
 obtain⟨ao,bk⟩:=aE d.ks.length
 rw[s,bk]at l af
 rw[bk]at cr
 rw[s]at cs
 have k:=J.cw
 clear K bc u ad
 go_in
 go_wp2_with fail
 refine k.al.run b4 fun w1 a0 a9=>?_
 obtain⟨bA,bE,av⟩:=Sx.start J a0.cu a9 l af
 have c9:=en bA (i:=i) (x:=⟨d,.slice f b g,.slice H ao I⟩) (by rw[<-q];simp)
 have cb:w1.cell? ⟨b7.heap.size,0,none⟩=some (.slice (some ⟨ce,0,none⟩) n ca):=by rw[au _ _ _ _ _ _ bE];rfl
 have ar:=aj av
 have b3:=aj l.sep
 clear k a0 a9 bA bE l J av
 go_wp2_with fail
 refine ar.out.run b5 fun b0 E=>?_
 have bD:=E.rd
 have b2:=aj E
 clear cb c9 ar E
 go_wp2_with fail
 have G:=aj (b2.out.below (aq (ag _ b0)))
 have a8:b0.drew.cell? ⟨w1.heap.size,7,none⟩=some (.slice f b g):=(Sx.rd G).1 7
 clear bD
 refine wp_region_held_drew (S:=fun _=>True) (by kernel_rfl) trivial (fun hS=>?_)
 simp only[gG,co,dB,Nat.reduceAdd,je,jf,jg,er,fl]
 refine cj 0 (.pointer (some ⟨w1.heap.size,7,none⟩)) rfl rfl (by kernel_rfl) (fun _ _ _=>id) hS (fun bF bl=>by go_simp) ?_
 simp only[List.set]
 refine cj 2 (cV A) rfl rfl (by kernel_rfl) (fun _ _ _=>id) hS (fun bF bl=>by go_simp) ?_
 simp only[List.set]
 refine oc (S:=fun b8=>b8.cell? ⟨w1.heap.size,7,none⟩=some (.slice f b g)) (C:=fun w=>!(w==5||w==6||w==7)) (i:=1) (v:= .slice f b g) rfl (sA (by kernel_rfl)) (fun _ _ _ cf=>cf) ?hC _ _ _ _ (sB rfl (by kernel_rfl)) (List.contains_iff_mem.1 (by kernel_rfl)) (Or.inl ⟨by rfl,fun bF bl=>by go_simp⟩) hS a8 ?_
 case hC=>
  intro w d4 bf j
  simp only[Bool.not_eq_false',sD,ib]at j
  rcases j with(rfl|rfl)|rfl
  ·obtain rfl:=bh bf
   exact⟨{on:=1,ground:=Ground.data},by simp,rfl,rfl⟩
  all_goals
   obtain rfl:=bh bf
   exact⟨{on:=1,ground:=Ground.phase},by simp,rfl,rfl⟩
 simp only[Act.put,aB,aA,aC]
 refine dI (i:=3) (by kernel_rfl) rfl (fun h a=>?_)
 go_simp
 refine G.out.run b6 fun m F=>?_
 have a5:m.cell? ⟨w1.heap.size,7,none⟩=some (.slice f b g):=F.rd.1 7
 refine a _ _ trivial (fun _=>a5) ?_
 clear a h a8 G
 try simp only[aB,aA,aC]
 refine dI (i:=4) (by kernel_rfl) rfl (fun h a=>?_)
 go_simp
 have e:=F.below (dh m (.cells #[.string t] 9))
 have a6:(m.alloc (.cells #[.string t] 9)).cell? ⟨w1.heap.size,7,none⟩=some (.slice f b g):=e.rd.1 7
 refine a _ _ trivial (fun _=>a6) ?_
 clear a h
 try simp only[aB,aA,aC]
 obtain⟨cz,cB,cI,c0,c4⟩:=dD ql
 have on:=e.on
 rw[s]at on
 refine dI (i:=5) (by kernel_rfl) rfl (fun h a=>?_)
 refine step_append_lies _ (by rfl) _ _ 48 (by rfl) A.base 9 cz _ 1 16 Tryz.underlying48 cB cI c0 c4 rfl (by decide) (.slice f b g) b _ (by rfl) on ⟨m.heap.size,0,none⟩ 1 1 [.string t] (by rfl) rfl (World.news_of_block (ay m _)) (by intro d5 cv;rw[List.mem_singleton.1 cv];rfl) (by decide) (by unfold maxLen;omega) (by omega) e.cu.lo.2 _ rfl ?_
 intro ba a7 z bn r cm d0
 have bd:Below A.base (m.alloc (.cells #[.string t] 9)) z:=(ag _ _).grown r e.cu.lo.2 (fun c8 cq=>(on.lt c8 cq).1)
 obtain⟨br,bs,bt,bv,y,bw,bx⟩:=e.grow on (.inl rfl) (.inl rfl) b3.out r bd
 have bo:=e.ok.kept r (xA e.ok on (by decide))
 have b9:z.cell? ⟨w1.heap.size,7,none⟩=some (.slice f b g):=by rw[au _ _ _ _ _ _ y];rfl
 have cc:z.frozen? ⟨w1.heap.size,7,none⟩=false:=cA _ _ _ _ _ y
 have d2:(Value.slice f b g).ownBlock≠some w1.heap.size:=ee on e.hx (by decide)
 have o:=aj (Sx.put (N':={d with nm:=d.nm++[t]}) (vn':= .slice (some ⟨ba,0,none⟩) (b+1) a7) (vk':= .slice H ao I) br bs bt bv y e.lo bw bx e.low.1.2.2 7 (.slice (some ⟨ba,0,none⟩) (b+1) a7) rfl (by show World.ownsRow _ _ _ _ _ (d.nm++[t]).length ((d.nm++[t]).map _);rw[aD,dm,s];exact bn) bo)
 refine a _ _ trivial (fun j=>by cases j) ?_
 clear a h br bs bt bv y bw bx bn r cm bd on F e a5 a6 bo
 simp only[Act.put,aB,aA,aC]
 refine dI (i:=6) (by kernel_rfl) rfl (fun h a=>?_)
 go_simp
 refine a _ _ trivial (fun j=>by cases j) ?_
 clear a h
 try simp only[aB,aA,aC]
 refine dI (i:=7) (by kernel_rfl) rfl (fun h a=>?_)
 go_simp
 refine a _ _ trivial (fun j=>by cases j) ?_
 clear a h
 refine qi (by kernel_rfl) ?_ _
 clear b9 cc
 generalize World.setCell z _ _=d6 at o⊢
 have bD:=o.out.rd
 have dn:=o.out.cg q
 have d3:=en o.out.row (i:=i) (x:=⟨d,.slice f b g,.slice H ao I⟩) (by rw[<-q];simp)
 go_wp2_with fail
 go_end0
 exact⟨rfl,Sx.out o.out q af rfl⟩
theorem aeL{C:Cd}{c bc bd bf:Cr}{w L:List Nd}{N:Nd}{i n:Nat}{b8 l:Int}(a2:w.length=i)(H:(w++N::L).length=n)(d6:n<=1000)(cc:Rc C 13 [.int .i64 n] c (.int .i64 i) bc)(ce:Rc C 13 [.int .i64 14] bc (.int .i64 9) bd)(d4:IntKind.i64.wrap (b8-1)=l)(cf:Rc C 13 [.int .i64 ((n:Int)+2)] bd (.int .i64 b8) bf)(cz:N.nm.length<=1000)(cy:N.ks.length<=1000):Sp C c (w++N::L) bf (w++{N with ks:=N.ks++[l]}::L):=by
 intro K z B A dz ar av o
 rw[H]at o⊢
 obtain⟨a8,d0,rfl,bt,bv⟩:=List.map_eq_append_iff.1 av
 obtain⟨x,b9,rfl,a4,cs⟩:=List.map_eq_cons_iff.1 bv
 have a3:(a8++x::b9).length=n:=by rw[<-H,<-av,aI]
 have E:a8.length=i:=by rw[<-a2,<-bt,aI]
 have d2:(0:Int)<=(i:Int):=by omega
 have d3:(i:Int)<(n:Int):=by rw[<-H,aD,co,a2];omega
 obtain⟨e,ds,dn⟩:=x
 have a4:e=N:=a4
 have a0:=o.lw.each _ (List.mem_append.2 (.inr da))
 obtain⟨am,ap,c0⟩:∃m c,ds= .slice m e.nm.length c:=bG a0.1
 obtain⟨g,h,cI⟩:∃m c,dn= .slice m e.ks.length c:=bG a0.2
 clear a0
 subst a4 bt cs c0 cI
 obtain⟨a5,bA⟩:=aE e.nm.length
 obtain⟨b,G⟩:=aE e.ks.length
 rw[bA,G]at o a3
 rw[G]at cy
 rw[bA]at cz
 have m:=ar.cw
 clear av bv H a2
 go_in
 go_wp2_with fail
 refine m.al.run cc fun w1 bb br=>?_
 obtain⟨b4,b6,ba⟩:=Sx.start ar bb.cu br o a3
 have dk:=en b4 (i:=i) (x:=⟨e,.slice am a5 ap,.slice g b h⟩) (by rw[<-E];simp)
 have cm:w1.cell? ⟨z.heap.size,0,none⟩=some (.slice (some ⟨B,0,none⟩) n A):=by rw[au _ _ _ _ _ _ b6];rfl
 have a9:=aj ba
 have cb:=aj o.sep
 clear m bb br b4 b6 o ar ba
 go_wp2_with fail
 refine a9.out.run ce fun b7 ad=>?_
 have b5:=ad.rd
 have ca:=aj ad
 clear cm dk a9 ad
 have d7:IntKind.i64.wrap ((n:Int)+2)=(n:Int)+2:=by rw[bm];omega
 go_wp2_with fail
 have y:=aj (ca.out.below (aq (ag _ b7)))
 have bn:b7.drew.cell? ⟨w1.heap.size,8,none⟩=some (.slice g b h):=(Sx.rd y).1 8
 have bo:=(Sx.rd y).2.2.1
 clear b5
 refine wp_region_held_drew (S:=fun af=>af.cell? ⟨z.heap.size,0,none⟩=some (.slice (some ⟨B,0,none⟩) n A)) (by kernel_rfl) bo (fun hS=>?_)
 simp only[gG,co,dB,Nat.reduceAdd,je,jf,jg,er,fl]
 refine cj 0 (.pointer (some ⟨w1.heap.size,8,none⟩)) rfl rfl (by kernel_rfl) (fun _ _ _=>id) hS (fun r p=>by go_simp) ?_
 simp only[List.set]
 refine cj 2 (cV K) rfl rfl (by kernel_rfl) (fun _ _ _=>id) hS (fun r p=>by go_simp) ?_
 simp only[List.set]
 refine cj 3 (.pointer (some ⟨z.heap.size,0,none⟩)) rfl rfl (by kernel_rfl) (fun _ _ _=>id) hS (fun r p=>by go_simp) ?_
 simp only[List.set]
 refine cj 4 (.slice (some ⟨B,0,none⟩) n A) rfl rfl (by kernel_rfl) (fun _ _ _=>id) hS (fun r p=>by go_simp) ?_
 simp only[List.set]
 refine cj 5 (.int .i64 n) rfl rfl (by kernel_rfl) (fun _ _ _=>id) hS (fun r p=>by go_simp) ?_
 simp only[List.set]
 refine cj 6 (.int .i64 ((n:Int)+2)) rfl rfl (by kernel_rfl) (fun _ _ _=>id) hS (fun r p=>by go_simp) ?_
 simp only[List.set]
 refine oc (S:=fun af=>af.cell? ⟨w1.heap.size,8,none⟩=some (.slice g b h)) (C:=fun I=>!(I==10||I==11||I==12)) (i:=1) (v:= .slice g b h) rfl (sA (by kernel_rfl)) (fun _ _ _ cr=>cr) ?hC _ _ _ _ (sB rfl (by kernel_rfl)) (List.contains_iff_mem.1 (by kernel_rfl)) (Or.inl ⟨by rfl,fun r p=>by go_simp⟩) hS bn ?_
 case hC=>
  intro I d9 bx j
  simp only[Bool.not_eq_false',sD,ib]at j
  rcases j with(rfl|rfl)|rfl
  ·obtain rfl:=bh bx
   exact⟨{on:=1,ground:=Ground.data},by simp,rfl,rfl⟩
  all_goals
   obtain rfl:=bh bx
   exact⟨{on:=1,ground:=Ground.phase},by simp,rfl,rfl⟩
 simp only[Act.put,aB,aA,aC]
 refine dI (i:=7) (by kernel_rfl) rfl (fun d a=>?_)
 go_simp
 refine y.out.run cf fun s t=>?_
 have ao:s.cell? ⟨w1.heap.size,8,none⟩=some (.slice g b h):=t.rd.1 8
 refine a _ _ t.rd.2.2.1 (fun _=>ao) ?_
 clear a d bn y bo hS
 try simp only[aB,aA,aC]
 refine dI (i:=8) (by kernel_rfl) rfl (fun d a=>?_)
 go_simp
 refine a _ _ t.rd.2.2.1 (fun _=>ao) ?_
 clear a d
 try simp only[aB,aA,aC]
 refine dI (i:=9) (by kernel_rfl) rfl (fun d a=>?_)
 go_simp
 have f:=t.below (dh s (.cells #[.int .i64 l] 3))
 have bk:(s.alloc (.cells #[.int .i64 l] 3)).cell? ⟨w1.heap.size,8,none⟩=some (.slice g b h):=f.rd.1 8
 refine a _ _ f.rd.2.2.1 (fun _=>bk) ?_
 clear a d
 try simp only[aB,aA,aC]
 obtain⟨c4,c8,c9,dd,df⟩:=dD abb
 have q:=f.ok
 rw[G]at q
 refine dI (i:=10) (by kernel_rfl) rfl (fun d a=>?_)
 refine step_append_lies _ (by rfl) _ _ 31 (by rfl) K.base 3 c4 _ 1 8 Tryz.underlying31 c8 c9 dd df rfl (by decide) (.slice g b h) b _ (by rfl) q ⟨s.heap.size,0,none⟩ 1 1 [.int .i64 l] (by rfl) rfl (World.news_of_block (ay s _)) (by intro ea cB;rw[List.mem_singleton.1 cB];rfl) (by decide) (by unfold maxLen;omega) (by omega) f.cu.lo.2 _ rfl ?_
 intro bs bl u bD F cv d5
 have bw:Below K.base (s.alloc (.cells #[.int .i64 l] 3)) u:=(ag _ _).grown F f.cu.lo.2 (fun dg cx=>(q.lt dg cx).1)
 obtain⟨bF,b0,b1,a6,J,b2,b3⟩:=f.grow q (.inr rfl) (.inr rfl) cb.out F bw
 have bE:=f.on.kept F (xA f.on q (by decide))
 have cl:u.cell? ⟨w1.heap.size,8,none⟩=some (.slice g b h):=by rw[au _ _ _ _ _ _ J];rfl
 have cq:u.frozen? ⟨w1.heap.size,8,none⟩=false:=cA _ _ _ _ _ J
 have a7:u.cell? ⟨z.heap.size,0,none⟩=some (.slice (some ⟨B,0,none⟩) n A):=by rw[au _ _ _ _ _ _ a6];rfl
 have k:=aj (Sx.put (N':={e with ks:=e.ks++[l]}) (vn':= .slice am a5 ap) (vk':= .slice (some ⟨bs,0,none⟩) (b+1) bl) bF b0 b1 a6 J f.lo b2 b3 f.low.1.2.2 8 (.slice (some ⟨bs,0,none⟩) (b+1) bl) rfl bE (by show World.ownsRow _ _ _ _ _ (e.ks++[l]).length ((e.ks++[l]).map _);rw[aD,dm,G];exact bD))
 refine a _ _ a7 (fun j=>by cases j) ?_
 clear a d bF b0 b1 a6 J b2 b3 bD F cv bw q t f ao bk bE
 simp only[Act.put,aB,aA,aC]
 refine dI (i:=11) (by kernel_rfl) rfl (fun d a=>?_)
 go_simp
 refine a _ _ a7 (fun j=>by cases j) ?_
 clear a d
 try simp only[aB,aA,aC]
 refine dI (i:=12) (by kernel_rfl) rfl (fun d a=>?_)
 go_simp
 refine a _ _ k.out.rd.2.2.1 (fun j=>by cases j) ?_
 clear a d
 refine qi (by kernel_rfl) ?_ _
 clear cl cq a7
 generalize World.setCell u _ _=eb at k⊢
 have b5:=k.out.rd
 have d1:=k.out.cg E
 have d8:=en k.out.row (i:=i) (x:=⟨e,.slice am a5 ap,.slice g b h⟩) (by rw[<-E];simp)
 go_wp2_with fail
 go_end0
 exact⟨rfl,Sx.out k.out E a3 rfl⟩
theorem ae0{C:Cd}{c bc bd bf am:Cr}{z ad:List Nd}{N:Nd}{i n:Nat}{b7 l:Int}{j:Nat}(a0:z.length=i)(I:(z++N::ad).length=n)(d1:n<=1000)(b9:Rc C 13 [.int .i64 n] c (.int .i64 i) bc)(ca:Rc C 13 [.int .i64 14] bc (.int .i64 11) bd)(cr:j<N.ks.length)(ds:IntKind.i64.wrap (b7-1)=l)(a7:Rc C 13 [.int .i64 (N.ks.length:Nat)] bd (.int .i64 j) bf)(cc:Rc C 13 [.int .i64 ((n:Int)+2)] bf (.int .i64 b7) am)(cv:N.nm.length<=1000)(cs:N.ks.length<=1000):Sp C c (z++N::ad) am (z++{N with ks:=N.ks.set j l}::ad):=by
 intro y q v u c5 ao ap s
 rw[I]at s⊢
 obtain⟨L,c6,rfl,br,bs⟩:=List.map_eq_append_iff.1 ap
 obtain⟨x,a4,rfl,a3,cl⟩:=List.map_eq_cons_iff.1 bs
 have a2:(L++x::a4).length=n:=by rw[<-I,<-ap,aI]
 have H:L.length=i:=by rw[<-a0,<-br,aI]
 have df:(0:Int)<=(i:Int):=by omega
 have dg:(i:Int)<(n:Int):=by rw[<-I,aD,co,a0];omega
 obtain⟨d,c0,cI⟩:=x
 have a3:d=N:=a3
 have av:=s.lw.each _ (List.mem_append.2 (.inr da))
 obtain⟨E,F,cy⟩:∃r c,c0= .slice r d.nm.length c:=bG av.1
 obtain⟨bb,o,cx⟩:∃r c,cI= .slice r d.ks.length c:=bG av.2
 clear av
 subst a3 br cl cy cx
 obtain⟨J,bv⟩:=aE d.nm.length
 obtain⟨e,w⟩:=aE d.ks.length
 rw[bv,w]at s a2
 rw[w]at cs cr a7
 rw[bv]at cv
 have r:=ao.cw
 clear ap bs I a0
 go_in
 go_wp2_with fail
 refine r.al.run b9 fun w1 ba bo=>?_
 obtain⟨b3,b5,a8⟩:=Sx.start ao ba.cu bo s a2
 have cz:=en b3 (i:=i) (x:=⟨d,.slice E J F,.slice bb e o⟩) (by rw[<-H];simp)
 have cf:w1.cell? ⟨q.heap.size,0,none⟩=some (.slice (some ⟨v,0,none⟩) n u):=by rw[au _ _ _ _ _ _ b5];rfl
 have a5:=aj a8
 have b8:=aj s.sep
 clear r ba bo b3 b5 s ao a8
 go_wp2_with fail
 refine a5.out.run ca fun b6 af=>?_
 have b4:=af.rd
 have a6:=aj af
 clear cf cz a5 af
 have d2:IntKind.i64.wrap ((n:Int)+2)=(n:Int)+2:=by rw[bm];omega
 have dk:(0:Int)<=(j:Int):=by omega
 have dn:(j:Int)<(e:Int):=by omega
 have d0:(0:Int)<(e:Int):=by omega
 have f:=a6.out.ok
 rw[w]at f
 obtain⟨a,rfl⟩:∃a,bb=some ⟨a,0,none⟩:=by
  rcases bg f with⟨dd,_⟩|⟨a,c7,bn⟩
  ·omega
  ·simp at bn;exact⟨a,bn.1⟩
 clear f
 go_wp2_with fail
 have B:=aj (a6.out.below (aq (ag _ b6)))
 have bk:b6.drew.cell? ⟨w1.heap.size,8,none⟩=some (.slice (some ⟨a,0,none⟩) e o):=(Sx.rd B).1 8
 have bl:=(Sx.rd B).2.2.1
 clear b4
 refine wp_region_held_drew (S:=fun a9=>a9.cell? ⟨q.heap.size,0,none⟩=some (.slice (some ⟨v,0,none⟩) n u)/\a9.cell? ⟨w1.heap.size,8,none⟩=some (.slice (some ⟨a,0,none⟩) e o)) (by kernel_rfl) ⟨bl,bk⟩ (fun hS=>?_)
 simp only[gG,co,dB,Nat.reduceAdd,je,jf,jg,er,fl]
 refine cj 0 (.pointer (some ⟨w1.heap.size,8,none⟩)) rfl rfl (by kernel_rfl) (fun _ _ _=>id) hS (fun k h=>by go_simp) ?_
 simp only[List.set]
 refine cj 1 (.slice (some ⟨a,0,none⟩) e o) rfl rfl (by kernel_rfl) (fun _ _ _=>id) hS (fun k h=>by go_simp) ?_
 simp only[List.set]
 refine cj 2 (cV y) rfl rfl (by kernel_rfl) (fun _ _ _=>id) hS (fun k h=>by go_simp) ?_
 simp only[List.set]
 refine cj 3 (.pointer (some ⟨w1.heap.size,8,none⟩)) rfl rfl (by kernel_rfl) (fun _ _ _=>id) hS (fun k h=>by go_simp) ?_
 simp only[List.set]
 refine cj 4 (.slice (some ⟨a,0,none⟩) e o) rfl rfl (by kernel_rfl) (fun _ _ _=>id) hS (fun k h=>by go_simp) ?_
 simp only[List.set]
 refine cj 5 (.int .i64 e) rfl rfl (by kernel_rfl) (fun _ _ _=>id) hS (fun k h=>by go_simp) ?_
 simp only[List.set]
 refine cj 7 (cV y) rfl rfl (by kernel_rfl) (fun _ _ _=>id) hS (fun k h=>by go_simp) ?_
 simp only[List.set]
 refine cj 8 (.pointer (some ⟨q.heap.size,0,none⟩)) rfl rfl (by kernel_rfl) (fun _ _ _=>id) hS (fun k h=>by go_simp) ?_
 simp only[List.set]
 refine cj 9 (.slice (some ⟨v,0,none⟩) n u) rfl rfl (by kernel_rfl) (fun _ _ _=>id) hS (fun k h=>by go_simp) ?_
 simp only[List.set]
 refine cj 10 (.int .i64 n) rfl rfl (by kernel_rfl) (fun _ _ _=>id) hS (fun k h=>by go_simp) ?_
 simp only[List.set]
 refine cj 11 (.int .i64 ((n:Int)+2)) rfl rfl (by kernel_rfl) (fun _ _ _=>id) hS (fun k h=>by go_simp) ?_
 simp only[List.set]
 refine wpAnyH_ready (rs:=[6]) (by kernel_rfl) (by simp) (AllReadyH.cons rfl (fun m b=>?_) AllReadyH.nil)
 go_simp
 refine B.out.run a7 fun d4 A=>?_
 refine b _ _ ⟨A.rd.2.2.1,A.rd.1 8⟩ (fun cm=>?_)
 clear b m bk B bl hS
 try simp only[Act.put,aB,aA,aC]
 refine wpAnyH_ready (rs:=[12]) (by kernel_rfl) (by simp) (AllReadyH.cons rfl (fun m b=>?_) AllReadyH.nil)
 go_simp
 refine A.run cc fun t g=>?_
 have K:t.cell? ⟨q.heap.size,0,none⟩=some (.slice (some ⟨v,0,none⟩) n u)/\t.cell? ⟨w1.heap.size,8,none⟩=some (.slice (some ⟨a,0,none⟩) e o):=⟨g.rd.2.2.1,g.rd.1 8⟩
 have f:=g.ok
 rw[w]at f
 obtain⟨bw,G⟩:=f.stored j (.int .i64 l)
 have cB:=(f.lt a rfl).1
 have ce:=f.cellAt j (by omega)
 rw[bq,aF (show j<d.ks.length by omega)]at ce
 have c9:=f.frozenAt j
 have bt:Below y.base t (t.setCell ⟨a,j,none⟩ (.int .i64 l)):=jy G cB g.cu.lo.2
 obtain⟨bA,bD,bE,bF,b0,b1,b2⟩:=g.grow f (.inr rfl) (.inr rfl) b8.out G bt
 have bx:=g.on.kept G (xA g.on f (by decide))
 have p:Hid (Sx C y q (t.setCell ⟨a,j,none⟩ (.int .i64 l)) am v n u q.heap.size w1.heap.size L a4 ⟨d,.slice E J F,.slice (some ⟨a,0,none⟩) e o⟩ {d with ks:=d.ks.set j l} (.slice E J F) (.slice (some ⟨a,0,none⟩) e o)):=⟨bA,bD,bE,bx,by show World.ownsRow _ _ _ _ _ (d.ks.set j l).length ((d.ks.set j l).map _);rw[List.length_set,xk,w];exact bw,bF,b0,g.lo,b1,b2⟩
 have dz:=g.low
 refine b _ _ K (fun ar=>?_)
 clear b m A g cm bx bA bD bE bF b0 b1 b2 G bw bt f
 try simp only[Act.put,aB,aA,aC]
 refine wpAnyH_ready (rs:=[13]) (by kernel_rfl) (by simp) (AllReadyH.cons rfl (fun m b=>?_) AllReadyH.nil)
 go_simp
 refine b _ _ K (fun ar=>?_)
 clear b m
 try simp only[Act.put,aB,aA,aC]
 refine wpAnyH_ready (rs:=[14]) (by kernel_rfl) (by simp) (AllReadyH.cons rfl (fun m b=>?_) AllReadyH.nil)
 go_simp
 refine b _ _ K (fun ar=>?_)
 clear b m
 try simp only[Act.put,aB,aA,aC]
 refine wpAnyH_ready (rs:=[15]) (by kernel_rfl) (by simp) (AllReadyH.cons rfl (fun m b=>?_) AllReadyH.nil)
 go_simp
 refine b _ _ ⟨p.out.rd.2.2.1,p.out.rd.1 8⟩ (fun cq=>?_)
 clear b m K ar cq
 refine wpAnyH_done (by kernel_rfl) ?_ _
 generalize World.setCell t _ _=d5 at p⊢
 have b4:=p.out.rd
 have c8:=p.out.cg H
 have d3:=en p.out.row (i:=i) (x:=⟨d,.slice E J F,.slice (some ⟨a,0,none⟩) e o⟩) (by rw[<-H];simp)
 go_wp2_with fail
 go_end0
 exact⟨rfl,Sx.out p.out H a2 rfl⟩
structure NdF (N:Nd):Prop where
 nm:N.nm.length<=500
 ks:N.ks.length<=500
 x:N.x.size<=1000000
 s:∀s∈N.nm,s.size<=1000000
 int:rA N
theorem Lt.f{N:Nd}(a:Lt N):NdF N:=⟨by have:=a.nm;omega,by have:=a.ks;omega,by have:=a.x.size;omega,fun c b=>by have:=(a.s c b).sz;omega,a.int⟩
structure KF (N:Nd):Prop where
 sm:fm N
 int:rA N
theorem NdF.g{N:Nd}(a:NdF N):KF N:=⟨⟨by have:=a.nm;omega,by have:=a.ks;omega,by have:=a.x;omega,fun c b=>by have:=a.s c b;omega⟩,a.int⟩
theorem Jc(C:Cd)(c:Cr)(L:List Nd)(a0:0<=c.p/\c.p<=30000000)(a8:0<=c.r)(av:L≠[])(a7:L.length<=265)(I:∀N∈L,NdF N):∃(L':List Nd) (c':Cr),L'.length=L.length/\(∀N∈L',KF N)/\Sp C c L c' L':=by
 have a3:0<L.length:=List.length_pos_iff.2 av
 obtain⟨B,ak,ao,a4,g⟩:=Av C c L.length (by omega) (by omega) a0.1 (by omega)
 obtain⟨B,rfl⟩:=dv ao.1
 have ap:B<L.length:=by omega
 obtain⟨s,N,w,rfl,j⟩:∃s N w,L=s++N::w/\s.length=B:=⟨L.take B,L[B],L.drop (B+1),by rw[<-ju ap,wK],by rw[dt];omega⟩
 obtain⟨o,x,a9,a5,h⟩:=dc C ak 14 (by decide) (by decide) (by omega) (by omega)
 have m:(s++N::w).length<=1000:=by omega
 have f:=I N (List.mem_append.2 (.inr da))
 have v:N.ks.length<=1000:=by have:=f.ks;omega
 have J:N.nm.length<=1000:=by have:=f.nm;omega
 have a:=f.g
 have i:∀{G:Nd}{c':Cr},Sp C c (s++N::w) c' (s++G::w)->KF G->∃(L':List Nd) (c':Cr),L'.length=(s++N::w).length/\(∀N∈L',KF N)/\Sp C c (s++N::w) c' L':=fun {G c'} k am=>⟨_,c',by simp,fun ad hM=>by
  rcases List.mem_append.1 hM with hM|hM
  ·exact(I ad (List.mem_append.2 (.inl hM))).g
  ·rcases List.mem_cons.1 hM with rfl|hM
   ·exact am
   ·exact(I ad (List.mem_append.2 (.inr (ep _ hM)))).g,k⟩
 have w1:∀d:Int,0<=d->d<=100000->IntKind.i64.wrap (d-1)=d-1:=fun d b H=>by rw[bm];omega
 have y:∀d:Int, -10<=d->d<=100000-> -9223372036854775808<=d/\d<=9223372036854775807:=fun d b H=>by omega
 rcases(show(o=0\/o=1)\/o=2\/o=3\/o=4\/o=5\/o=6\/o=7\/o=8\/o=9\/o=10\/o=11\/(o=12\/o=13) by omega) with hz'|rfl|rfl|rfl|rfl|rfl|rfl|rfl|rfl|rfl|rfl|hz'
 ·obtain⟨k,u,A,z,e⟩:=dc C x 44 (by decide) (by decide) (by omega) (by omega)
  exact i (ug j rfl m g h (.kind hz' e)) ⟨⟨a.sm.l1,a.sm.l2,a.sm.lx,a.sm.ls⟩,{a.int with k:=y k (by omega) (by omega)}⟩
 ·obtain⟨b,u,E,z,e⟩:=dc C x 3 (by decide) (by decide) (by omega) (by omega)
  obtain⟨H,al,a6,an,F⟩:=dc C u 3 (by decide) (by decide) (by omega) (by omega)
  exact i (pI j rfl m g h (.place (w1 b (by omega) (by omega)) e F) v) ⟨⟨a.sm.l1,a.sm.l2,a.sm.lx,a.sm.ls⟩,{a.int with f:=y (b-1) (by omega) (by omega),t:=y H (by omega) (by omega)}⟩
 ·obtain⟨b,u,E,z,e⟩:=dc C x 3 (by decide) (by decide) (by omega) (by omega)
  exact i (ug j rfl m g h (.line (w1 b (by omega) (by omega)) e)) ⟨⟨a.sm.l1,a.sm.l2,a.sm.lx,a.sm.ls⟩,{a.int with l:=y (b-1) (by omega) (by omega)}⟩
 ·obtain⟨b,u,E,z,e⟩:=dc C x 25 (by decide) (by decide) (by omega) (by omega)
  exact i (ug j rfl m g h (.op (w1 b (by omega) (by omega)) e)) ⟨⟨a.sm.l1,a.sm.l2,a.sm.lx,a.sm.ls⟩,{a.int with op:=y (b-1) (by omega) (by omega)}⟩
 ·obtain⟨b,u,E,z,e⟩:=dc C x 6 (by decide) (by decide) (by omega) (by omega)
  exact i (ug j rfl m g h (.num (w1 b (by omega) (by omega)) e)) ⟨⟨a.sm.l1,a.sm.l2,a.sm.lx,a.sm.ls⟩,{a.int with n:=y (b-1) (by omega) (by omega)}⟩
 ·obtain⟨t,u,a1,z,e⟩:=Dd C x (by omega) (by omega) (by omega)
  exact i (ug j rfl m g h (.text e)) ⟨⟨a.sm.l1,a.sm.l2,by show t.size<=_;omega,a.sm.ls⟩,{a.int with}⟩
 ·obtain⟨t,u,a1,z,e⟩:=ack C x (by omega) (by omega)
  exact i (aeK j rfl m g h e J v) ⟨⟨by show(N.nm++[t]).length<=_;rw[aD];show N.nm.length+1<=_;omega,a.sm.l2,a.sm.lx,fun K hs=>by
   rcases List.mem_append.1 hs with hs|hs
   ·exact a.sm.ls K hs
   ·rw[List.mem_singleton.1 hs];omega⟩,{a.int with}⟩
 ·exact i (pI j rfl m g h .nonm v) ⟨⟨aJ _,a.sm.l2,a.sm.lx,fun K hs=>by cases hs⟩,{a.int with}⟩
 ·obtain⟨b,u,E,z,e⟩:=Av C x (((s++N::w).length:Int)+2) (by omega) (by omega) (by omega) (by omega)
  exact i (aeL j rfl m g h (w1 b (by omega) (by omega)) e J v) ⟨⟨a.sm.l1,by show(N.ks++[b-1]).length<=_;rw[aD];show N.ks.length+1<=_;omega,a.sm.lx,a.sm.ls⟩,{a.int with ks:=fun d q=>(List.mem_append.1 q).elim (a.int.ks d) fun q=>by rw[List.mem_singleton.1 q];exact y _ (by omega) (by omega)}⟩
 ·cases A:N.ks.length with
  |zero=>exact i (pI j rfl m g h (.kept (.inl rfl) (fj A)) v) a
  |succ a2=>exact i (pI j rfl m g h (.less A) v) ⟨⟨a.sm.l1,by show(N.ks.take a2).length<=_;rw[dt];omega,a.sm.lx,a.sm.ls⟩,{a.int with ks:=fun d q=>a.int.ks d (sG q)}⟩
 ·by_cases A:0<N.ks.length
  ·obtain⟨af,u,ar,z,e⟩:=Av C x (N.ks.length:Nat) (by omega) (by omega) (by omega) (by omega)
   obtain⟨af,rfl⟩:=dv ar.1
   obtain⟨b,al,E,an,F⟩:=Av C u (((s++N::w).length:Int)+2) (by omega) (by omega) (by omega) (by omega)
   exact i (ae0 j rfl m g h (by omega) (w1 b (by omega) (by omega)) e F J v) ⟨⟨a.sm.l1,by show(N.ks.set af (b-1)).length<=_;rw[List.length_set];omega,a.sm.lx,a.sm.ls⟩,{a.int with ks:=fun d q=>(List.mem_or_eq_of_mem_set q).elim (a.int.ks d) fun q=>by rw[q];exact y _ (by omega) (by omega)}⟩
  ·exact i (pI j rfl m g h (.kept (.inr rfl) (fj (by omega))) v) a
 ·by_cases A:0<N.ks.length
  ·exact i (pI j rfl m g h (.keep hz' A) v) a
  ·exact i (pI j rfl m g h (.rest hz' (fj (by omega))) v) ⟨⟨by decide,by decide,by decide,fun K hs=>by cases hs⟩,⟨by decide,by decide,by decide,by decide,by decide,by decide,fun d q=>by cases q⟩⟩
abbrev ahm(n:Int):Nd:=dN 23 0 n ⟨#[]⟩ [] []
def uL:Nat->List Nd
 |0=>[ahm 0]
 |k+1=>uL k++[dN 30 19 0 ⟨#[]⟩ [] [(k:Int)]]
def wL:Nat->List Nd
 |0=>[ahm 0]
 |k+1=>wL k++[ahm 1]
theorem G9:∀k,(uL k).length=k+1
 |0=>rfl
 |k+1=>by rw[uL,aD,G9 k];rfl
theorem Ha:∀k,(wL k).length=k+1
 |0=>rfl
 |k+1=>by rw[wL,aD,Ha k];rfl
def wD(n:Nat):List Int:=(List.range n).map fun (a:Nat)=>(a:Int)
theorem zy(n:Nat):(wD n).length=n:=by unfold wD;simp
theorem ahn(n:Nat):wD (n+1)=wD n++[(n:Int)]:=by unfold wD;rw[List.range_succ];simp
theorem vf{k op n:Int}{t:ByteArray}{nm:List ByteArray}{ks:List Int}(f:0<=k/\k<=1000)(h:0<=op/\op<=1000)(g:0<=n/\n<=1000)(ht:t.size<=1000000)(a:nm=[])(e:ks.length<=300)(b:∀z∈ks,0<=z/\z<=100000):KF (dN k op n t nm ks):=by
 subst a
 have z: -9223372036854775808<=(0:Int)/\(0:Int)<=9223372036854775807:=by decide
 exact⟨⟨aJ _,by show ks.length<=_;omega,by show t.size<=_;omega,fun i c=>by cases c⟩,⟨by show _<=k/\k<=_;omega,z,z,z,by show _<=op/\op<=_;omega,by show _<=n/\n<=_;omega,fun z d=>by have:=b z d;omega⟩⟩
theorem ae1{n:Nat}(c:n<=1000):∀z∈wD n,0<=z/\z<=100000:=fun z a=>by
 unfold wD at a
 obtain⟨d,b,rfl⟩:=List.mem_map.1 a
 have:=List.mem_range.1 b
 omega
theorem ai2:∀k,k<=1000->∀N∈uL k,KF N
 |0,_,N,h=>by rw[List.mem_singleton.1 h];exact vf (by decide) (by decide) (by decide) (by decide) rfl (by decide) (fun z a=>by cases a)
 |k+1,b,N,h=>by
  rcases List.mem_append.1 h with h|h
  ·exact ai2 k (by omega) N h
  ·rw[List.mem_singleton.1 h];exact vf (by decide) (by decide) (by decide) (by decide) rfl (by simp) (fun z a=>by rw[List.mem_singleton.1 a];omega)
theorem ai3:∀k,∀N∈wL k,KF N
 |0,N,h=>by rw[List.mem_singleton.1 h];exact vf (by decide) (by decide) (by decide) (by decide) rfl (by decide) (fun z a=>by cases a)
 |k+1,N,h=>by
  rcases List.mem_append.1 h with h|h
  ·exact ai3 k N h
  ·rw[List.mem_singleton.1 h];exact vf (by decide) (by decide) (by decide) (by decide) rfl (by decide) (fun z a=>by cases a)
inductive Wdc (C:Cd):Nat->Cr->Nat->Cr->Prop
 |stop {m:Nat}{c c1:Cr}{u:Int}:Rc C 13 [.int .i64 3] c (.int .i64 u) c1->0<=u/\u<3->¬(m:Int)<199+u->Wdc C m c m c1
 |more {m m':Nat}{c c1 c2:Cr}{u:Int}:Rc C 13 [.int .i64 3] c (.int .i64 u) c1->0<=u/\u<3->(m:Int)<199+u->Wdc C (m+1) c1 m' c2->Wdc C m c m' c2
theorem wdc(C:Cd):∀(f m:Nat)(c:Cr),m<=201->201-m<=f->0<=c.p->c.p<=900000+(m:Int)->∃(a:Nat) (c':Cr),(m<=a/\a<=201)/\(0<=c'.p/\c'.p<=c.p+202-m/\c'.r=c.r)/\Wdc C m c a c':=by
 intro f
 induction f with
 |zero=>
  intro m c l n g o
  obtain⟨i,d,e,q,b⟩:=dc C c 3 (by decide) (by decide) g (by omega)
  exact⟨m,d,by omega,by omega,.stop b e (by omega)⟩
 |succ f s=>
  intro m c l n g o
  obtain⟨i,d,e,q,b⟩:=dc C c 3 (by decide) (by decide) g (by omega)
  by_cases h:(m:Int)<199+i
  ·obtain⟨a,k,t,u,j⟩:=s (m+1) d (by omega) (by omega) (by omega) (by omega)
   exact⟨a,k,by omega,by omega,.more b e h j⟩
  ·exact⟨m,d,by omega,by omega,.stop b e h⟩
theorem At.ans{C:Cd}{T:Int}{b E:Bs}{W w i:World}{c:Cr}{L:List Nd}(a:At C T b i w c L [J9 W.heap.size])(q:L≠[])(e:b.base=E.base/\b.cb=E.cb/\b.a0=E.a0/\b.cap=E.cap)(r:Below b.base W i):∃g cp,w.cell? ⟨b.bb,1,none⟩=some (.slice (some ⟨g,0,none⟩) L.length cp)/\w.cell? ⟨W.heap.size,0,none⟩=some (.slice none 0 0)/\w.frozen? ⟨W.heap.size,0,none⟩=false/\Hid (TrP C E W L c (.returned (.agg #[.slice (some ⟨g,0,none⟩) L.length cp])) (w.setCell ⟨W.heap.size,0,none⟩ (.slice (some ⟨g,0,none⟩) L.length cp))/\(w.setCell ⟨W.heap.size,0,none⟩ (.slice (some ⟨g,0,none⟩) L.length cp)).heap[W.heap.size]?=some (.cells #[.slice (some ⟨g,0,none⟩) L.length cp] 25 (0,0))):=by
 obtain⟨⟨d,rfl,f⟩,p⟩:=a
 obtain⟨u,t,p2⟩:=f.row
 obtain⟨g,cp,s⟩:∃g cp,u= .slice (some ⟨g,0,none⟩) d.length cp:=by
  rcases bg p2 with⟨o,_⟩|⟨g,cp,e⟩
  ·exact absurd (by rw[fj o];rfl) q
  ·exact⟨g,cp,e⟩
 subst s
 have j:w.cell? ⟨b.bb,1,none⟩=some (.slice (some ⟨g,0,none⟩) d.length cp):=by rw[au _ _ _ _ _ _ t];rfl
 obtain⟨k,_⟩:=f.ans
 obtain⟨l,h,m,n⟩:=f.done j
 rw[aI]
 refine⟨g,cp,j,by rw[au _ _ _ _ _ _ k];rfl,cA _ _ _ _ _ k,⟨g,cp,d,by rw[aI],rfl,by rw[aI,<-e.1];exact l,⟨by rw[<-e.1,<-e.2.1];exact h.lo,by rw[<-e.1,<-e.2.2.1];exact h.code,by have:=h.cur;unfold cuO at this;rw[e.2.1,e.2.2.1,e.2.2.2]at this;exact this⟩,by rw[<-e.1];exact(r.trans p).trans m⟩,n⟩
theorem Cu.head{C:Cd}{E:Bs}{W:World}{c:Cr}(b:Cu C E W c)(T:Int):∃a:Bs,(a.base=E.base/\a.cb=E.cb/\a.a0=E.a0/\a.cap=E.cap)/\a.bb=W.heap.size+1/\cV E=cV a/\At C T a ((W.alloc (.cells #[.slice none 0 0] 25)).alloc (.cells #[cV E,.slice none 0 0,.int .i64 T] 94)) ((W.alloc (.cells #[.slice none 0 0] 25)).alloc (.cells #[cV E,.slice none 0 0,.int .i64 T] 94)) c [] [J9 W.heap.size]/\Below a.base W ((W.alloc (.cells #[.slice none 0 0] 25)).alloc (.cells #[cV E,.slice none 0 0,.int .i64 T] 94)):=by
 have e:=b.below (dh W (.cells #[.slice none 0 0] 25))
 have d:=e.start T (ay W _) b.lo.2
 rw[db]at d
 exact⟨⟨E.base,E.cb,W.heap.size+1,E.a0,E.cap⟩,⟨rfl,rfl,rfl,rfl⟩,rfl,rfl,In.at ⟨[],rfl,d⟩,((dh W _).mono b.lo.2).trans ((dh _ _).mono e.lo.2)⟩
theorem ae2{C:Cd}{c B l:Cr}{u:Int}{n:Nat}(K:Rc C 13 [.int .i64 2] c (.int .i64 0) B)(L:Rc C 13 [.int .i64 3] B (.int .i64 u) l)(a4:IntKind.i64.wrap (97+u)=(n:Int))(a3:n<=100):Rt C 35 c (uL n++[dN 15 0 0 ⟨#[]⟩ [] [((n:Nat):Int)]]++[dN 1 0 0 ⟨#[]⟩ [] [((n+1:Nat):Int)]]) l:=by
 intro ao v G
 obtain⟨J,E,F,m,d,i⟩:=G.head 1000
 clear G
 go_in
 go_wp2_with fail
 rw[<-F,m]
 rw[m]at d i
 generalize World.alloc _ _=ad at d i⊢
 have t:=eJ E i
 clear E F m i
 refine d.nilI.nilS.add (by decide) (by decide) fun w1 w=>?_
 clear d
 go_wp2_with fail
 refine w.runC K fun a6 x _=>?_
 clear w
 go_wp2_with fail
 refine x.runC L fun a7 y _=>?_
 have r:=aj y
 clear x y
 go_wp2_with fail
 go_loopw [4,5] (fun an q wr=>∃b a:Nat,an= .int .i64 a/\q= .int .i64 b/\b+a=n/\At C 1000 J ad wr l (uL a) [J9 v.heap.size]) (fun _ q _=>(intOf q).toNat)
 case atStart=>exact⟨n,0,rfl,rfl,rfl,r.out⟩
 case round=>
  clear r
  obtain⟨b,a,rfl,rfl,o,d⟩:=hrel
  have j:=G9 a
  by_cases ak:0<b
  ·obtain⟨b,rfl⟩:∃al,b=al+1:=⟨b-1,by omega⟩
   have a1:(0:Int)<((b+1:Nat):Int):=by omega
   have a5:IntKind.i64.wrap (((b+1:Nat):Int)-1)=(b:Int):=by rw[bm];omega
   have a2:b<=100:=by omega
   have f:=aj (d.lit1 (z:=((a:Nat):Int))).nilS
   have h:(uL a).length<=25000:=by omega
   have e:=eJ j o
   clear d j o
   go_wp2_with fail
   refine f.out.add (by decide) h fun am g=>?_
   rw[e.1]
   go_wp2_with fail
   go_roundw
   case rel=>exact⟨b,a+1,by go_num,by go_num,by have:=e.2;omega,g⟩
   case measure=>simp[intOf]
  ·obtain rfl:b=0:=by omega
   obtain rfl:a=n:=by omega
   clear ak o
   have h:(uL a).length<=25000:=by omega
   have f:=aj (d.lit1 (z:=((a:Nat):Int)))
   have e:=aj j
   clear d j
   go_wp2_with fail
   refine f.out.kids (by decide) h fun am g=>?_
   have H:(uL a++[dN 15 0 0 ⟨#[]⟩ [] [((a:Nat):Int)]]).length<=25000:=by rw[aD];show _+1<=_;have:=e.out;omega
   have p:(uL a++[dN 15 0 0 ⟨#[]⟩ [] [((a:Nat):Int)]]).length=a+2:=by rw[aD,e.out];rfl
   rw[e.out]
   have s:=aj (g.lit1 (z:=((a+1:Nat):Int)))
   clear g f
   go_wp2_with fail
   refine s.out.kids (by decide) H fun a8 A=>?_
   rw[p]
   obtain⟨a0,ap,af,ar,av,k⟩:=A.ans (by simp) t.1 t.2
   have I:(uL a++[dN 15 0 0 ⟨#[]⟩ [] [((a:Nat):Int)]]++[dN 1 0 0 ⟨#[]⟩ [] [((a+1:Nat):Int)]]).length=a+3:=by rw[aD,p];rfl
   rw[I]at af k
   clear A I p h H s e
   go_wp2_with fail
   exact aH (du rfl _ _ v.heap.size _ _ _ _ rfl k.2 Tryz.underlying25 rfl (by kernel_rfl)) rfl k.1
def slN:Value->Nat| .slice _ n _=>n|_=>0
theorem ae3{C:Cd}{c r s:Cr}{u:Int}{n:Nat}(al:Rc C 13 [.int .i64 2] c (.int .i64 u) r)(bk:(u==0)=false)(j:Wdc C 1 r (n+1) s)(bf:n<=200):Rt C 35 c (wL n++[dN 13 0 0 ⟨#[]⟩ [] (wD (n+1))]++[dN 1 0 0 ⟨#[]⟩ [] [((n+1:Nat):Int)]]) s:=by
 intro a4 B I
 obtain⟨ak,G,H,v,b,m⟩:=I.head 1000
 clear I
 go_in
 go_wp2_with fail
 rw[<-H,v]
 rw[v]at b m
 generalize World.alloc _ _=am at b m⊢
 have A:=eJ G m
 clear G H v m
 refine b.nilI.nilS.add (by decide) (by decide) fun w1 E=>?_
 clear b
 go_wp2_with fail
 refine E.runC al fun bl F _=>?_
 have d:=aj (F.lit1 (z:=0))
 clear E F
 go_wp2_with fail
 go_loopw [4,6] (fun a3 y wr=>∃(a:Nat) (t:Cr) (ad:Int),a3= .int .i64 ad/\a<=200/\At C 1000 ak am wr t (wL a) (rI y (wD (a+1))::[J9 B.heap.size])/\Wdc C (a+1) t (n+1) s) (fun _ y _=>300-slN y)
 case atStart=>exact⟨0,r,0,rfl,by decide,d.out,j⟩
 case round=>
  clear d j
  obtain⟨a,t,ad,rfl,bd,b,j⟩:=hrel
  have o:=Ha a
  have w:(wL a).length<=25000:=by omega
  obtain⟨a5,a7,rfl⟩:=b.form
  rw[aI,zy]at b⊢
  cases j with
  |@more _ _ _ an _ e q L i af=>
   have ar:IntKind.i64.wrap (199+e)=199+e:=by rw[bm];omega
   have ap:((a+1:Nat):Int)<199+e:=i
   have f:=eJ o L
   clear o i
   go_wp2_with fail
   refine b.runC q fun a0 g _=>?_
   have d:=aj g.nilI.nilS
   clear b g
   go_wp2_with fail
   refine d.out.add (by decide) w fun a1 h=>?_
   have k:=aj h
   clear d h
   rw[f.1]
   go_wp2_with (at_builtin;refine k.out.app (zy _) (by omega) rfl _ _ rfl rfl rfl ?_;intro a6 a9 a2 l)
   go_roundw
   case rel=>exact⟨a+1,an,_,rfl,by have:=f.2;omega,by rw[ahn (a+1)];exact l,af⟩
   case measure=>show 300-(a+1+1)<300-(a+1);omega
  |@stop _ _ _ e q L i=>
   have ar:IntKind.i64.wrap (199+e)=199+e:=by rw[bm];omega
   have ap:¬((n+1:Nat):Int)<199+e:=i
   have f:=aj o
   clear o i
   go_wp2_with fail
   refine b.runC q fun a0 g _=>?_
   have d:=aj g.nilS
   clear b g
   go_wp2_with fail
   refine d.out.add (by decide) w fun a1 h=>?_
   have x:(wL n++[dN 13 0 0 ⟨#[]⟩ [] (wD (n+1))]).length=n+2:=by rw[aD,f.out];rfl
   have J:(wL n++[dN 13 0 0 ⟨#[]⟩ [] (wD (n+1))]).length<=25000:=by omega
   rw[f.out]
   have k:=aj (h.lit1 (z:=((n+1:Nat):Int)))
   clear h d
   go_wp2_with fail
   refine k.out.kids (by decide) J fun a2 l=>?_
   rw[x]
   obtain⟨bc,a8,ao,ba,bb,p⟩:=l.ans (by simp) A.1 A.2
   have K:(wL n++[dN 13 0 0 ⟨#[]⟩ [] (wD (n+1))]++[dN 1 0 0 ⟨#[]⟩ [] [((n+1:Nat):Int)]]).length=n+3:=by rw[aD,x];rfl
   rw[K]at ao p
   clear l K x w J k f
   go_wp2_with fail
   exact aH (du rfl _ _ B.heap.size _ _ _ _ rfl p.2 Tryz.underlying25 rfl (by kernel_rfl)) rfl p.1
structure Tg (L:List Nd):Prop where
 nd:∀N∈L,KF N
 n:L≠[]/\L.length<=1000
theorem Hb{L:List Nd}{N M:Nd}(b:∀N∈L,KF N)(e:L.length<=900)(d:KF N)(c:KF M):Tg (L++[N]++[M]):=⟨fun a hX=>by
 rcases List.mem_append.1 hX with hX|hX
 ·rcases List.mem_append.1 hX with hX|hX
  ·exact b a hX
  ·rw[List.mem_singleton.1 hX];exact d
 ·rw[List.mem_singleton.1 hX];exact c,by simp,by simp;omega⟩
theorem ae4(C:Cd)(c:Cr)(o:0<=c.p/\c.p<=1000):∃(L:List Nd) (c':Cr),Tg L/\Rt C 35 c L c':=by
 obtain⟨q,f,t,r,e⟩:=dc C c 2 (by decide) (by decide) o.1 (by omega)
 by_cases g:q=0
 ·subst g
  obtain⟨i,d,u,m,l⟩:=dc C f 3 (by decide) (by decide) (by omega) (by omega)
  obtain⟨a,n⟩:∃a:Nat,97+i=(a:Int):=⟨(97+i).toNat,by omega⟩
  exact⟨_,d,Hb (ai2 a (by omega)) (by rw[G9];omega) (vf (by decide) (by decide) (by decide) (by decide) rfl (by simp) (fun j b=>by rw[List.mem_singleton.1 b];omega)) (vf (by decide) (by decide) (by decide) (by decide) rfl (by simp) (fun j b=>by rw[List.mem_singleton.1 b];omega)),ae2 e l (wq n (by omega)) (by omega)⟩
 ·obtain⟨h,d,s,m,k⟩:=wdc C 200 1 f (by decide) (by decide) (by omega) (by omega)
  obtain⟨a,rfl⟩:∃a,h=a+1:=⟨h-1,by omega⟩
  exact⟨_,d,Hb (ai3 a) (by rw[Ha];omega) (vf (by decide) (by decide) (by decide) (by decide) rfl (by rw[zy];omega) (ae1 (by omega))) (vf (by decide) (by decide) (by decide) (by decide) rfl (by simp) (fun j b=>by rw[List.mem_singleton.1 b];omega)),ae3 e (by simpa using g) k (by omega)⟩
def xS:ByteArray:=eI (List.replicate 4000 120)
theorem Dg:xS.size=4000:=by unfold xS;rw[qK,List.length_replicate]
def fL:Nat->List Nd
 |0=>[]
 |k+1=>fL k++[dN 25 0 0 xS [] []]++[dN 15 0 0 ⟨#[]⟩ [] [((2*k:Nat):Int)]]
def ss:Nat->List Int
 |0=>[]
 |k+1=>ss k++[((2*k+1:Nat):Int)]
theorem Dh:∀k,(fL k).length=2*k
 |0=>rfl
 |k+1=>by rw[fL,aD,aD,Dh k];show 2*k+1+1=_;omega
theorem oD:∀k,(ss k).length=k
 |0=>rfl
 |k+1=>by rw[ss,aD,oD k];rfl
theorem Jd:∀k,k<=100->∀z∈ss k,0<=z/\z<=100000
 |0,_,z,h=>by cases h
 |k+1,a,z,h=>by
  rcases List.mem_append.1 h with h|h
  ·exact Jd k (by omega) z h
  ·rw[List.mem_singleton.1 h];omega
theorem ai4:∀k,k<=100->∀N∈fL k,KF N
 |0,_,N,h=>by cases h
 |k+1,b,N,h=>by
  rcases List.mem_append.1 h with h|h
  ·rcases List.mem_append.1 h with h|h
   ·exact ai4 k (by omega) N h
   ·rw[List.mem_singleton.1 h];exact vf (by decide) (by decide) (by decide) (by rw[Dg];decide) rfl (by decide) (fun z a=>by cases a)
  ·rw[List.mem_singleton.1 h];exact vf (by decide) (by decide) (by decide) (by decide) rfl (by simp) (fun z a=>by rw[List.mem_singleton.1 a];omega)
def wE(i:Nat):List Int:=List.replicate i 120++List.replicate (4000-i) 0
theorem acs{i:Nat}(a:i<4000):(B8 (wE i)).set i (.int .u8 120)=B8 (wE (i+1)):=by
 unfold wE B8
 rw[<-xk,BB _ _ (by simp),List.length_replicate,fw,show 4000-i=(4000-(i+1))+1 by omega,List.replicate_succ,aA,List.replicate_succ']
 simp
section
variable {C : Cd} {T : Int} {E : Bs} {W w w' : World} {c c' : Cr} {L L' : List Nd} {R : List Rwx} {t : TypeId} {n g cp : Nat} {xs : List Value}
theorem At.stored(a:At C T E W w c L (⟨t,.slice (some ⟨g,0,none⟩) n cp,xs⟩::R))(e:xs.length=n)(j:Nat)(u:Value):At C T E W (w.setCell ⟨g,j,none⟩ u) c L (⟨t,.slice (some ⟨g,0,none⟩) n cp,xs.set j u⟩::R):=by
 obtain⟨⟨f,h,b⟩,k⟩:=a
 have d:TO t/\w.ownsRow E.base t 1 (.slice (some ⟨g,0,none⟩) n cp) xs.length xs:=b.rows _ da
 rw[e]at d
 obtain⟨p,i⟩:=d.2.stored j u
 obtain⟨m,o⟩:=b.hot (r':=⟨t,.slice (some ⟨g,0,none⟩) n cp,xs.set j u⟩) i d.1 (by show World.ownsRow _ _ _ _ _ (xs.set j u).length _;rw[List.length_set,e];exact p) (fun b l=> .inl l)
 exact⟨⟨f,h,m⟩,k.trans o⟩
theorem At.row(a:At C T E W w c L (⟨t,.slice (some ⟨g,0,none⟩) n cp,xs⟩::R))(e:xs.length=n):w.ownsRow E.base t 1 (.slice (some ⟨g,0,none⟩) n cp) n xs:=by
 obtain⟨⟨f,h,d⟩,i⟩:=a
 have b:TO t/\w.ownsRow E.base t 1 (.slice (some ⟨g,0,none⟩) n cp) xs.length xs:=d.rows _ da
 rw[e]at b
 exact b.2
theorem At.newR(a:At C T E W w c L R)(ht:TO t)(cs:Array Value)(g:cs.size=n)(i:n<=100000):At C T E W (w.alloc (.cells cs t)) c L (⟨t,.slice (some ⟨w.heap.size,0,none⟩) n n,cs.toList⟩::R):=by
 obtain⟨⟨d,e,b⟩,f⟩:=a
 have h:=wH (base:=E.base) (e:=t) (size:=1) w cs n b.lt.2.2.1 (by unfold maxLen;omega) (by omega)
 exact⟨⟨d,e,b.new ht cs _ rfl (by show World.ownsRow _ _ _ _ _ cs.toList.length _;rw[gw,g];exact h) rfl⟩,f.trans ((dh w _).mono b.lt.2.2.1)⟩
end
theorem mk4:∃cs:Array Value,cs.toList=B8 (wE 0)/\cs.size=4000/\∀w:World,(Instr.makeSlice 22 (.int .i64 4000) (.int .i64 4000)).run Tryz.prog w= .ok (.slice (some ⟨w.heap.size,0,none⟩) 4000 4000) (w.alloc (.cells cs 5)):=
 ⟨madeCells #[.int .u8 0] 4000,by rw[sC];unfold wE B8;rw[List.replicate_zero,er,List.map_replicate],size_madeCells _ _,fun w=>run_make_row' (P:=Tryz.prog) 22 5 (.int .u8 0) 1 Tryz.underlying22 Tryz.info5 rfl .i64 .i64 4000 (by decide) (by decide) w⟩
theorem aho{C:Cd}{c A:Cr}{u:Int}(L:0<=u/\u<3)(ce:Rc C 13 [.int .i64 3] c (.int .i64 u) A):Rt C 34 c (fL 16++[dN 25 0 0 (xS.extract 0 (1382+u.toNat)) [] []]++[dN 15 0 0 ⟨#[]⟩ [] [32]]++[dN 1 0 0 ⟨#[]⟩ [] (ss 17)]) A:=by
 intro cb k bk
 obtain⟨e,bc,ao,bd,b,G⟩:=bk.head 1000
 clear bk
 obtain⟨v,bo,bF,ct⟩:∃v:Array Value,v.toList=B8 (wE 0)/\v.size=4000/\∀a4:World,(Instr.makeSlice 22 (.int .i64 4000) (.int .i64 4000)).run Tryz.prog a4= .ok (.slice (some ⟨a4.heap.size,0,none⟩) 4000 4000) (a4.alloc (.cells v 5)):=mk4
 go_in
 go_wp2_with fail
 rw[<-ao]
 rw[bd]at b G⊢
 have a1:((k.alloc (.cells #[.slice none 0 0] 25)).alloc (.cells #[cV e,.slice none 0 0,.int .i64 1000] 94)).heap.size=e.bb+1:=by simp[ao]
 generalize World.alloc (World.alloc _ _) _=ak at b G a1⊢
 have a6:=eJ bc G
 have al:=b.newR (n:=4000) (t:=5) (by decide) v bF (by decide)
 rw[bo,a1]at al
 have a5:=aj al
 clear bc ao bd G ct bF bo b al a1
 have I:∀a,(B8 (wE a)).length=a+(4000-a):=fun a=>by unfold B8 wE;simp
 go_loopw [16] (fun iv wr=>∃a:Nat,iv= .int .i64 a/\a<=4000/\At C 1000 e ak wr c [] (⟨5,.slice (some ⟨e.bb+1,0,none⟩) 4000 4000,B8 (wE a)⟩::[J9 k.heap.size])) (fun iv _=>4000-(intOf iv).toNat)
 case atStart=>exact⟨0,rfl,by decide,a5.out⟩
 case round=>
  clear a5
  obtain⟨a,rfl,cq,b⟩:=hrel
  have K:=b.row (by rw[I];omega)
  by_cases bs:a<4000
  ·have c7:(0:Int)<=(a:Int):=by omega
   have c8:(a:Int)<4000:=by omega
   have c6:=K.frozenAt a
   have cm:=K.cellAt a (by omega)
   obtain⟨l,bE⟩:∃l,(B8 (wE a))[a]?=some l:=⟨_,aF (by rw[I];omega)⟩
   rw[bE]at cm
   have q:=aj (b.stored (by rw[I];omega) a (.int .u8 120))
   rw[acs bs]at q
   clear b K bE
   go_wp2_with fail
   go_roundw
   case rel=>exact⟨a+1,by go_num,by omega,q.out⟩
   case measure=>simp[intOf];omega
  ·have ba:wE a=List.replicate 4000 120:=by
    obtain rfl:a=4000:=by omega
    unfold wE;rw[fw,List.replicate_zero,dA]
   have c9:¬(a:Int)<4000:=by omega
   rw[ba]at b
   have bw:(B8 (List.replicate 4000 120)).length=4000:=by unfold B8;simp
   have cc:=aj bw
   have q:=aj b.nilI
   clear b K I ba bw cq bs
   obtain⟨i,cr⟩:∃i:Nat,1382+u=(i:Int):=⟨(1382+u).toNat,by omega⟩
   have bA:1382+u.toNat=i:=by omega
   have dz:IntKind.i64.wrap (1382+u)=(i:Int):=by rw[bm];omega
   have dk:(i:Int)<=(xS.size:Int):=by rw[Dg];omega
   have dg:(0:Int)<=(i:Int):=by omega
   have cd:=aj bA
   clear cr bA L
   obtain⟨Lf,ar⟩:=aE (fL 16++[dN 25 0 0 (xS.extract 0 i) [] []]++[dN 15 0 0 ⟨#[]⟩ [] [32]])
   have bx:Lf.length=34:=by rw[<-ar,aD,aD,Dh];rfl
   have af:=eJ ar bx
   go_wp2_with fail
   go_loopw [6,7] (fun l a2 wr=>∃d:Nat,a2= .int .i64 d/\((d<=16/\At C 1000 e ak wr c (fL d) (rI l (ss d)::⟨5,.slice (some ⟨e.bb+1,0,none⟩) 4000 4000,B8 (List.replicate 4000 120)⟩::[J9 k.heap.size]))\/(d=17/\At C 1000 e ak wr A Lf (rI l (ss 17)::⟨5,.slice (some ⟨e.bb+1,0,none⟩) 4000 4000,B8 (List.replicate 4000 120)⟩::[J9 k.heap.size])))) (fun _ a2 _=>17-(intOf a2).toNat)
   case atStart=>exact⟨0,rfl,.inl ⟨by decide,q.out⟩⟩
   case round=>
    clear q ar bx
    obtain⟨d,rfl,H⟩:=hrel
    rcases H with⟨H,b⟩|⟨rfl,b⟩
    ·have b2:(convert 22 9 (.slice (some ⟨e.bb+1,0,none⟩) 4000 4000)).run Tryz.prog wr= .ok (.string xS) wr:=jx (b.swap.row cc.out)
     have dd:(d:Int)<17:=by omega
     obtain⟨av,cp,rfl⟩:=b.form
     rw[aI,oD]at b⊢
     have J:=Dh d
     have bl:(fL d).length<=25000:=by omega
     by_cases ap:d=16
     ·subst ap
      clear H
      go_wp2_with fail
      refine b.runC ce fun d0 a8 _=>?_
      have m:=aj a8.nilI.nilS
      clear b a8 b2
      go_wp2_with fail
      refine m.out.add (by decide) bl fun cI r=>?_
      rw[J]
      have w:(fL 16++[dN 25 0 0 (xS.extract 0 i) [] []]).length<=25000:=by rw[aD];show _+1<=_;omega
      have y:(fL 16++[dN 25 0 0 (xS.extract 0 i) [] []]).length=33:=by rw[aD,J];rfl
      have o:=aj (r.lit1 (z:=32))
      clear m r
      go_wp2_with fail
      refine o.out.kids (by decide) w fun ca s=>?_
      rw[y]
      have ad:=aj s
      clear o s w y
      go_wp2_with (at_builtin;refine ad.out.app (oD _) (by decide) rfl _ _ rfl rfl rfl ?_;intro cf cv c0 am)
      go_roundw
      case rel=>exact⟨17,by go_num,.inr ⟨rfl,by rw[<-af.1];exact am⟩⟩
      case measure=>simp[intOf]
     ·have c4:((d:Int)==16)=false:=by rw[cJ];omega
      have m:=aj b.nilI.nilS
      have j:=jw H ap J
      clear b ap J
      go_wp2_with fail
      refine m.out.add (by decide) bl fun cI r=>?_
      rw[j.2.2]
      have w:(fL d++[dN 25 0 0 xS [] []]).length<=25000:=by rw[aD];show _+1<=_;have:=j.1;have:=j.2.2;omega
      have y:(fL d++[dN 25 0 0 xS [] []]).length=2*d+1:=by rw[aD,j.2.2];rfl
      have o:=aj (r.lit1 (z:=((2*d:Nat):Int)))
      clear m r b2
      go_wp2_with fail
      refine o.out.kids (by decide) w fun ca s=>?_
      rw[y]
      have ad:=aj s
      clear o s w y
      go_wp2_with (at_builtin;refine ad.out.app (oD _) (by have:=j.1;omega) rfl _ _ rfl rfl rfl ?_;intro cf cv c0 am)
      go_roundw
      case rel=>exact⟨d+1,by go_num,.inl ⟨by have:=j.1;have:=j.2.1;omega,am⟩⟩
      case measure=>simp[intOf];omega
    ·obtain⟨an,cp,rfl⟩:=b.form
     rw[aI,oD]at b⊢
     obtain⟨⟨p,a0,F⟩,bn⟩:=b.swap.drop.nilS
     have x:p.length=34:=by rw[<-aI (f:=Mb.N),a0];exact af.2
     obtain⟨l,B,E⟩:=F.row
     rw[x]at B E
     obtain⟨av,cv,rfl⟩:=bG E
     have c2:wr.cell? ⟨e.bb,1,none⟩=some (.slice av 34 cv):=by rw[au _ _ _ _ _ _ B];rfl
     have df:=F.lt
     have g:=ah8 F B E bn a0 x
     obtain⟨cu,cw,cx,cy,cz⟩:=dD tA
     clear b B E F bn a0 x
     go_wp2_with (at_builtin;refine wpList_append_own_at _ rfl _ _ 23 rfl e.base 50 cu _ 9 112 Tryz.underlying23 cw cx cy cz rfl (by decide) _ _ _ rfl (cF g.2.2.1 (dh wr _)) ⟨wr.heap.size,0,none⟩ 1 1 (pu (dN 1 0 0 ⟨#[]⟩ [] (ss 17)) (.slice none 0 0) (.slice an 17 cp)).toList rfl rfl (World.news_of_block (ay wr _)) (by intro u L;simp at L;rcases L with rfl|rfl|rfl|rfl|rfl|rfl|rfl|rfl|rfl<;>rfl) (by unfold maxLen;decide) (by decide) (by simp;omega) ?_;intro v5 ca bD br _ cl;obtain⟨bf,a9,rfl,ck,c3,ds,dn,a7⟩:=Bd.root (ks:=ss 17) (b:=an) (cp:=cp) (av:=av) (cv:=cv) (v5:=v5) g.1 (by rw[g.2.2.2.2.2];exact g.2.1) (by rw[g.2.2.2.2.2];exact bD) (by rw[g.2.2.2.2.2];exact br);rw[g.2.2.2.2.2]at ck a7⊢;clear bD br cl)
     obtain⟨b9,a3,cg,cB⟩:=a7.out _ rfl
     have h:=a6.1
     rw[h.1]at b9
     have cn:p.map Mb.N++[dN 1 0 0 ⟨#[]⟩ [] (ss 17)]=fL 16++[dN 25 0 0 (xS.extract 0 (1382+u.toNat)) [] []]++[dN 15 0 0 ⟨#[]⟩ [] [32]]++[dN 1 0 0 ⟨#[]⟩ [] (ss 17)]:=by rw[g.2.2.2.2.1,<-af.1,cd.out]
     have x:=g.2.2.2.2.2
     have bt:(p.map Mb.N++[dN 1 0 0 ⟨#[]⟩ [] (ss 17)]).length=35:=by rw[aD,aI,x];rfl
     refine aH (du rfl _ _ k.heap.size _ _ _ _ rfl cB Tryz.underlying25 rfl (by kernel_rfl)) rfl ?_
     have b8:TrP C cb k (p.map Mb.N++[dN 1 0 0 ⟨#[]⟩ [] (ss 17)]) A (.returned (.agg #[.slice (some ⟨bf,0,none⟩) 35 a9])) _:=⟨bf,a9,p++[⟨dN 1 0 0 ⟨#[]⟩ [] (ss 17),.slice none 0 0,.slice an (ss 17).length cp⟩],by rw[bt],by rw[dm];rfl,by rw[bt];exact b9,⟨by rw[<-h.1,<-h.2.1];exact a3.lo,by rw[<-h.1,<-h.2.2.1];exact a3.code,by have:=a3.cur;unfold cuO at this;rw[h.2.1,h.2.2.1,h.2.2.2]at this;exact this⟩,by have:=(a6.2.trans g.2.2.2.1).trans cg;rw[h.1]at this;exact this⟩
     rw[cn]at b8
     simpa only[cG,fl,er] using b8
theorem ahp(C:Cd)(c:Cr)(g:0<=c.p/\c.p<=1000):∃(L:List Nd) (c':Cr),Tg L/\Rt C 34 c L c':=by
 obtain⟨b,f,h,j,d⟩:=dc C c 3 (by decide) (by decide) g.1 (by omega)
 refine⟨_,f,Hb (L:=fL 16++[dN 25 0 0 (xS.extract 0 (1382+b.toNat)) [] []]) (fun e hN=>?_) (by rw[aD,Dh];show 2*16+1<=900;decide) (vf (by decide) (by decide) (by decide) (by decide) rfl (by simp) (fun i a=>by rw[List.mem_singleton.1 a];decide)) (vf (by decide) (by decide) (by decide) (by decide) rfl (by rw[oD];decide) (Jd 17 (by decide))),aho h d⟩
 rcases List.mem_append.1 hN with hN|hN
 ·exact ai4 16 (by decide) e hN
 ·rw[List.mem_singleton.1 hN]
  exact vf (by decide) (by decide) (by decide) (by have:=Df xS 0 (1382+b.toNat);rw[Dg]at this;omega) rfl (by decide) (fun i a=>by cases a)
