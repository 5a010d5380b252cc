import Derived.Test.YtelfejiiabbpfaaGreatDoorHRk11
import Derived.Test.YtelfejiiabbpfaaGreatDoorHRk02
set_option linter.unusedVariables false
set_option maxRecDepth 100000
set_option maxHeartbeats 3200000
namespace Go.Proofs.YtelfejiiabbpfaaGreatDoor
open Go.RowKit Go.Maps Go.WideMaps
theorem l2st_s3 {w:World}{vt:Value}{ns:List Nd}{N:Nd}{vn vk:Value}(A:NArg w vt ns N vn vk) (hK:N.k=3):
  Calls Tryz.prog 72 #[.agg #[vt],vNd N vn vk] w fun e w'=>e= .returned (.bool (bareB N false false false true&&namedB N 1 1&&((N.ks.length:Int)==1)&&exB ns N 1 0))/\Below w.heap.size w w':=by
 obtain⟨a1,c1,rfl⟩:=A.t.form
 obtain⟨a2,c2,rfl⟩:=A.n.form
 obtain⟨a3,c3,rfl⟩:=A.k.form
 have st:=St.start A
 have hlx:=A.lx
 have HX:Hid (N.x.size<=1100000):=by show _<=_;omega
 clear A
 have q1:=kqf hK 1 rfl
 have q2:=kqf hK 2 rfl
 have q3:=kqt hK 3 rfl
 clear hK
 cases t0:bareB N false false false true
 case' true=>
  cases t1:namedB N 1 1
  case' true=>
   cases t2:((N.ks.length:Int)==1)
   case' true=>
    have HL:N.ks.length=1:=by have:=eq_of_beq t2;omega
    have HLE:Hid (1<=N.ks.length):=by show _<=_;omega
    have HLT:Hid (0<N.ks.length):=by show _<_;omega
    clear HL
    cases t3:exB ns N 1 0
 all_goals
  unfold vNd
  go_enter Tryz.func72,Tryz.ntmps72
  go_wp2_with (first|(go_at_call 108;refine(l2bare_ffft _ N _ _ st.a.n st.a.k st.a.l1).mono ?_;rintro e w' ⟨rfl,hb'⟩;replace st:=st.below hb';clear hb';obtain⟨x0,x1,x2,x3,x4,x5,x6,x7,x8,xf⟩:=nd_cells st.bn;have xt:=st.bt)|(go_at_call 109;refine(l2named_any _ N _ _ 1 1 st.a.n st.a.k st.a.l1 st.a.ls).mono ?_;rintro e w' ⟨rfl,hb'⟩;replace st:=st.below hb';clear hb';obtain⟨x0,x1,x2,x3,x4,x5,x6,x7,x8,xf⟩:=nd_cells st.bn;have xt:=st.bt)|(go_at_call 110;refine(l2exprs_any _ _ ns N _ _ 0 1 st.a.t st.a.n st.a.k st.a.ok HLE.out st.a.ln st.a.l2).mono ?_;rintro e w' ⟨rfl,hb'⟩;replace st:=st.below hb';clear hb';obtain⟨x0,x1,x2,x3,x4,x5,x6,x7,x8,xf⟩:=nd_cells st.bn;have xt:=st.bt))
  go_ret
  exact⟨rfl,st.bel⟩
theorem l2st_s8 {w:World}{vt:Value}{ns:List Nd}{N:Nd}{vn vk:Value}(A:NArg w vt ns N vn vk) (hK:N.k=8):
  Calls Tryz.prog 72 #[.agg #[vt],vNd N vn vk] w fun e w'=>e= .returned (.bool (bareB N false false false false&&((N.ks.length:Int)==2)&&exB ns N 1 0&&(kidK ns N 1==1)))/\Below w.heap.size w w':=by
 obtain⟨a1,c1,rfl⟩:=A.t.form
 obtain⟨a2,c2,rfl⟩:=A.n.form
 obtain⟨a3,c3,rfl⟩:=A.k.form
 have st:=St.start A
 have hlx:=A.lx
 have HX:Hid (N.x.size<=1100000):=by show _<=_;omega
 clear A
 have q1:=kqf hK 1 rfl
 have q2:=kqf hK 2 rfl
 have q3:=kqf hK 3 rfl
 have q4:=kqf hK 4 rfl
 have q5:=kqf hK 5 rfl
 have q6:=kqf hK 6 rfl
 have q16:=kqf hK 16 rfl
 have q7:=kqf hK 7 rfl
 have q8:=kqt hK 8 rfl
 clear hK
 cases t0:bareB N false false false false
 case' true=>
  cases t1:((N.ks.length:Int)==2)
  case' true=>
   have HL:N.ks.length=2:=by have:=eq_of_beq t1;omega
   have HLE:Hid (1<=N.ks.length):=by show _<=_;omega
   have HLT:Hid (0<N.ks.length):=by show _<_;omega
   have HLT1:Hid (1<N.ks.length):=by show _<_;omega
   clear HL
   cases t2:exB ns N 1 0
   case' true=>
    cases t3:(kidK ns N 1==1)
 all_goals
  unfold vNd
  go_enter Tryz.func72,Tryz.ntmps72
  go_wp2_with (first|(go_at_call 108;refine(l2bare_ffff _ N _ _ st.a.n st.a.k st.a.l1).mono ?_;rintro e w' ⟨rfl,hb'⟩;replace st:=st.below hb';clear hb';obtain⟨x0,x1,x2,x3,x4,x5,x6,x7,x8,xf⟩:=nd_cells st.bn;have xt:=st.bt)|(go_at_call 110;refine(l2exprs_any _ _ ns N _ _ 0 1 st.a.t st.a.n st.a.k st.a.ok HLE.out st.a.ln st.a.l2).mono ?_;rintro e w' ⟨rfl,hb'⟩;replace st:=st.below hb';clear hb';obtain⟨x0,x1,x2,x3,x4,x5,x6,x7,x8,xf⟩:=nd_cells st.bn;have xt:=st.bt)|(go_at_call 107;with_reducible refine(kid1_any st.a HLT1.out).mono ?_;rintro e w' ⟨rfl,hb'⟩;replace st:=st.below hb';clear hb';obtain⟨x0,x1,x2,x3,x4,x5,x6,x7,x8,xf⟩:=nd_cells st.bn;have xt:=st.bt))
  go_ret
  exact⟨rfl,st.bel⟩
theorem l2st_s11 {w:World}{vt:Value}{ns:List Nd}{N:Nd}{vn vk:Value}(A:NArg w vt ns N vn vk) (hK:N.k=11):
  Calls Tryz.prog 72 #[.agg #[vt],vNd N vn vk] w fun e w'=>e= .returned (.bool (bareB N false false false false&&((N.ks.length:Int)==0)))/\Below w.heap.size w w':=by
 obtain⟨a1,c1,rfl⟩:=A.t.form
 obtain⟨a2,c2,rfl⟩:=A.n.form
 obtain⟨a3,c3,rfl⟩:=A.k.form
 have st:=St.start A
 have hlx:=A.lx
 have HX:Hid (N.x.size<=1100000):=by show _<=_;omega
 clear A
 have q1:=kqf hK 1 rfl
 have q2:=kqf hK 2 rfl
 have q3:=kqf hK 3 rfl
 have q4:=kqf hK 4 rfl
 have q5:=kqf hK 5 rfl
 have q6:=kqf hK 6 rfl
 have q16:=kqf hK 16 rfl
 have q7:=kqf hK 7 rfl
 have q8:=kqf hK 8 rfl
 have q9:=kqf hK 9 rfl
 have q10:=kqf hK 10 rfl
 have q11:=kqt hK 11 rfl
 clear hK
 cases t0:bareB N false false false false
 case' true=>
  cases t1:((N.ks.length:Int)==0)
 all_goals
  unfold vNd
  go_enter Tryz.func72,Tryz.ntmps72
  go_wp2_with (first|(go_at_call 108;refine(l2bare_ffff _ N _ _ st.a.n st.a.k st.a.l1).mono ?_;rintro e w' ⟨rfl,hb'⟩;replace st:=st.below hb';clear hb';obtain⟨x0,x1,x2,x3,x4,x5,x6,x7,x8,xf⟩:=nd_cells st.bn;have xt:=st.bt))
  go_ret
  exact⟨rfl,st.bel⟩
theorem l2st_s12 {w:World}{vt:Value}{ns:List Nd}{N:Nd}{vn vk:Value}(A:NArg w vt ns N vn vk) (hK:N.k=12):
  Calls Tryz.prog 72 #[.agg #[vt],vNd N vn vk] w fun e w'=>e= .returned (.bool (bareB N false false false false&&((N.ks.length:Int)==0)))/\Below w.heap.size w w':=by
 obtain⟨a1,c1,rfl⟩:=A.t.form
 obtain⟨a2,c2,rfl⟩:=A.n.form
 obtain⟨a3,c3,rfl⟩:=A.k.form
 have st:=St.start A
 have hlx:=A.lx
 have HX:Hid (N.x.size<=1100000):=by show _<=_;omega
 clear A
 have q1:=kqf hK 1 rfl
 have q2:=kqf hK 2 rfl
 have q3:=kqf hK 3 rfl
 have q4:=kqf hK 4 rfl
 have q5:=kqf hK 5 rfl
 have q6:=kqf hK 6 rfl
 have q16:=kqf hK 16 rfl
 have q7:=kqf hK 7 rfl
 have q8:=kqf hK 8 rfl
 have q9:=kqf hK 9 rfl
 have q10:=kqf hK 10 rfl
 have q11:=kqf hK 11 rfl
 have q12:=kqt hK 12 rfl
 clear hK
 cases t0:bareB N false false false false
 case' true=>
  cases t1:((N.ks.length:Int)==0)
 all_goals
  unfold vNd
  go_enter Tryz.func72,Tryz.ntmps72
  go_wp2_with (first|(go_at_call 108;refine(l2bare_ffff _ N _ _ st.a.n st.a.k st.a.l1).mono ?_;rintro e w' ⟨rfl,hb'⟩;replace st:=st.below hb';clear hb';obtain⟨x0,x1,x2,x3,x4,x5,x6,x7,x8,xf⟩:=nd_cells st.bn;have xt:=st.bt))
  go_ret
  exact⟨rfl,st.bel⟩
end Go.Proofs.YtelfejiiabbpfaaGreatDoor
