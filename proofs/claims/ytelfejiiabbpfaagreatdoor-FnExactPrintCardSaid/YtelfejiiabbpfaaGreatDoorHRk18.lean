import Derived.Test.YtelfejiiabbpfaaGreatDoorHRk11
import Derived.Test.YtelfejiiabbpfaaGreatDoorHRk02
set_option linter.unusedVariables false
set_option maxRecDepth 100000
set_option maxHeartbeats 3200000
namespace Go.Proofs.YtelfejiiabbpfaaGreatDoor
open Go.RowKit Go.Maps Go.WideMaps
theorem l2ex_e28 {w:World}{vt:Value}{ns:List Nd}{N:Nd}{vn vk:Value}(A:NArg w vt ns N vn vk) (hK:N.k=28):
  Calls Tryz.prog 73 #[.agg #[vt],vNd N vn vk] w fun e w'=>e= .returned (.bool (((N.ks.length:Int)==2)&&exB ns N 2 0&&bareB N false false false false))/\Below w.heap.size w w':=by
 obtain⟨a1,c1,rfl⟩:=A.t.form
 obtain⟨a2,c2,rfl⟩:=A.n.form
 obtain⟨a3,c3,rfl⟩:=A.k.form
 have st:=St.start A
 have hlx:=A.lx
 have HX:Hid (N.x.size<=1100000):=by show _<=_;omega
 clear A
 have q20:=kqf hK 20 rfl
 have q21:=kqf hK 21 rfl
 have q22:=kqf hK 22 rfl
 have q27:=kqf hK 27 rfl
 have q23:=kqf hK 23 rfl
 have q24:=kqf hK 24 rfl
 have q25:=kqf hK 25 rfl
 have q26:=kqf hK 26 rfl
 have q28:=kqt hK 28 rfl
 clear hK
 cases t0:((N.ks.length:Int)==2)
 case' true=>
  have HL:N.ks.length=2:=by have:=eq_of_beq t0;omega
  have HLE:Hid (2<=N.ks.length):=by show _<=_;omega
  have HLT:Hid (0<N.ks.length):=by show _<_;omega
  have HLT1:Hid (1<N.ks.length):=by show _<_;omega
  clear HL
  cases t1:exB ns N 2 0
  case' true=>
   cases t2:bareB N false false false false
 all_goals
  unfold vNd
  go_enter Tryz.func73,Tryz.ntmps73
  go_wp2_with (first|(go_at_call 110;refine(l2exprs_any _ _ ns N _ _ 0 2 st.a.t st.a.n st.a.k st.a.ok HLE.out st.a.ln st.a.l2).mono ?_;rintro e w' ⟨rfl,hb'⟩;replace st:=st.below hb';clear hb';obtain⟨x0,x1,x2,x3,x4,x5,x6,x7,x8,xf⟩:=nd_cells st.bn;have xt:=st.bt)|(go_at_call 108;refine(l2bare_ffff _ N _ _ st.a.n st.a.k st.a.l1).mono ?_;rintro e w' ⟨rfl,hb'⟩;replace st:=st.below hb';clear hb';obtain⟨x0,x1,x2,x3,x4,x5,x6,x7,x8,xf⟩:=nd_cells st.bn;have xt:=st.bt))
  go_ret
  exact⟨rfl,st.bel⟩
theorem l2ex_e29 {w:World}{vt:Value}{ns:List Nd}{N:Nd}{vn vk:Value}(A:NArg w vt ns N vn vk) (hK:N.k=29):
  Calls Tryz.prog 73 #[.agg #[vt],vNd N vn vk] w fun e w'=>e= .returned (.bool (((N.ks.length:Int)==2)&&exB ns N 2 0&&bareB N false false false false))/\Below w.heap.size w w':=by
 obtain⟨a1,c1,rfl⟩:=A.t.form
 obtain⟨a2,c2,rfl⟩:=A.n.form
 obtain⟨a3,c3,rfl⟩:=A.k.form
 have st:=St.start A
 have hlx:=A.lx
 have HX:Hid (N.x.size<=1100000):=by show _<=_;omega
 clear A
 have q20:=kqf hK 20 rfl
 have q21:=kqf hK 21 rfl
 have q22:=kqf hK 22 rfl
 have q27:=kqf hK 27 rfl
 have q23:=kqf hK 23 rfl
 have q24:=kqf hK 24 rfl
 have q25:=kqf hK 25 rfl
 have q26:=kqf hK 26 rfl
 have q28:=kqf hK 28 rfl
 have q29:=kqt hK 29 rfl
 clear hK
 cases t0:((N.ks.length:Int)==2)
 case' true=>
  have HL:N.ks.length=2:=by have:=eq_of_beq t0;omega
  have HLE:Hid (2<=N.ks.length):=by show _<=_;omega
  have HLT:Hid (0<N.ks.length):=by show _<_;omega
  have HLT1:Hid (1<N.ks.length):=by show _<_;omega
  clear HL
  cases t1:exB ns N 2 0
  case' true=>
   cases t2:bareB N false false false false
 all_goals
  unfold vNd
  go_enter Tryz.func73,Tryz.ntmps73
  go_wp2_with (first|(go_at_call 110;refine(l2exprs_any _ _ ns N _ _ 0 2 st.a.t st.a.n st.a.k st.a.ok HLE.out st.a.ln st.a.l2).mono ?_;rintro e w' ⟨rfl,hb'⟩;replace st:=st.below hb';clear hb';obtain⟨x0,x1,x2,x3,x4,x5,x6,x7,x8,xf⟩:=nd_cells st.bn;have xt:=st.bt)|(go_at_call 108;refine(l2bare_ffff _ N _ _ st.a.n st.a.k st.a.l1).mono ?_;rintro e w' ⟨rfl,hb'⟩;replace st:=st.below hb';clear hb';obtain⟨x0,x1,x2,x3,x4,x5,x6,x7,x8,xf⟩:=nd_cells st.bn;have xt:=st.bt))
  go_ret
  exact⟨rfl,st.bel⟩
theorem l2ex_e32 {w:World}{vt:Value}{ns:List Nd}{N:Nd}{vn vk:Value}(A:NArg w vt ns N vn vk) (hK:N.k=32):
  Calls Tryz.prog 73 #[.agg #[vt],vNd N vn vk] w fun e w'=>e= .returned (.bool (((N.ks.length:Int)==2)&&exB ns N 2 0&&(kidK ns N 0 !=27)&&bareB N false false false false))/\Below w.heap.size w w':=by
 obtain⟨a1,c1,rfl⟩:=A.t.form
 obtain⟨a2,c2,rfl⟩:=A.n.form
 obtain⟨a3,c3,rfl⟩:=A.k.form
 have st:=St.start A
 have hlx:=A.lx
 have HX:Hid (N.x.size<=1100000):=by show _<=_;omega
 clear A
 have q20:=kqf hK 20 rfl
 have q21:=kqf hK 21 rfl
 have q22:=kqf hK 22 rfl
 have q27:=kqf hK 27 rfl
 have q23:=kqf hK 23 rfl
 have q24:=kqf hK 24 rfl
 have q25:=kqf hK 25 rfl
 have q26:=kqf hK 26 rfl
 have q28:=kqf hK 28 rfl
 have q29:=kqf hK 29 rfl
 have q32:=kqt hK 32 rfl
 clear hK
 cases t0:((N.ks.length:Int)==2)
 case' true=>
  have HL:N.ks.length=2:=by have:=eq_of_beq t0;omega
  have HLE:Hid (2<=N.ks.length):=by show _<=_;omega
  have HLT:Hid (0<N.ks.length):=by show _<_;omega
  have HLT1:Hid (1<N.ks.length):=by show _<_;omega
  clear HL
  cases t1:exB ns N 2 0
  case' true=>
   cases t2:(kidK ns N 0 !=27)
   case' true=>
    cases t3:bareB N false false false false
 all_goals
  unfold vNd
  go_enter Tryz.func73,Tryz.ntmps73
  go_wp2_with (first|(go_at_call 110;refine(l2exprs_any _ _ ns N _ _ 0 2 st.a.t st.a.n st.a.k st.a.ok HLE.out st.a.ln st.a.l2).mono ?_;rintro e w' ⟨rfl,hb'⟩;replace st:=st.below hb';clear hb';obtain⟨x0,x1,x2,x3,x4,x5,x6,x7,x8,xf⟩:=nd_cells st.bn;have xt:=st.bt)|(go_at_call 107;refine(kid_any st.a 0 HLT.out).mono ?_;rintro e w' ⟨rfl,hb'⟩;replace st:=st.below hb';clear hb';obtain⟨x0,x1,x2,x3,x4,x5,x6,x7,x8,xf⟩:=nd_cells st.bn;have xt:=st.bt)|(go_at_call 108;refine(l2bare_ffff _ N _ _ st.a.n st.a.k st.a.l1).mono ?_;rintro e w' ⟨rfl,hb'⟩;replace st:=st.below hb';clear hb';obtain⟨x0,x1,x2,x3,x4,x5,x6,x7,x8,xf⟩:=nd_cells st.bn;have xt:=st.bt))
  go_ret
  exact⟨rfl,st.bel⟩
theorem l2ex_e30 {w:World}{vt:Value}{ns:List Nd}{N:Nd}{vn vk:Value}(A:NArg w vt ns N vn vk) (hK:N.k=30):
  Calls Tryz.prog 73 #[.agg #[vt],vNd N vn vk] w fun e w'=>e= .returned (.bool (((N.ks.length:Int)==1)&&exB ns N 1 0&&bareB N true false false false&&decide ((19:Int)<=N.op)&&decide (N.op<=22)))/\Below w.heap.size w w':=by
 obtain⟨a1,c1,rfl⟩:=A.t.form
 obtain⟨a2,c2,rfl⟩:=A.n.form
 obtain⟨a3,c3,rfl⟩:=A.k.form
 have st:=St.start A
 have hlx:=A.lx
 have HX:Hid (N.x.size<=1100000):=by show _<=_;omega
 clear A
 have q20:=kqf hK 20 rfl
 have q21:=kqf hK 21 rfl
 have q22:=kqf hK 22 rfl
 have q27:=kqf hK 27 rfl
 have q23:=kqf hK 23 rfl
 have q24:=kqf hK 24 rfl
 have q25:=kqf hK 25 rfl
 have q26:=kqf hK 26 rfl
 have q28:=kqf hK 28 rfl
 have q29:=kqf hK 29 rfl
 have q32:=kqf hK 32 rfl
 have q30:=kqt hK 30 rfl
 clear hK
 cases t0:((N.ks.length:Int)==1)
 case' true=>
  have HL:N.ks.length=1:=by have:=eq_of_beq t0;omega
  have HLE:Hid (1<=N.ks.length):=by show _<=_;omega
  have HLT:Hid (0<N.ks.length):=by show _<_;omega
  clear HL
  cases t1:exB ns N 1 0
  case' true=>
   cases t2:bareB N true false false false
   case' true=>
    cases t3:decide ((19:Int)<=N.op)
    case' true=>
     cases t4:decide (N.op<=22)
 all_goals
  unfold vNd
  go_enter Tryz.func73,Tryz.ntmps73
  go_wp2_with (first|(go_at_call 110;refine(l2exprs_any _ _ ns N _ _ 0 1 st.a.t st.a.n st.a.k st.a.ok HLE.out st.a.ln st.a.l2).mono ?_;rintro e w' ⟨rfl,hb'⟩;replace st:=st.below hb';clear hb';obtain⟨x0,x1,x2,x3,x4,x5,x6,x7,x8,xf⟩:=nd_cells st.bn;have xt:=st.bt)|(go_at_call 108;refine(l2bare_tfff _ N _ _ st.a.n st.a.k st.a.l1).mono ?_;rintro e w' ⟨rfl,hb'⟩;replace st:=st.below hb';clear hb';obtain⟨x0,x1,x2,x3,x4,x5,x6,x7,x8,xf⟩:=nd_cells st.bn;have xt:=st.bt))
  go_ret
  exact⟨rfl,st.bel⟩
theorem l2ex_e31 {w:World}{vt:Value}{ns:List Nd}{N:Nd}{vn vk:Value}(A:NArg w vt ns N vn vk) (hK:N.k=31):
  Calls Tryz.prog 73 #[.agg #[vt],vNd N vn vk] w fun e w'=>e= .returned (.bool (((N.ks.length:Int)==2)&&exB ns N 2 0&&bareB N true false false false&&decide ((1:Int)<=N.op)&&decide (N.op<=18)))/\Below w.heap.size w w':=by
 obtain⟨a1,c1,rfl⟩:=A.t.form
 obtain⟨a2,c2,rfl⟩:=A.n.form
 obtain⟨a3,c3,rfl⟩:=A.k.form
 have st:=St.start A
 have hlx:=A.lx
 have HX:Hid (N.x.size<=1100000):=by show _<=_;omega
 clear A
 have q20:=kqf hK 20 rfl
 have q21:=kqf hK 21 rfl
 have q22:=kqf hK 22 rfl
 have q27:=kqf hK 27 rfl
 have q23:=kqf hK 23 rfl
 have q24:=kqf hK 24 rfl
 have q25:=kqf hK 25 rfl
 have q26:=kqf hK 26 rfl
 have q28:=kqf hK 28 rfl
 have q29:=kqf hK 29 rfl
 have q32:=kqf hK 32 rfl
 have q30:=kqf hK 30 rfl
 have q31:=kqt hK 31 rfl
 clear hK
 cases t0:((N.ks.length:Int)==2)
 case' true=>
  have HL:N.ks.length=2:=by have:=eq_of_beq t0;omega
  have HLE:Hid (2<=N.ks.length):=by show _<=_;omega
  have HLT:Hid (0<N.ks.length):=by show _<_;omega
  have HLT1:Hid (1<N.ks.length):=by show _<_;omega
  clear HL
  cases t1:exB ns N 2 0
  case' true=>
   cases t2:bareB N true false false false
   case' true=>
    cases t3:decide ((1:Int)<=N.op)
    case' true=>
     cases t4:decide (N.op<=18)
 all_goals
  unfold vNd
  go_enter Tryz.func73,Tryz.ntmps73
  go_wp2_with (first|(go_at_call 110;refine(l2exprs_any _ _ ns N _ _ 0 2 st.a.t st.a.n st.a.k st.a.ok HLE.out st.a.ln st.a.l2).mono ?_;rintro e w' ⟨rfl,hb'⟩;replace st:=st.below hb';clear hb';obtain⟨x0,x1,x2,x3,x4,x5,x6,x7,x8,xf⟩:=nd_cells st.bn;have xt:=st.bt)|(go_at_call 108;refine(l2bare_tfff _ N _ _ st.a.n st.a.k st.a.l1).mono ?_;rintro e w' ⟨rfl,hb'⟩;replace st:=st.below hb';clear hb';obtain⟨x0,x1,x2,x3,x4,x5,x6,x7,x8,xf⟩:=nd_cells st.bn;have xt:=st.bt))
  go_ret
  exact⟨rfl,st.bel⟩
end Go.Proofs.YtelfejiiabbpfaaGreatDoor
