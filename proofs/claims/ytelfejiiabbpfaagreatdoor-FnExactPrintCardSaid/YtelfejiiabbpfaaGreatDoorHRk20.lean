import Derived.Test.YtelfejiiabbpfaaGreatDoorHRk11
import Derived.Test.YtelfejiiabbpfaaGreatDoorHRk02
set_option linter.unusedVariables false
set_option maxRecDepth 100000
set_option maxHeartbeats 3200000
namespace Go.Proofs.YtelfejiiabbpfaaGreatDoor
open Go.RowKit Go.Maps Go.WideMaps
theorem l2ex_e40 {w:World}{vt:Value}{ns:List Nd}{N:Nd}{vn vk:Value}(A:NArg w vt ns N vn vk) (hK:N.k=40):
  Calls Tryz.prog 73 #[.agg #[vt],vNd N vn vk] w fun e w'=>e= .returned (.bool (((N.ks.length:Int)==1)&&exB ns N 1 0&&bareB N false false false false))/\Below w.heap.size w w':=by
 obtain⟨a1,c1,rfl⟩:=A.t.form
 obtain⟨a2,c2,rfl⟩:=A.n.form
 obtain⟨a3,c3,rfl⟩:=A.k.form
 have st:=St.start A
 have hlx:=A.lx
 have HX:Hid (N.x.size<=1100000):=by show _<=_;omega
 clear A
 have q20:=kqf hK 20 rfl
 have q21:=kqf hK 21 rfl
 have q22:=kqf hK 22 rfl
 have q27:=kqf hK 27 rfl
 have q23:=kqf hK 23 rfl
 have q24:=kqf hK 24 rfl
 have q25:=kqf hK 25 rfl
 have q26:=kqf hK 26 rfl
 have q28:=kqf hK 28 rfl
 have q29:=kqf hK 29 rfl
 have q32:=kqf hK 32 rfl
 have q30:=kqf hK 30 rfl
 have q31:=kqf hK 31 rfl
 have q33:=kqf hK 33 rfl
 have q34:=kqf hK 34 rfl
 have q35:=kqf hK 35 rfl
 have q36:=kqf hK 36 rfl
 have q37:=kqf hK 37 rfl
 have q40:=kqt hK 40 rfl
 clear hK
 cases t0:((N.ks.length:Int)==1)
 case' true=>
  have HL:N.ks.length=1:=by have:=eq_of_beq t0;omega
  have HLE:Hid (1<=N.ks.length):=by show _<=_;omega
  have HLT:Hid (0<N.ks.length):=by show _<_;omega
  clear HL
  cases t1:exB ns N 1 0
  case' true=>
   cases t2:bareB N false false false false
 all_goals
  unfold vNd
  go_enter Tryz.func73,Tryz.ntmps73
  go_wp2_with (first|(go_at_call 110;refine(l2exprs_any _ _ ns N _ _ 0 1 st.a.t st.a.n st.a.k st.a.ok HLE.out st.a.ln st.a.l2).mono ?_;rintro e w' ⟨rfl,hb'⟩;replace st:=st.below hb';clear hb';obtain⟨x0,x1,x2,x3,x4,x5,x6,x7,x8,xf⟩:=nd_cells st.bn;have xt:=st.bt)|(go_at_call 108;refine(l2bare_ffff _ N _ _ st.a.n st.a.k st.a.l1).mono ?_;rintro e w' ⟨rfl,hb'⟩;replace st:=st.below hb';clear hb';obtain⟨x0,x1,x2,x3,x4,x5,x6,x7,x8,xf⟩:=nd_cells st.bn;have xt:=st.bt))
  go_ret
  exact⟨rfl,st.bel⟩
theorem l2ex_e41 {w:World}{vt:Value}{ns:List Nd}{N:Nd}{vn vk:Value}(A:NArg w vt ns N vn vk) (hK:N.k=41):
  Calls Tryz.prog 73 #[.agg #[vt],vNd N vn vk] w fun e w'=>e= .returned (.bool (((N.ks.length:Int)==2)&&exB ns N 2 0&&bareB N false false false false))/\Below w.heap.size w w':=by
 obtain⟨a1,c1,rfl⟩:=A.t.form
 obtain⟨a2,c2,rfl⟩:=A.n.form
 obtain⟨a3,c3,rfl⟩:=A.k.form
 have st:=St.start A
 have hlx:=A.lx
 have HX:Hid (N.x.size<=1100000):=by show _<=_;omega
 clear A
 have q20:=kqf hK 20 rfl
 have q21:=kqf hK 21 rfl
 have q22:=kqf hK 22 rfl
 have q27:=kqf hK 27 rfl
 have q23:=kqf hK 23 rfl
 have q24:=kqf hK 24 rfl
 have q25:=kqf hK 25 rfl
 have q26:=kqf hK 26 rfl
 have q28:=kqf hK 28 rfl
 have q29:=kqf hK 29 rfl
 have q32:=kqf hK 32 rfl
 have q30:=kqf hK 30 rfl
 have q31:=kqf hK 31 rfl
 have q33:=kqf hK 33 rfl
 have q34:=kqf hK 34 rfl
 have q35:=kqf hK 35 rfl
 have q36:=kqf hK 36 rfl
 have q37:=kqf hK 37 rfl
 have q40:=kqf hK 40 rfl
 have q41:=kqt hK 41 rfl
 clear hK
 cases t0:((N.ks.length:Int)==2)
 case' true=>
  have HL:N.ks.length=2:=by have:=eq_of_beq t0;omega
  have HLE:Hid (2<=N.ks.length):=by show _<=_;omega
  have HLT:Hid (0<N.ks.length):=by show _<_;omega
  have HLT1:Hid (1<N.ks.length):=by show _<_;omega
  clear HL
  cases t1:exB ns N 2 0
  case' true=>
   cases t2:bareB N false false false false
 all_goals
  unfold vNd
  go_enter Tryz.func73,Tryz.ntmps73
  go_wp2_with (first|(go_at_call 110;refine(l2exprs_any _ _ ns N _ _ 0 2 st.a.t st.a.n st.a.k st.a.ok HLE.out st.a.ln st.a.l2).mono ?_;rintro e w' ⟨rfl,hb'⟩;replace st:=st.below hb';clear hb';obtain⟨x0,x1,x2,x3,x4,x5,x6,x7,x8,xf⟩:=nd_cells st.bn;have xt:=st.bt)|(go_at_call 108;refine(l2bare_ffff _ N _ _ st.a.n st.a.k st.a.l1).mono ?_;rintro e w' ⟨rfl,hb'⟩;replace st:=st.below hb';clear hb';obtain⟨x0,x1,x2,x3,x4,x5,x6,x7,x8,xf⟩:=nd_cells st.bn;have xt:=st.bt))
  go_ret
  exact⟨rfl,st.bel⟩
theorem l2ex_e42 {w:World}{vt:Value}{ns:List Nd}{N:Nd}{vn vk:Value}(A:NArg w vt ns N vn vk) (hK:N.k=42):
  Calls Tryz.prog 73 #[.agg #[vt],vNd N vn vk] w fun e w'=>e= .returned (.bool (((N.ks.length:Int)==1)&&exB ns N 1 0&&bareB N false false true false&&nmok N.x))/\Below w.heap.size w w':=by
 obtain⟨a1,c1,rfl⟩:=A.t.form
 obtain⟨a2,c2,rfl⟩:=A.n.form
 obtain⟨a3,c3,rfl⟩:=A.k.form
 have st:=St.start A
 have hlx:=A.lx
 have HX:Hid (N.x.size<=1100000):=by show _<=_;omega
 clear A
 have q20:=kqf hK 20 rfl
 have q21:=kqf hK 21 rfl
 have q22:=kqf hK 22 rfl
 have q27:=kqf hK 27 rfl
 have q23:=kqf hK 23 rfl
 have q24:=kqf hK 24 rfl
 have q25:=kqf hK 25 rfl
 have q26:=kqf hK 26 rfl
 have q28:=kqf hK 28 rfl
 have q29:=kqf hK 29 rfl
 have q32:=kqf hK 32 rfl
 have q30:=kqf hK 30 rfl
 have q31:=kqf hK 31 rfl
 have q33:=kqf hK 33 rfl
 have q34:=kqf hK 34 rfl
 have q35:=kqf hK 35 rfl
 have q36:=kqf hK 36 rfl
 have q37:=kqf hK 37 rfl
 have q40:=kqf hK 40 rfl
 have q41:=kqf hK 41 rfl
 have q42:=kqt hK 42 rfl
 clear hK
 cases t0:((N.ks.length:Int)==1)
 case' true=>
  have HL:N.ks.length=1:=by have:=eq_of_beq t0;omega
  have HLE:Hid (1<=N.ks.length):=by show _<=_;omega
  have HLT:Hid (0<N.ks.length):=by show _<_;omega
  clear HL
  cases t1:exB ns N 1 0
  case' true=>
   cases t2:bareB N false false true false
   case' true=>
    cases t3:nmok N.x
 all_goals
  unfold vNd
  go_enter Tryz.func73,Tryz.ntmps73
  go_wp2_with (first|(go_at_call 110;refine(l2exprs_any _ _ ns N _ _ 0 1 st.a.t st.a.n st.a.k st.a.ok HLE.out st.a.ln st.a.l2).mono ?_;rintro e w' ⟨rfl,hb'⟩;replace st:=st.below hb';clear hb';obtain⟨x0,x1,x2,x3,x4,x5,x6,x7,x8,xf⟩:=nd_cells st.bn;have xt:=st.bt)|(go_at_call 108;refine(l2bare_fftf _ N _ _ st.a.n st.a.k st.a.l1).mono ?_;rintro e w' ⟨rfl,hb'⟩;replace st:=st.below hb';clear hb';obtain⟨x0,x1,x2,x3,x4,x5,x6,x7,x8,xf⟩:=nd_cells st.bn;have xt:=st.bt)|(go_at_call 113;refine(l1nameok_any N.x HX.out _).mono ?_;rintro e w' ⟨rfl,hb'⟩;replace st:=st.below hb';clear hb';obtain⟨x0,x1,x2,x3,x4,x5,x6,x7,x8,xf⟩:=nd_cells st.bn;have xt:=st.bt))
  go_ret
  exact⟨rfl,st.bel⟩
end Go.Proofs.YtelfejiiabbpfaaGreatDoor
