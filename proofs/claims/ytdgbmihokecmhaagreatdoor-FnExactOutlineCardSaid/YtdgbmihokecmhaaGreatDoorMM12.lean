import Derived.Test.YtdgbmihokecmhaaGreatDoorMM11
namespace Go.Proofs.YtdgbmihokecmhaaGreatDoor
open Go.RowKit Go.Maps Go.WideMaps
set_option linter.unusedVariables false

set_option maxRecDepth 100000 in
set_option maxHeartbeats 3200000 in
theorem l2ex_e28 {w : World} {vt : Value} {ns : List Nd} {N : Nd} {vn vk : Value} (A : NArg w vt ns N vn vk) (hK : N.k = 28) :
    Calls Tryz.prog 42 #[.agg #[vt], vNd N vn vk] w fun e w' => e = .returned (.bool (((N.ks.length : Int) == 2) && exB ns N 2 0 && bareB N false false false false)) ∧ Below w.heap.size w w' := by
  obtain ⟨a1, c1, rfl⟩ := A.t.form
  obtain ⟨a2, c2, rfl⟩ := A.n.form
  obtain ⟨a3, c3, rfl⟩ := A.k.form
  have st := St.start A
  have hlx := A.lx
  have HX : Hid (N.x.size ≤ 1100000) := by show _ ≤ _; omega
  clear A
  have q20 : (N.k == 20) = false := by rw [hK]; rfl
  have q21 : (N.k == 21) = false := by rw [hK]; rfl
  have q22 : (N.k == 22) = false := by rw [hK]; rfl
  have q27 : (N.k == 27) = false := by rw [hK]; rfl
  have q23 : (N.k == 23) = false := by rw [hK]; rfl
  have q24 : (N.k == 24) = false := by rw [hK]; rfl
  have q25 : (N.k == 25) = false := by rw [hK]; rfl
  have q26 : (N.k == 26) = false := by rw [hK]; rfl
  have q28 : (N.k == 28) = true := by rw [hK]; rfl
  clear hK
  cases t0 : ((N.ks.length : Int) == 2) with
  | false =>
    unfold vNd
    go_enter Tryz.func42, Tryz.ntmps42
    go_wp2_with (first | (go_at_call 57; refine (l2exprs_any _ _ ns N _ _ 0 2 st.a.t st.a.n st.a.k st.a.ok HLE.out st.a.ln st.a.l2).mono ?_; rintro e w' ⟨rfl, hb'⟩; replace st := st.below hb'; clear hb'; obtain ⟨x0, x1, x2, x3, x4, x5, x6, x7, x8, xf⟩ := nd_cells st.bn; have xt := st.bt) | (go_at_call 55; refine (l2bare_ffff _ N _ _ st.a.n st.a.k st.a.l1).mono ?_; rintro e w' ⟨rfl, hb'⟩; replace st := st.below hb'; clear hb'; obtain ⟨x0, x1, x2, x3, x4, x5, x6, x7, x8, xf⟩ := nd_cells st.bn; have xt := st.bt))
    go_ret
    exact ⟨rfl, st.bel⟩
  | true =>
    have HL : N.ks.length = 2 := by have := eq_of_beq t0; omega
    have HLE : Hid (2 ≤ N.ks.length) := by show _ ≤ _; omega
    have HLT : Hid (0 < N.ks.length) := by show _ < _; omega
    clear HL
    cases t1 : exB ns N 2 0 with
    | false =>
      unfold vNd
      go_enter Tryz.func42, Tryz.ntmps42
      go_wp2_with (first | (go_at_call 57; refine (l2exprs_any _ _ ns N _ _ 0 2 st.a.t st.a.n st.a.k st.a.ok HLE.out st.a.ln st.a.l2).mono ?_; rintro e w' ⟨rfl, hb'⟩; replace st := st.below hb'; clear hb'; obtain ⟨x0, x1, x2, x3, x4, x5, x6, x7, x8, xf⟩ := nd_cells st.bn; have xt := st.bt) | (go_at_call 55; refine (l2bare_ffff _ N _ _ st.a.n st.a.k st.a.l1).mono ?_; rintro e w' ⟨rfl, hb'⟩; replace st := st.below hb'; clear hb'; obtain ⟨x0, x1, x2, x3, x4, x5, x6, x7, x8, xf⟩ := nd_cells st.bn; have xt := st.bt))
      go_ret
      exact ⟨rfl, st.bel⟩
    | true =>
      cases t2 : bareB N false false false false with
      | false =>
        unfold vNd
        go_enter Tryz.func42, Tryz.ntmps42
        go_wp2_with (first | (go_at_call 57; refine (l2exprs_any _ _ ns N _ _ 0 2 st.a.t st.a.n st.a.k st.a.ok HLE.out st.a.ln st.a.l2).mono ?_; rintro e w' ⟨rfl, hb'⟩; replace st := st.below hb'; clear hb'; obtain ⟨x0, x1, x2, x3, x4, x5, x6, x7, x8, xf⟩ := nd_cells st.bn; have xt := st.bt) | (go_at_call 55; refine (l2bare_ffff _ N _ _ st.a.n st.a.k st.a.l1).mono ?_; rintro e w' ⟨rfl, hb'⟩; replace st := st.below hb'; clear hb'; obtain ⟨x0, x1, x2, x3, x4, x5, x6, x7, x8, xf⟩ := nd_cells st.bn; have xt := st.bt))
        go_ret
        exact ⟨rfl, st.bel⟩
      | true =>
        unfold vNd
        go_enter Tryz.func42, Tryz.ntmps42
        go_wp2_with (first | (go_at_call 57; refine (l2exprs_any _ _ ns N _ _ 0 2 st.a.t st.a.n st.a.k st.a.ok HLE.out st.a.ln st.a.l2).mono ?_; rintro e w' ⟨rfl, hb'⟩; replace st := st.below hb'; clear hb'; obtain ⟨x0, x1, x2, x3, x4, x5, x6, x7, x8, xf⟩ := nd_cells st.bn; have xt := st.bt) | (go_at_call 55; refine (l2bare_ffff _ N _ _ st.a.n st.a.k st.a.l1).mono ?_; rintro e w' ⟨rfl, hb'⟩; replace st := st.below hb'; clear hb'; obtain ⟨x0, x1, x2, x3, x4, x5, x6, x7, x8, xf⟩ := nd_cells st.bn; have xt := st.bt))
        go_ret
        exact ⟨rfl, st.bel⟩

set_option maxRecDepth 100000 in
set_option maxHeartbeats 3200000 in
theorem l2ex_e29 {w : World} {vt : Value} {ns : List Nd} {N : Nd} {vn vk : Value} (A : NArg w vt ns N vn vk) (hK : N.k = 29) :
    Calls Tryz.prog 42 #[.agg #[vt], vNd N vn vk] w fun e w' => e = .returned (.bool (((N.ks.length : Int) == 2) && exB ns N 2 0 && bareB N false false false false)) ∧ Below w.heap.size w w' := by
  obtain ⟨a1, c1, rfl⟩ := A.t.form
  obtain ⟨a2, c2, rfl⟩ := A.n.form
  obtain ⟨a3, c3, rfl⟩ := A.k.form
  have st := St.start A
  have hlx := A.lx
  have HX : Hid (N.x.size ≤ 1100000) := by show _ ≤ _; omega
  clear A
  have q20 : (N.k == 20) = false := by rw [hK]; rfl
  have q21 : (N.k == 21) = false := by rw [hK]; rfl
  have q22 : (N.k == 22) = false := by rw [hK]; rfl
  have q27 : (N.k == 27) = false := by rw [hK]; rfl
  have q23 : (N.k == 23) = false := by rw [hK]; rfl
  have q24 : (N.k == 24) = false := by rw [hK]; rfl
  have q25 : (N.k == 25) = false := by rw [hK]; rfl
  have q26 : (N.k == 26) = false := by rw [hK]; rfl
  have q28 : (N.k == 28) = false := by rw [hK]; rfl
  have q29 : (N.k == 29) = true := by rw [hK]; rfl
  clear hK
  cases t0 : ((N.ks.length : Int) == 2) with
  | false =>
    unfold vNd
    go_enter Tryz.func42, Tryz.ntmps42
    go_wp2_with (first | (go_at_call 57; refine (l2exprs_any _ _ ns N _ _ 0 2 st.a.t st.a.n st.a.k st.a.ok HLE.out st.a.ln st.a.l2).mono ?_; rintro e w' ⟨rfl, hb'⟩; replace st := st.below hb'; clear hb'; obtain ⟨x0, x1, x2, x3, x4, x5, x6, x7, x8, xf⟩ := nd_cells st.bn; have xt := st.bt) | (go_at_call 55; refine (l2bare_ffff _ N _ _ st.a.n st.a.k st.a.l1).mono ?_; rintro e w' ⟨rfl, hb'⟩; replace st := st.below hb'; clear hb'; obtain ⟨x0, x1, x2, x3, x4, x5, x6, x7, x8, xf⟩ := nd_cells st.bn; have xt := st.bt))
    go_ret
    exact ⟨rfl, st.bel⟩
  | true =>
    have HL : N.ks.length = 2 := by have := eq_of_beq t0; omega
    have HLE : Hid (2 ≤ N.ks.length) := by show _ ≤ _; omega
    have HLT : Hid (0 < N.ks.length) := by show _ < _; omega
    clear HL
    cases t1 : exB ns N 2 0 with
    | false =>
      unfold vNd
      go_enter Tryz.func42, Tryz.ntmps42
      go_wp2_with (first | (go_at_call 57; refine (l2exprs_any _ _ ns N _ _ 0 2 st.a.t st.a.n st.a.k st.a.ok HLE.out st.a.ln st.a.l2).mono ?_; rintro e w' ⟨rfl, hb'⟩; replace st := st.below hb'; clear hb'; obtain ⟨x0, x1, x2, x3, x4, x5, x6, x7, x8, xf⟩ := nd_cells st.bn; have xt := st.bt) | (go_at_call 55; refine (l2bare_ffff _ N _ _ st.a.n st.a.k st.a.l1).mono ?_; rintro e w' ⟨rfl, hb'⟩; replace st := st.below hb'; clear hb'; obtain ⟨x0, x1, x2, x3, x4, x5, x6, x7, x8, xf⟩ := nd_cells st.bn; have xt := st.bt))
      go_ret
      exact ⟨rfl, st.bel⟩
    | true =>
      cases t2 : bareB N false false false false with
      | false =>
        unfold vNd
        go_enter Tryz.func42, Tryz.ntmps42
        go_wp2_with (first | (go_at_call 57; refine (l2exprs_any _ _ ns N _ _ 0 2 st.a.t st.a.n st.a.k st.a.ok HLE.out st.a.ln st.a.l2).mono ?_; rintro e w' ⟨rfl, hb'⟩; replace st := st.below hb'; clear hb'; obtain ⟨x0, x1, x2, x3, x4, x5, x6, x7, x8, xf⟩ := nd_cells st.bn; have xt := st.bt) | (go_at_call 55; refine (l2bare_ffff _ N _ _ st.a.n st.a.k st.a.l1).mono ?_; rintro e w' ⟨rfl, hb'⟩; replace st := st.below hb'; clear hb'; obtain ⟨x0, x1, x2, x3, x4, x5, x6, x7, x8, xf⟩ := nd_cells st.bn; have xt := st.bt))
        go_ret
        exact ⟨rfl, st.bel⟩
      | true =>
        unfold vNd
        go_enter Tryz.func42, Tryz.ntmps42
        go_wp2_with (first | (go_at_call 57; refine (l2exprs_any _ _ ns N _ _ 0 2 st.a.t st.a.n st.a.k st.a.ok HLE.out st.a.ln st.a.l2).mono ?_; rintro e w' ⟨rfl, hb'⟩; replace st := st.below hb'; clear hb'; obtain ⟨x0, x1, x2, x3, x4, x5, x6, x7, x8, xf⟩ := nd_cells st.bn; have xt := st.bt) | (go_at_call 55; refine (l2bare_ffff _ N _ _ st.a.n st.a.k st.a.l1).mono ?_; rintro e w' ⟨rfl, hb'⟩; replace st := st.below hb'; clear hb'; obtain ⟨x0, x1, x2, x3, x4, x5, x6, x7, x8, xf⟩ := nd_cells st.bn; have xt := st.bt))
        go_ret
        exact ⟨rfl, st.bel⟩

set_option maxRecDepth 100000 in
set_option maxHeartbeats 3200000 in
theorem l2ex_e32 {w : World} {vt : Value} {ns : List Nd} {N : Nd} {vn vk : Value} (A : NArg w vt ns N vn vk) (hK : N.k = 32) :
    Calls Tryz.prog 42 #[.agg #[vt], vNd N vn vk] w fun e w' => e = .returned (.bool (((N.ks.length : Int) == 2) && exB ns N 2 0 && (kidK ns N 0 != 27) && bareB N false false false false)) ∧ Below w.heap.size w w' := by
  obtain ⟨a1, c1, rfl⟩ := A.t.form
  obtain ⟨a2, c2, rfl⟩ := A.n.form
  obtain ⟨a3, c3, rfl⟩ := A.k.form
  have st := St.start A
  have hlx := A.lx
  have HX : Hid (N.x.size ≤ 1100000) := by show _ ≤ _; omega
  clear A
  have q20 : (N.k == 20) = false := by rw [hK]; rfl
  have q21 : (N.k == 21) = false := by rw [hK]; rfl
  have q22 : (N.k == 22) = false := by rw [hK]; rfl
  have q27 : (N.k == 27) = false := by rw [hK]; rfl
  have q23 : (N.k == 23) = false := by rw [hK]; rfl
  have q24 : (N.k == 24) = false := by rw [hK]; rfl
  have q25 : (N.k == 25) = false := by rw [hK]; rfl
  have q26 : (N.k == 26) = false := by rw [hK]; rfl
  have q28 : (N.k == 28) = false := by rw [hK]; rfl
  have q29 : (N.k == 29) = false := by rw [hK]; rfl
  have q32 : (N.k == 32) = true := by rw [hK]; rfl
  clear hK
  cases t0 : ((N.ks.length : Int) == 2) with
  | false =>
    unfold vNd
    go_enter Tryz.func42, Tryz.ntmps42
    go_wp2_with (first | (go_at_call 57; refine (l2exprs_any _ _ ns N _ _ 0 2 st.a.t st.a.n st.a.k st.a.ok HLE.out st.a.ln st.a.l2).mono ?_; rintro e w' ⟨rfl, hb'⟩; replace st := st.below hb'; clear hb'; obtain ⟨x0, x1, x2, x3, x4, x5, x6, x7, x8, xf⟩ := nd_cells st.bn; have xt := st.bt) | (go_at_call 54; refine (kid_any st.a 0 HLT.out).mono ?_; rintro e w' ⟨rfl, hb'⟩; replace st := st.below hb'; clear hb'; obtain ⟨x0, x1, x2, x3, x4, x5, x6, x7, x8, xf⟩ := nd_cells st.bn; have xt := st.bt) | (go_at_call 55; refine (l2bare_ffff _ N _ _ st.a.n st.a.k st.a.l1).mono ?_; rintro e w' ⟨rfl, hb'⟩; replace st := st.below hb'; clear hb'; obtain ⟨x0, x1, x2, x3, x4, x5, x6, x7, x8, xf⟩ := nd_cells st.bn; have xt := st.bt))
    go_ret
    exact ⟨rfl, st.bel⟩
  | true =>
    have HL : N.ks.length = 2 := by have := eq_of_beq t0; omega
    have HLE : Hid (2 ≤ N.ks.length) := by show _ ≤ _; omega
    have HLT : Hid (0 < N.ks.length) := by show _ < _; omega
    clear HL
    cases t1 : exB ns N 2 0 with
    | false =>
      unfold vNd
      go_enter Tryz.func42, Tryz.ntmps42
      go_wp2_with (first | (go_at_call 57; refine (l2exprs_any _ _ ns N _ _ 0 2 st.a.t st.a.n st.a.k st.a.ok HLE.out st.a.ln st.a.l2).mono ?_; rintro e w' ⟨rfl, hb'⟩; replace st := st.below hb'; clear hb'; obtain ⟨x0, x1, x2, x3, x4, x5, x6, x7, x8, xf⟩ := nd_cells st.bn; have xt := st.bt) | (go_at_call 54; refine (kid_any st.a 0 HLT.out).mono ?_; rintro e w' ⟨rfl, hb'⟩; replace st := st.below hb'; clear hb'; obtain ⟨x0, x1, x2, x3, x4, x5, x6, x7, x8, xf⟩ := nd_cells st.bn; have xt := st.bt) | (go_at_call 55; refine (l2bare_ffff _ N _ _ st.a.n st.a.k st.a.l1).mono ?_; rintro e w' ⟨rfl, hb'⟩; replace st := st.below hb'; clear hb'; obtain ⟨x0, x1, x2, x3, x4, x5, x6, x7, x8, xf⟩ := nd_cells st.bn; have xt := st.bt))
      go_ret
      exact ⟨rfl, st.bel⟩
    | true =>
      cases t2 : (kidK ns N 0 != 27) with
      | false =>
        unfold vNd
        go_enter Tryz.func42, Tryz.ntmps42
        go_wp2_with (first | (go_at_call 57; refine (l2exprs_any _ _ ns N _ _ 0 2 st.a.t st.a.n st.a.k st.a.ok HLE.out st.a.ln st.a.l2).mono ?_; rintro e w' ⟨rfl, hb'⟩; replace st := st.below hb'; clear hb'; obtain ⟨x0, x1, x2, x3, x4, x5, x6, x7, x8, xf⟩ := nd_cells st.bn; have xt := st.bt) | (go_at_call 54; refine (kid_any st.a 0 HLT.out).mono ?_; rintro e w' ⟨rfl, hb'⟩; replace st := st.below hb'; clear hb'; obtain ⟨x0, x1, x2, x3, x4, x5, x6, x7, x8, xf⟩ := nd_cells st.bn; have xt := st.bt) | (go_at_call 55; refine (l2bare_ffff _ N _ _ st.a.n st.a.k st.a.l1).mono ?_; rintro e w' ⟨rfl, hb'⟩; replace st := st.below hb'; clear hb'; obtain ⟨x0, x1, x2, x3, x4, x5, x6, x7, x8, xf⟩ := nd_cells st.bn; have xt := st.bt))
        go_ret
        exact ⟨rfl, st.bel⟩
      | true =>
        cases t3 : bareB N false false false false with
        | false =>
          unfold vNd
          go_enter Tryz.func42, Tryz.ntmps42
          go_wp2_with (first | (go_at_call 57; refine (l2exprs_any _ _ ns N _ _ 0 2 st.a.t st.a.n st.a.k st.a.ok HLE.out st.a.ln st.a.l2).mono ?_; rintro e w' ⟨rfl, hb'⟩; replace st := st.below hb'; clear hb'; obtain ⟨x0, x1, x2, x3, x4, x5, x6, x7, x8, xf⟩ := nd_cells st.bn; have xt := st.bt) | (go_at_call 54; refine (kid_any st.a 0 HLT.out).mono ?_; rintro e w' ⟨rfl, hb'⟩; replace st := st.below hb'; clear hb'; obtain ⟨x0, x1, x2, x3, x4, x5, x6, x7, x8, xf⟩ := nd_cells st.bn; have xt := st.bt) | (go_at_call 55; refine (l2bare_ffff _ N _ _ st.a.n st.a.k st.a.l1).mono ?_; rintro e w' ⟨rfl, hb'⟩; replace st := st.below hb'; clear hb'; obtain ⟨x0, x1, x2, x3, x4, x5, x6, x7, x8, xf⟩ := nd_cells st.bn; have xt := st.bt))
          go_ret
          exact ⟨rfl, st.bel⟩
        | true =>
          unfold vNd
          go_enter Tryz.func42, Tryz.ntmps42
          go_wp2_with (first | (go_at_call 57; refine (l2exprs_any _ _ ns N _ _ 0 2 st.a.t st.a.n st.a.k st.a.ok HLE.out st.a.ln st.a.l2).mono ?_; rintro e w' ⟨rfl, hb'⟩; replace st := st.below hb'; clear hb'; obtain ⟨x0, x1, x2, x3, x4, x5, x6, x7, x8, xf⟩ := nd_cells st.bn; have xt := st.bt) | (go_at_call 54; refine (kid_any st.a 0 HLT.out).mono ?_; rintro e w' ⟨rfl, hb'⟩; replace st := st.below hb'; clear hb'; obtain ⟨x0, x1, x2, x3, x4, x5, x6, x7, x8, xf⟩ := nd_cells st.bn; have xt := st.bt) | (go_at_call 55; refine (l2bare_ffff _ N _ _ st.a.n st.a.k st.a.l1).mono ?_; rintro e w' ⟨rfl, hb'⟩; replace st := st.below hb'; clear hb'; obtain ⟨x0, x1, x2, x3, x4, x5, x6, x7, x8, xf⟩ := nd_cells st.bn; have xt := st.bt))
          go_ret
          exact ⟨rfl, st.bel⟩

set_option maxRecDepth 100000 in
set_option maxHeartbeats 3200000 in
theorem l2ex_e30 {w : World} {vt : Value} {ns : List Nd} {N : Nd} {vn vk : Value} (A : NArg w vt ns N vn vk) (hK : N.k = 30) :
    Calls Tryz.prog 42 #[.agg #[vt], vNd N vn vk] w fun e w' => e = .returned (.bool (((N.ks.length : Int) == 1) && exB ns N 1 0 && bareB N true false false false && decide ((19 : Int) ≤ N.op) && decide (N.op ≤ 22))) ∧ Below w.heap.size w w' := by
  obtain ⟨a1, c1, rfl⟩ := A.t.form
  obtain ⟨a2, c2, rfl⟩ := A.n.form
  obtain ⟨a3, c3, rfl⟩ := A.k.form
  have st := St.start A
  have hlx := A.lx
  have HX : Hid (N.x.size ≤ 1100000) := by show _ ≤ _; omega
  clear A
  have q20 : (N.k == 20) = false := by rw [hK]; rfl
  have q21 : (N.k == 21) = false := by rw [hK]; rfl
  have q22 : (N.k == 22) = false := by rw [hK]; rfl
  have q27 : (N.k == 27) = false := by rw [hK]; rfl
  have q23 : (N.k == 23) = false := by rw [hK]; rfl
  have q24 : (N.k == 24) = false := by rw [hK]; rfl
  have q25 : (N.k == 25) = false := by rw [hK]; rfl
  have q26 : (N.k == 26) = false := by rw [hK]; rfl
  have q28 : (N.k == 28) = false := by rw [hK]; rfl
  have q29 : (N.k == 29) = false := by rw [hK]; rfl
  have q32 : (N.k == 32) = false := by rw [hK]; rfl
  have q30 : (N.k == 30) = true := by rw [hK]; rfl
  clear hK
  cases t0 : ((N.ks.length : Int) == 1) with
  | false =>
    unfold vNd
    go_enter Tryz.func42, Tryz.ntmps42
    go_wp2_with (first | (go_at_call 57; refine (l2exprs_any _ _ ns N _ _ 0 1 st.a.t st.a.n st.a.k st.a.ok HLE.out st.a.ln st.a.l2).mono ?_; rintro e w' ⟨rfl, hb'⟩; replace st := st.below hb'; clear hb'; obtain ⟨x0, x1, x2, x3, x4, x5, x6, x7, x8, xf⟩ := nd_cells st.bn; have xt := st.bt) | (go_at_call 55; refine (l2bare_tfff _ N _ _ st.a.n st.a.k st.a.l1).mono ?_; rintro e w' ⟨rfl, hb'⟩; replace st := st.below hb'; clear hb'; obtain ⟨x0, x1, x2, x3, x4, x5, x6, x7, x8, xf⟩ := nd_cells st.bn; have xt := st.bt))
    go_ret
    exact ⟨rfl, st.bel⟩
  | true =>
    have HL : N.ks.length = 1 := by have := eq_of_beq t0; omega
    have HLE : Hid (1 ≤ N.ks.length) := by show _ ≤ _; omega
    have HLT : Hid (0 < N.ks.length) := by show _ < _; omega
    clear HL
    cases t1 : exB ns N 1 0 with
    | false =>
      unfold vNd
      go_enter Tryz.func42, Tryz.ntmps42
      go_wp2_with (first | (go_at_call 57; refine (l2exprs_any _ _ ns N _ _ 0 1 st.a.t st.a.n st.a.k st.a.ok HLE.out st.a.ln st.a.l2).mono ?_; rintro e w' ⟨rfl, hb'⟩; replace st := st.below hb'; clear hb'; obtain ⟨x0, x1, x2, x3, x4, x5, x6, x7, x8, xf⟩ := nd_cells st.bn; have xt := st.bt) | (go_at_call 55; refine (l2bare_tfff _ N _ _ st.a.n st.a.k st.a.l1).mono ?_; rintro e w' ⟨rfl, hb'⟩; replace st := st.below hb'; clear hb'; obtain ⟨x0, x1, x2, x3, x4, x5, x6, x7, x8, xf⟩ := nd_cells st.bn; have xt := st.bt))
      go_ret
      exact ⟨rfl, st.bel⟩
    | true =>
      cases t2 : bareB N true false false false with
      | false =>
        unfold vNd
        go_enter Tryz.func42, Tryz.ntmps42
        go_wp2_with (first | (go_at_call 57; refine (l2exprs_any _ _ ns N _ _ 0 1 st.a.t st.a.n st.a.k st.a.ok HLE.out st.a.ln st.a.l2).mono ?_; rintro e w' ⟨rfl, hb'⟩; replace st := st.below hb'; clear hb'; obtain ⟨x0, x1, x2, x3, x4, x5, x6, x7, x8, xf⟩ := nd_cells st.bn; have xt := st.bt) | (go_at_call 55; refine (l2bare_tfff _ N _ _ st.a.n st.a.k st.a.l1).mono ?_; rintro e w' ⟨rfl, hb'⟩; replace st := st.below hb'; clear hb'; obtain ⟨x0, x1, x2, x3, x4, x5, x6, x7, x8, xf⟩ := nd_cells st.bn; have xt := st.bt))
        go_ret
        exact ⟨rfl, st.bel⟩
      | true =>
        cases t3 : decide ((19 : Int) ≤ N.op) with
        | false =>
          unfold vNd
          go_enter Tryz.func42, Tryz.ntmps42
          go_wp2_with (first | (go_at_call 57; refine (l2exprs_any _ _ ns N _ _ 0 1 st.a.t st.a.n st.a.k st.a.ok HLE.out st.a.ln st.a.l2).mono ?_; rintro e w' ⟨rfl, hb'⟩; replace st := st.below hb'; clear hb'; obtain ⟨x0, x1, x2, x3, x4, x5, x6, x7, x8, xf⟩ := nd_cells st.bn; have xt := st.bt) | (go_at_call 55; refine (l2bare_tfff _ N _ _ st.a.n st.a.k st.a.l1).mono ?_; rintro e w' ⟨rfl, hb'⟩; replace st := st.below hb'; clear hb'; obtain ⟨x0, x1, x2, x3, x4, x5, x6, x7, x8, xf⟩ := nd_cells st.bn; have xt := st.bt))
          go_ret
          exact ⟨rfl, st.bel⟩
        | true =>
          cases t4 : decide (N.op ≤ 22) with
          | false =>
            unfold vNd
            go_enter Tryz.func42, Tryz.ntmps42
            go_wp2_with (first | (go_at_call 57; refine (l2exprs_any _ _ ns N _ _ 0 1 st.a.t st.a.n st.a.k st.a.ok HLE.out st.a.ln st.a.l2).mono ?_; rintro e w' ⟨rfl, hb'⟩; replace st := st.below hb'; clear hb'; obtain ⟨x0, x1, x2, x3, x4, x5, x6, x7, x8, xf⟩ := nd_cells st.bn; have xt := st.bt) | (go_at_call 55; refine (l2bare_tfff _ N _ _ st.a.n st.a.k st.a.l1).mono ?_; rintro e w' ⟨rfl, hb'⟩; replace st := st.below hb'; clear hb'; obtain ⟨x0, x1, x2, x3, x4, x5, x6, x7, x8, xf⟩ := nd_cells st.bn; have xt := st.bt))
            go_ret
            exact ⟨rfl, st.bel⟩
          | true =>
            unfold vNd
            go_enter Tryz.func42, Tryz.ntmps42
            go_wp2_with (first | (go_at_call 57; refine (l2exprs_any _ _ ns N _ _ 0 1 st.a.t st.a.n st.a.k st.a.ok HLE.out st.a.ln st.a.l2).mono ?_; rintro e w' ⟨rfl, hb'⟩; replace st := st.below hb'; clear hb'; obtain ⟨x0, x1, x2, x3, x4, x5, x6, x7, x8, xf⟩ := nd_cells st.bn; have xt := st.bt) | (go_at_call 55; refine (l2bare_tfff _ N _ _ st.a.n st.a.k st.a.l1).mono ?_; rintro e w' ⟨rfl, hb'⟩; replace st := st.below hb'; clear hb'; obtain ⟨x0, x1, x2, x3, x4, x5, x6, x7, x8, xf⟩ := nd_cells st.bn; have xt := st.bt))
            go_ret
            exact ⟨rfl, st.bel⟩

set_option maxRecDepth 100000 in
set_option maxHeartbeats 3200000 in
theorem l2ex_e31 {w : World} {vt : Value} {ns : List Nd} {N : Nd} {vn vk : Value} (A : NArg w vt ns N vn vk) (hK : N.k = 31) :
    Calls Tryz.prog 42 #[.agg #[vt], vNd N vn vk] w fun e w' => e = .returned (.bool (((N.ks.length : Int) == 2) && exB ns N 2 0 && bareB N true false false false && decide ((1 : Int) ≤ N.op) && decide (N.op ≤ 18))) ∧ Below w.heap.size w w' := by
  obtain ⟨a1, c1, rfl⟩ := A.t.form
  obtain ⟨a2, c2, rfl⟩ := A.n.form
  obtain ⟨a3, c3, rfl⟩ := A.k.form
  have st := St.start A
  have hlx := A.lx
  have HX : Hid (N.x.size ≤ 1100000) := by show _ ≤ _; omega
  clear A
  have q20 : (N.k == 20) = false := by rw [hK]; rfl
  have q21 : (N.k == 21) = false := by rw [hK]; rfl
  have q22 : (N.k == 22) = false := by rw [hK]; rfl
  have q27 : (N.k == 27) = false := by rw [hK]; rfl
  have q23 : (N.k == 23) = false := by rw [hK]; rfl
  have q24 : (N.k == 24) = false := by rw [hK]; rfl
  have q25 : (N.k == 25) = false := by rw [hK]; rfl
  have q26 : (N.k == 26) = false := by rw [hK]; rfl
  have q28 : (N.k == 28) = false := by rw [hK]; rfl
  have q29 : (N.k == 29) = false := by rw [hK]; rfl
  have q32 : (N.k == 32) = false := by rw [hK]; rfl
  have q30 : (N.k == 30) = false := by rw [hK]; rfl
  have q31 : (N.k == 31) = true := by rw [hK]; rfl
  clear hK
  cases t0 : ((N.ks.length : Int) == 2) with
  | false =>
    unfold vNd
    go_enter Tryz.func42, Tryz.ntmps42
    go_wp2_with (first | (go_at_call 57; refine (l2exprs_any _ _ ns N _ _ 0 2 st.a.t st.a.n st.a.k st.a.ok HLE.out st.a.ln st.a.l2).mono ?_; rintro e w' ⟨rfl, hb'⟩; replace st := st.below hb'; clear hb'; obtain ⟨x0, x1, x2, x3, x4, x5, x6, x7, x8, xf⟩ := nd_cells st.bn; have xt := st.bt) | (go_at_call 55; refine (l2bare_tfff _ N _ _ st.a.n st.a.k st.a.l1).mono ?_; rintro e w' ⟨rfl, hb'⟩; replace st := st.below hb'; clear hb'; obtain ⟨x0, x1, x2, x3, x4, x5, x6, x7, x8, xf⟩ := nd_cells st.bn; have xt := st.bt))
    go_ret
    exact ⟨rfl, st.bel⟩
  | true =>
    have HL : N.ks.length = 2 := by have := eq_of_beq t0; omega
    have HLE : Hid (2 ≤ N.ks.length) := by show _ ≤ _; omega
    have HLT : Hid (0 < N.ks.length) := by show _ < _; omega
    clear HL
    cases t1 : exB ns N 2 0 with
    | false =>
      unfold vNd
      go_enter Tryz.func42, Tryz.ntmps42
      go_wp2_with (first | (go_at_call 57; refine (l2exprs_any _ _ ns N _ _ 0 2 st.a.t st.a.n st.a.k st.a.ok HLE.out st.a.ln st.a.l2).mono ?_; rintro e w' ⟨rfl, hb'⟩; replace st := st.below hb'; clear hb'; obtain ⟨x0, x1, x2, x3, x4, x5, x6, x7, x8, xf⟩ := nd_cells st.bn; have xt := st.bt) | (go_at_call 55; refine (l2bare_tfff _ N _ _ st.a.n st.a.k st.a.l1).mono ?_; rintro e w' ⟨rfl, hb'⟩; replace st := st.below hb'; clear hb'; obtain ⟨x0, x1, x2, x3, x4, x5, x6, x7, x8, xf⟩ := nd_cells st.bn; have xt := st.bt))
      go_ret
      exact ⟨rfl, st.bel⟩
    | true =>
      cases t2 : bareB N true false false false with
      | false =>
        unfold vNd
        go_enter Tryz.func42, Tryz.ntmps42
        go_wp2_with (first | (go_at_call 57; refine (l2exprs_any _ _ ns N _ _ 0 2 st.a.t st.a.n st.a.k st.a.ok HLE.out st.a.ln st.a.l2).mono ?_; rintro e w' ⟨rfl, hb'⟩; replace st := st.below hb'; clear hb'; obtain ⟨x0, x1, x2, x3, x4, x5, x6, x7, x8, xf⟩ := nd_cells st.bn; have xt := st.bt) | (go_at_call 55; refine (l2bare_tfff _ N _ _ st.a.n st.a.k st.a.l1).mono ?_; rintro e w' ⟨rfl, hb'⟩; replace st := st.below hb'; clear hb'; obtain ⟨x0, x1, x2, x3, x4, x5, x6, x7, x8, xf⟩ := nd_cells st.bn; have xt := st.bt))
        go_ret
        exact ⟨rfl, st.bel⟩
      | true =>
        cases t3 : decide ((1 : Int) ≤ N.op) with
        | false =>
          unfold vNd
          go_enter Tryz.func42, Tryz.ntmps42
          go_wp2_with (first | (go_at_call 57; refine (l2exprs_any _ _ ns N _ _ 0 2 st.a.t st.a.n st.a.k st.a.ok HLE.out st.a.ln st.a.l2).mono ?_; rintro e w' ⟨rfl, hb'⟩; replace st := st.below hb'; clear hb'; obtain ⟨x0, x1, x2, x3, x4, x5, x6, x7, x8, xf⟩ := nd_cells st.bn; have xt := st.bt) | (go_at_call 55; refine (l2bare_tfff _ N _ _ st.a.n st.a.k st.a.l1).mono ?_; rintro e w' ⟨rfl, hb'⟩; replace st := st.below hb'; clear hb'; obtain ⟨x0, x1, x2, x3, x4, x5, x6, x7, x8, xf⟩ := nd_cells st.bn; have xt := st.bt))
          go_ret
          exact ⟨rfl, st.bel⟩
        | true =>
          cases t4 : decide (N.op ≤ 18) with
          | false =>
            unfold vNd
            go_enter Tryz.func42, Tryz.ntmps42
            go_wp2_with (first | (go_at_call 57; refine (l2exprs_any _ _ ns N _ _ 0 2 st.a.t st.a.n st.a.k st.a.ok HLE.out st.a.ln st.a.l2).mono ?_; rintro e w' ⟨rfl, hb'⟩; replace st := st.below hb'; clear hb'; obtain ⟨x0, x1, x2, x3, x4, x5, x6, x7, x8, xf⟩ := nd_cells st.bn; have xt := st.bt) | (go_at_call 55; refine (l2bare_tfff _ N _ _ st.a.n st.a.k st.a.l1).mono ?_; rintro e w' ⟨rfl, hb'⟩; replace st := st.below hb'; clear hb'; obtain ⟨x0, x1, x2, x3, x4, x5, x6, x7, x8, xf⟩ := nd_cells st.bn; have xt := st.bt))
            go_ret
            exact ⟨rfl, st.bel⟩
          | true =>
            unfold vNd
            go_enter Tryz.func42, Tryz.ntmps42
            go_wp2_with (first | (go_at_call 57; refine (l2exprs_any _ _ ns N _ _ 0 2 st.a.t st.a.n st.a.k st.a.ok HLE.out st.a.ln st.a.l2).mono ?_; rintro e w' ⟨rfl, hb'⟩; replace st := st.below hb'; clear hb'; obtain ⟨x0, x1, x2, x3, x4, x5, x6, x7, x8, xf⟩ := nd_cells st.bn; have xt := st.bt) | (go_at_call 55; refine (l2bare_tfff _ N _ _ st.a.n st.a.k st.a.l1).mono ?_; rintro e w' ⟨rfl, hb'⟩; replace st := st.below hb'; clear hb'; obtain ⟨x0, x1, x2, x3, x4, x5, x6, x7, x8, xf⟩ := nd_cells st.bn; have xt := st.bt))
            go_ret
            exact ⟨rfl, st.bel⟩
end Go.Proofs.YtdgbmihokecmhaaGreatDoor

namespace Go.Proofs.YtdgbmihokecmhaaGreatDoor
open Go.RowKit Go.Maps Go.WideMaps
set_option linter.unusedVariables false

set_option maxRecDepth 100000 in
set_option maxHeartbeats 3200000 in
theorem l2ex_e33 {w : World} {vt : Value} {ns : List Nd} {N : Nd} {vn vk : Value} (A : NArg w vt ns N vn vk) (hK : N.k = 33) :
    Calls Tryz.prog 42 #[.agg #[vt], vNd N vn vk] w fun e w' => e = .returned (.bool (((N.ks.length : Int) == 1) && exB ns N 1 0 && (kidK ns N 0 != 27) && bareB N false false true false && nmok N.x)) ∧ Below w.heap.size w w' := by
  obtain ⟨a1, c1, rfl⟩ := A.t.form
  obtain ⟨a2, c2, rfl⟩ := A.n.form
  obtain ⟨a3, c3, rfl⟩ := A.k.form
  have st := St.start A
  have hlx := A.lx
  have HX : Hid (N.x.size ≤ 1100000) := by show _ ≤ _; omega
  clear A
  have q20 : (N.k == 20) = false := by rw [hK]; rfl
  have q21 : (N.k == 21) = false := by rw [hK]; rfl
  have q22 : (N.k == 22) = false := by rw [hK]; rfl
  have q27 : (N.k == 27) = false := by rw [hK]; rfl
  have q23 : (N.k == 23) = false := by rw [hK]; rfl
  have q24 : (N.k == 24) = false := by rw [hK]; rfl
  have q25 : (N.k == 25) = false := by rw [hK]; rfl
  have q26 : (N.k == 26) = false := by rw [hK]; rfl
  have q28 : (N.k == 28) = false := by rw [hK]; rfl
  have q29 : (N.k == 29) = false := by rw [hK]; rfl
  have q32 : (N.k == 32) = false := by rw [hK]; rfl
  have q30 : (N.k == 30) = false := by rw [hK]; rfl
  have q31 : (N.k == 31) = false := by rw [hK]; rfl
  have q33 : (N.k == 33) = true := by rw [hK]; rfl
  clear hK
  cases t0 : ((N.ks.length : Int) == 1) with
  | false =>
    unfold vNd
    go_enter Tryz.func42, Tryz.ntmps42
    go_wp2_with (first | (go_at_call 57; refine (l2exprs_any _ _ ns N _ _ 0 1 st.a.t st.a.n st.a.k st.a.ok HLE.out st.a.ln st.a.l2).mono ?_; rintro e w' ⟨rfl, hb'⟩; replace st := st.below hb'; clear hb'; obtain ⟨x0, x1, x2, x3, x4, x5, x6, x7, x8, xf⟩ := nd_cells st.bn; have xt := st.bt) | (go_at_call 54; refine (kid_any st.a 0 HLT.out).mono ?_; rintro e w' ⟨rfl, hb'⟩; replace st := st.below hb'; clear hb'; obtain ⟨x0, x1, x2, x3, x4, x5, x6, x7, x8, xf⟩ := nd_cells st.bn; have xt := st.bt) | (go_at_call 55; refine (l2bare_fftf _ N _ _ st.a.n st.a.k st.a.l1).mono ?_; rintro e w' ⟨rfl, hb'⟩; replace st := st.below hb'; clear hb'; obtain ⟨x0, x1, x2, x3, x4, x5, x6, x7, x8, xf⟩ := nd_cells st.bn; have xt := st.bt) | (go_at_call 60; refine (l1nameok_any N.x HX.out _).mono ?_; rintro e w' ⟨rfl, hb'⟩; replace st := st.below hb'; clear hb'; obtain ⟨x0, x1, x2, x3, x4, x5, x6, x7, x8, xf⟩ := nd_cells st.bn; have xt := st.bt))
    go_ret
    exact ⟨rfl, st.bel⟩
  | true =>
    have HL : N.ks.length = 1 := by have := eq_of_beq t0; omega
    have HLE : Hid (1 ≤ N.ks.length) := by show _ ≤ _; omega
    have HLT : Hid (0 < N.ks.length) := by show _ < _; omega
    clear HL
    cases t1 : exB ns N 1 0 with
    | false =>
      unfold vNd
      go_enter Tryz.func42, Tryz.ntmps42
      go_wp2_with (first | (go_at_call 57; refine (l2exprs_any _ _ ns N _ _ 0 1 st.a.t st.a.n st.a.k st.a.ok HLE.out st.a.ln st.a.l2).mono ?_; rintro e w' ⟨rfl, hb'⟩; replace st := st.below hb'; clear hb'; obtain ⟨x0, x1, x2, x3, x4, x5, x6, x7, x8, xf⟩ := nd_cells st.bn; have xt := st.bt) | (go_at_call 54; refine (kid_any st.a 0 HLT.out).mono ?_; rintro e w' ⟨rfl, hb'⟩; replace st := st.below hb'; clear hb'; obtain ⟨x0, x1, x2, x3, x4, x5, x6, x7, x8, xf⟩ := nd_cells st.bn; have xt := st.bt) | (go_at_call 55; refine (l2bare_fftf _ N _ _ st.a.n st.a.k st.a.l1).mono ?_; rintro e w' ⟨rfl, hb'⟩; replace st := st.below hb'; clear hb'; obtain ⟨x0, x1, x2, x3, x4, x5, x6, x7, x8, xf⟩ := nd_cells st.bn; have xt := st.bt) | (go_at_call 60; refine (l1nameok_any N.x HX.out _).mono ?_; rintro e w' ⟨rfl, hb'⟩; replace st := st.below hb'; clear hb'; obtain ⟨x0, x1, x2, x3, x4, x5, x6, x7, x8, xf⟩ := nd_cells st.bn; have xt := st.bt))
      go_ret
      exact ⟨rfl, st.bel⟩
    | true =>
      cases t2 : (kidK ns N 0 != 27) with
      | false =>
        unfold vNd
        go_enter Tryz.func42, Tryz.ntmps42
        go_wp2_with (first | (go_at_call 57; refine (l2exprs_any _ _ ns N _ _ 0 1 st.a.t st.a.n st.a.k st.a.ok HLE.out st.a.ln st.a.l2).mono ?_; rintro e w' ⟨rfl, hb'⟩; replace st := st.below hb'; clear hb'; obtain ⟨x0, x1, x2, x3, x4, x5, x6, x7, x8, xf⟩ := nd_cells st.bn; have xt := st.bt) | (go_at_call 54; refine (kid_any st.a 0 HLT.out).mono ?_; rintro e w' ⟨rfl, hb'⟩; replace st := st.below hb'; clear hb'; obtain ⟨x0, x1, x2, x3, x4, x5, x6, x7, x8, xf⟩ := nd_cells st.bn; have xt := st.bt) | (go_at_call 55; refine (l2bare_fftf _ N _ _ st.a.n st.a.k st.a.l1).mono ?_; rintro e w' ⟨rfl, hb'⟩; replace st := st.below hb'; clear hb'; obtain ⟨x0, x1, x2, x3, x4, x5, x6, x7, x8, xf⟩ := nd_cells st.bn; have xt := st.bt) | (go_at_call 60; refine (l1nameok_any N.x HX.out _).mono ?_; rintro e w' ⟨rfl, hb'⟩; replace st := st.below hb'; clear hb'; obtain ⟨x0, x1, x2, x3, x4, x5, x6, x7, x8, xf⟩ := nd_cells st.bn; have xt := st.bt))
        go_ret
        exact ⟨rfl, st.bel⟩
      | true =>
        cases t3 : bareB N false false true false with
        | false =>
          unfold vNd
          go_enter Tryz.func42, Tryz.ntmps42
          go_wp2_with (first | (go_at_call 57; refine (l2exprs_any _ _ ns N _ _ 0 1 st.a.t st.a.n st.a.k st.a.ok HLE.out st.a.ln st.a.l2).mono ?_; rintro e w' ⟨rfl, hb'⟩; replace st := st.below hb'; clear hb'; obtain ⟨x0, x1, x2, x3, x4, x5, x6, x7, x8, xf⟩ := nd_cells st.bn; have xt := st.bt) | (go_at_call 54; refine (kid_any st.a 0 HLT.out).mono ?_; rintro e w' ⟨rfl, hb'⟩; replace st := st.below hb'; clear hb'; obtain ⟨x0, x1, x2, x3, x4, x5, x6, x7, x8, xf⟩ := nd_cells st.bn; have xt := st.bt) | (go_at_call 55; refine (l2bare_fftf _ N _ _ st.a.n st.a.k st.a.l1).mono ?_; rintro e w' ⟨rfl, hb'⟩; replace st := st.below hb'; clear hb'; obtain ⟨x0, x1, x2, x3, x4, x5, x6, x7, x8, xf⟩ := nd_cells st.bn; have xt := st.bt) | (go_at_call 60; refine (l1nameok_any N.x HX.out _).mono ?_; rintro e w' ⟨rfl, hb'⟩; replace st := st.below hb'; clear hb'; obtain ⟨x0, x1, x2, x3, x4, x5, x6, x7, x8, xf⟩ := nd_cells st.bn; have xt := st.bt))
          go_ret
          exact ⟨rfl, st.bel⟩
        | true =>
          cases t4 : nmok N.x with
          | false =>
            unfold vNd
            go_enter Tryz.func42, Tryz.ntmps42
            go_wp2_with (first | (go_at_call 57; refine (l2exprs_any _ _ ns N _ _ 0 1 st.a.t st.a.n st.a.k st.a.ok HLE.out st.a.ln st.a.l2).mono ?_; rintro e w' ⟨rfl, hb'⟩; replace st := st.below hb'; clear hb'; obtain ⟨x0, x1, x2, x3, x4, x5, x6, x7, x8, xf⟩ := nd_cells st.bn; have xt := st.bt) | (go_at_call 54; refine (kid_any st.a 0 HLT.out).mono ?_; rintro e w' ⟨rfl, hb'⟩; replace st := st.below hb'; clear hb'; obtain ⟨x0, x1, x2, x3, x4, x5, x6, x7, x8, xf⟩ := nd_cells st.bn; have xt := st.bt) | (go_at_call 55; refine (l2bare_fftf _ N _ _ st.a.n st.a.k st.a.l1).mono ?_; rintro e w' ⟨rfl, hb'⟩; replace st := st.below hb'; clear hb'; obtain ⟨x0, x1, x2, x3, x4, x5, x6, x7, x8, xf⟩ := nd_cells st.bn; have xt := st.bt) | (go_at_call 60; refine (l1nameok_any N.x HX.out _).mono ?_; rintro e w' ⟨rfl, hb'⟩; replace st := st.below hb'; clear hb'; obtain ⟨x0, x1, x2, x3, x4, x5, x6, x7, x8, xf⟩ := nd_cells st.bn; have xt := st.bt))
            go_ret
            exact ⟨rfl, st.bel⟩
          | true =>
            unfold vNd
            go_enter Tryz.func42, Tryz.ntmps42
            go_wp2_with (first | (go_at_call 57; refine (l2exprs_any _ _ ns N _ _ 0 1 st.a.t st.a.n st.a.k st.a.ok HLE.out st.a.ln st.a.l2).mono ?_; rintro e w' ⟨rfl, hb'⟩; replace st := st.below hb'; clear hb'; obtain ⟨x0, x1, x2, x3, x4, x5, x6, x7, x8, xf⟩ := nd_cells st.bn; have xt := st.bt) | (go_at_call 54; refine (kid_any st.a 0 HLT.out).mono ?_; rintro e w' ⟨rfl, hb'⟩; replace st := st.below hb'; clear hb'; obtain ⟨x0, x1, x2, x3, x4, x5, x6, x7, x8, xf⟩ := nd_cells st.bn; have xt := st.bt) | (go_at_call 55; refine (l2bare_fftf _ N _ _ st.a.n st.a.k st.a.l1).mono ?_; rintro e w' ⟨rfl, hb'⟩; replace st := st.below hb'; clear hb'; obtain ⟨x0, x1, x2, x3, x4, x5, x6, x7, x8, xf⟩ := nd_cells st.bn; have xt := st.bt) | (go_at_call 60; refine (l1nameok_any N.x HX.out _).mono ?_; rintro e w' ⟨rfl, hb'⟩; replace st := st.below hb'; clear hb'; obtain ⟨x0, x1, x2, x3, x4, x5, x6, x7, x8, xf⟩ := nd_cells st.bn; have xt := st.bt))
            go_ret
            exact ⟨rfl, st.bel⟩

set_option maxRecDepth 100000 in
set_option maxHeartbeats 3200000 in
theorem l2ex_e34 {w : World} {vt : Value} {ns : List Nd} {N : Nd} {vn vk : Value} (A : NArg w vt ns N vn vk) (hK : N.k = 34) :
    Calls Tryz.prog 42 #[.agg #[vt], vNd N vn vk] w fun e w' => e = .returned (.bool (decide ((1 : Int) ≤ (N.ks.length : Int)) && exB ns N N.ks.length 0 && (kidK ns N 0 != 27) && bareB N false false false false)) ∧ Below w.heap.size w w' := by
  obtain ⟨a1, c1, rfl⟩ := A.t.form
  obtain ⟨a2, c2, rfl⟩ := A.n.form
  obtain ⟨a3, c3, rfl⟩ := A.k.form
  have st := St.start A
  have hlx := A.lx
  have HX : Hid (N.x.size ≤ 1100000) := by show _ ≤ _; omega
  clear A
  have q20 : (N.k == 20) = false := by rw [hK]; rfl
  have q21 : (N.k == 21) = false := by rw [hK]; rfl
  have q22 : (N.k == 22) = false := by rw [hK]; rfl
  have q27 : (N.k == 27) = false := by rw [hK]; rfl
  have q23 : (N.k == 23) = false := by rw [hK]; rfl
  have q24 : (N.k == 24) = false := by rw [hK]; rfl
  have q25 : (N.k == 25) = false := by rw [hK]; rfl
  have q26 : (N.k == 26) = false := by rw [hK]; rfl
  have q28 : (N.k == 28) = false := by rw [hK]; rfl
  have q29 : (N.k == 29) = false := by rw [hK]; rfl
  have q32 : (N.k == 32) = false := by rw [hK]; rfl
  have q30 : (N.k == 30) = false := by rw [hK]; rfl
  have q31 : (N.k == 31) = false := by rw [hK]; rfl
  have q33 : (N.k == 33) = false := by rw [hK]; rfl
  have q34 : (N.k == 34) = true := by rw [hK]; rfl
  clear hK
  cases t0 : decide ((1 : Int) ≤ (N.ks.length : Int)) with
  | false =>
    unfold vNd
    go_enter Tryz.func42, Tryz.ntmps42
    go_wp2_with (first | (go_at_call 57; refine (l2exprs_any _ _ ns N _ _ 0 N.ks.length st.a.t st.a.n st.a.k st.a.ok (Nat.le_refl _) st.a.ln st.a.l2).mono ?_; rintro e w' ⟨rfl, hb'⟩; replace st := st.below hb'; clear hb'; obtain ⟨x0, x1, x2, x3, x4, x5, x6, x7, x8, xf⟩ := nd_cells st.bn; have xt := st.bt) | (go_at_call 54; refine (kid_any st.a 0 HLT.out).mono ?_; rintro e w' ⟨rfl, hb'⟩; replace st := st.below hb'; clear hb'; obtain ⟨x0, x1, x2, x3, x4, x5, x6, x7, x8, xf⟩ := nd_cells st.bn; have xt := st.bt) | (go_at_call 55; refine (l2bare_ffff _ N _ _ st.a.n st.a.k st.a.l1).mono ?_; rintro e w' ⟨rfl, hb'⟩; replace st := st.below hb'; clear hb'; obtain ⟨x0, x1, x2, x3, x4, x5, x6, x7, x8, xf⟩ := nd_cells st.bn; have xt := st.bt))
    go_ret
    exact ⟨rfl, st.bel⟩
  | true =>
    have HLT : Hid (0 < N.ks.length) := by show _ < _; have := of_decide_eq_true t0; omega
    cases t1 : exB ns N N.ks.length 0 with
    | false =>
      unfold vNd
      go_enter Tryz.func42, Tryz.ntmps42
      go_wp2_with (first | (go_at_call 57; refine (l2exprs_any _ _ ns N _ _ 0 N.ks.length st.a.t st.a.n st.a.k st.a.ok (Nat.le_refl _) st.a.ln st.a.l2).mono ?_; rintro e w' ⟨rfl, hb'⟩; replace st := st.below hb'; clear hb'; obtain ⟨x0, x1, x2, x3, x4, x5, x6, x7, x8, xf⟩ := nd_cells st.bn; have xt := st.bt) | (go_at_call 54; refine (kid_any st.a 0 HLT.out).mono ?_; rintro e w' ⟨rfl, hb'⟩; replace st := st.below hb'; clear hb'; obtain ⟨x0, x1, x2, x3, x4, x5, x6, x7, x8, xf⟩ := nd_cells st.bn; have xt := st.bt) | (go_at_call 55; refine (l2bare_ffff _ N _ _ st.a.n st.a.k st.a.l1).mono ?_; rintro e w' ⟨rfl, hb'⟩; replace st := st.below hb'; clear hb'; obtain ⟨x0, x1, x2, x3, x4, x5, x6, x7, x8, xf⟩ := nd_cells st.bn; have xt := st.bt))
      go_ret
      exact ⟨rfl, st.bel⟩
    | true =>
      cases t2 : (kidK ns N 0 != 27) with
      | false =>
        unfold vNd
        go_enter Tryz.func42, Tryz.ntmps42
        go_wp2_with (first | (go_at_call 57; refine (l2exprs_any _ _ ns N _ _ 0 N.ks.length st.a.t st.a.n st.a.k st.a.ok (Nat.le_refl _) st.a.ln st.a.l2).mono ?_; rintro e w' ⟨rfl, hb'⟩; replace st := st.below hb'; clear hb'; obtain ⟨x0, x1, x2, x3, x4, x5, x6, x7, x8, xf⟩ := nd_cells st.bn; have xt := st.bt) | (go_at_call 54; refine (kid_any st.a 0 HLT.out).mono ?_; rintro e w' ⟨rfl, hb'⟩; replace st := st.below hb'; clear hb'; obtain ⟨x0, x1, x2, x3, x4, x5, x6, x7, x8, xf⟩ := nd_cells st.bn; have xt := st.bt) | (go_at_call 55; refine (l2bare_ffff _ N _ _ st.a.n st.a.k st.a.l1).mono ?_; rintro e w' ⟨rfl, hb'⟩; replace st := st.below hb'; clear hb'; obtain ⟨x0, x1, x2, x3, x4, x5, x6, x7, x8, xf⟩ := nd_cells st.bn; have xt := st.bt))
        go_ret
        exact ⟨rfl, st.bel⟩
      | true =>
        cases t3 : bareB N false false false false with
        | false =>
          unfold vNd
          go_enter Tryz.func42, Tryz.ntmps42
          go_wp2_with (first | (go_at_call 57; refine (l2exprs_any _ _ ns N _ _ 0 N.ks.length st.a.t st.a.n st.a.k st.a.ok (Nat.le_refl _) st.a.ln st.a.l2).mono ?_; rintro e w' ⟨rfl, hb'⟩; replace st := st.below hb'; clear hb'; obtain ⟨x0, x1, x2, x3, x4, x5, x6, x7, x8, xf⟩ := nd_cells st.bn; have xt := st.bt) | (go_at_call 54; refine (kid_any st.a 0 HLT.out).mono ?_; rintro e w' ⟨rfl, hb'⟩; replace st := st.below hb'; clear hb'; obtain ⟨x0, x1, x2, x3, x4, x5, x6, x7, x8, xf⟩ := nd_cells st.bn; have xt := st.bt) | (go_at_call 55; refine (l2bare_ffff _ N _ _ st.a.n st.a.k st.a.l1).mono ?_; rintro e w' ⟨rfl, hb'⟩; replace st := st.below hb'; clear hb'; obtain ⟨x0, x1, x2, x3, x4, x5, x6, x7, x8, xf⟩ := nd_cells st.bn; have xt := st.bt))
          go_ret
          exact ⟨rfl, st.bel⟩
        | true =>
          unfold vNd
          go_enter Tryz.func42, Tryz.ntmps42
          go_wp2_with (first | (go_at_call 57; refine (l2exprs_any _ _ ns N _ _ 0 N.ks.length st.a.t st.a.n st.a.k st.a.ok (Nat.le_refl _) st.a.ln st.a.l2).mono ?_; rintro e w' ⟨rfl, hb'⟩; replace st := st.below hb'; clear hb'; obtain ⟨x0, x1, x2, x3, x4, x5, x6, x7, x8, xf⟩ := nd_cells st.bn; have xt := st.bt) | (go_at_call 54; refine (kid_any st.a 0 HLT.out).mono ?_; rintro e w' ⟨rfl, hb'⟩; replace st := st.below hb'; clear hb'; obtain ⟨x0, x1, x2, x3, x4, x5, x6, x7, x8, xf⟩ := nd_cells st.bn; have xt := st.bt) | (go_at_call 55; refine (l2bare_ffff _ N _ _ st.a.n st.a.k st.a.l1).mono ?_; rintro e w' ⟨rfl, hb'⟩; replace st := st.below hb'; clear hb'; obtain ⟨x0, x1, x2, x3, x4, x5, x6, x7, x8, xf⟩ := nd_cells st.bn; have xt := st.bt))
          go_ret
          exact ⟨rfl, st.bel⟩
end Go.Proofs.YtdgbmihokecmhaaGreatDoor
