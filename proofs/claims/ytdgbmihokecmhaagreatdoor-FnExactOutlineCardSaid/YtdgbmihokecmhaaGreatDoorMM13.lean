import Derived.Test.YtdgbmihokecmhaaGreatDoorMM11
namespace Go.Proofs.YtdgbmihokecmhaaGreatDoor
open Go.RowKit Go.Maps Go.WideMaps
set_option linter.unusedVariables false

set_option maxRecDepth 100000 in
set_option maxHeartbeats 3200000 in
theorem l2ex_e40 {w : World} {vt : Value} {ns : List Nd} {N : Nd} {vn vk : Value} (A : NArg w vt ns N vn vk) (hK : N.k = 40) :
    Calls Tryz.prog 42 #[.agg #[vt], vNd N vn vk] w fun e w' => e = .returned (.bool (((N.ks.length : Int) == 1) && exB ns N 1 0 && bareB N false false false false)) ∧ Below w.heap.size w w' := by
  obtain ⟨a1, c1, rfl⟩ := A.t.form
  obtain ⟨a2, c2, rfl⟩ := A.n.form
  obtain ⟨a3, c3, rfl⟩ := A.k.form
  have st := St.start A
  have hlx := A.lx
  have HX : Hid (N.x.size ≤ 1100000) := by show _ ≤ _; omega
  clear A
  have q20 : (N.k == 20) = false := by rw [hK]; rfl
  have q21 : (N.k == 21) = false := by rw [hK]; rfl
  have q22 : (N.k == 22) = false := by rw [hK]; rfl
  have q27 : (N.k == 27) = false := by rw [hK]; rfl
  have q23 : (N.k == 23) = false := by rw [hK]; rfl
  have q24 : (N.k == 24) = false := by rw [hK]; rfl
  have q25 : (N.k == 25) = false := by rw [hK]; rfl
  have q26 : (N.k == 26) = false := by rw [hK]; rfl
  have q28 : (N.k == 28) = false := by rw [hK]; rfl
  have q29 : (N.k == 29) = false := by rw [hK]; rfl
  have q32 : (N.k == 32) = false := by rw [hK]; rfl
  have q30 : (N.k == 30) = false := by rw [hK]; rfl
  have q31 : (N.k == 31) = false := by rw [hK]; rfl
  have q33 : (N.k == 33) = false := by rw [hK]; rfl
  have q34 : (N.k == 34) = false := by rw [hK]; rfl
  have q35 : (N.k == 35) = false := by rw [hK]; rfl
  have q36 : (N.k == 36) = false := by rw [hK]; rfl
  have q37 : (N.k == 37) = false := by rw [hK]; rfl
  have q40 : (N.k == 40) = true := by rw [hK]; rfl
  clear hK
  cases t0 : ((N.ks.length : Int) == 1) with
  | false =>
    unfold vNd
    go_enter Tryz.func42, Tryz.ntmps42
    go_wp2_with (first | (go_at_call 57; refine (l2exprs_any _ _ ns N _ _ 0 1 st.a.t st.a.n st.a.k st.a.ok HLE.out st.a.ln st.a.l2).mono ?_; rintro e w' ⟨rfl, hb'⟩; replace st := st.below hb'; clear hb'; obtain ⟨x0, x1, x2, x3, x4, x5, x6, x7, x8, xf⟩ := nd_cells st.bn; have xt := st.bt) | (go_at_call 55; refine (l2bare_ffff _ N _ _ st.a.n st.a.k st.a.l1).mono ?_; rintro e w' ⟨rfl, hb'⟩; replace st := st.below hb'; clear hb'; obtain ⟨x0, x1, x2, x3, x4, x5, x6, x7, x8, xf⟩ := nd_cells st.bn; have xt := st.bt))
    go_ret
    exact ⟨rfl, st.bel⟩
  | true =>
    have HL : N.ks.length = 1 := by have := eq_of_beq t0; omega
    have HLE : Hid (1 ≤ N.ks.length) := by show _ ≤ _; omega
    have HLT : Hid (0 < N.ks.length) := by show _ < _; omega
    clear HL
    cases t1 : exB ns N 1 0 with
    | false =>
      unfold vNd
      go_enter Tryz.func42, Tryz.ntmps42
      go_wp2_with (first | (go_at_call 57; refine (l2exprs_any _ _ ns N _ _ 0 1 st.a.t st.a.n st.a.k st.a.ok HLE.out st.a.ln st.a.l2).mono ?_; rintro e w' ⟨rfl, hb'⟩; replace st := st.below hb'; clear hb'; obtain ⟨x0, x1, x2, x3, x4, x5, x6, x7, x8, xf⟩ := nd_cells st.bn; have xt := st.bt) | (go_at_call 55; refine (l2bare_ffff _ N _ _ st.a.n st.a.k st.a.l1).mono ?_; rintro e w' ⟨rfl, hb'⟩; replace st := st.below hb'; clear hb'; obtain ⟨x0, x1, x2, x3, x4, x5, x6, x7, x8, xf⟩ := nd_cells st.bn; have xt := st.bt))
      go_ret
      exact ⟨rfl, st.bel⟩
    | true =>
      cases t2 : bareB N false false false false with
      | false =>
        unfold vNd
        go_enter Tryz.func42, Tryz.ntmps42
        go_wp2_with (first | (go_at_call 57; refine (l2exprs_any _ _ ns N _ _ 0 1 st.a.t st.a.n st.a.k st.a.ok HLE.out st.a.ln st.a.l2).mono ?_; rintro e w' ⟨rfl, hb'⟩; replace st := st.below hb'; clear hb'; obtain ⟨x0, x1, x2, x3, x4, x5, x6, x7, x8, xf⟩ := nd_cells st.bn; have xt := st.bt) | (go_at_call 55; refine (l2bare_ffff _ N _ _ st.a.n st.a.k st.a.l1).mono ?_; rintro e w' ⟨rfl, hb'⟩; replace st := st.below hb'; clear hb'; obtain ⟨x0, x1, x2, x3, x4, x5, x6, x7, x8, xf⟩ := nd_cells st.bn; have xt := st.bt))
        go_ret
        exact ⟨rfl, st.bel⟩
      | true =>
        unfold vNd
        go_enter Tryz.func42, Tryz.ntmps42
        go_wp2_with (first | (go_at_call 57; refine (l2exprs_any _ _ ns N _ _ 0 1 st.a.t st.a.n st.a.k st.a.ok HLE.out st.a.ln st.a.l2).mono ?_; rintro e w' ⟨rfl, hb'⟩; replace st := st.below hb'; clear hb'; obtain ⟨x0, x1, x2, x3, x4, x5, x6, x7, x8, xf⟩ := nd_cells st.bn; have xt := st.bt) | (go_at_call 55; refine (l2bare_ffff _ N _ _ st.a.n st.a.k st.a.l1).mono ?_; rintro e w' ⟨rfl, hb'⟩; replace st := st.below hb'; clear hb'; obtain ⟨x0, x1, x2, x3, x4, x5, x6, x7, x8, xf⟩ := nd_cells st.bn; have xt := st.bt))
        go_ret
        exact ⟨rfl, st.bel⟩

set_option maxRecDepth 100000 in
set_option maxHeartbeats 3200000 in
theorem l2ex_e41 {w : World} {vt : Value} {ns : List Nd} {N : Nd} {vn vk : Value} (A : NArg w vt ns N vn vk) (hK : N.k = 41) :
    Calls Tryz.prog 42 #[.agg #[vt], vNd N vn vk] w fun e w' => e = .returned (.bool (((N.ks.length : Int) == 2) && exB ns N 2 0 && bareB N false false false false)) ∧ Below w.heap.size w w' := by
  obtain ⟨a1, c1, rfl⟩ := A.t.form
  obtain ⟨a2, c2, rfl⟩ := A.n.form
  obtain ⟨a3, c3, rfl⟩ := A.k.form
  have st := St.start A
  have hlx := A.lx
  have HX : Hid (N.x.size ≤ 1100000) := by show _ ≤ _; omega
  clear A
  have q20 : (N.k == 20) = false := by rw [hK]; rfl
  have q21 : (N.k == 21) = false := by rw [hK]; rfl
  have q22 : (N.k == 22) = false := by rw [hK]; rfl
  have q27 : (N.k == 27) = false := by rw [hK]; rfl
  have q23 : (N.k == 23) = false := by rw [hK]; rfl
  have q24 : (N.k == 24) = false := by rw [hK]; rfl
  have q25 : (N.k == 25) = false := by rw [hK]; rfl
  have q26 : (N.k == 26) = false := by rw [hK]; rfl
  have q28 : (N.k == 28) = false := by rw [hK]; rfl
  have q29 : (N.k == 29) = false := by rw [hK]; rfl
  have q32 : (N.k == 32) = false := by rw [hK]; rfl
  have q30 : (N.k == 30) = false := by rw [hK]; rfl
  have q31 : (N.k == 31) = false := by rw [hK]; rfl
  have q33 : (N.k == 33) = false := by rw [hK]; rfl
  have q34 : (N.k == 34) = false := by rw [hK]; rfl
  have q35 : (N.k == 35) = false := by rw [hK]; rfl
  have q36 : (N.k == 36) = false := by rw [hK]; rfl
  have q37 : (N.k == 37) = false := by rw [hK]; rfl
  have q40 : (N.k == 40) = false := by rw [hK]; rfl
  have q41 : (N.k == 41) = true := by rw [hK]; rfl
  clear hK
  cases t0 : ((N.ks.length : Int) == 2) with
  | false =>
    unfold vNd
    go_enter Tryz.func42, Tryz.ntmps42
    go_wp2_with (first | (go_at_call 57; refine (l2exprs_any _ _ ns N _ _ 0 2 st.a.t st.a.n st.a.k st.a.ok HLE.out st.a.ln st.a.l2).mono ?_; rintro e w' ⟨rfl, hb'⟩; replace st := st.below hb'; clear hb'; obtain ⟨x0, x1, x2, x3, x4, x5, x6, x7, x8, xf⟩ := nd_cells st.bn; have xt := st.bt) | (go_at_call 55; refine (l2bare_ffff _ N _ _ st.a.n st.a.k st.a.l1).mono ?_; rintro e w' ⟨rfl, hb'⟩; replace st := st.below hb'; clear hb'; obtain ⟨x0, x1, x2, x3, x4, x5, x6, x7, x8, xf⟩ := nd_cells st.bn; have xt := st.bt))
    go_ret
    exact ⟨rfl, st.bel⟩
  | true =>
    have HL : N.ks.length = 2 := by have := eq_of_beq t0; omega
    have HLE : Hid (2 ≤ N.ks.length) := by show _ ≤ _; omega
    have HLT : Hid (0 < N.ks.length) := by show _ < _; omega
    clear HL
    cases t1 : exB ns N 2 0 with
    | false =>
      unfold vNd
      go_enter Tryz.func42, Tryz.ntmps42
      go_wp2_with (first | (go_at_call 57; refine (l2exprs_any _ _ ns N _ _ 0 2 st.a.t st.a.n st.a.k st.a.ok HLE.out st.a.ln st.a.l2).mono ?_; rintro e w' ⟨rfl, hb'⟩; replace st := st.below hb'; clear hb'; obtain ⟨x0, x1, x2, x3, x4, x5, x6, x7, x8, xf⟩ := nd_cells st.bn; have xt := st.bt) | (go_at_call 55; refine (l2bare_ffff _ N _ _ st.a.n st.a.k st.a.l1).mono ?_; rintro e w' ⟨rfl, hb'⟩; replace st := st.below hb'; clear hb'; obtain ⟨x0, x1, x2, x3, x4, x5, x6, x7, x8, xf⟩ := nd_cells st.bn; have xt := st.bt))
      go_ret
      exact ⟨rfl, st.bel⟩
    | true =>
      cases t2 : bareB N false false false false with
      | false =>
        unfold vNd
        go_enter Tryz.func42, Tryz.ntmps42
        go_wp2_with (first | (go_at_call 57; refine (l2exprs_any _ _ ns N _ _ 0 2 st.a.t st.a.n st.a.k st.a.ok HLE.out st.a.ln st.a.l2).mono ?_; rintro e w' ⟨rfl, hb'⟩; replace st := st.below hb'; clear hb'; obtain ⟨x0, x1, x2, x3, x4, x5, x6, x7, x8, xf⟩ := nd_cells st.bn; have xt := st.bt) | (go_at_call 55; refine (l2bare_ffff _ N _ _ st.a.n st.a.k st.a.l1).mono ?_; rintro e w' ⟨rfl, hb'⟩; replace st := st.below hb'; clear hb'; obtain ⟨x0, x1, x2, x3, x4, x5, x6, x7, x8, xf⟩ := nd_cells st.bn; have xt := st.bt))
        go_ret
        exact ⟨rfl, st.bel⟩
      | true =>
        unfold vNd
        go_enter Tryz.func42, Tryz.ntmps42
        go_wp2_with (first | (go_at_call 57; refine (l2exprs_any _ _ ns N _ _ 0 2 st.a.t st.a.n st.a.k st.a.ok HLE.out st.a.ln st.a.l2).mono ?_; rintro e w' ⟨rfl, hb'⟩; replace st := st.below hb'; clear hb'; obtain ⟨x0, x1, x2, x3, x4, x5, x6, x7, x8, xf⟩ := nd_cells st.bn; have xt := st.bt) | (go_at_call 55; refine (l2bare_ffff _ N _ _ st.a.n st.a.k st.a.l1).mono ?_; rintro e w' ⟨rfl, hb'⟩; replace st := st.below hb'; clear hb'; obtain ⟨x0, x1, x2, x3, x4, x5, x6, x7, x8, xf⟩ := nd_cells st.bn; have xt := st.bt))
        go_ret
        exact ⟨rfl, st.bel⟩

set_option maxRecDepth 100000 in
set_option maxHeartbeats 3200000 in
theorem l2ex_e42 {w : World} {vt : Value} {ns : List Nd} {N : Nd} {vn vk : Value} (A : NArg w vt ns N vn vk) (hK : N.k = 42) :
    Calls Tryz.prog 42 #[.agg #[vt], vNd N vn vk] w fun e w' => e = .returned (.bool (((N.ks.length : Int) == 1) && exB ns N 1 0 && bareB N false false true false && nmok N.x)) ∧ Below w.heap.size w w' := by
  obtain ⟨a1, c1, rfl⟩ := A.t.form
  obtain ⟨a2, c2, rfl⟩ := A.n.form
  obtain ⟨a3, c3, rfl⟩ := A.k.form
  have st := St.start A
  have hlx := A.lx
  have HX : Hid (N.x.size ≤ 1100000) := by show _ ≤ _; omega
  clear A
  have q20 : (N.k == 20) = false := by rw [hK]; rfl
  have q21 : (N.k == 21) = false := by rw [hK]; rfl
  have q22 : (N.k == 22) = false := by rw [hK]; rfl
  have q27 : (N.k == 27) = false := by rw [hK]; rfl
  have q23 : (N.k == 23) = false := by rw [hK]; rfl
  have q24 : (N.k == 24) = false := by rw [hK]; rfl
  have q25 : (N.k == 25) = false := by rw [hK]; rfl
  have q26 : (N.k == 26) = false := by rw [hK]; rfl
  have q28 : (N.k == 28) = false := by rw [hK]; rfl
  have q29 : (N.k == 29) = false := by rw [hK]; rfl
  have q32 : (N.k == 32) = false := by rw [hK]; rfl
  have q30 : (N.k == 30) = false := by rw [hK]; rfl
  have q31 : (N.k == 31) = false := by rw [hK]; rfl
  have q33 : (N.k == 33) = false := by rw [hK]; rfl
  have q34 : (N.k == 34) = false := by rw [hK]; rfl
  have q35 : (N.k == 35) = false := by rw [hK]; rfl
  have q36 : (N.k == 36) = false := by rw [hK]; rfl
  have q37 : (N.k == 37) = false := by rw [hK]; rfl
  have q40 : (N.k == 40) = false := by rw [hK]; rfl
  have q41 : (N.k == 41) = false := by rw [hK]; rfl
  have q42 : (N.k == 42) = true := by rw [hK]; rfl
  clear hK
  cases t0 : ((N.ks.length : Int) == 1) with
  | false =>
    unfold vNd
    go_enter Tryz.func42, Tryz.ntmps42
    go_wp2_with (first | (go_at_call 57; refine (l2exprs_any _ _ ns N _ _ 0 1 st.a.t st.a.n st.a.k st.a.ok HLE.out st.a.ln st.a.l2).mono ?_; rintro e w' ⟨rfl, hb'⟩; replace st := st.below hb'; clear hb'; obtain ⟨x0, x1, x2, x3, x4, x5, x6, x7, x8, xf⟩ := nd_cells st.bn; have xt := st.bt) | (go_at_call 55; refine (l2bare_fftf _ N _ _ st.a.n st.a.k st.a.l1).mono ?_; rintro e w' ⟨rfl, hb'⟩; replace st := st.below hb'; clear hb'; obtain ⟨x0, x1, x2, x3, x4, x5, x6, x7, x8, xf⟩ := nd_cells st.bn; have xt := st.bt) | (go_at_call 60; refine (l1nameok_any N.x HX.out _).mono ?_; rintro e w' ⟨rfl, hb'⟩; replace st := st.below hb'; clear hb'; obtain ⟨x0, x1, x2, x3, x4, x5, x6, x7, x8, xf⟩ := nd_cells st.bn; have xt := st.bt))
    go_ret
    exact ⟨rfl, st.bel⟩
  | true =>
    have HL : N.ks.length = 1 := by have := eq_of_beq t0; omega
    have HLE : Hid (1 ≤ N.ks.length) := by show _ ≤ _; omega
    have HLT : Hid (0 < N.ks.length) := by show _ < _; omega
    clear HL
    cases t1 : exB ns N 1 0 with
    | false =>
      unfold vNd
      go_enter Tryz.func42, Tryz.ntmps42
      go_wp2_with (first | (go_at_call 57; refine (l2exprs_any _ _ ns N _ _ 0 1 st.a.t st.a.n st.a.k st.a.ok HLE.out st.a.ln st.a.l2).mono ?_; rintro e w' ⟨rfl, hb'⟩; replace st := st.below hb'; clear hb'; obtain ⟨x0, x1, x2, x3, x4, x5, x6, x7, x8, xf⟩ := nd_cells st.bn; have xt := st.bt) | (go_at_call 55; refine (l2bare_fftf _ N _ _ st.a.n st.a.k st.a.l1).mono ?_; rintro e w' ⟨rfl, hb'⟩; replace st := st.below hb'; clear hb'; obtain ⟨x0, x1, x2, x3, x4, x5, x6, x7, x8, xf⟩ := nd_cells st.bn; have xt := st.bt) | (go_at_call 60; refine (l1nameok_any N.x HX.out _).mono ?_; rintro e w' ⟨rfl, hb'⟩; replace st := st.below hb'; clear hb'; obtain ⟨x0, x1, x2, x3, x4, x5, x6, x7, x8, xf⟩ := nd_cells st.bn; have xt := st.bt))
      go_ret
      exact ⟨rfl, st.bel⟩
    | true =>
      cases t2 : bareB N false false true false with
      | false =>
        unfold vNd
        go_enter Tryz.func42, Tryz.ntmps42
        go_wp2_with (first | (go_at_call 57; refine (l2exprs_any _ _ ns N _ _ 0 1 st.a.t st.a.n st.a.k st.a.ok HLE.out st.a.ln st.a.l2).mono ?_; rintro e w' ⟨rfl, hb'⟩; replace st := st.below hb'; clear hb'; obtain ⟨x0, x1, x2, x3, x4, x5, x6, x7, x8, xf⟩ := nd_cells st.bn; have xt := st.bt) | (go_at_call 55; refine (l2bare_fftf _ N _ _ st.a.n st.a.k st.a.l1).mono ?_; rintro e w' ⟨rfl, hb'⟩; replace st := st.below hb'; clear hb'; obtain ⟨x0, x1, x2, x3, x4, x5, x6, x7, x8, xf⟩ := nd_cells st.bn; have xt := st.bt) | (go_at_call 60; refine (l1nameok_any N.x HX.out _).mono ?_; rintro e w' ⟨rfl, hb'⟩; replace st := st.below hb'; clear hb'; obtain ⟨x0, x1, x2, x3, x4, x5, x6, x7, x8, xf⟩ := nd_cells st.bn; have xt := st.bt))
        go_ret
        exact ⟨rfl, st.bel⟩
      | true =>
        cases t3 : nmok N.x with
        | false =>
          unfold vNd
          go_enter Tryz.func42, Tryz.ntmps42
          go_wp2_with (first | (go_at_call 57; refine (l2exprs_any _ _ ns N _ _ 0 1 st.a.t st.a.n st.a.k st.a.ok HLE.out st.a.ln st.a.l2).mono ?_; rintro e w' ⟨rfl, hb'⟩; replace st := st.below hb'; clear hb'; obtain ⟨x0, x1, x2, x3, x4, x5, x6, x7, x8, xf⟩ := nd_cells st.bn; have xt := st.bt) | (go_at_call 55; refine (l2bare_fftf _ N _ _ st.a.n st.a.k st.a.l1).mono ?_; rintro e w' ⟨rfl, hb'⟩; replace st := st.below hb'; clear hb'; obtain ⟨x0, x1, x2, x3, x4, x5, x6, x7, x8, xf⟩ := nd_cells st.bn; have xt := st.bt) | (go_at_call 60; refine (l1nameok_any N.x HX.out _).mono ?_; rintro e w' ⟨rfl, hb'⟩; replace st := st.below hb'; clear hb'; obtain ⟨x0, x1, x2, x3, x4, x5, x6, x7, x8, xf⟩ := nd_cells st.bn; have xt := st.bt))
          go_ret
          exact ⟨rfl, st.bel⟩
        | true =>
          unfold vNd
          go_enter Tryz.func42, Tryz.ntmps42
          go_wp2_with (first | (go_at_call 57; refine (l2exprs_any _ _ ns N _ _ 0 1 st.a.t st.a.n st.a.k st.a.ok HLE.out st.a.ln st.a.l2).mono ?_; rintro e w' ⟨rfl, hb'⟩; replace st := st.below hb'; clear hb'; obtain ⟨x0, x1, x2, x3, x4, x5, x6, x7, x8, xf⟩ := nd_cells st.bn; have xt := st.bt) | (go_at_call 55; refine (l2bare_fftf _ N _ _ st.a.n st.a.k st.a.l1).mono ?_; rintro e w' ⟨rfl, hb'⟩; replace st := st.below hb'; clear hb'; obtain ⟨x0, x1, x2, x3, x4, x5, x6, x7, x8, xf⟩ := nd_cells st.bn; have xt := st.bt) | (go_at_call 60; refine (l1nameok_any N.x HX.out _).mono ?_; rintro e w' ⟨rfl, hb'⟩; replace st := st.below hb'; clear hb'; obtain ⟨x0, x1, x2, x3, x4, x5, x6, x7, x8, xf⟩ := nd_cells st.bn; have xt := st.bt))
          go_ret
          exact ⟨rfl, st.bel⟩
end Go.Proofs.YtdgbmihokecmhaaGreatDoor

namespace Go.Proofs.YtdgbmihokecmhaaGreatDoor
open Go.RowKit Go.Maps Go.WideMaps
set_option linter.unusedVariables false

set_option maxRecDepth 100000 in
set_option maxHeartbeats 3200000 in
theorem l2ex_e36 {w : World} {vt : Value} {ns : List Nd} {N : Nd} {vn vk : Value} (A : NArg w vt ns N vn vk) (hK : N.k = 36) :
    Calls Tryz.prog 42 #[.agg #[vt], vNd N vn vk] w fun e w' => e = .returned (.bool (((N.ks.length : Int) == 1) && (kidK ns N 0 == 1) && bareB N true false false true && namedB N 0 200 && (N.op == 0 || N.op == 1))) ∧ Below w.heap.size w w' := by
  obtain ⟨a1, c1, rfl⟩ := A.t.form
  obtain ⟨a2, c2, rfl⟩ := A.n.form
  obtain ⟨a3, c3, rfl⟩ := A.k.form
  have st := St.start A
  have hlx := A.lx
  have HX : Hid (N.x.size ≤ 1100000) := by show _ ≤ _; omega
  clear A
  have q20 : (N.k == 20) = false := by rw [hK]; rfl
  have q21 : (N.k == 21) = false := by rw [hK]; rfl
  have q22 : (N.k == 22) = false := by rw [hK]; rfl
  have q27 : (N.k == 27) = false := by rw [hK]; rfl
  have q23 : (N.k == 23) = false := by rw [hK]; rfl
  have q24 : (N.k == 24) = false := by rw [hK]; rfl
  have q25 : (N.k == 25) = false := by rw [hK]; rfl
  have q26 : (N.k == 26) = false := by rw [hK]; rfl
  have q28 : (N.k == 28) = false := by rw [hK]; rfl
  have q29 : (N.k == 29) = false := by rw [hK]; rfl
  have q32 : (N.k == 32) = false := by rw [hK]; rfl
  have q30 : (N.k == 30) = false := by rw [hK]; rfl
  have q31 : (N.k == 31) = false := by rw [hK]; rfl
  have q33 : (N.k == 33) = false := by rw [hK]; rfl
  have q34 : (N.k == 34) = false := by rw [hK]; rfl
  have q35 : (N.k == 35) = false := by rw [hK]; rfl
  have q36 : (N.k == 36) = true := by rw [hK]; rfl
  clear hK
  cases t0 : ((N.ks.length : Int) == 1) with
  | false =>
    unfold vNd
    go_enter Tryz.func42, Tryz.ntmps42
    go_wp2_with (first | (go_at_call 54; refine (kid_any st.a 0 HLT.out).mono ?_; rintro e w' ⟨rfl, hb'⟩; replace st := st.below hb'; clear hb'; obtain ⟨x0, x1, x2, x3, x4, x5, x6, x7, x8, xf⟩ := nd_cells st.bn; have xt := st.bt) | (go_at_call 55; refine (l2bare_tfft _ N _ _ st.a.n st.a.k st.a.l1).mono ?_; rintro e w' ⟨rfl, hb'⟩; replace st := st.below hb'; clear hb'; obtain ⟨x0, x1, x2, x3, x4, x5, x6, x7, x8, xf⟩ := nd_cells st.bn; have xt := st.bt) | (go_at_call 56; refine (l2named_any _ N _ _ 0 200 st.a.n st.a.k st.a.l1 st.a.ls).mono ?_; rintro e w' ⟨rfl, hb'⟩; replace st := st.below hb'; clear hb'; obtain ⟨x0, x1, x2, x3, x4, x5, x6, x7, x8, xf⟩ := nd_cells st.bn; have xt := st.bt))
    go_ret
    exact ⟨rfl, st.bel⟩
  | true =>
    have HL : N.ks.length = 1 := by have := eq_of_beq t0; omega
    have HLE : Hid (1 ≤ N.ks.length) := by show _ ≤ _; omega
    have HLT : Hid (0 < N.ks.length) := by show _ < _; omega
    clear HL
    cases t1 : (kidK ns N 0 == 1) with
    | false =>
      unfold vNd
      go_enter Tryz.func42, Tryz.ntmps42
      go_wp2_with (first | (go_at_call 54; refine (kid_any st.a 0 HLT.out).mono ?_; rintro e w' ⟨rfl, hb'⟩; replace st := st.below hb'; clear hb'; obtain ⟨x0, x1, x2, x3, x4, x5, x6, x7, x8, xf⟩ := nd_cells st.bn; have xt := st.bt) | (go_at_call 55; refine (l2bare_tfft _ N _ _ st.a.n st.a.k st.a.l1).mono ?_; rintro e w' ⟨rfl, hb'⟩; replace st := st.below hb'; clear hb'; obtain ⟨x0, x1, x2, x3, x4, x5, x6, x7, x8, xf⟩ := nd_cells st.bn; have xt := st.bt) | (go_at_call 56; refine (l2named_any _ N _ _ 0 200 st.a.n st.a.k st.a.l1 st.a.ls).mono ?_; rintro e w' ⟨rfl, hb'⟩; replace st := st.below hb'; clear hb'; obtain ⟨x0, x1, x2, x3, x4, x5, x6, x7, x8, xf⟩ := nd_cells st.bn; have xt := st.bt))
      go_ret
      exact ⟨rfl, st.bel⟩
    | true =>
      cases t2 : bareB N true false false true with
      | false =>
        unfold vNd
        go_enter Tryz.func42, Tryz.ntmps42
        go_wp2_with (first | (go_at_call 54; refine (kid_any st.a 0 HLT.out).mono ?_; rintro e w' ⟨rfl, hb'⟩; replace st := st.below hb'; clear hb'; obtain ⟨x0, x1, x2, x3, x4, x5, x6, x7, x8, xf⟩ := nd_cells st.bn; have xt := st.bt) | (go_at_call 55; refine (l2bare_tfft _ N _ _ st.a.n st.a.k st.a.l1).mono ?_; rintro e w' ⟨rfl, hb'⟩; replace st := st.below hb'; clear hb'; obtain ⟨x0, x1, x2, x3, x4, x5, x6, x7, x8, xf⟩ := nd_cells st.bn; have xt := st.bt) | (go_at_call 56; refine (l2named_any _ N _ _ 0 200 st.a.n st.a.k st.a.l1 st.a.ls).mono ?_; rintro e w' ⟨rfl, hb'⟩; replace st := st.below hb'; clear hb'; obtain ⟨x0, x1, x2, x3, x4, x5, x6, x7, x8, xf⟩ := nd_cells st.bn; have xt := st.bt))
        go_ret
        exact ⟨rfl, st.bel⟩
      | true =>
        cases t3 : namedB N 0 200 with
        | false =>
          unfold vNd
          go_enter Tryz.func42, Tryz.ntmps42
          go_wp2_with (first | (go_at_call 54; refine (kid_any st.a 0 HLT.out).mono ?_; rintro e w' ⟨rfl, hb'⟩; replace st := st.below hb'; clear hb'; obtain ⟨x0, x1, x2, x3, x4, x5, x6, x7, x8, xf⟩ := nd_cells st.bn; have xt := st.bt) | (go_at_call 55; refine (l2bare_tfft _ N _ _ st.a.n st.a.k st.a.l1).mono ?_; rintro e w' ⟨rfl, hb'⟩; replace st := st.below hb'; clear hb'; obtain ⟨x0, x1, x2, x3, x4, x5, x6, x7, x8, xf⟩ := nd_cells st.bn; have xt := st.bt) | (go_at_call 56; refine (l2named_any _ N _ _ 0 200 st.a.n st.a.k st.a.l1 st.a.ls).mono ?_; rintro e w' ⟨rfl, hb'⟩; replace st := st.below hb'; clear hb'; obtain ⟨x0, x1, x2, x3, x4, x5, x6, x7, x8, xf⟩ := nd_cells st.bn; have xt := st.bt))
          go_ret
          exact ⟨rfl, st.bel⟩
        | true =>
          cases u4 : (N.op == 0) with
          | true =>
            unfold vNd
            go_enter Tryz.func42, Tryz.ntmps42
            go_wp2_with (first | (go_at_call 54; refine (kid_any st.a 0 HLT.out).mono ?_; rintro e w' ⟨rfl, hb'⟩; replace st := st.below hb'; clear hb'; obtain ⟨x0, x1, x2, x3, x4, x5, x6, x7, x8, xf⟩ := nd_cells st.bn; have xt := st.bt) | (go_at_call 55; refine (l2bare_tfft _ N _ _ st.a.n st.a.k st.a.l1).mono ?_; rintro e w' ⟨rfl, hb'⟩; replace st := st.below hb'; clear hb'; obtain ⟨x0, x1, x2, x3, x4, x5, x6, x7, x8, xf⟩ := nd_cells st.bn; have xt := st.bt) | (go_at_call 56; refine (l2named_any _ N _ _ 0 200 st.a.n st.a.k st.a.l1 st.a.ls).mono ?_; rintro e w' ⟨rfl, hb'⟩; replace st := st.below hb'; clear hb'; obtain ⟨x0, x1, x2, x3, x4, x5, x6, x7, x8, xf⟩ := nd_cells st.bn; have xt := st.bt))
            go_ret
            exact ⟨rfl, st.bel⟩
          | false =>
            cases v4 : (N.op == 1) with
            | true =>
              unfold vNd
              go_enter Tryz.func42, Tryz.ntmps42
              go_wp2_with (first | (go_at_call 54; refine (kid_any st.a 0 HLT.out).mono ?_; rintro e w' ⟨rfl, hb'⟩; replace st := st.below hb'; clear hb'; obtain ⟨x0, x1, x2, x3, x4, x5, x6, x7, x8, xf⟩ := nd_cells st.bn; have xt := st.bt) | (go_at_call 55; refine (l2bare_tfft _ N _ _ st.a.n st.a.k st.a.l1).mono ?_; rintro e w' ⟨rfl, hb'⟩; replace st := st.below hb'; clear hb'; obtain ⟨x0, x1, x2, x3, x4, x5, x6, x7, x8, xf⟩ := nd_cells st.bn; have xt := st.bt) | (go_at_call 56; refine (l2named_any _ N _ _ 0 200 st.a.n st.a.k st.a.l1 st.a.ls).mono ?_; rintro e w' ⟨rfl, hb'⟩; replace st := st.below hb'; clear hb'; obtain ⟨x0, x1, x2, x3, x4, x5, x6, x7, x8, xf⟩ := nd_cells st.bn; have xt := st.bt))
              go_ret
              exact ⟨rfl, st.bel⟩
            | false =>
              unfold vNd
              go_enter Tryz.func42, Tryz.ntmps42
              go_wp2_with (first | (go_at_call 54; refine (kid_any st.a 0 HLT.out).mono ?_; rintro e w' ⟨rfl, hb'⟩; replace st := st.below hb'; clear hb'; obtain ⟨x0, x1, x2, x3, x4, x5, x6, x7, x8, xf⟩ := nd_cells st.bn; have xt := st.bt) | (go_at_call 55; refine (l2bare_tfft _ N _ _ st.a.n st.a.k st.a.l1).mono ?_; rintro e w' ⟨rfl, hb'⟩; replace st := st.below hb'; clear hb'; obtain ⟨x0, x1, x2, x3, x4, x5, x6, x7, x8, xf⟩ := nd_cells st.bn; have xt := st.bt) | (go_at_call 56; refine (l2named_any _ N _ _ 0 200 st.a.n st.a.k st.a.l1 st.a.ls).mono ?_; rintro e w' ⟨rfl, hb'⟩; replace st := st.below hb'; clear hb'; obtain ⟨x0, x1, x2, x3, x4, x5, x6, x7, x8, xf⟩ := nd_cells st.bn; have xt := st.bt))
              go_ret
              exact ⟨rfl, st.bel⟩

set_option maxRecDepth 100000 in
set_option maxHeartbeats 3200000 in
theorem l2ex_e37 {w : World} {vt : Value} {ns : List Nd} {N : Nd} {vn vk : Value} (A : NArg w vt ns N vn vk) (hK : N.k = 37) :
    Calls Tryz.prog 42 #[.agg #[vt], vNd N vn vk] w fun e w' => e = .returned (.bool (((N.ks.length : Int) == 1) && (kidK ns N 0 == 34 || kidK ns N 0 == 27) && bareB N false false false false)) ∧ Below w.heap.size w w' := by
  obtain ⟨a1, c1, rfl⟩ := A.t.form
  obtain ⟨a2, c2, rfl⟩ := A.n.form
  obtain ⟨a3, c3, rfl⟩ := A.k.form
  have st := St.start A
  have hlx := A.lx
  have HX : Hid (N.x.size ≤ 1100000) := by show _ ≤ _; omega
  clear A
  have q20 : (N.k == 20) = false := by rw [hK]; rfl
  have q21 : (N.k == 21) = false := by rw [hK]; rfl
  have q22 : (N.k == 22) = false := by rw [hK]; rfl
  have q27 : (N.k == 27) = false := by rw [hK]; rfl
  have q23 : (N.k == 23) = false := by rw [hK]; rfl
  have q24 : (N.k == 24) = false := by rw [hK]; rfl
  have q25 : (N.k == 25) = false := by rw [hK]; rfl
  have q26 : (N.k == 26) = false := by rw [hK]; rfl
  have q28 : (N.k == 28) = false := by rw [hK]; rfl
  have q29 : (N.k == 29) = false := by rw [hK]; rfl
  have q32 : (N.k == 32) = false := by rw [hK]; rfl
  have q30 : (N.k == 30) = false := by rw [hK]; rfl
  have q31 : (N.k == 31) = false := by rw [hK]; rfl
  have q33 : (N.k == 33) = false := by rw [hK]; rfl
  have q34 : (N.k == 34) = false := by rw [hK]; rfl
  have q35 : (N.k == 35) = false := by rw [hK]; rfl
  have q36 : (N.k == 36) = false := by rw [hK]; rfl
  have q37 : (N.k == 37) = true := by rw [hK]; rfl
  clear hK
  cases t0 : ((N.ks.length : Int) == 1) with
  | false =>
    unfold vNd
    go_enter Tryz.func42, Tryz.ntmps42
    go_wp2_with (first | (go_at_call 54; refine (kid_any st.a 0 HLT.out).mono ?_; rintro e w' ⟨rfl, hb'⟩; replace st := st.below hb'; clear hb'; obtain ⟨x0, x1, x2, x3, x4, x5, x6, x7, x8, xf⟩ := nd_cells st.bn; have xt := st.bt) | (go_at_call 55; refine (l2bare_ffff _ N _ _ st.a.n st.a.k st.a.l1).mono ?_; rintro e w' ⟨rfl, hb'⟩; replace st := st.below hb'; clear hb'; obtain ⟨x0, x1, x2, x3, x4, x5, x6, x7, x8, xf⟩ := nd_cells st.bn; have xt := st.bt))
    go_ret
    exact ⟨rfl, st.bel⟩
  | true =>
    have HL : N.ks.length = 1 := by have := eq_of_beq t0; omega
    have HLE : Hid (1 ≤ N.ks.length) := by show _ ≤ _; omega
    have HLT : Hid (0 < N.ks.length) := by show _ < _; omega
    clear HL
    cases u1 : (kidK ns N 0 == 34) with
    | true =>
      cases t2 : bareB N false false false false with
      | false =>
        unfold vNd
        go_enter Tryz.func42, Tryz.ntmps42
        go_wp2_with (first | (go_at_call 54; refine (kid_any st.a 0 HLT.out).mono ?_; rintro e w' ⟨rfl, hb'⟩; replace st := st.below hb'; clear hb'; obtain ⟨x0, x1, x2, x3, x4, x5, x6, x7, x8, xf⟩ := nd_cells st.bn; have xt := st.bt) | (go_at_call 55; refine (l2bare_ffff _ N _ _ st.a.n st.a.k st.a.l1).mono ?_; rintro e w' ⟨rfl, hb'⟩; replace st := st.below hb'; clear hb'; obtain ⟨x0, x1, x2, x3, x4, x5, x6, x7, x8, xf⟩ := nd_cells st.bn; have xt := st.bt))
        go_ret
        exact ⟨rfl, st.bel⟩
      | true =>
        unfold vNd
        go_enter Tryz.func42, Tryz.ntmps42
        go_wp2_with (first | (go_at_call 54; refine (kid_any st.a 0 HLT.out).mono ?_; rintro e w' ⟨rfl, hb'⟩; replace st := st.below hb'; clear hb'; obtain ⟨x0, x1, x2, x3, x4, x5, x6, x7, x8, xf⟩ := nd_cells st.bn; have xt := st.bt) | (go_at_call 55; refine (l2bare_ffff _ N _ _ st.a.n st.a.k st.a.l1).mono ?_; rintro e w' ⟨rfl, hb'⟩; replace st := st.below hb'; clear hb'; obtain ⟨x0, x1, x2, x3, x4, x5, x6, x7, x8, xf⟩ := nd_cells st.bn; have xt := st.bt))
        go_ret
        exact ⟨rfl, st.bel⟩
    | false =>
      cases v1 : (kidK ns N 0 == 27) with
      | true =>
        cases t2 : bareB N false false false false with
        | false =>
          unfold vNd
          go_enter Tryz.func42, Tryz.ntmps42
          go_wp2_with (first | (go_at_call 54; refine (kid_any st.a 0 HLT.out).mono ?_; rintro e w' ⟨rfl, hb'⟩; replace st := st.below hb'; clear hb'; obtain ⟨x0, x1, x2, x3, x4, x5, x6, x7, x8, xf⟩ := nd_cells st.bn; have xt := st.bt) | (go_at_call 55; refine (l2bare_ffff _ N _ _ st.a.n st.a.k st.a.l1).mono ?_; rintro e w' ⟨rfl, hb'⟩; replace st := st.below hb'; clear hb'; obtain ⟨x0, x1, x2, x3, x4, x5, x6, x7, x8, xf⟩ := nd_cells st.bn; have xt := st.bt))
          go_ret
          exact ⟨rfl, st.bel⟩
        | true =>
          unfold vNd
          go_enter Tryz.func42, Tryz.ntmps42
          go_wp2_with (first | (go_at_call 54; refine (kid_any st.a 0 HLT.out).mono ?_; rintro e w' ⟨rfl, hb'⟩; replace st := st.below hb'; clear hb'; obtain ⟨x0, x1, x2, x3, x4, x5, x6, x7, x8, xf⟩ := nd_cells st.bn; have xt := st.bt) | (go_at_call 55; refine (l2bare_ffff _ N _ _ st.a.n st.a.k st.a.l1).mono ?_; rintro e w' ⟨rfl, hb'⟩; replace st := st.below hb'; clear hb'; obtain ⟨x0, x1, x2, x3, x4, x5, x6, x7, x8, xf⟩ := nd_cells st.bn; have xt := st.bt))
          go_ret
          exact ⟨rfl, st.bel⟩
      | false =>
        unfold vNd
        go_enter Tryz.func42, Tryz.ntmps42
        go_wp2_with (first | (go_at_call 54; refine (kid_any st.a 0 HLT.out).mono ?_; rintro e w' ⟨rfl, hb'⟩; replace st := st.below hb'; clear hb'; obtain ⟨x0, x1, x2, x3, x4, x5, x6, x7, x8, xf⟩ := nd_cells st.bn; have xt := st.bt) | (go_at_call 55; refine (l2bare_ffff _ N _ _ st.a.n st.a.k st.a.l1).mono ?_; rintro e w' ⟨rfl, hb'⟩; replace st := st.below hb'; clear hb'; obtain ⟨x0, x1, x2, x3, x4, x5, x6, x7, x8, xf⟩ := nd_cells st.bn; have xt := st.bt))
        go_ret
        exact ⟨rfl, st.bel⟩
end Go.Proofs.YtdgbmihokecmhaaGreatDoor

namespace Go.Proofs.YtdgbmihokecmhaaGreatDoor
open Go.RowKit Go.Maps Go.WideMaps
set_option linter.unusedVariables false

def exKinds : List Int := [20, 21, 22, 27, 23, 24, 25, 26, 28, 29, 32, 30, 31, 33, 34, 35, 36, 37, 40, 41, 42]
set_option maxRecDepth 100000 in
set_option maxHeartbeats 3200000 in
theorem l2ex_no {w : World} {vt : Value} {ns : List Nd} {N : Nd} {vn vk : Value} (A : NArg w vt ns N vn vk) (hK : ∀ c ∈ exKinds, N.k ≠ c) :
    Calls Tryz.prog 42 #[.agg #[vt], vNd N vn vk] w fun e w' => e = .returned (.bool false) ∧ Below w.heap.size w w' := by
  obtain ⟨a1, c1, rfl⟩ := A.t.form
  obtain ⟨a2, c2, rfl⟩ := A.n.form
  obtain ⟨a3, c3, rfl⟩ := A.k.form
  have st := St.start A
  clear A
  have q20 : (N.k == 20) = false := by rw [beq_eq_false_iff_ne]; exact fun h => hK 20 (by decide) h
  have q21 : (N.k == 21) = false := by rw [beq_eq_false_iff_ne]; exact fun h => hK 21 (by decide) h
  have q22 : (N.k == 22) = false := by rw [beq_eq_false_iff_ne]; exact fun h => hK 22 (by decide) h
  have q27 : (N.k == 27) = false := by rw [beq_eq_false_iff_ne]; exact fun h => hK 27 (by decide) h
  have q23 : (N.k == 23) = false := by rw [beq_eq_false_iff_ne]; exact fun h => hK 23 (by decide) h
  have q24 : (N.k == 24) = false := by rw [beq_eq_false_iff_ne]; exact fun h => hK 24 (by decide) h
  have q25 : (N.k == 25) = false := by rw [beq_eq_false_iff_ne]; exact fun h => hK 25 (by decide) h
  have q26 : (N.k == 26) = false := by rw [beq_eq_false_iff_ne]; exact fun h => hK 26 (by decide) h
  have q28 : (N.k == 28) = false := by rw [beq_eq_false_iff_ne]; exact fun h => hK 28 (by decide) h
  have q29 : (N.k == 29) = false := by rw [beq_eq_false_iff_ne]; exact fun h => hK 29 (by decide) h
  have q32 : (N.k == 32) = false := by rw [beq_eq_false_iff_ne]; exact fun h => hK 32 (by decide) h
  have q30 : (N.k == 30) = false := by rw [beq_eq_false_iff_ne]; exact fun h => hK 30 (by decide) h
  have q31 : (N.k == 31) = false := by rw [beq_eq_false_iff_ne]; exact fun h => hK 31 (by decide) h
  have q33 : (N.k == 33) = false := by rw [beq_eq_false_iff_ne]; exact fun h => hK 33 (by decide) h
  have q34 : (N.k == 34) = false := by rw [beq_eq_false_iff_ne]; exact fun h => hK 34 (by decide) h
  have q35 : (N.k == 35) = false := by rw [beq_eq_false_iff_ne]; exact fun h => hK 35 (by decide) h
  have q36 : (N.k == 36) = false := by rw [beq_eq_false_iff_ne]; exact fun h => hK 36 (by decide) h
  have q37 : (N.k == 37) = false := by rw [beq_eq_false_iff_ne]; exact fun h => hK 37 (by decide) h
  have q40 : (N.k == 40) = false := by rw [beq_eq_false_iff_ne]; exact fun h => hK 40 (by decide) h
  have q41 : (N.k == 41) = false := by rw [beq_eq_false_iff_ne]; exact fun h => hK 41 (by decide) h
  have q42 : (N.k == 42) = false := by rw [beq_eq_false_iff_ne]; exact fun h => hK 42 (by decide) h
  clear hK
  unfold vNd
  go_enter Tryz.func42, Tryz.ntmps42
  go_wp2
  go_ret
  exact ⟨rfl, st.bel⟩

/-- f kids from j on are entries. -/
def enB (ns : List Nd) (N : Nd) : Nat → Nat → Bool
  | 0, _ => true
  | f + 1, j => decide (40 ≤ kidK ns N j ∧ kidK ns N j ≤ 42) && enB ns N f (j + 1)
structure EnIs (ns : List Nd) (N : Nd) (f j : Nat) (R : Bool) : Prop where
  out : enB ns N f j = R
set_option maxRecDepth 100000 in
set_option maxHeartbeats 3200000 in
theorem l2ex_e35 {w : World} {vt : Value} {ns : List Nd} {N : Nd} {vn vk : Value} (A : NArg w vt ns N vn vk) (hK : N.k = 35) :
    Calls Tryz.prog 42 #[.agg #[vt], vNd N vn vk] w fun e w' => e = .returned (.bool (enB ns N N.ks.length 0 && bareB N false false false false)) ∧ Below w.heap.size w w' := by
  obtain ⟨a1, c1, rfl⟩ := A.t.form
  obtain ⟨a2, c2, rfl⟩ := A.n.form
  obtain ⟨a3, c3, rfl⟩ := A.k.form
  have st := St.start A
  have hl2 := A.l2
  clear A
  have q20 : (N.k == 20) = false := by rw [hK]; rfl
  have q21 : (N.k == 21) = false := by rw [hK]; rfl
  have q22 : (N.k == 22) = false := by rw [hK]; rfl
  have q27 : (N.k == 27) = false := by rw [hK]; rfl
  have q23 : (N.k == 23) = false := by rw [hK]; rfl
  have q24 : (N.k == 24) = false := by rw [hK]; rfl
  have q25 : (N.k == 25) = false := by rw [hK]; rfl
  have q26 : (N.k == 26) = false := by rw [hK]; rfl
  have q28 : (N.k == 28) = false := by rw [hK]; rfl
  have q29 : (N.k == 29) = false := by rw [hK]; rfl
  have q32 : (N.k == 32) = false := by rw [hK]; rfl
  have q30 : (N.k == 30) = false := by rw [hK]; rfl
  have q31 : (N.k == 31) = false := by rw [hK]; rfl
  have q33 : (N.k == 33) = false := by rw [hK]; rfl
  have q34 : (N.k == 34) = false := by rw [hK]; rfl
  have q35 : (N.k == 35) = true := by rw [hK]; rfl
  clear hK
  obtain ⟨R, hR⟩ : ∃ R, enB ns N N.ks.length 0 = R := ⟨_, rfl⟩
  rw [hR]
  have HR : EnIs ns N N.ks.length 0 R := ⟨hR⟩
  clear hR
  unfold vNd
  go_enter Tryz.func42, Tryz.ntmps42
  go_wp2_with fail
  generalize (w.alloc (.cells #[.slice a1 ns.length c1] 30)).alloc (.cells #[.int .i64 N.k, .int .i64 N.f, .int .i64 N.t, .int .i64 N.l, .int .i64 N.op, .int .i64 N.n, .string N.x, .slice a2 N.nm.length c2, .slice a3 N.ks.length c3] 67) = W2 at st ⊢
  go_loopw [6, 7, 200] (fun _ _ vj wr => ∃ (j : Nat), vj = .int .i64 j ∧ j ≤ N.ks.length ∧ EnIs ns N (N.ks.length - j) j R ∧ St w (.slice a1 ns.length c1) ns N (.slice a2 N.nm.length c2) (.slice a3 N.ks.length c3) wr) (fun _ _ vj _ => N.ks.length - (intOf vj).toNat)
  case atStart => exact ⟨0, rfl, by omega, HR, st⟩
  case round =>
    clear st
    obtain ⟨j, rfl, hj, HJ, st⟩ := hrel
    obtain ⟨x0, x1, x2, x3, x4, x5, x6, x7, x8, xf⟩ := nd_cells st.bn
    have xt := st.bt
    have hst := HJ.out
    by_cases hlt : j < N.ks.length
    · rw [show N.ks.length - j = (N.ks.length - (j + 1)) + 1 by omega, enB] at hst
      have hji : (j : Int) < (N.ks.length : Int) := by omega
      have ke := kid_any st.a j hlt
      unfold vNd at ke
      generalize kidK ns N j = m at hst ke
      by_cases g1 : m < 40
      · rw [decide_eq_false (by omega), Bool.false_and] at hst
        have HS : Hid (false = R) := hst
        clear hst
        go_wp2_with (go_at_call 54; refine ke.mono ?_; rintro e w' ⟨rfl, hb'⟩; replace st := st.below hb'; clear hb'; obtain ⟨x0, x1, x2, x3, x4, x5, x6, x7, x8, xf⟩ := nd_cells st.bn; have xt := st.bt)
        go_ret
        exact ⟨by rw [← HS.out]; rfl, st.bel⟩
      by_cases g2 : 42 < m
      · rw [decide_eq_false (by omega), Bool.false_and] at hst
        have HS : Hid (false = R) := hst
        clear hst
        go_wp2_with (go_at_call 54; refine ke.mono ?_; rintro e w' ⟨rfl, hb'⟩; replace st := st.below hb'; clear hb'; obtain ⟨x0, x1, x2, x3, x4, x5, x6, x7, x8, xf⟩ := nd_cells st.bn; have xt := st.bt)
        go_ret
        exact ⟨by rw [← HS.out]; rfl, st.bel⟩
      rw [decide_eq_true (by omega), Bool.true_and] at hst
      have HS : EnIs ns N (N.ks.length - (j + 1)) (j + 1) R := ⟨hst⟩
      clear hst
      go_wp2_with (go_at_call 54; refine ke.mono ?_; rintro e w' ⟨rfl, hb'⟩; replace st := st.below hb'; clear hb'; obtain ⟨x0, x1, x2, x3, x4, x5, x6, x7, x8, xf⟩ := nd_cells st.bn; have xt := st.bt)
      exact ⟨⟨j + 1, by go_num, by omega, HS, st⟩, by simp [intOf]; omega⟩
    · rw [show N.ks.length - j = 0 by omega, enB] at hst
      have HS : Hid (true = R) := hst
      have hji : ¬ (j : Int) < (N.ks.length : Int) := by omega
      clear hst
      go_wp2_with (go_at_call 55; refine (l2bare_ffff _ N _ _ st.a.n st.a.k st.a.l1).mono ?_; rintro e w' ⟨rfl, hb'⟩; replace st := st.below hb'; clear hb'; obtain ⟨x0, x1, x2, x3, x4, x5, x6, x7, x8, xf⟩ := nd_cells st.bn; have xt := st.bt)
      go_ret
      exact ⟨by rw [← HS.out]; rfl, st.bel⟩
end Go.Proofs.YtdgbmihokecmhaaGreatDoor

namespace Go.Proofs.YtdgbmihokecmhaaGreatDoor
open Go.RowKit Go.Maps Go.WideMaps
set_option linter.unusedVariables false

theorem kid0_any {w : World} {vt : Value} {ns : List Nd} {N : Nd} {vn vk : Value} (A : NArg w vt ns N vn vk) (hi : 0 < N.ks.length) :
    Calls Tryz.prog 54 #[.agg #[vt], .agg #[.int .i64 N.k, .int .i64 N.f, .int .i64 N.t, .int .i64 N.l, .int .i64 N.op, .int .i64 N.n, .string N.x, vn, vk], .int .i64 0] w fun e w' => e = .returned (.int .i64 (kidK ns N 0)) ∧ Below w.heap.size w w' := kid_any A 0 hi
theorem kid1_any {w : World} {vt : Value} {ns : List Nd} {N : Nd} {vn vk : Value} (A : NArg w vt ns N vn vk) (hi : 1 < N.ks.length) :
    Calls Tryz.prog 54 #[.agg #[vt], .agg #[.int .i64 N.k, .int .i64 N.f, .int .i64 N.t, .int .i64 N.l, .int .i64 N.op, .int .i64 N.n, .string N.x, vn, vk], .int .i64 1] w fun e w' => e = .returned (.int .i64 (kidK ns N 1)) ∧ Below w.heap.size w w' := kid_any A 1 hi
end Go.Proofs.YtdgbmihokecmhaaGreatDoor
