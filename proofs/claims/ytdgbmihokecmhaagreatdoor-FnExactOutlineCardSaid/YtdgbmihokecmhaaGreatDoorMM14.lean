import Derived.Test.YtdgbmihokecmhaaGreatDoorMM13
namespace Go.Proofs.YtdgbmihokecmhaaGreatDoor
open Go.RowKit Go.Maps Go.WideMaps
set_option linter.unusedVariables false

set_option maxRecDepth 100000 in
set_option maxHeartbeats 3200000 in
theorem l2st_s11 {w : World} {vt : Value} {ns : List Nd} {N : Nd} {vn vk : Value} (A : NArg w vt ns N vn vk) (hK : N.k = 11) :
    Calls Tryz.prog 41 #[.agg #[vt], vNd N vn vk] w fun e w' => e = .returned (.bool (bareB N false false false false && ((N.ks.length : Int) == 0))) ∧ Below w.heap.size w w' := by
  obtain ⟨a1, c1, rfl⟩ := A.t.form
  obtain ⟨a2, c2, rfl⟩ := A.n.form
  obtain ⟨a3, c3, rfl⟩ := A.k.form
  have st := St.start A
  have hlx := A.lx
  have HX : Hid (N.x.size ≤ 1100000) := by show _ ≤ _; omega
  clear A
  have q1 : (N.k == 1) = false := by rw [hK]; rfl
  have q2 : (N.k == 2) = false := by rw [hK]; rfl
  have q3 : (N.k == 3) = false := by rw [hK]; rfl
  have q4 : (N.k == 4) = false := by rw [hK]; rfl
  have q5 : (N.k == 5) = false := by rw [hK]; rfl
  have q6 : (N.k == 6) = false := by rw [hK]; rfl
  have q16 : (N.k == 16) = false := by rw [hK]; rfl
  have q7 : (N.k == 7) = false := by rw [hK]; rfl
  have q8 : (N.k == 8) = false := by rw [hK]; rfl
  have q9 : (N.k == 9) = false := by rw [hK]; rfl
  have q10 : (N.k == 10) = false := by rw [hK]; rfl
  have q11 : (N.k == 11) = true := by rw [hK]; rfl
  clear hK
  cases t0 : bareB N false false false false with
  | false =>
    unfold vNd
    go_enter Tryz.func41, Tryz.ntmps41
    go_wp2_with (first | (go_at_call 55; refine (l2bare_ffff _ N _ _ st.a.n st.a.k st.a.l1).mono ?_; rintro e w' ⟨rfl, hb'⟩; replace st := st.below hb'; clear hb'; obtain ⟨x0, x1, x2, x3, x4, x5, x6, x7, x8, xf⟩ := nd_cells st.bn; have xt := st.bt))
    go_ret
    exact ⟨rfl, st.bel⟩
  | true =>
    cases t1 : ((N.ks.length : Int) == 0) with
    | false =>
      unfold vNd
      go_enter Tryz.func41, Tryz.ntmps41
      go_wp2_with (first | (go_at_call 55; refine (l2bare_ffff _ N _ _ st.a.n st.a.k st.a.l1).mono ?_; rintro e w' ⟨rfl, hb'⟩; replace st := st.below hb'; clear hb'; obtain ⟨x0, x1, x2, x3, x4, x5, x6, x7, x8, xf⟩ := nd_cells st.bn; have xt := st.bt))
      go_ret
      exact ⟨rfl, st.bel⟩
    | true =>
      have HL : N.ks.length = 0 := by have := eq_of_beq t1; omega
      clear HL
      unfold vNd
      go_enter Tryz.func41, Tryz.ntmps41
      go_wp2_with (first | (go_at_call 55; refine (l2bare_ffff _ N _ _ st.a.n st.a.k st.a.l1).mono ?_; rintro e w' ⟨rfl, hb'⟩; replace st := st.below hb'; clear hb'; obtain ⟨x0, x1, x2, x3, x4, x5, x6, x7, x8, xf⟩ := nd_cells st.bn; have xt := st.bt))
      go_ret
      exact ⟨rfl, st.bel⟩

set_option maxRecDepth 100000 in
set_option maxHeartbeats 3200000 in
theorem l2st_s12 {w : World} {vt : Value} {ns : List Nd} {N : Nd} {vn vk : Value} (A : NArg w vt ns N vn vk) (hK : N.k = 12) :
    Calls Tryz.prog 41 #[.agg #[vt], vNd N vn vk] w fun e w' => e = .returned (.bool (bareB N false false false false && ((N.ks.length : Int) == 0))) ∧ Below w.heap.size w w' := by
  obtain ⟨a1, c1, rfl⟩ := A.t.form
  obtain ⟨a2, c2, rfl⟩ := A.n.form
  obtain ⟨a3, c3, rfl⟩ := A.k.form
  have st := St.start A
  have hlx := A.lx
  have HX : Hid (N.x.size ≤ 1100000) := by show _ ≤ _; omega
  clear A
  have q1 : (N.k == 1) = false := by rw [hK]; rfl
  have q2 : (N.k == 2) = false := by rw [hK]; rfl
  have q3 : (N.k == 3) = false := by rw [hK]; rfl
  have q4 : (N.k == 4) = false := by rw [hK]; rfl
  have q5 : (N.k == 5) = false := by rw [hK]; rfl
  have q6 : (N.k == 6) = false := by rw [hK]; rfl
  have q16 : (N.k == 16) = false := by rw [hK]; rfl
  have q7 : (N.k == 7) = false := by rw [hK]; rfl
  have q8 : (N.k == 8) = false := by rw [hK]; rfl
  have q9 : (N.k == 9) = false := by rw [hK]; rfl
  have q10 : (N.k == 10) = false := by rw [hK]; rfl
  have q11 : (N.k == 11) = false := by rw [hK]; rfl
  have q12 : (N.k == 12) = true := by rw [hK]; rfl
  clear hK
  cases t0 : bareB N false false false false with
  | false =>
    unfold vNd
    go_enter Tryz.func41, Tryz.ntmps41
    go_wp2_with (first | (go_at_call 55; refine (l2bare_ffff _ N _ _ st.a.n st.a.k st.a.l1).mono ?_; rintro e w' ⟨rfl, hb'⟩; replace st := st.below hb'; clear hb'; obtain ⟨x0, x1, x2, x3, x4, x5, x6, x7, x8, xf⟩ := nd_cells st.bn; have xt := st.bt))
    go_ret
    exact ⟨rfl, st.bel⟩
  | true =>
    cases t1 : ((N.ks.length : Int) == 0) with
    | false =>
      unfold vNd
      go_enter Tryz.func41, Tryz.ntmps41
      go_wp2_with (first | (go_at_call 55; refine (l2bare_ffff _ N _ _ st.a.n st.a.k st.a.l1).mono ?_; rintro e w' ⟨rfl, hb'⟩; replace st := st.below hb'; clear hb'; obtain ⟨x0, x1, x2, x3, x4, x5, x6, x7, x8, xf⟩ := nd_cells st.bn; have xt := st.bt))
      go_ret
      exact ⟨rfl, st.bel⟩
    | true =>
      have HL : N.ks.length = 0 := by have := eq_of_beq t1; omega
      clear HL
      unfold vNd
      go_enter Tryz.func41, Tryz.ntmps41
      go_wp2_with (first | (go_at_call 55; refine (l2bare_ffff _ N _ _ st.a.n st.a.k st.a.l1).mono ?_; rintro e w' ⟨rfl, hb'⟩; replace st := st.below hb'; clear hb'; obtain ⟨x0, x1, x2, x3, x4, x5, x6, x7, x8, xf⟩ := nd_cells st.bn; have xt := st.bt))
      go_ret
      exact ⟨rfl, st.bel⟩

set_option maxRecDepth 100000 in
set_option maxHeartbeats 3200000 in
theorem l2st_s3 {w : World} {vt : Value} {ns : List Nd} {N : Nd} {vn vk : Value} (A : NArg w vt ns N vn vk) (hK : N.k = 3) :
    Calls Tryz.prog 41 #[.agg #[vt], vNd N vn vk] w fun e w' => e = .returned (.bool (bareB N false false false true && namedB N 1 1 && ((N.ks.length : Int) == 1) && exB ns N 1 0)) ∧ Below w.heap.size w w' := by
  obtain ⟨a1, c1, rfl⟩ := A.t.form
  obtain ⟨a2, c2, rfl⟩ := A.n.form
  obtain ⟨a3, c3, rfl⟩ := A.k.form
  have st := St.start A
  have hlx := A.lx
  have HX : Hid (N.x.size ≤ 1100000) := by show _ ≤ _; omega
  clear A
  have q1 : (N.k == 1) = false := by rw [hK]; rfl
  have q2 : (N.k == 2) = false := by rw [hK]; rfl
  have q3 : (N.k == 3) = true := by rw [hK]; rfl
  clear hK
  cases t0 : bareB N false false false true with
  | false =>
    unfold vNd
    go_enter Tryz.func41, Tryz.ntmps41
    go_wp2_with (first | (go_at_call 55; refine (l2bare_ffft _ N _ _ st.a.n st.a.k st.a.l1).mono ?_; rintro e w' ⟨rfl, hb'⟩; replace st := st.below hb'; clear hb'; obtain ⟨x0, x1, x2, x3, x4, x5, x6, x7, x8, xf⟩ := nd_cells st.bn; have xt := st.bt) | (go_at_call 56; refine (l2named_any _ N _ _ 1 1 st.a.n st.a.k st.a.l1 st.a.ls).mono ?_; rintro e w' ⟨rfl, hb'⟩; replace st := st.below hb'; clear hb'; obtain ⟨x0, x1, x2, x3, x4, x5, x6, x7, x8, xf⟩ := nd_cells st.bn; have xt := st.bt) | (go_at_call 57; refine (l2exprs_any _ _ ns N _ _ 0 1 st.a.t st.a.n st.a.k st.a.ok HLE.out st.a.ln st.a.l2).mono ?_; rintro e w' ⟨rfl, hb'⟩; replace st := st.below hb'; clear hb'; obtain ⟨x0, x1, x2, x3, x4, x5, x6, x7, x8, xf⟩ := nd_cells st.bn; have xt := st.bt))
    go_ret
    exact ⟨rfl, st.bel⟩
  | true =>
    cases t1 : namedB N 1 1 with
    | false =>
      unfold vNd
      go_enter Tryz.func41, Tryz.ntmps41
      go_wp2_with (first | (go_at_call 55; refine (l2bare_ffft _ N _ _ st.a.n st.a.k st.a.l1).mono ?_; rintro e w' ⟨rfl, hb'⟩; replace st := st.below hb'; clear hb'; obtain ⟨x0, x1, x2, x3, x4, x5, x6, x7, x8, xf⟩ := nd_cells st.bn; have xt := st.bt) | (go_at_call 56; refine (l2named_any _ N _ _ 1 1 st.a.n st.a.k st.a.l1 st.a.ls).mono ?_; rintro e w' ⟨rfl, hb'⟩; replace st := st.below hb'; clear hb'; obtain ⟨x0, x1, x2, x3, x4, x5, x6, x7, x8, xf⟩ := nd_cells st.bn; have xt := st.bt) | (go_at_call 57; refine (l2exprs_any _ _ ns N _ _ 0 1 st.a.t st.a.n st.a.k st.a.ok HLE.out st.a.ln st.a.l2).mono ?_; rintro e w' ⟨rfl, hb'⟩; replace st := st.below hb'; clear hb'; obtain ⟨x0, x1, x2, x3, x4, x5, x6, x7, x8, xf⟩ := nd_cells st.bn; have xt := st.bt))
      go_ret
      exact ⟨rfl, st.bel⟩
    | true =>
      cases t2 : ((N.ks.length : Int) == 1) with
      | false =>
        unfold vNd
        go_enter Tryz.func41, Tryz.ntmps41
        go_wp2_with (first | (go_at_call 55; refine (l2bare_ffft _ N _ _ st.a.n st.a.k st.a.l1).mono ?_; rintro e w' ⟨rfl, hb'⟩; replace st := st.below hb'; clear hb'; obtain ⟨x0, x1, x2, x3, x4, x5, x6, x7, x8, xf⟩ := nd_cells st.bn; have xt := st.bt) | (go_at_call 56; refine (l2named_any _ N _ _ 1 1 st.a.n st.a.k st.a.l1 st.a.ls).mono ?_; rintro e w' ⟨rfl, hb'⟩; replace st := st.below hb'; clear hb'; obtain ⟨x0, x1, x2, x3, x4, x5, x6, x7, x8, xf⟩ := nd_cells st.bn; have xt := st.bt) | (go_at_call 57; refine (l2exprs_any _ _ ns N _ _ 0 1 st.a.t st.a.n st.a.k st.a.ok HLE.out st.a.ln st.a.l2).mono ?_; rintro e w' ⟨rfl, hb'⟩; replace st := st.below hb'; clear hb'; obtain ⟨x0, x1, x2, x3, x4, x5, x6, x7, x8, xf⟩ := nd_cells st.bn; have xt := st.bt))
        go_ret
        exact ⟨rfl, st.bel⟩
      | true =>
        have HL : N.ks.length = 1 := by have := eq_of_beq t2; omega
        have HLE : Hid (1 ≤ N.ks.length) := by show _ ≤ _; omega
        have HLT : Hid (0 < N.ks.length) := by show _ < _; omega
        clear HL
        cases t3 : exB ns N 1 0 with
        | false =>
          unfold vNd
          go_enter Tryz.func41, Tryz.ntmps41
          go_wp2_with (first | (go_at_call 55; refine (l2bare_ffft _ N _ _ st.a.n st.a.k st.a.l1).mono ?_; rintro e w' ⟨rfl, hb'⟩; replace st := st.below hb'; clear hb'; obtain ⟨x0, x1, x2, x3, x4, x5, x6, x7, x8, xf⟩ := nd_cells st.bn; have xt := st.bt) | (go_at_call 56; refine (l2named_any _ N _ _ 1 1 st.a.n st.a.k st.a.l1 st.a.ls).mono ?_; rintro e w' ⟨rfl, hb'⟩; replace st := st.below hb'; clear hb'; obtain ⟨x0, x1, x2, x3, x4, x5, x6, x7, x8, xf⟩ := nd_cells st.bn; have xt := st.bt) | (go_at_call 57; refine (l2exprs_any _ _ ns N _ _ 0 1 st.a.t st.a.n st.a.k st.a.ok HLE.out st.a.ln st.a.l2).mono ?_; rintro e w' ⟨rfl, hb'⟩; replace st := st.below hb'; clear hb'; obtain ⟨x0, x1, x2, x3, x4, x5, x6, x7, x8, xf⟩ := nd_cells st.bn; have xt := st.bt))
          go_ret
          exact ⟨rfl, st.bel⟩
        | true =>
          unfold vNd
          go_enter Tryz.func41, Tryz.ntmps41
          go_wp2_with (first | (go_at_call 55; refine (l2bare_ffft _ N _ _ st.a.n st.a.k st.a.l1).mono ?_; rintro e w' ⟨rfl, hb'⟩; replace st := st.below hb'; clear hb'; obtain ⟨x0, x1, x2, x3, x4, x5, x6, x7, x8, xf⟩ := nd_cells st.bn; have xt := st.bt) | (go_at_call 56; refine (l2named_any _ N _ _ 1 1 st.a.n st.a.k st.a.l1 st.a.ls).mono ?_; rintro e w' ⟨rfl, hb'⟩; replace st := st.below hb'; clear hb'; obtain ⟨x0, x1, x2, x3, x4, x5, x6, x7, x8, xf⟩ := nd_cells st.bn; have xt := st.bt) | (go_at_call 57; refine (l2exprs_any _ _ ns N _ _ 0 1 st.a.t st.a.n st.a.k st.a.ok HLE.out st.a.ln st.a.l2).mono ?_; rintro e w' ⟨rfl, hb'⟩; replace st := st.below hb'; clear hb'; obtain ⟨x0, x1, x2, x3, x4, x5, x6, x7, x8, xf⟩ := nd_cells st.bn; have xt := st.bt))
          go_ret
          exact ⟨rfl, st.bel⟩

set_option maxRecDepth 100000 in
set_option maxHeartbeats 3200000 in
theorem l2st_s8 {w : World} {vt : Value} {ns : List Nd} {N : Nd} {vn vk : Value} (A : NArg w vt ns N vn vk) (hK : N.k = 8) :
    Calls Tryz.prog 41 #[.agg #[vt], vNd N vn vk] w fun e w' => e = .returned (.bool (bareB N false false false false && ((N.ks.length : Int) == 2) && exB ns N 1 0 && (kidK ns N 1 == 1))) ∧ Below w.heap.size w w' := by
  obtain ⟨a1, c1, rfl⟩ := A.t.form
  obtain ⟨a2, c2, rfl⟩ := A.n.form
  obtain ⟨a3, c3, rfl⟩ := A.k.form
  have st := St.start A
  have hlx := A.lx
  have HX : Hid (N.x.size ≤ 1100000) := by show _ ≤ _; omega
  clear A
  have q1 : (N.k == 1) = false := by rw [hK]; rfl
  have q2 : (N.k == 2) = false := by rw [hK]; rfl
  have q3 : (N.k == 3) = false := by rw [hK]; rfl
  have q4 : (N.k == 4) = false := by rw [hK]; rfl
  have q5 : (N.k == 5) = false := by rw [hK]; rfl
  have q6 : (N.k == 6) = false := by rw [hK]; rfl
  have q16 : (N.k == 16) = false := by rw [hK]; rfl
  have q7 : (N.k == 7) = false := by rw [hK]; rfl
  have q8 : (N.k == 8) = true := by rw [hK]; rfl
  clear hK
  cases t0 : bareB N false false false false with
  | false =>
    unfold vNd
    go_enter Tryz.func41, Tryz.ntmps41
    go_wp2_with (first | (go_at_call 55; refine (l2bare_ffff _ N _ _ st.a.n st.a.k st.a.l1).mono ?_; rintro e w' ⟨rfl, hb'⟩; replace st := st.below hb'; clear hb'; obtain ⟨x0, x1, x2, x3, x4, x5, x6, x7, x8, xf⟩ := nd_cells st.bn; have xt := st.bt) | (go_at_call 57; refine (l2exprs_any _ _ ns N _ _ 0 1 st.a.t st.a.n st.a.k st.a.ok HLE.out st.a.ln st.a.l2).mono ?_; rintro e w' ⟨rfl, hb'⟩; replace st := st.below hb'; clear hb'; obtain ⟨x0, x1, x2, x3, x4, x5, x6, x7, x8, xf⟩ := nd_cells st.bn; have xt := st.bt) | (go_at_call 54; with_reducible refine (kid1_any st.a HLT1.out).mono ?_; rintro e w' ⟨rfl, hb'⟩; replace st := st.below hb'; clear hb'; obtain ⟨x0, x1, x2, x3, x4, x5, x6, x7, x8, xf⟩ := nd_cells st.bn; have xt := st.bt))
    go_ret
    exact ⟨rfl, st.bel⟩
  | true =>
    cases t1 : ((N.ks.length : Int) == 2) with
    | false =>
      unfold vNd
      go_enter Tryz.func41, Tryz.ntmps41
      go_wp2_with (first | (go_at_call 55; refine (l2bare_ffff _ N _ _ st.a.n st.a.k st.a.l1).mono ?_; rintro e w' ⟨rfl, hb'⟩; replace st := st.below hb'; clear hb'; obtain ⟨x0, x1, x2, x3, x4, x5, x6, x7, x8, xf⟩ := nd_cells st.bn; have xt := st.bt) | (go_at_call 57; refine (l2exprs_any _ _ ns N _ _ 0 1 st.a.t st.a.n st.a.k st.a.ok HLE.out st.a.ln st.a.l2).mono ?_; rintro e w' ⟨rfl, hb'⟩; replace st := st.below hb'; clear hb'; obtain ⟨x0, x1, x2, x3, x4, x5, x6, x7, x8, xf⟩ := nd_cells st.bn; have xt := st.bt) | (go_at_call 54; with_reducible refine (kid1_any st.a HLT1.out).mono ?_; rintro e w' ⟨rfl, hb'⟩; replace st := st.below hb'; clear hb'; obtain ⟨x0, x1, x2, x3, x4, x5, x6, x7, x8, xf⟩ := nd_cells st.bn; have xt := st.bt))
      go_ret
      exact ⟨rfl, st.bel⟩
    | true =>
      have HL : N.ks.length = 2 := by have := eq_of_beq t1; omega
      have HLE : Hid (1 ≤ N.ks.length) := by show _ ≤ _; omega
      have HLT : Hid (0 < N.ks.length) := by show _ < _; omega
      have HLT1 : Hid (1 < N.ks.length) := by show _ < _; omega
      clear HL
      cases t2 : exB ns N 1 0 with
      | false =>
        unfold vNd
        go_enter Tryz.func41, Tryz.ntmps41
        go_wp2_with (first | (go_at_call 55; refine (l2bare_ffff _ N _ _ st.a.n st.a.k st.a.l1).mono ?_; rintro e w' ⟨rfl, hb'⟩; replace st := st.below hb'; clear hb'; obtain ⟨x0, x1, x2, x3, x4, x5, x6, x7, x8, xf⟩ := nd_cells st.bn; have xt := st.bt) | (go_at_call 57; refine (l2exprs_any _ _ ns N _ _ 0 1 st.a.t st.a.n st.a.k st.a.ok HLE.out st.a.ln st.a.l2).mono ?_; rintro e w' ⟨rfl, hb'⟩; replace st := st.below hb'; clear hb'; obtain ⟨x0, x1, x2, x3, x4, x5, x6, x7, x8, xf⟩ := nd_cells st.bn; have xt := st.bt) | (go_at_call 54; with_reducible refine (kid1_any st.a HLT1.out).mono ?_; rintro e w' ⟨rfl, hb'⟩; replace st := st.below hb'; clear hb'; obtain ⟨x0, x1, x2, x3, x4, x5, x6, x7, x8, xf⟩ := nd_cells st.bn; have xt := st.bt))
        go_ret
        exact ⟨rfl, st.bel⟩
      | true =>
        cases t3 : (kidK ns N 1 == 1) with
        | false =>
          unfold vNd
          go_enter Tryz.func41, Tryz.ntmps41
          go_wp2_with (first | (go_at_call 55; refine (l2bare_ffff _ N _ _ st.a.n st.a.k st.a.l1).mono ?_; rintro e w' ⟨rfl, hb'⟩; replace st := st.below hb'; clear hb'; obtain ⟨x0, x1, x2, x3, x4, x5, x6, x7, x8, xf⟩ := nd_cells st.bn; have xt := st.bt) | (go_at_call 57; refine (l2exprs_any _ _ ns N _ _ 0 1 st.a.t st.a.n st.a.k st.a.ok HLE.out st.a.ln st.a.l2).mono ?_; rintro e w' ⟨rfl, hb'⟩; replace st := st.below hb'; clear hb'; obtain ⟨x0, x1, x2, x3, x4, x5, x6, x7, x8, xf⟩ := nd_cells st.bn; have xt := st.bt) | (go_at_call 54; with_reducible refine (kid1_any st.a HLT1.out).mono ?_; rintro e w' ⟨rfl, hb'⟩; replace st := st.below hb'; clear hb'; obtain ⟨x0, x1, x2, x3, x4, x5, x6, x7, x8, xf⟩ := nd_cells st.bn; have xt := st.bt))
          go_ret
          exact ⟨rfl, st.bel⟩
        | true =>
          unfold vNd
          go_enter Tryz.func41, Tryz.ntmps41
          go_wp2_with (first | (go_at_call 55; refine (l2bare_ffff _ N _ _ st.a.n st.a.k st.a.l1).mono ?_; rintro e w' ⟨rfl, hb'⟩; replace st := st.below hb'; clear hb'; obtain ⟨x0, x1, x2, x3, x4, x5, x6, x7, x8, xf⟩ := nd_cells st.bn; have xt := st.bt) | (go_at_call 57; refine (l2exprs_any _ _ ns N _ _ 0 1 st.a.t st.a.n st.a.k st.a.ok HLE.out st.a.ln st.a.l2).mono ?_; rintro e w' ⟨rfl, hb'⟩; replace st := st.below hb'; clear hb'; obtain ⟨x0, x1, x2, x3, x4, x5, x6, x7, x8, xf⟩ := nd_cells st.bn; have xt := st.bt) | (go_at_call 54; with_reducible refine (kid1_any st.a HLT1.out).mono ?_; rintro e w' ⟨rfl, hb'⟩; replace st := st.below hb'; clear hb'; obtain ⟨x0, x1, x2, x3, x4, x5, x6, x7, x8, xf⟩ := nd_cells st.bn; have xt := st.bt))
          go_ret
          exact ⟨rfl, st.bel⟩
end Go.Proofs.YtdgbmihokecmhaaGreatDoor

namespace Go.Proofs.YtdgbmihokecmhaaGreatDoor
open Go.RowKit Go.Maps Go.WideMaps
set_option linter.unusedVariables false

set_option maxRecDepth 100000 in
set_option maxHeartbeats 3200000 in
theorem l2st_s2 {w : World} {vt : Value} {ns : List Nd} {N : Nd} {vn vk : Value} (A : NArg w vt ns N vn vk) (hK : N.k = 2) :
    Calls Tryz.prog 41 #[.agg #[vt], vNd N vn vk] w fun e w' => e = .returned (.bool (bareB N false false false true && namedB N 1 200 && exB ns N N.ks.length 0)) ∧ Below w.heap.size w w' := by
  obtain ⟨a1, c1, rfl⟩ := A.t.form
  obtain ⟨a2, c2, rfl⟩ := A.n.form
  obtain ⟨a3, c3, rfl⟩ := A.k.form
  have st := St.start A
  have hlx := A.lx
  have HX : Hid (N.x.size ≤ 1100000) := by show _ ≤ _; omega
  clear A
  have q1 : (N.k == 1) = false := by rw [hK]; rfl
  have q2 : (N.k == 2) = true := by rw [hK]; rfl
  clear hK
  cases t0 : bareB N false false false true with
  | false =>
    unfold vNd
    go_enter Tryz.func41, Tryz.ntmps41
    go_wp2_with (first | (go_at_call 55; refine (l2bare_ffft _ N _ _ st.a.n st.a.k st.a.l1).mono ?_; rintro e w' ⟨rfl, hb'⟩; replace st := st.below hb'; clear hb'; obtain ⟨x0, x1, x2, x3, x4, x5, x6, x7, x8, xf⟩ := nd_cells st.bn; have xt := st.bt) | (go_at_call 56; refine (l2named_any _ N _ _ 1 200 st.a.n st.a.k st.a.l1 st.a.ls).mono ?_; rintro e w' ⟨rfl, hb'⟩; replace st := st.below hb'; clear hb'; obtain ⟨x0, x1, x2, x3, x4, x5, x6, x7, x8, xf⟩ := nd_cells st.bn; have xt := st.bt) | (go_at_call 57; refine (l2exprs_any _ _ ns N _ _ 0 N.ks.length st.a.t st.a.n st.a.k st.a.ok (Nat.le_refl _) st.a.ln st.a.l2).mono ?_; rintro e w' ⟨rfl, hb'⟩; replace st := st.below hb'; clear hb'; obtain ⟨x0, x1, x2, x3, x4, x5, x6, x7, x8, xf⟩ := nd_cells st.bn; have xt := st.bt))
    go_ret
    exact ⟨rfl, st.bel⟩
  | true =>
    cases t1 : namedB N 1 200 with
    | false =>
      unfold vNd
      go_enter Tryz.func41, Tryz.ntmps41
      go_wp2_with (first | (go_at_call 55; refine (l2bare_ffft _ N _ _ st.a.n st.a.k st.a.l1).mono ?_; rintro e w' ⟨rfl, hb'⟩; replace st := st.below hb'; clear hb'; obtain ⟨x0, x1, x2, x3, x4, x5, x6, x7, x8, xf⟩ := nd_cells st.bn; have xt := st.bt) | (go_at_call 56; refine (l2named_any _ N _ _ 1 200 st.a.n st.a.k st.a.l1 st.a.ls).mono ?_; rintro e w' ⟨rfl, hb'⟩; replace st := st.below hb'; clear hb'; obtain ⟨x0, x1, x2, x3, x4, x5, x6, x7, x8, xf⟩ := nd_cells st.bn; have xt := st.bt) | (go_at_call 57; refine (l2exprs_any _ _ ns N _ _ 0 N.ks.length st.a.t st.a.n st.a.k st.a.ok (Nat.le_refl _) st.a.ln st.a.l2).mono ?_; rintro e w' ⟨rfl, hb'⟩; replace st := st.below hb'; clear hb'; obtain ⟨x0, x1, x2, x3, x4, x5, x6, x7, x8, xf⟩ := nd_cells st.bn; have xt := st.bt))
      go_ret
      exact ⟨rfl, st.bel⟩
    | true =>
      cases t2 : exB ns N N.ks.length 0 with
      | false =>
        unfold vNd
        go_enter Tryz.func41, Tryz.ntmps41
        go_wp2_with (first | (go_at_call 55; refine (l2bare_ffft _ N _ _ st.a.n st.a.k st.a.l1).mono ?_; rintro e w' ⟨rfl, hb'⟩; replace st := st.below hb'; clear hb'; obtain ⟨x0, x1, x2, x3, x4, x5, x6, x7, x8, xf⟩ := nd_cells st.bn; have xt := st.bt) | (go_at_call 56; refine (l2named_any _ N _ _ 1 200 st.a.n st.a.k st.a.l1 st.a.ls).mono ?_; rintro e w' ⟨rfl, hb'⟩; replace st := st.below hb'; clear hb'; obtain ⟨x0, x1, x2, x3, x4, x5, x6, x7, x8, xf⟩ := nd_cells st.bn; have xt := st.bt) | (go_at_call 57; refine (l2exprs_any _ _ ns N _ _ 0 N.ks.length st.a.t st.a.n st.a.k st.a.ok (Nat.le_refl _) st.a.ln st.a.l2).mono ?_; rintro e w' ⟨rfl, hb'⟩; replace st := st.below hb'; clear hb'; obtain ⟨x0, x1, x2, x3, x4, x5, x6, x7, x8, xf⟩ := nd_cells st.bn; have xt := st.bt))
        go_ret
        exact ⟨rfl, st.bel⟩
      | true =>
        unfold vNd
        go_enter Tryz.func41, Tryz.ntmps41
        go_wp2_with (first | (go_at_call 55; refine (l2bare_ffft _ N _ _ st.a.n st.a.k st.a.l1).mono ?_; rintro e w' ⟨rfl, hb'⟩; replace st := st.below hb'; clear hb'; obtain ⟨x0, x1, x2, x3, x4, x5, x6, x7, x8, xf⟩ := nd_cells st.bn; have xt := st.bt) | (go_at_call 56; refine (l2named_any _ N _ _ 1 200 st.a.n st.a.k st.a.l1 st.a.ls).mono ?_; rintro e w' ⟨rfl, hb'⟩; replace st := st.below hb'; clear hb'; obtain ⟨x0, x1, x2, x3, x4, x5, x6, x7, x8, xf⟩ := nd_cells st.bn; have xt := st.bt) | (go_at_call 57; refine (l2exprs_any _ _ ns N _ _ 0 N.ks.length st.a.t st.a.n st.a.k st.a.ok (Nat.le_refl _) st.a.ln st.a.l2).mono ?_; rintro e w' ⟨rfl, hb'⟩; replace st := st.below hb'; clear hb'; obtain ⟨x0, x1, x2, x3, x4, x5, x6, x7, x8, xf⟩ := nd_cells st.bn; have xt := st.bt))
        go_ret
        exact ⟨rfl, st.bel⟩

set_option maxRecDepth 100000 in
set_option maxHeartbeats 3200000 in
theorem l2st_s4 {w : World} {vt : Value} {ns : List Nd} {N : Nd} {vn vk : Value} (A : NArg w vt ns N vn vk) (hK : N.k = 4) :
    Calls Tryz.prog 41 #[.agg #[vt], vNd N vn vk] w fun e w' => e = .returned (.bool (bareB N false false false true && namedB N 1 1 && ((N.ks.length : Int) == 1) && (kidK ns N 0 == 36))) ∧ Below w.heap.size w w' := by
  obtain ⟨a1, c1, rfl⟩ := A.t.form
  obtain ⟨a2, c2, rfl⟩ := A.n.form
  obtain ⟨a3, c3, rfl⟩ := A.k.form
  have st := St.start A
  have hlx := A.lx
  have HX : Hid (N.x.size ≤ 1100000) := by show _ ≤ _; omega
  clear A
  have q1 : (N.k == 1) = false := by rw [hK]; rfl
  have q2 : (N.k == 2) = false := by rw [hK]; rfl
  have q3 : (N.k == 3) = false := by rw [hK]; rfl
  have q4 : (N.k == 4) = true := by rw [hK]; rfl
  clear hK
  cases t0 : bareB N false false false true with
  | false =>
    unfold vNd
    go_enter Tryz.func41, Tryz.ntmps41
    go_wp2_with (first | (go_at_call 55; refine (l2bare_ffft _ N _ _ st.a.n st.a.k st.a.l1).mono ?_; rintro e w' ⟨rfl, hb'⟩; replace st := st.below hb'; clear hb'; obtain ⟨x0, x1, x2, x3, x4, x5, x6, x7, x8, xf⟩ := nd_cells st.bn; have xt := st.bt) | (go_at_call 56; refine (l2named_any _ N _ _ 1 1 st.a.n st.a.k st.a.l1 st.a.ls).mono ?_; rintro e w' ⟨rfl, hb'⟩; replace st := st.below hb'; clear hb'; obtain ⟨x0, x1, x2, x3, x4, x5, x6, x7, x8, xf⟩ := nd_cells st.bn; have xt := st.bt) | (go_at_call 54; with_reducible refine (kid0_any st.a HLT.out).mono ?_; rintro e w' ⟨rfl, hb'⟩; replace st := st.below hb'; clear hb'; obtain ⟨x0, x1, x2, x3, x4, x5, x6, x7, x8, xf⟩ := nd_cells st.bn; have xt := st.bt))
    go_ret
    exact ⟨rfl, st.bel⟩
  | true =>
    cases t1 : namedB N 1 1 with
    | false =>
      unfold vNd
      go_enter Tryz.func41, Tryz.ntmps41
      go_wp2_with (first | (go_at_call 55; refine (l2bare_ffft _ N _ _ st.a.n st.a.k st.a.l1).mono ?_; rintro e w' ⟨rfl, hb'⟩; replace st := st.below hb'; clear hb'; obtain ⟨x0, x1, x2, x3, x4, x5, x6, x7, x8, xf⟩ := nd_cells st.bn; have xt := st.bt) | (go_at_call 56; refine (l2named_any _ N _ _ 1 1 st.a.n st.a.k st.a.l1 st.a.ls).mono ?_; rintro e w' ⟨rfl, hb'⟩; replace st := st.below hb'; clear hb'; obtain ⟨x0, x1, x2, x3, x4, x5, x6, x7, x8, xf⟩ := nd_cells st.bn; have xt := st.bt) | (go_at_call 54; with_reducible refine (kid0_any st.a HLT.out).mono ?_; rintro e w' ⟨rfl, hb'⟩; replace st := st.below hb'; clear hb'; obtain ⟨x0, x1, x2, x3, x4, x5, x6, x7, x8, xf⟩ := nd_cells st.bn; have xt := st.bt))
      go_ret
      exact ⟨rfl, st.bel⟩
    | true =>
      cases t2 : ((N.ks.length : Int) == 1) with
      | false =>
        unfold vNd
        go_enter Tryz.func41, Tryz.ntmps41
        go_wp2_with (first | (go_at_call 55; refine (l2bare_ffft _ N _ _ st.a.n st.a.k st.a.l1).mono ?_; rintro e w' ⟨rfl, hb'⟩; replace st := st.below hb'; clear hb'; obtain ⟨x0, x1, x2, x3, x4, x5, x6, x7, x8, xf⟩ := nd_cells st.bn; have xt := st.bt) | (go_at_call 56; refine (l2named_any _ N _ _ 1 1 st.a.n st.a.k st.a.l1 st.a.ls).mono ?_; rintro e w' ⟨rfl, hb'⟩; replace st := st.below hb'; clear hb'; obtain ⟨x0, x1, x2, x3, x4, x5, x6, x7, x8, xf⟩ := nd_cells st.bn; have xt := st.bt) | (go_at_call 54; with_reducible refine (kid0_any st.a HLT.out).mono ?_; rintro e w' ⟨rfl, hb'⟩; replace st := st.below hb'; clear hb'; obtain ⟨x0, x1, x2, x3, x4, x5, x6, x7, x8, xf⟩ := nd_cells st.bn; have xt := st.bt))
        go_ret
        exact ⟨rfl, st.bel⟩
      | true =>
        have HL : N.ks.length = 1 := by have := eq_of_beq t2; omega
        have HLE : Hid (1 ≤ N.ks.length) := by show _ ≤ _; omega
        have HLT : Hid (0 < N.ks.length) := by show _ < _; omega
        clear HL
        cases t3 : (kidK ns N 0 == 36) with
        | false =>
          unfold vNd
          go_enter Tryz.func41, Tryz.ntmps41
          go_wp2_with (first | (go_at_call 55; refine (l2bare_ffft _ N _ _ st.a.n st.a.k st.a.l1).mono ?_; rintro e w' ⟨rfl, hb'⟩; replace st := st.below hb'; clear hb'; obtain ⟨x0, x1, x2, x3, x4, x5, x6, x7, x8, xf⟩ := nd_cells st.bn; have xt := st.bt) | (go_at_call 56; refine (l2named_any _ N _ _ 1 1 st.a.n st.a.k st.a.l1 st.a.ls).mono ?_; rintro e w' ⟨rfl, hb'⟩; replace st := st.below hb'; clear hb'; obtain ⟨x0, x1, x2, x3, x4, x5, x6, x7, x8, xf⟩ := nd_cells st.bn; have xt := st.bt) | (go_at_call 54; with_reducible refine (kid0_any st.a HLT.out).mono ?_; rintro e w' ⟨rfl, hb'⟩; replace st := st.below hb'; clear hb'; obtain ⟨x0, x1, x2, x3, x4, x5, x6, x7, x8, xf⟩ := nd_cells st.bn; have xt := st.bt))
          go_ret
          exact ⟨rfl, st.bel⟩
        | true =>
          unfold vNd
          go_enter Tryz.func41, Tryz.ntmps41
          go_wp2_with (first | (go_at_call 55; refine (l2bare_ffft _ N _ _ st.a.n st.a.k st.a.l1).mono ?_; rintro e w' ⟨rfl, hb'⟩; replace st := st.below hb'; clear hb'; obtain ⟨x0, x1, x2, x3, x4, x5, x6, x7, x8, xf⟩ := nd_cells st.bn; have xt := st.bt) | (go_at_call 56; refine (l2named_any _ N _ _ 1 1 st.a.n st.a.k st.a.l1 st.a.ls).mono ?_; rintro e w' ⟨rfl, hb'⟩; replace st := st.below hb'; clear hb'; obtain ⟨x0, x1, x2, x3, x4, x5, x6, x7, x8, xf⟩ := nd_cells st.bn; have xt := st.bt) | (go_at_call 54; with_reducible refine (kid0_any st.a HLT.out).mono ?_; rintro e w' ⟨rfl, hb'⟩; replace st := st.below hb'; clear hb'; obtain ⟨x0, x1, x2, x3, x4, x5, x6, x7, x8, xf⟩ := nd_cells st.bn; have xt := st.bt))
          go_ret
          exact ⟨rfl, st.bel⟩

set_option maxRecDepth 100000 in
set_option maxHeartbeats 3200000 in
theorem l2st_s6 {w : World} {vt : Value} {ns : List Nd} {N : Nd} {vn vk : Value} (A : NArg w vt ns N vn vk) (hK : N.k = 6) :
    Calls Tryz.prog 41 #[.agg #[vt], vNd N vn vk] w fun e w' => e = .returned (.bool (bareB N false false false false && ((N.ks.length : Int) == 1) && (kidK ns N 0 == 34))) ∧ Below w.heap.size w w' := by
  obtain ⟨a1, c1, rfl⟩ := A.t.form
  obtain ⟨a2, c2, rfl⟩ := A.n.form
  obtain ⟨a3, c3, rfl⟩ := A.k.form
  have st := St.start A
  have hlx := A.lx
  have HX : Hid (N.x.size ≤ 1100000) := by show _ ≤ _; omega
  clear A
  have q1 : (N.k == 1) = false := by rw [hK]; rfl
  have q2 : (N.k == 2) = false := by rw [hK]; rfl
  have q3 : (N.k == 3) = false := by rw [hK]; rfl
  have q4 : (N.k == 4) = false := by rw [hK]; rfl
  have q5 : (N.k == 5) = false := by rw [hK]; rfl
  have q6 : (N.k == 6) = true := by rw [hK]; rfl
  clear hK
  cases t0 : bareB N false false false false with
  | false =>
    unfold vNd
    go_enter Tryz.func41, Tryz.ntmps41
    go_wp2_with (first | (go_at_call 55; refine (l2bare_ffff _ N _ _ st.a.n st.a.k st.a.l1).mono ?_; rintro e w' ⟨rfl, hb'⟩; replace st := st.below hb'; clear hb'; obtain ⟨x0, x1, x2, x3, x4, x5, x6, x7, x8, xf⟩ := nd_cells st.bn; have xt := st.bt) | (go_at_call 54; with_reducible refine (kid0_any st.a HLT.out).mono ?_; rintro e w' ⟨rfl, hb'⟩; replace st := st.below hb'; clear hb'; obtain ⟨x0, x1, x2, x3, x4, x5, x6, x7, x8, xf⟩ := nd_cells st.bn; have xt := st.bt))
    go_ret
    exact ⟨rfl, st.bel⟩
  | true =>
    cases t1 : ((N.ks.length : Int) == 1) with
    | false =>
      unfold vNd
      go_enter Tryz.func41, Tryz.ntmps41
      go_wp2_with (first | (go_at_call 55; refine (l2bare_ffff _ N _ _ st.a.n st.a.k st.a.l1).mono ?_; rintro e w' ⟨rfl, hb'⟩; replace st := st.below hb'; clear hb'; obtain ⟨x0, x1, x2, x3, x4, x5, x6, x7, x8, xf⟩ := nd_cells st.bn; have xt := st.bt) | (go_at_call 54; with_reducible refine (kid0_any st.a HLT.out).mono ?_; rintro e w' ⟨rfl, hb'⟩; replace st := st.below hb'; clear hb'; obtain ⟨x0, x1, x2, x3, x4, x5, x6, x7, x8, xf⟩ := nd_cells st.bn; have xt := st.bt))
      go_ret
      exact ⟨rfl, st.bel⟩
    | true =>
      have HL : N.ks.length = 1 := by have := eq_of_beq t1; omega
      have HLE : Hid (1 ≤ N.ks.length) := by show _ ≤ _; omega
      have HLT : Hid (0 < N.ks.length) := by show _ < _; omega
      clear HL
      cases t2 : (kidK ns N 0 == 34) with
      | false =>
        unfold vNd
        go_enter Tryz.func41, Tryz.ntmps41
        go_wp2_with (first | (go_at_call 55; refine (l2bare_ffff _ N _ _ st.a.n st.a.k st.a.l1).mono ?_; rintro e w' ⟨rfl, hb'⟩; replace st := st.below hb'; clear hb'; obtain ⟨x0, x1, x2, x3, x4, x5, x6, x7, x8, xf⟩ := nd_cells st.bn; have xt := st.bt) | (go_at_call 54; with_reducible refine (kid0_any st.a HLT.out).mono ?_; rintro e w' ⟨rfl, hb'⟩; replace st := st.below hb'; clear hb'; obtain ⟨x0, x1, x2, x3, x4, x5, x6, x7, x8, xf⟩ := nd_cells st.bn; have xt := st.bt))
        go_ret
        exact ⟨rfl, st.bel⟩
      | true =>
        unfold vNd
        go_enter Tryz.func41, Tryz.ntmps41
        go_wp2_with (first | (go_at_call 55; refine (l2bare_ffff _ N _ _ st.a.n st.a.k st.a.l1).mono ?_; rintro e w' ⟨rfl, hb'⟩; replace st := st.below hb'; clear hb'; obtain ⟨x0, x1, x2, x3, x4, x5, x6, x7, x8, xf⟩ := nd_cells st.bn; have xt := st.bt) | (go_at_call 54; with_reducible refine (kid0_any st.a HLT.out).mono ?_; rintro e w' ⟨rfl, hb'⟩; replace st := st.below hb'; clear hb'; obtain ⟨x0, x1, x2, x3, x4, x5, x6, x7, x8, xf⟩ := nd_cells st.bn; have xt := st.bt))
        go_ret
        exact ⟨rfl, st.bel⟩

set_option maxRecDepth 100000 in
set_option maxHeartbeats 3200000 in
theorem l2st_s16 {w : World} {vt : Value} {ns : List Nd} {N : Nd} {vn vk : Value} (A : NArg w vt ns N vn vk) (hK : N.k = 16) :
    Calls Tryz.prog 41 #[.agg #[vt], vNd N vn vk] w fun e w' => e = .returned (.bool (bareB N false false false false && ((N.ks.length : Int) == 1) && (kidK ns N 0 == 34))) ∧ Below w.heap.size w w' := by
  obtain ⟨a1, c1, rfl⟩ := A.t.form
  obtain ⟨a2, c2, rfl⟩ := A.n.form
  obtain ⟨a3, c3, rfl⟩ := A.k.form
  have st := St.start A
  have hlx := A.lx
  have HX : Hid (N.x.size ≤ 1100000) := by show _ ≤ _; omega
  clear A
  have q1 : (N.k == 1) = false := by rw [hK]; rfl
  have q2 : (N.k == 2) = false := by rw [hK]; rfl
  have q3 : (N.k == 3) = false := by rw [hK]; rfl
  have q4 : (N.k == 4) = false := by rw [hK]; rfl
  have q5 : (N.k == 5) = false := by rw [hK]; rfl
  have q6 : (N.k == 6) = false := by rw [hK]; rfl
  have q16 : (N.k == 16) = true := by rw [hK]; rfl
  clear hK
  cases t0 : bareB N false false false false with
  | false =>
    unfold vNd
    go_enter Tryz.func41, Tryz.ntmps41
    go_wp2_with (first | (go_at_call 55; refine (l2bare_ffff _ N _ _ st.a.n st.a.k st.a.l1).mono ?_; rintro e w' ⟨rfl, hb'⟩; replace st := st.below hb'; clear hb'; obtain ⟨x0, x1, x2, x3, x4, x5, x6, x7, x8, xf⟩ := nd_cells st.bn; have xt := st.bt) | (go_at_call 54; with_reducible refine (kid0_any st.a HLT.out).mono ?_; rintro e w' ⟨rfl, hb'⟩; replace st := st.below hb'; clear hb'; obtain ⟨x0, x1, x2, x3, x4, x5, x6, x7, x8, xf⟩ := nd_cells st.bn; have xt := st.bt))
    go_ret
    exact ⟨rfl, st.bel⟩
  | true =>
    cases t1 : ((N.ks.length : Int) == 1) with
    | false =>
      unfold vNd
      go_enter Tryz.func41, Tryz.ntmps41
      go_wp2_with (first | (go_at_call 55; refine (l2bare_ffff _ N _ _ st.a.n st.a.k st.a.l1).mono ?_; rintro e w' ⟨rfl, hb'⟩; replace st := st.below hb'; clear hb'; obtain ⟨x0, x1, x2, x3, x4, x5, x6, x7, x8, xf⟩ := nd_cells st.bn; have xt := st.bt) | (go_at_call 54; with_reducible refine (kid0_any st.a HLT.out).mono ?_; rintro e w' ⟨rfl, hb'⟩; replace st := st.below hb'; clear hb'; obtain ⟨x0, x1, x2, x3, x4, x5, x6, x7, x8, xf⟩ := nd_cells st.bn; have xt := st.bt))
      go_ret
      exact ⟨rfl, st.bel⟩
    | true =>
      have HL : N.ks.length = 1 := by have := eq_of_beq t1; omega
      have HLE : Hid (1 ≤ N.ks.length) := by show _ ≤ _; omega
      have HLT : Hid (0 < N.ks.length) := by show _ < _; omega
      clear HL
      cases t2 : (kidK ns N 0 == 34) with
      | false =>
        unfold vNd
        go_enter Tryz.func41, Tryz.ntmps41
        go_wp2_with (first | (go_at_call 55; refine (l2bare_ffff _ N _ _ st.a.n st.a.k st.a.l1).mono ?_; rintro e w' ⟨rfl, hb'⟩; replace st := st.below hb'; clear hb'; obtain ⟨x0, x1, x2, x3, x4, x5, x6, x7, x8, xf⟩ := nd_cells st.bn; have xt := st.bt) | (go_at_call 54; with_reducible refine (kid0_any st.a HLT.out).mono ?_; rintro e w' ⟨rfl, hb'⟩; replace st := st.below hb'; clear hb'; obtain ⟨x0, x1, x2, x3, x4, x5, x6, x7, x8, xf⟩ := nd_cells st.bn; have xt := st.bt))
        go_ret
        exact ⟨rfl, st.bel⟩
      | true =>
        unfold vNd
        go_enter Tryz.func41, Tryz.ntmps41
        go_wp2_with (first | (go_at_call 55; refine (l2bare_ffff _ N _ _ st.a.n st.a.k st.a.l1).mono ?_; rintro e w' ⟨rfl, hb'⟩; replace st := st.below hb'; clear hb'; obtain ⟨x0, x1, x2, x3, x4, x5, x6, x7, x8, xf⟩ := nd_cells st.bn; have xt := st.bt) | (go_at_call 54; with_reducible refine (kid0_any st.a HLT.out).mono ?_; rintro e w' ⟨rfl, hb'⟩; replace st := st.below hb'; clear hb'; obtain ⟨x0, x1, x2, x3, x4, x5, x6, x7, x8, xf⟩ := nd_cells st.bn; have xt := st.bt))
        go_ret
        exact ⟨rfl, st.bel⟩
end Go.Proofs.YtdgbmihokecmhaaGreatDoor
