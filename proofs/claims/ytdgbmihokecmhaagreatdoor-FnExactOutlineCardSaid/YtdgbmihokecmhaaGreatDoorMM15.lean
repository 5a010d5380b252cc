import Derived.Test.YtdgbmihokecmhaaGreatDoorMM13
import Derived.Test.YtdgbmihokecmhaaGreatDoorMM11
namespace Go.Proofs.YtdgbmihokecmhaaGreatDoor
open Go.RowKit Go.Maps Go.WideMaps
set_option linter.unusedVariables false

set_option maxRecDepth 100000 in
set_option maxHeartbeats 3200000 in
theorem l2st_s10 {w : World} {vt : Value} {ns : List Nd} {N : Nd} {vn vk : Value} (A : NArg w vt ns N vn vk) (hK : N.k = 10) :
    Calls Tryz.prog 41 #[.agg #[vt], vNd N vn vk] w fun e w' => e = .returned (.bool (bareB N false false false true && namedB N 1 200 && ((N.ks.length : Int) == 2) && exB ns N 1 0 && (kidK ns N 1 == 1))) ∧ Below w.heap.size w w' := by
  obtain ⟨a1, c1, rfl⟩ := A.t.form
  obtain ⟨a2, c2, rfl⟩ := A.n.form
  obtain ⟨a3, c3, rfl⟩ := A.k.form
  have st := St.start A
  have hlx := A.lx
  have HX : Hid (N.x.size ≤ 1100000) := by show _ ≤ _; omega
  clear A
  have q1 : (N.k == 1) = false := by rw [hK]; rfl
  have q2 : (N.k == 2) = false := by rw [hK]; rfl
  have q3 : (N.k == 3) = false := by rw [hK]; rfl
  have q4 : (N.k == 4) = false := by rw [hK]; rfl
  have q5 : (N.k == 5) = false := by rw [hK]; rfl
  have q6 : (N.k == 6) = false := by rw [hK]; rfl
  have q16 : (N.k == 16) = false := by rw [hK]; rfl
  have q7 : (N.k == 7) = false := by rw [hK]; rfl
  have q8 : (N.k == 8) = false := by rw [hK]; rfl
  have q9 : (N.k == 9) = false := by rw [hK]; rfl
  have q10 : (N.k == 10) = true := by rw [hK]; rfl
  clear hK
  cases t0 : bareB N false false false true with
  | false =>
    unfold vNd
    go_enter Tryz.func41, Tryz.ntmps41
    go_wp2_with (first | (go_at_call 55; refine (l2bare_ffft _ N _ _ st.a.n st.a.k st.a.l1).mono ?_; rintro e w' ⟨rfl, hb'⟩; replace st := st.below hb'; clear hb'; obtain ⟨x0, x1, x2, x3, x4, x5, x6, x7, x8, xf⟩ := nd_cells st.bn; have xt := st.bt) | (go_at_call 56; refine (l2named_any _ N _ _ 1 200 st.a.n st.a.k st.a.l1 st.a.ls).mono ?_; rintro e w' ⟨rfl, hb'⟩; replace st := st.below hb'; clear hb'; obtain ⟨x0, x1, x2, x3, x4, x5, x6, x7, x8, xf⟩ := nd_cells st.bn; have xt := st.bt) | (go_at_call 57; refine (l2exprs_any _ _ ns N _ _ 0 1 st.a.t st.a.n st.a.k st.a.ok HLE.out st.a.ln st.a.l2).mono ?_; rintro e w' ⟨rfl, hb'⟩; replace st := st.below hb'; clear hb'; obtain ⟨x0, x1, x2, x3, x4, x5, x6, x7, x8, xf⟩ := nd_cells st.bn; have xt := st.bt) | (go_at_call 54; with_reducible refine (kid1_any st.a HLT1.out).mono ?_; rintro e w' ⟨rfl, hb'⟩; replace st := st.below hb'; clear hb'; obtain ⟨x0, x1, x2, x3, x4, x5, x6, x7, x8, xf⟩ := nd_cells st.bn; have xt := st.bt))
    go_ret
    exact ⟨rfl, st.bel⟩
  | true =>
    cases t1 : namedB N 1 200 with
    | false =>
      unfold vNd
      go_enter Tryz.func41, Tryz.ntmps41
      go_wp2_with (first | (go_at_call 55; refine (l2bare_ffft _ N _ _ st.a.n st.a.k st.a.l1).mono ?_; rintro e w' ⟨rfl, hb'⟩; replace st := st.below hb'; clear hb'; obtain ⟨x0, x1, x2, x3, x4, x5, x6, x7, x8, xf⟩ := nd_cells st.bn; have xt := st.bt) | (go_at_call 56; refine (l2named_any _ N _ _ 1 200 st.a.n st.a.k st.a.l1 st.a.ls).mono ?_; rintro e w' ⟨rfl, hb'⟩; replace st := st.below hb'; clear hb'; obtain ⟨x0, x1, x2, x3, x4, x5, x6, x7, x8, xf⟩ := nd_cells st.bn; have xt := st.bt) | (go_at_call 57; refine (l2exprs_any _ _ ns N _ _ 0 1 st.a.t st.a.n st.a.k st.a.ok HLE.out st.a.ln st.a.l2).mono ?_; rintro e w' ⟨rfl, hb'⟩; replace st := st.below hb'; clear hb'; obtain ⟨x0, x1, x2, x3, x4, x5, x6, x7, x8, xf⟩ := nd_cells st.bn; have xt := st.bt) | (go_at_call 54; with_reducible refine (kid1_any st.a HLT1.out).mono ?_; rintro e w' ⟨rfl, hb'⟩; replace st := st.below hb'; clear hb'; obtain ⟨x0, x1, x2, x3, x4, x5, x6, x7, x8, xf⟩ := nd_cells st.bn; have xt := st.bt))
      go_ret
      exact ⟨rfl, st.bel⟩
    | true =>
      cases t2 : ((N.ks.length : Int) == 2) with
      | false =>
        unfold vNd
        go_enter Tryz.func41, Tryz.ntmps41
        go_wp2_with (first | (go_at_call 55; refine (l2bare_ffft _ N _ _ st.a.n st.a.k st.a.l1).mono ?_; rintro e w' ⟨rfl, hb'⟩; replace st := st.below hb'; clear hb'; obtain ⟨x0, x1, x2, x3, x4, x5, x6, x7, x8, xf⟩ := nd_cells st.bn; have xt := st.bt) | (go_at_call 56; refine (l2named_any _ N _ _ 1 200 st.a.n st.a.k st.a.l1 st.a.ls).mono ?_; rintro e w' ⟨rfl, hb'⟩; replace st := st.below hb'; clear hb'; obtain ⟨x0, x1, x2, x3, x4, x5, x6, x7, x8, xf⟩ := nd_cells st.bn; have xt := st.bt) | (go_at_call 57; refine (l2exprs_any _ _ ns N _ _ 0 1 st.a.t st.a.n st.a.k st.a.ok HLE.out st.a.ln st.a.l2).mono ?_; rintro e w' ⟨rfl, hb'⟩; replace st := st.below hb'; clear hb'; obtain ⟨x0, x1, x2, x3, x4, x5, x6, x7, x8, xf⟩ := nd_cells st.bn; have xt := st.bt) | (go_at_call 54; with_reducible refine (kid1_any st.a HLT1.out).mono ?_; rintro e w' ⟨rfl, hb'⟩; replace st := st.below hb'; clear hb'; obtain ⟨x0, x1, x2, x3, x4, x5, x6, x7, x8, xf⟩ := nd_cells st.bn; have xt := st.bt))
        go_ret
        exact ⟨rfl, st.bel⟩
      | true =>
        have HL : N.ks.length = 2 := by have := eq_of_beq t2; omega
        have HLE : Hid (1 ≤ N.ks.length) := by show _ ≤ _; omega
        have HLT : Hid (0 < N.ks.length) := by show _ < _; omega
        have HLT1 : Hid (1 < N.ks.length) := by show _ < _; omega
        clear HL
        cases t3 : exB ns N 1 0 with
        | false =>
          unfold vNd
          go_enter Tryz.func41, Tryz.ntmps41
          go_wp2_with (first | (go_at_call 55; refine (l2bare_ffft _ N _ _ st.a.n st.a.k st.a.l1).mono ?_; rintro e w' ⟨rfl, hb'⟩; replace st := st.below hb'; clear hb'; obtain ⟨x0, x1, x2, x3, x4, x5, x6, x7, x8, xf⟩ := nd_cells st.bn; have xt := st.bt) | (go_at_call 56; refine (l2named_any _ N _ _ 1 200 st.a.n st.a.k st.a.l1 st.a.ls).mono ?_; rintro e w' ⟨rfl, hb'⟩; replace st := st.below hb'; clear hb'; obtain ⟨x0, x1, x2, x3, x4, x5, x6, x7, x8, xf⟩ := nd_cells st.bn; have xt := st.bt) | (go_at_call 57; refine (l2exprs_any _ _ ns N _ _ 0 1 st.a.t st.a.n st.a.k st.a.ok HLE.out st.a.ln st.a.l2).mono ?_; rintro e w' ⟨rfl, hb'⟩; replace st := st.below hb'; clear hb'; obtain ⟨x0, x1, x2, x3, x4, x5, x6, x7, x8, xf⟩ := nd_cells st.bn; have xt := st.bt) | (go_at_call 54; with_reducible refine (kid1_any st.a HLT1.out).mono ?_; rintro e w' ⟨rfl, hb'⟩; replace st := st.below hb'; clear hb'; obtain ⟨x0, x1, x2, x3, x4, x5, x6, x7, x8, xf⟩ := nd_cells st.bn; have xt := st.bt))
          go_ret
          exact ⟨rfl, st.bel⟩
        | true =>
          cases t4 : (kidK ns N 1 == 1) with
          | false =>
            unfold vNd
            go_enter Tryz.func41, Tryz.ntmps41
            go_wp2_with (first | (go_at_call 55; refine (l2bare_ffft _ N _ _ st.a.n st.a.k st.a.l1).mono ?_; rintro e w' ⟨rfl, hb'⟩; replace st := st.below hb'; clear hb'; obtain ⟨x0, x1, x2, x3, x4, x5, x6, x7, x8, xf⟩ := nd_cells st.bn; have xt := st.bt) | (go_at_call 56; refine (l2named_any _ N _ _ 1 200 st.a.n st.a.k st.a.l1 st.a.ls).mono ?_; rintro e w' ⟨rfl, hb'⟩; replace st := st.below hb'; clear hb'; obtain ⟨x0, x1, x2, x3, x4, x5, x6, x7, x8, xf⟩ := nd_cells st.bn; have xt := st.bt) | (go_at_call 57; refine (l2exprs_any _ _ ns N _ _ 0 1 st.a.t st.a.n st.a.k st.a.ok HLE.out st.a.ln st.a.l2).mono ?_; rintro e w' ⟨rfl, hb'⟩; replace st := st.below hb'; clear hb'; obtain ⟨x0, x1, x2, x3, x4, x5, x6, x7, x8, xf⟩ := nd_cells st.bn; have xt := st.bt) | (go_at_call 54; with_reducible refine (kid1_any st.a HLT1.out).mono ?_; rintro e w' ⟨rfl, hb'⟩; replace st := st.below hb'; clear hb'; obtain ⟨x0, x1, x2, x3, x4, x5, x6, x7, x8, xf⟩ := nd_cells st.bn; have xt := st.bt))
            go_ret
            exact ⟨rfl, st.bel⟩
          | true =>
            unfold vNd
            go_enter Tryz.func41, Tryz.ntmps41
            go_wp2_with (first | (go_at_call 55; refine (l2bare_ffft _ N _ _ st.a.n st.a.k st.a.l1).mono ?_; rintro e w' ⟨rfl, hb'⟩; replace st := st.below hb'; clear hb'; obtain ⟨x0, x1, x2, x3, x4, x5, x6, x7, x8, xf⟩ := nd_cells st.bn; have xt := st.bt) | (go_at_call 56; refine (l2named_any _ N _ _ 1 200 st.a.n st.a.k st.a.l1 st.a.ls).mono ?_; rintro e w' ⟨rfl, hb'⟩; replace st := st.below hb'; clear hb'; obtain ⟨x0, x1, x2, x3, x4, x5, x6, x7, x8, xf⟩ := nd_cells st.bn; have xt := st.bt) | (go_at_call 57; refine (l2exprs_any _ _ ns N _ _ 0 1 st.a.t st.a.n st.a.k st.a.ok HLE.out st.a.ln st.a.l2).mono ?_; rintro e w' ⟨rfl, hb'⟩; replace st := st.below hb'; clear hb'; obtain ⟨x0, x1, x2, x3, x4, x5, x6, x7, x8, xf⟩ := nd_cells st.bn; have xt := st.bt) | (go_at_call 54; with_reducible refine (kid1_any st.a HLT1.out).mono ?_; rintro e w' ⟨rfl, hb'⟩; replace st := st.below hb'; clear hb'; obtain ⟨x0, x1, x2, x3, x4, x5, x6, x7, x8, xf⟩ := nd_cells st.bn; have xt := st.bt))
            go_ret
            exact ⟨rfl, st.bel⟩

set_option maxRecDepth 100000 in
set_option maxHeartbeats 3200000 in
theorem l2st_s13 {w : World} {vt : Value} {ns : List Nd} {N : Nd} {vn vk : Value} (A : NArg w vt ns N vn vk) (hK : N.k = 13) :
    Calls Tryz.prog 41 #[.agg #[vt], vNd N vn vk] w fun e w' => e = .returned (.bool (bareB N false false false false && exB ns N N.ks.length 0)) ∧ Below w.heap.size w w' := by
  obtain ⟨a1, c1, rfl⟩ := A.t.form
  obtain ⟨a2, c2, rfl⟩ := A.n.form
  obtain ⟨a3, c3, rfl⟩ := A.k.form
  have st := St.start A
  have hlx := A.lx
  have HX : Hid (N.x.size ≤ 1100000) := by show _ ≤ _; omega
  clear A
  have q1 : (N.k == 1) = false := by rw [hK]; rfl
  have q2 : (N.k == 2) = false := by rw [hK]; rfl
  have q3 : (N.k == 3) = false := by rw [hK]; rfl
  have q4 : (N.k == 4) = false := by rw [hK]; rfl
  have q5 : (N.k == 5) = false := by rw [hK]; rfl
  have q6 : (N.k == 6) = false := by rw [hK]; rfl
  have q16 : (N.k == 16) = false := by rw [hK]; rfl
  have q7 : (N.k == 7) = false := by rw [hK]; rfl
  have q8 : (N.k == 8) = false := by rw [hK]; rfl
  have q9 : (N.k == 9) = false := by rw [hK]; rfl
  have q10 : (N.k == 10) = false := by rw [hK]; rfl
  have q11 : (N.k == 11) = false := by rw [hK]; rfl
  have q12 : (N.k == 12) = false := by rw [hK]; rfl
  have q13 : (N.k == 13) = true := by rw [hK]; rfl
  clear hK
  cases t0 : bareB N false false false false with
  | false =>
    unfold vNd
    go_enter Tryz.func41, Tryz.ntmps41
    go_wp2_with (first | (go_at_call 55; refine (l2bare_ffff _ N _ _ st.a.n st.a.k st.a.l1).mono ?_; rintro e w' ⟨rfl, hb'⟩; replace st := st.below hb'; clear hb'; obtain ⟨x0, x1, x2, x3, x4, x5, x6, x7, x8, xf⟩ := nd_cells st.bn; have xt := st.bt) | (go_at_call 57; refine (l2exprs_any _ _ ns N _ _ 0 N.ks.length st.a.t st.a.n st.a.k st.a.ok (Nat.le_refl _) st.a.ln st.a.l2).mono ?_; rintro e w' ⟨rfl, hb'⟩; replace st := st.below hb'; clear hb'; obtain ⟨x0, x1, x2, x3, x4, x5, x6, x7, x8, xf⟩ := nd_cells st.bn; have xt := st.bt))
    go_ret
    exact ⟨rfl, st.bel⟩
  | true =>
    cases t1 : exB ns N N.ks.length 0 with
    | false =>
      unfold vNd
      go_enter Tryz.func41, Tryz.ntmps41
      go_wp2_with (first | (go_at_call 55; refine (l2bare_ffff _ N _ _ st.a.n st.a.k st.a.l1).mono ?_; rintro e w' ⟨rfl, hb'⟩; replace st := st.below hb'; clear hb'; obtain ⟨x0, x1, x2, x3, x4, x5, x6, x7, x8, xf⟩ := nd_cells st.bn; have xt := st.bt) | (go_at_call 57; refine (l2exprs_any _ _ ns N _ _ 0 N.ks.length st.a.t st.a.n st.a.k st.a.ok (Nat.le_refl _) st.a.ln st.a.l2).mono ?_; rintro e w' ⟨rfl, hb'⟩; replace st := st.below hb'; clear hb'; obtain ⟨x0, x1, x2, x3, x4, x5, x6, x7, x8, xf⟩ := nd_cells st.bn; have xt := st.bt))
      go_ret
      exact ⟨rfl, st.bel⟩
    | true =>
      unfold vNd
      go_enter Tryz.func41, Tryz.ntmps41
      go_wp2_with (first | (go_at_call 55; refine (l2bare_ffff _ N _ _ st.a.n st.a.k st.a.l1).mono ?_; rintro e w' ⟨rfl, hb'⟩; replace st := st.below hb'; clear hb'; obtain ⟨x0, x1, x2, x3, x4, x5, x6, x7, x8, xf⟩ := nd_cells st.bn; have xt := st.bt) | (go_at_call 57; refine (l2exprs_any _ _ ns N _ _ 0 N.ks.length st.a.t st.a.n st.a.k st.a.ok (Nat.le_refl _) st.a.ln st.a.l2).mono ?_; rintro e w' ⟨rfl, hb'⟩; replace st := st.below hb'; clear hb'; obtain ⟨x0, x1, x2, x3, x4, x5, x6, x7, x8, xf⟩ := nd_cells st.bn; have xt := st.bt))
      go_ret
      exact ⟨rfl, st.bel⟩
end Go.Proofs.YtdgbmihokecmhaaGreatDoor

namespace Go.Proofs.YtdgbmihokecmhaaGreatDoor
open Go.RowKit Go.Maps Go.WideMaps
set_option linter.unusedVariables false

set_option maxRecDepth 100000 in
set_option maxHeartbeats 3200000 in
theorem l2st_s14 {w : World} {vt : Value} {ns : List Nd} {N : Nd} {vn vk : Value} (A : NArg w vt ns N vn vk) (hK : N.k = 14) :
    Calls Tryz.prog 41 #[.agg #[vt], vNd N vn vk] w fun e w' => e = .returned (.bool (bareB N false false false true && namedB N 1 2 && ((N.ks.length : Int) == 2) && (kidK ns N 0 == 1) && (kidK ns N 1 == 1))) ∧ Below w.heap.size w w' := by
  obtain ⟨a1, c1, rfl⟩ := A.t.form
  obtain ⟨a2, c2, rfl⟩ := A.n.form
  obtain ⟨a3, c3, rfl⟩ := A.k.form
  have st := St.start A
  have hlx := A.lx
  have HX : Hid (N.x.size ≤ 1100000) := by show _ ≤ _; omega
  clear A
  have q1 : (N.k == 1) = false := by rw [hK]; rfl
  have q2 : (N.k == 2) = false := by rw [hK]; rfl
  have q3 : (N.k == 3) = false := by rw [hK]; rfl
  have q4 : (N.k == 4) = false := by rw [hK]; rfl
  have q5 : (N.k == 5) = false := by rw [hK]; rfl
  have q6 : (N.k == 6) = false := by rw [hK]; rfl
  have q16 : (N.k == 16) = false := by rw [hK]; rfl
  have q7 : (N.k == 7) = false := by rw [hK]; rfl
  have q8 : (N.k == 8) = false := by rw [hK]; rfl
  have q9 : (N.k == 9) = false := by rw [hK]; rfl
  have q10 : (N.k == 10) = false := by rw [hK]; rfl
  have q11 : (N.k == 11) = false := by rw [hK]; rfl
  have q12 : (N.k == 12) = false := by rw [hK]; rfl
  have q13 : (N.k == 13) = false := by rw [hK]; rfl
  have q14 : (N.k == 14) = true := by rw [hK]; rfl
  clear hK
  cases t0 : bareB N false false false true with
  | false =>
    unfold vNd
    go_enter Tryz.func41, Tryz.ntmps41
    go_wp2_with (first | (go_at_call 55; refine (l2bare_ffft _ N _ _ st.a.n st.a.k st.a.l1).mono ?_; rintro e w' ⟨rfl, hb'⟩; replace st := st.below hb'; clear hb'; obtain ⟨x0, x1, x2, x3, x4, x5, x6, x7, x8, xf⟩ := nd_cells st.bn; have xt := st.bt) | (go_at_call 56; refine (l2named_any _ N _ _ 1 2 st.a.n st.a.k st.a.l1 st.a.ls).mono ?_; rintro e w' ⟨rfl, hb'⟩; replace st := st.below hb'; clear hb'; obtain ⟨x0, x1, x2, x3, x4, x5, x6, x7, x8, xf⟩ := nd_cells st.bn; have xt := st.bt) | (go_at_call 54; with_reducible refine (kid0_any st.a HLT.out).mono ?_; rintro e w' ⟨rfl, hb'⟩; replace st := st.below hb'; clear hb'; obtain ⟨x0, x1, x2, x3, x4, x5, x6, x7, x8, xf⟩ := nd_cells st.bn; have xt := st.bt) | (go_at_call 54; with_reducible refine (kid1_any st.a HLT1.out).mono ?_; rintro e w' ⟨rfl, hb'⟩; replace st := st.below hb'; clear hb'; obtain ⟨x0, x1, x2, x3, x4, x5, x6, x7, x8, xf⟩ := nd_cells st.bn; have xt := st.bt))
    go_ret
    exact ⟨rfl, st.bel⟩
  | true =>
    cases t1 : namedB N 1 2 with
    | false =>
      unfold vNd
      go_enter Tryz.func41, Tryz.ntmps41
      go_wp2_with (first | (go_at_call 55; refine (l2bare_ffft _ N _ _ st.a.n st.a.k st.a.l1).mono ?_; rintro e w' ⟨rfl, hb'⟩; replace st := st.below hb'; clear hb'; obtain ⟨x0, x1, x2, x3, x4, x5, x6, x7, x8, xf⟩ := nd_cells st.bn; have xt := st.bt) | (go_at_call 56; refine (l2named_any _ N _ _ 1 2 st.a.n st.a.k st.a.l1 st.a.ls).mono ?_; rintro e w' ⟨rfl, hb'⟩; replace st := st.below hb'; clear hb'; obtain ⟨x0, x1, x2, x3, x4, x5, x6, x7, x8, xf⟩ := nd_cells st.bn; have xt := st.bt) | (go_at_call 54; with_reducible refine (kid0_any st.a HLT.out).mono ?_; rintro e w' ⟨rfl, hb'⟩; replace st := st.below hb'; clear hb'; obtain ⟨x0, x1, x2, x3, x4, x5, x6, x7, x8, xf⟩ := nd_cells st.bn; have xt := st.bt) | (go_at_call 54; with_reducible refine (kid1_any st.a HLT1.out).mono ?_; rintro e w' ⟨rfl, hb'⟩; replace st := st.below hb'; clear hb'; obtain ⟨x0, x1, x2, x3, x4, x5, x6, x7, x8, xf⟩ := nd_cells st.bn; have xt := st.bt))
      go_ret
      exact ⟨rfl, st.bel⟩
    | true =>
      cases t2 : ((N.ks.length : Int) == 2) with
      | false =>
        unfold vNd
        go_enter Tryz.func41, Tryz.ntmps41
        go_wp2_with (first | (go_at_call 55; refine (l2bare_ffft _ N _ _ st.a.n st.a.k st.a.l1).mono ?_; rintro e w' ⟨rfl, hb'⟩; replace st := st.below hb'; clear hb'; obtain ⟨x0, x1, x2, x3, x4, x5, x6, x7, x8, xf⟩ := nd_cells st.bn; have xt := st.bt) | (go_at_call 56; refine (l2named_any _ N _ _ 1 2 st.a.n st.a.k st.a.l1 st.a.ls).mono ?_; rintro e w' ⟨rfl, hb'⟩; replace st := st.below hb'; clear hb'; obtain ⟨x0, x1, x2, x3, x4, x5, x6, x7, x8, xf⟩ := nd_cells st.bn; have xt := st.bt) | (go_at_call 54; with_reducible refine (kid0_any st.a HLT.out).mono ?_; rintro e w' ⟨rfl, hb'⟩; replace st := st.below hb'; clear hb'; obtain ⟨x0, x1, x2, x3, x4, x5, x6, x7, x8, xf⟩ := nd_cells st.bn; have xt := st.bt) | (go_at_call 54; with_reducible refine (kid1_any st.a HLT1.out).mono ?_; rintro e w' ⟨rfl, hb'⟩; replace st := st.below hb'; clear hb'; obtain ⟨x0, x1, x2, x3, x4, x5, x6, x7, x8, xf⟩ := nd_cells st.bn; have xt := st.bt))
        go_ret
        exact ⟨rfl, st.bel⟩
      | true =>
        have HL : N.ks.length = 2 := by have := eq_of_beq t2; omega
        have HLE : Hid (1 ≤ N.ks.length) := by show _ ≤ _; omega
        have HLT : Hid (0 < N.ks.length) := by show _ < _; omega
        have HLT1 : Hid (1 < N.ks.length) := by show _ < _; omega
        clear HL
        cases t3 : (kidK ns N 0 == 1) with
        | false =>
          unfold vNd
          go_enter Tryz.func41, Tryz.ntmps41
          go_wp2_with (first | (go_at_call 55; refine (l2bare_ffft _ N _ _ st.a.n st.a.k st.a.l1).mono ?_; rintro e w' ⟨rfl, hb'⟩; replace st := st.below hb'; clear hb'; obtain ⟨x0, x1, x2, x3, x4, x5, x6, x7, x8, xf⟩ := nd_cells st.bn; have xt := st.bt) | (go_at_call 56; refine (l2named_any _ N _ _ 1 2 st.a.n st.a.k st.a.l1 st.a.ls).mono ?_; rintro e w' ⟨rfl, hb'⟩; replace st := st.below hb'; clear hb'; obtain ⟨x0, x1, x2, x3, x4, x5, x6, x7, x8, xf⟩ := nd_cells st.bn; have xt := st.bt) | (go_at_call 54; with_reducible refine (kid0_any st.a HLT.out).mono ?_; rintro e w' ⟨rfl, hb'⟩; replace st := st.below hb'; clear hb'; obtain ⟨x0, x1, x2, x3, x4, x5, x6, x7, x8, xf⟩ := nd_cells st.bn; have xt := st.bt) | (go_at_call 54; with_reducible refine (kid1_any st.a HLT1.out).mono ?_; rintro e w' ⟨rfl, hb'⟩; replace st := st.below hb'; clear hb'; obtain ⟨x0, x1, x2, x3, x4, x5, x6, x7, x8, xf⟩ := nd_cells st.bn; have xt := st.bt))
          go_ret
          exact ⟨rfl, st.bel⟩
        | true =>
          cases t4 : (kidK ns N 1 == 1) with
          | false =>
            unfold vNd
            go_enter Tryz.func41, Tryz.ntmps41
            go_wp2_with (first | (go_at_call 55; refine (l2bare_ffft _ N _ _ st.a.n st.a.k st.a.l1).mono ?_; rintro e w' ⟨rfl, hb'⟩; replace st := st.below hb'; clear hb'; obtain ⟨x0, x1, x2, x3, x4, x5, x6, x7, x8, xf⟩ := nd_cells st.bn; have xt := st.bt) | (go_at_call 56; refine (l2named_any _ N _ _ 1 2 st.a.n st.a.k st.a.l1 st.a.ls).mono ?_; rintro e w' ⟨rfl, hb'⟩; replace st := st.below hb'; clear hb'; obtain ⟨x0, x1, x2, x3, x4, x5, x6, x7, x8, xf⟩ := nd_cells st.bn; have xt := st.bt) | (go_at_call 54; with_reducible refine (kid0_any st.a HLT.out).mono ?_; rintro e w' ⟨rfl, hb'⟩; replace st := st.below hb'; clear hb'; obtain ⟨x0, x1, x2, x3, x4, x5, x6, x7, x8, xf⟩ := nd_cells st.bn; have xt := st.bt) | (go_at_call 54; with_reducible refine (kid1_any st.a HLT1.out).mono ?_; rintro e w' ⟨rfl, hb'⟩; replace st := st.below hb'; clear hb'; obtain ⟨x0, x1, x2, x3, x4, x5, x6, x7, x8, xf⟩ := nd_cells st.bn; have xt := st.bt))
            go_ret
            exact ⟨rfl, st.bel⟩
          | true =>
            unfold vNd
            go_enter Tryz.func41, Tryz.ntmps41
            go_wp2_with (first | (go_at_call 55; refine (l2bare_ffft _ N _ _ st.a.n st.a.k st.a.l1).mono ?_; rintro e w' ⟨rfl, hb'⟩; replace st := st.below hb'; clear hb'; obtain ⟨x0, x1, x2, x3, x4, x5, x6, x7, x8, xf⟩ := nd_cells st.bn; have xt := st.bt) | (go_at_call 56; refine (l2named_any _ N _ _ 1 2 st.a.n st.a.k st.a.l1 st.a.ls).mono ?_; rintro e w' ⟨rfl, hb'⟩; replace st := st.below hb'; clear hb'; obtain ⟨x0, x1, x2, x3, x4, x5, x6, x7, x8, xf⟩ := nd_cells st.bn; have xt := st.bt) | (go_at_call 54; with_reducible refine (kid0_any st.a HLT.out).mono ?_; rintro e w' ⟨rfl, hb'⟩; replace st := st.below hb'; clear hb'; obtain ⟨x0, x1, x2, x3, x4, x5, x6, x7, x8, xf⟩ := nd_cells st.bn; have xt := st.bt) | (go_at_call 54; with_reducible refine (kid1_any st.a HLT1.out).mono ?_; rintro e w' ⟨rfl, hb'⟩; replace st := st.below hb'; clear hb'; obtain ⟨x0, x1, x2, x3, x4, x5, x6, x7, x8, xf⟩ := nd_cells st.bn; have xt := st.bt))
            go_ret
            exact ⟨rfl, st.bel⟩

set_option maxRecDepth 100000 in
set_option maxHeartbeats 3200000 in
theorem l2st_s15 {w : World} {vt : Value} {ns : List Nd} {N : Nd} {vn vk : Value} (A : NArg w vt ns N vn vk) (hK : N.k = 15) :
    Calls Tryz.prog 41 #[.agg #[vt], vNd N vn vk] w fun e w' => e = .returned (.bool (bareB N false false false false && ((N.ks.length : Int) == 1) && exB ns N 1 0)) ∧ Below w.heap.size w w' := by
  obtain ⟨a1, c1, rfl⟩ := A.t.form
  obtain ⟨a2, c2, rfl⟩ := A.n.form
  obtain ⟨a3, c3, rfl⟩ := A.k.form
  have st := St.start A
  have hlx := A.lx
  have HX : Hid (N.x.size ≤ 1100000) := by show _ ≤ _; omega
  clear A
  have q1 : (N.k == 1) = false := by rw [hK]; rfl
  have q2 : (N.k == 2) = false := by rw [hK]; rfl
  have q3 : (N.k == 3) = false := by rw [hK]; rfl
  have q4 : (N.k == 4) = false := by rw [hK]; rfl
  have q5 : (N.k == 5) = false := by rw [hK]; rfl
  have q6 : (N.k == 6) = false := by rw [hK]; rfl
  have q16 : (N.k == 16) = false := by rw [hK]; rfl
  have q7 : (N.k == 7) = false := by rw [hK]; rfl
  have q8 : (N.k == 8) = false := by rw [hK]; rfl
  have q9 : (N.k == 9) = false := by rw [hK]; rfl
  have q10 : (N.k == 10) = false := by rw [hK]; rfl
  have q11 : (N.k == 11) = false := by rw [hK]; rfl
  have q12 : (N.k == 12) = false := by rw [hK]; rfl
  have q13 : (N.k == 13) = false := by rw [hK]; rfl
  have q14 : (N.k == 14) = false := by rw [hK]; rfl
  have q15 : (N.k == 15) = true := by rw [hK]; rfl
  clear hK
  cases t0 : bareB N false false false false with
  | false =>
    unfold vNd
    go_enter Tryz.func41, Tryz.ntmps41
    go_wp2_with (first | (go_at_call 55; refine (l2bare_ffff _ N _ _ st.a.n st.a.k st.a.l1).mono ?_; rintro e w' ⟨rfl, hb'⟩; replace st := st.below hb'; clear hb'; obtain ⟨x0, x1, x2, x3, x4, x5, x6, x7, x8, xf⟩ := nd_cells st.bn; have xt := st.bt) | (go_at_call 57; refine (l2exprs_any _ _ ns N _ _ 0 1 st.a.t st.a.n st.a.k st.a.ok HLE.out st.a.ln st.a.l2).mono ?_; rintro e w' ⟨rfl, hb'⟩; replace st := st.below hb'; clear hb'; obtain ⟨x0, x1, x2, x3, x4, x5, x6, x7, x8, xf⟩ := nd_cells st.bn; have xt := st.bt))
    go_ret
    exact ⟨rfl, st.bel⟩
  | true =>
    cases t1 : ((N.ks.length : Int) == 1) with
    | false =>
      unfold vNd
      go_enter Tryz.func41, Tryz.ntmps41
      go_wp2_with (first | (go_at_call 55; refine (l2bare_ffff _ N _ _ st.a.n st.a.k st.a.l1).mono ?_; rintro e w' ⟨rfl, hb'⟩; replace st := st.below hb'; clear hb'; obtain ⟨x0, x1, x2, x3, x4, x5, x6, x7, x8, xf⟩ := nd_cells st.bn; have xt := st.bt) | (go_at_call 57; refine (l2exprs_any _ _ ns N _ _ 0 1 st.a.t st.a.n st.a.k st.a.ok HLE.out st.a.ln st.a.l2).mono ?_; rintro e w' ⟨rfl, hb'⟩; replace st := st.below hb'; clear hb'; obtain ⟨x0, x1, x2, x3, x4, x5, x6, x7, x8, xf⟩ := nd_cells st.bn; have xt := st.bt))
      go_ret
      exact ⟨rfl, st.bel⟩
    | true =>
      have HL : N.ks.length = 1 := by have := eq_of_beq t1; omega
      have HLE : Hid (1 ≤ N.ks.length) := by show _ ≤ _; omega
      have HLT : Hid (0 < N.ks.length) := by show _ < _; omega
      clear HL
      cases t2 : exB ns N 1 0 with
      | false =>
        unfold vNd
        go_enter Tryz.func41, Tryz.ntmps41
        go_wp2_with (first | (go_at_call 55; refine (l2bare_ffff _ N _ _ st.a.n st.a.k st.a.l1).mono ?_; rintro e w' ⟨rfl, hb'⟩; replace st := st.below hb'; clear hb'; obtain ⟨x0, x1, x2, x3, x4, x5, x6, x7, x8, xf⟩ := nd_cells st.bn; have xt := st.bt) | (go_at_call 57; refine (l2exprs_any _ _ ns N _ _ 0 1 st.a.t st.a.n st.a.k st.a.ok HLE.out st.a.ln st.a.l2).mono ?_; rintro e w' ⟨rfl, hb'⟩; replace st := st.below hb'; clear hb'; obtain ⟨x0, x1, x2, x3, x4, x5, x6, x7, x8, xf⟩ := nd_cells st.bn; have xt := st.bt))
        go_ret
        exact ⟨rfl, st.bel⟩
      | true =>
        unfold vNd
        go_enter Tryz.func41, Tryz.ntmps41
        go_wp2_with (first | (go_at_call 55; refine (l2bare_ffff _ N _ _ st.a.n st.a.k st.a.l1).mono ?_; rintro e w' ⟨rfl, hb'⟩; replace st := st.below hb'; clear hb'; obtain ⟨x0, x1, x2, x3, x4, x5, x6, x7, x8, xf⟩ := nd_cells st.bn; have xt := st.bt) | (go_at_call 57; refine (l2exprs_any _ _ ns N _ _ 0 1 st.a.t st.a.n st.a.k st.a.ok HLE.out st.a.ln st.a.l2).mono ?_; rintro e w' ⟨rfl, hb'⟩; replace st := st.below hb'; clear hb'; obtain ⟨x0, x1, x2, x3, x4, x5, x6, x7, x8, xf⟩ := nd_cells st.bn; have xt := st.bt))
        go_ret
        exact ⟨rfl, st.bel⟩
end Go.Proofs.YtdgbmihokecmhaaGreatDoor

namespace Go.Proofs.YtdgbmihokecmhaaGreatDoor
open Go.RowKit Go.Maps Go.WideMaps
set_option linter.unusedVariables false

/-- f kids from j on are statements. -/
def sbB (ns : List Nd) (N : Nd) : Nat → Nat → Bool
  | 0, _ => true
  | f + 1, j => statK (kidK ns N j) && sbB ns N f (j + 1)
structure SbIs (ns : List Nd) (N : Nd) (f j : Nat) (R : Bool) : Prop where
  out : sbB ns N f j = R
set_option maxRecDepth 100000 in
set_option maxHeartbeats 3200000 in
theorem l2st_s1 {w : World} {vt : Value} {ns : List Nd} {N : Nd} {vn vk : Value} (A : NArg w vt ns N vn vk) (hK : N.k = 1) :
    Calls Tryz.prog 41 #[.agg #[vt], vNd N vn vk] w fun e w' => e = .returned (.bool (sbB ns N N.ks.length 0 && bareB N false false false false)) ∧ Below w.heap.size w w' := by
  obtain ⟨a1, c1, rfl⟩ := A.t.form
  obtain ⟨a2, c2, rfl⟩ := A.n.form
  obtain ⟨a3, c3, rfl⟩ := A.k.form
  have st := St.start A
  have hl2 := A.l2
  clear A
  have q1 : (N.k == 1) = true := by rw [hK]; rfl
  clear hK
  obtain ⟨R, hR⟩ : ∃ R, sbB ns N N.ks.length 0 = R := ⟨_, rfl⟩
  rw [hR]
  have HR : SbIs ns N N.ks.length 0 R := ⟨hR⟩
  clear hR
  unfold vNd
  go_enter Tryz.func41, Tryz.ntmps41
  go_wp2_with fail
  generalize (w.alloc (.cells #[.slice a1 ns.length c1] 30)).alloc (.cells #[.int .i64 N.k, .int .i64 N.f, .int .i64 N.t, .int .i64 N.l, .int .i64 N.op, .int .i64 N.n, .string N.x, .slice a2 N.nm.length c2, .slice a3 N.ks.length c3] 67) = W2 at st ⊢
  go_loopw [6, 18] (fun _ vj wr => ∃ (j : Nat), vj = .int .i64 j ∧ j ≤ N.ks.length ∧ SbIs ns N (N.ks.length - j) j R ∧ St w (.slice a1 ns.length c1) ns N (.slice a2 N.nm.length c2) (.slice a3 N.ks.length c3) wr) (fun _ vj _ => N.ks.length - (intOf vj).toNat)
  case atStart => exact ⟨0, rfl, by omega, HR, st⟩
  case round =>
    clear st
    obtain ⟨j, rfl, hj, HJ, st⟩ := hrel
    obtain ⟨x0, x1, x2, x3, x4, x5, x6, x7, x8, xf⟩ := nd_cells st.bn
    have xt := st.bt
    have hst := HJ.out
    by_cases hlt : j < N.ks.length
    · rw [show N.ks.length - j = (N.ks.length - (j + 1)) + 1 by omega, sbB] at hst
      have hji : (j : Int) < (N.ks.length : Int) := by omega
      have ke := kid_any st.a j hlt
      unfold vNd at ke
      generalize kidK ns N j = m at hst ke
      have kq := fun w => l2stat_any m w
      cases hx : statK m with
      | false =>
        rw [hx, Bool.false_and] at hst
        rw [hx] at kq
        have HS : Hid (false = R) := hst
        clear hst hx
        go_wp2_with (first | (go_at_call 54; refine ke.mono ?_; rintro e w' ⟨rfl, hb'⟩; replace st := st.below hb'; clear hb'; obtain ⟨x0, x1, x2, x3, x4, x5, x6, x7, x8, xf⟩ := nd_cells st.bn; have xt := st.bt) | (go_at_call 40; refine (kq _).mono ?_; rintro e w' ⟨rfl, rfl⟩))
        go_ret
        exact ⟨by rw [← HS.out]; rfl, st.bel⟩
      | true =>
        rw [hx, Bool.true_and] at hst
        rw [hx] at kq
        have HS : SbIs ns N (N.ks.length - (j + 1)) (j + 1) R := ⟨hst⟩
        clear hst hx
        go_wp2_with (first | (go_at_call 54; refine ke.mono ?_; rintro e w' ⟨rfl, hb'⟩; replace st := st.below hb'; clear hb'; obtain ⟨x0, x1, x2, x3, x4, x5, x6, x7, x8, xf⟩ := nd_cells st.bn; have xt := st.bt) | (go_at_call 40; refine (kq _).mono ?_; rintro e w' ⟨rfl, rfl⟩))
        exact ⟨⟨j + 1, by go_num, by omega, HS, st⟩, by simp [intOf]; omega⟩
    · rw [show N.ks.length - j = 0 by omega, sbB] at hst
      have HS : Hid (true = R) := hst
      have hji : ¬ (j : Int) < (N.ks.length : Int) := by omega
      clear hst
      go_wp2_with (go_at_call 55; refine (l2bare_ffff _ N _ _ st.a.n st.a.k st.a.l1).mono ?_; rintro e w' ⟨rfl, hb'⟩; replace st := st.below hb'; clear hb'; obtain ⟨x0, x1, x2, x3, x4, x5, x6, x7, x8, xf⟩ := nd_cells st.bn; have xt := st.bt)
      go_ret
      exact ⟨by rw [← HS.out]; rfl, st.bel⟩
end Go.Proofs.YtdgbmihokecmhaaGreatDoor

namespace Go.Proofs.YtdgbmihokecmhaaGreatDoor
open Go.RowKit Go.Maps Go.WideMaps
set_option linter.unusedVariables false

theorem kid2_any {w : World} {vt : Value} {ns : List Nd} {N : Nd} {vn vk : Value} (A : NArg w vt ns N vn vk) (hi : 2 < N.ks.length) :
    Calls Tryz.prog 54 #[.agg #[vt], .agg #[.int .i64 N.k, .int .i64 N.f, .int .i64 N.t, .int .i64 N.l, .int .i64 N.op, .int .i64 N.n, .string N.x, vn, vk], .int .i64 2] w fun e w' => e = .returned (.int .i64 (kidK ns N 2)) ∧ Below w.heap.size w w' := kid_any A 2 hi
set_option maxRecDepth 100000 in
set_option maxHeartbeats 3200000 in
theorem l2st_s7 {w : World} {vt : Value} {ns : List Nd} {N : Nd} {vn vk : Value} (A : NArg w vt ns N vn vk) (hK : N.k = 7) :
    Calls Tryz.prog 41 #[.agg #[vt], vNd N vn vk] w fun e w' => e = .returned (.bool (bareB N false false false false && (decide (2 ≤ N.ks.length ∧ N.ks.length ≤ 3) && (exB ns N 1 0 && (!(kidK ns N 1 != 1) && ((N.ks.length : Int) == 2 || (kidK ns N 2 == 1 || kidK ns N 2 == 7))))))) ∧ Below w.heap.size w w' := by
  obtain ⟨a1, c1, rfl⟩ := A.t.form
  obtain ⟨a2, c2, rfl⟩ := A.n.form
  obtain ⟨a3, c3, rfl⟩ := A.k.form
  have st := St.start A
  have hl2 := A.l2
  clear A
  have q1 : (N.k == 1) = false := by rw [hK]; rfl
  have q2 : (N.k == 2) = false := by rw [hK]; rfl
  have q3 : (N.k == 3) = false := by rw [hK]; rfl
  have q4 : (N.k == 4) = false := by rw [hK]; rfl
  have q5 : (N.k == 5) = false := by rw [hK]; rfl
  have q6 : (N.k == 6) = false := by rw [hK]; rfl
  have q16 : (N.k == 16) = false := by rw [hK]; rfl
  have q7 : (N.k == 7) = true := by rw [hK]; rfl
  clear hK
  unfold vNd
  cases t0 : bareB N false false false false with
  | false =>
    go_enter Tryz.func41, Tryz.ntmps41
    go_wp2_with (first | (go_at_call 55; refine (l2bare_ffff _ N _ _ st.a.n st.a.k st.a.l1).mono ?_; rintro e w' ⟨rfl, hb'⟩; replace st := st.below hb'; clear hb'; obtain ⟨x0, x1, x2, x3, x4, x5, x6, x7, x8, xf⟩ := nd_cells st.bn; have xt := st.bt))
    go_ret
    exact ⟨rfl, st.bel⟩
  | true =>
    by_cases g1 : (N.ks.length : Int) < 2
    · rw [decide_eq_false (by omega)]
      go_enter Tryz.func41, Tryz.ntmps41
      go_wp2_with (first | (go_at_call 55; refine (l2bare_ffff _ N _ _ st.a.n st.a.k st.a.l1).mono ?_; rintro e w' ⟨rfl, hb'⟩; replace st := st.below hb'; clear hb'; obtain ⟨x0, x1, x2, x3, x4, x5, x6, x7, x8, xf⟩ := nd_cells st.bn; have xt := st.bt))
      go_ret
      exact ⟨rfl, st.bel⟩
    by_cases g2 : (3 : Int) < (N.ks.length : Int)
    · rw [decide_eq_false (by omega)]
      go_enter Tryz.func41, Tryz.ntmps41
      go_wp2_with (first | (go_at_call 55; refine (l2bare_ffff _ N _ _ st.a.n st.a.k st.a.l1).mono ?_; rintro e w' ⟨rfl, hb'⟩; replace st := st.below hb'; clear hb'; obtain ⟨x0, x1, x2, x3, x4, x5, x6, x7, x8, xf⟩ := nd_cells st.bn; have xt := st.bt))
      go_ret
      exact ⟨rfl, st.bel⟩
    rw [decide_eq_true (by omega)]
    have HLE : Hid (1 ≤ N.ks.length) := by show _ ≤ _; omega
    have HLT1 : Hid (1 < N.ks.length) := by show _ < _; omega
    cases t1 : exB ns N 1 0 with
    | false =>
      go_enter Tryz.func41, Tryz.ntmps41
      go_wp2_with (first | (go_at_call 55; refine (l2bare_ffff _ N _ _ st.a.n st.a.k st.a.l1).mono ?_; rintro e w' ⟨rfl, hb'⟩; replace st := st.below hb'; clear hb'; obtain ⟨x0, x1, x2, x3, x4, x5, x6, x7, x8, xf⟩ := nd_cells st.bn; have xt := st.bt) | (go_at_call 57; refine (l2exprs_any _ _ ns N _ _ 0 1 st.a.t st.a.n st.a.k st.a.ok HLE.out st.a.ln st.a.l2).mono ?_; rintro e w' ⟨rfl, hb'⟩; replace st := st.below hb'; clear hb'; obtain ⟨x0, x1, x2, x3, x4, x5, x6, x7, x8, xf⟩ := nd_cells st.bn; have xt := st.bt))
      go_ret
      exact ⟨rfl, st.bel⟩
    | true =>
      cases t2 : (kidK ns N 1 != 1) with
      | true =>
        go_enter Tryz.func41, Tryz.ntmps41
        go_wp2_with (first | (go_at_call 55; refine (l2bare_ffff _ N _ _ st.a.n st.a.k st.a.l1).mono ?_; rintro e w' ⟨rfl, hb'⟩; replace st := st.below hb'; clear hb'; obtain ⟨x0, x1, x2, x3, x4, x5, x6, x7, x8, xf⟩ := nd_cells st.bn; have xt := st.bt) | (go_at_call 57; refine (l2exprs_any _ _ ns N _ _ 0 1 st.a.t st.a.n st.a.k st.a.ok HLE.out st.a.ln st.a.l2).mono ?_; rintro e w' ⟨rfl, hb'⟩; replace st := st.below hb'; clear hb'; obtain ⟨x0, x1, x2, x3, x4, x5, x6, x7, x8, xf⟩ := nd_cells st.bn; have xt := st.bt) | (go_at_call 54; with_reducible refine (kid1_any st.a HLT1.out).mono ?_; rintro e w' ⟨rfl, hb'⟩; replace st := st.below hb'; clear hb'; obtain ⟨x0, x1, x2, x3, x4, x5, x6, x7, x8, xf⟩ := nd_cells st.bn; have xt := st.bt))
        go_ret
        exact ⟨rfl, st.bel⟩
      | false =>
        cases t3 : ((N.ks.length : Int) == 2) with
        | true =>
          go_enter Tryz.func41, Tryz.ntmps41
          go_wp2_with (first | (go_at_call 55; refine (l2bare_ffff _ N _ _ st.a.n st.a.k st.a.l1).mono ?_; rintro e w' ⟨rfl, hb'⟩; replace st := st.below hb'; clear hb'; obtain ⟨x0, x1, x2, x3, x4, x5, x6, x7, x8, xf⟩ := nd_cells st.bn; have xt := st.bt) | (go_at_call 57; refine (l2exprs_any _ _ ns N _ _ 0 1 st.a.t st.a.n st.a.k st.a.ok HLE.out st.a.ln st.a.l2).mono ?_; rintro e w' ⟨rfl, hb'⟩; replace st := st.below hb'; clear hb'; obtain ⟨x0, x1, x2, x3, x4, x5, x6, x7, x8, xf⟩ := nd_cells st.bn; have xt := st.bt) | (go_at_call 54; with_reducible refine (kid1_any st.a HLT1.out).mono ?_; rintro e w' ⟨rfl, hb'⟩; replace st := st.below hb'; clear hb'; obtain ⟨x0, x1, x2, x3, x4, x5, x6, x7, x8, xf⟩ := nd_cells st.bn; have xt := st.bt))
          go_ret
          exact ⟨rfl, st.bel⟩
        | false =>
          have HLT2 : Hid (2 < N.ks.length) := by show _ < _; have := ne_of_beq_false t3; omega
          cases t4 : (kidK ns N 2 == 1) with
          | true =>
            go_enter Tryz.func41, Tryz.ntmps41
            go_wp2_with (first | (go_at_call 55; refine (l2bare_ffff _ N _ _ st.a.n st.a.k st.a.l1).mono ?_; rintro e w' ⟨rfl, hb'⟩; replace st := st.below hb'; clear hb'; obtain ⟨x0, x1, x2, x3, x4, x5, x6, x7, x8, xf⟩ := nd_cells st.bn; have xt := st.bt) | (go_at_call 57; refine (l2exprs_any _ _ ns N _ _ 0 1 st.a.t st.a.n st.a.k st.a.ok HLE.out st.a.ln st.a.l2).mono ?_; rintro e w' ⟨rfl, hb'⟩; replace st := st.below hb'; clear hb'; obtain ⟨x0, x1, x2, x3, x4, x5, x6, x7, x8, xf⟩ := nd_cells st.bn; have xt := st.bt) | (go_at_call 54; with_reducible refine (kid1_any st.a HLT1.out).mono ?_; rintro e w' ⟨rfl, hb'⟩; replace st := st.below hb'; clear hb'; obtain ⟨x0, x1, x2, x3, x4, x5, x6, x7, x8, xf⟩ := nd_cells st.bn; have xt := st.bt) | (go_at_call 54; with_reducible refine (kid2_any st.a HLT2.out).mono ?_; rintro e w' ⟨rfl, hb'⟩; replace st := st.below hb'; clear hb'; obtain ⟨x0, x1, x2, x3, x4, x5, x6, x7, x8, xf⟩ := nd_cells st.bn; have xt := st.bt))
            go_ret
            exact ⟨rfl, st.bel⟩
          | false =>
            cases t5 : (kidK ns N 2 == 7) with
            | true =>
              go_enter Tryz.func41, Tryz.ntmps41
              go_wp2_with (first | (go_at_call 55; refine (l2bare_ffff _ N _ _ st.a.n st.a.k st.a.l1).mono ?_; rintro e w' ⟨rfl, hb'⟩; replace st := st.below hb'; clear hb'; obtain ⟨x0, x1, x2, x3, x4, x5, x6, x7, x8, xf⟩ := nd_cells st.bn; have xt := st.bt) | (go_at_call 57; refine (l2exprs_any _ _ ns N _ _ 0 1 st.a.t st.a.n st.a.k st.a.ok HLE.out st.a.ln st.a.l2).mono ?_; rintro e w' ⟨rfl, hb'⟩; replace st := st.below hb'; clear hb'; obtain ⟨x0, x1, x2, x3, x4, x5, x6, x7, x8, xf⟩ := nd_cells st.bn; have xt := st.bt) | (go_at_call 54; with_reducible refine (kid1_any st.a HLT1.out).mono ?_; rintro e w' ⟨rfl, hb'⟩; replace st := st.below hb'; clear hb'; obtain ⟨x0, x1, x2, x3, x4, x5, x6, x7, x8, xf⟩ := nd_cells st.bn; have xt := st.bt) | (go_at_call 54; with_reducible refine (kid2_any st.a HLT2.out).mono ?_; rintro e w' ⟨rfl, hb'⟩; replace st := st.below hb'; clear hb'; obtain ⟨x0, x1, x2, x3, x4, x5, x6, x7, x8, xf⟩ := nd_cells st.bn; have xt := st.bt))
              go_ret
              exact ⟨rfl, st.bel⟩
            | false =>
              go_enter Tryz.func41, Tryz.ntmps41
              go_wp2_with (first | (go_at_call 55; refine (l2bare_ffff _ N _ _ st.a.n st.a.k st.a.l1).mono ?_; rintro e w' ⟨rfl, hb'⟩; replace st := st.below hb'; clear hb'; obtain ⟨x0, x1, x2, x3, x4, x5, x6, x7, x8, xf⟩ := nd_cells st.bn; have xt := st.bt) | (go_at_call 57; refine (l2exprs_any _ _ ns N _ _ 0 1 st.a.t st.a.n st.a.k st.a.ok HLE.out st.a.ln st.a.l2).mono ?_; rintro e w' ⟨rfl, hb'⟩; replace st := st.below hb'; clear hb'; obtain ⟨x0, x1, x2, x3, x4, x5, x6, x7, x8, xf⟩ := nd_cells st.bn; have xt := st.bt) | (go_at_call 54; with_reducible refine (kid1_any st.a HLT1.out).mono ?_; rintro e w' ⟨rfl, hb'⟩; replace st := st.below hb'; clear hb'; obtain ⟨x0, x1, x2, x3, x4, x5, x6, x7, x8, xf⟩ := nd_cells st.bn; have xt := st.bt) | (go_at_call 54; with_reducible refine (kid2_any st.a HLT2.out).mono ?_; rintro e w' ⟨rfl, hb'⟩; replace st := st.below hb'; clear hb'; obtain ⟨x0, x1, x2, x3, x4, x5, x6, x7, x8, xf⟩ := nd_cells st.bn; have xt := st.bt))
              go_ret
              exact ⟨rfl, st.bel⟩
end Go.Proofs.YtdgbmihokecmhaaGreatDoor
