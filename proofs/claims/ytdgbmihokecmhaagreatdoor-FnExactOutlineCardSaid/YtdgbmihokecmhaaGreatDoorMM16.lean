import Derived.Test.YtdgbmihokecmhaaGreatDoorMM13
import Derived.Test.YtdgbmihokecmhaaGreatDoorMM11
import Derived.Test.YtdgbmihokecmhaaGreatDoorMM12
import Derived.Test.YtdgbmihokecmhaaGreatDoorMM14
import Derived.Test.YtdgbmihokecmhaaGreatDoorMM15
import Derived.Test.YtdgbmihokecmhaaGreatDoorMM07
namespace Go.Proofs.YtdgbmihokecmhaaGreatDoor
open Go.RowKit Go.Maps Go.WideMaps
set_option linter.unusedVariables false

theorem kidm_any {w : World} {vt : Value} {ns : List Nd} {N : Nd} {vn vk : Value} (A : NArg w vt ns N vn vk) (hi : 0 < N.ks.length) :
    Calls Tryz.prog 54 #[.agg #[vt], .agg #[.int .i64 N.k, .int .i64 N.f, .int .i64 N.t, .int .i64 N.l, .int .i64 N.op, .int .i64 N.n, .string N.x, vn, vk], .int .i64 ((N.ks.length : Int) - 1)] w fun e w' => e = .returned (.int .i64 (kidK ns N (N.ks.length - 1))) ∧ Below w.heap.size w w' := by
  have h := kid_any A (N.ks.length - 1) (by omega)
  rw [show ((N.ks.length - 1 : Nat) : Int) = (N.ks.length : Int) - 1 by omega] at h
  exact h
theorem exm_any {w : World} {vt : Value} {ns : List Nd} {N : Nd} {vn vk : Value} (A : NArg w vt ns N vn vk) (hi : 0 < N.ks.length) :
    Calls Tryz.prog 57 #[.agg #[vt], .agg #[.int .i64 N.k, .int .i64 N.f, .int .i64 N.t, .int .i64 N.l, .int .i64 N.op, .int .i64 N.n, .string N.x, vn, vk], .int .i64 0, .int .i64 ((N.ks.length : Int) - 1)] w fun e w' => e = .returned (.bool (exB ns N (N.ks.length - 1) 0)) ∧ Below w.heap.size w w' := by
  have h := l2exprs_any w vt ns N vn vk 0 (N.ks.length - 1) A.t A.n A.k A.ok (by omega) A.ln A.l2
  rw [show ((N.ks.length - 1 : Nat) : Int) = (N.ks.length : Int) - 1 by omega] at h
  exact h
set_option maxRecDepth 100000 in
set_option maxHeartbeats 3200000 in
theorem l2st_s9 {w : World} {vt : Value} {ns : List Nd} {N : Nd} {vn vk : Value} (A : NArg w vt ns N vn vk) (hK : N.k = 9) :
    Calls Tryz.prog 41 #[.agg #[vt], vNd N vn vk] w fun e w' => e = .returned (.bool (bareB N false false false true && (namedB N 1 1 && (((N.ks.length : Int) == 3 || (N.ks.length : Int) == 4) && (exB ns N (N.ks.length - 1) 0 && (kidK ns N (N.ks.length - 1) == 1)))))) ∧ Below w.heap.size w w' := by
  obtain ⟨a1, c1, rfl⟩ := A.t.form
  obtain ⟨a2, c2, rfl⟩ := A.n.form
  obtain ⟨a3, c3, rfl⟩ := A.k.form
  have st := St.start A
  have hl2 := A.l2
  clear A
  have q1 : (N.k == 1) = false := by rw [hK]; rfl
  have q2 : (N.k == 2) = false := by rw [hK]; rfl
  have q3 : (N.k == 3) = false := by rw [hK]; rfl
  have q4 : (N.k == 4) = false := by rw [hK]; rfl
  have q5 : (N.k == 5) = false := by rw [hK]; rfl
  have q6 : (N.k == 6) = false := by rw [hK]; rfl
  have q16 : (N.k == 16) = false := by rw [hK]; rfl
  have q7 : (N.k == 7) = false := by rw [hK]; rfl
  have q8 : (N.k == 8) = false := by rw [hK]; rfl
  have q9 : (N.k == 9) = true := by rw [hK]; rfl
  clear hK
  unfold vNd
  cases t0 : bareB N false false false true with
  | false =>
    go_enter Tryz.func41, Tryz.ntmps41
    go_wp2_with (first | (go_at_call 55; refine (l2bare_ffft _ N _ _ st.a.n st.a.k st.a.l1).mono ?_; rintro e w' ⟨rfl, hb'⟩; replace st := st.below hb'; clear hb'; obtain ⟨x0, x1, x2, x3, x4, x5, x6, x7, x8, xf⟩ := nd_cells st.bn; have xt := st.bt))
    go_ret
    exact ⟨rfl, st.bel⟩
  | true =>
    cases t1 : namedB N 1 1 with
    | false =>
      go_enter Tryz.func41, Tryz.ntmps41
      go_wp2_with (first | (go_at_call 55; refine (l2bare_ffft _ N _ _ st.a.n st.a.k st.a.l1).mono ?_; rintro e w' ⟨rfl, hb'⟩; replace st := st.below hb'; clear hb'; obtain ⟨x0, x1, x2, x3, x4, x5, x6, x7, x8, xf⟩ := nd_cells st.bn; have xt := st.bt) | (go_at_call 56; refine (l2named_any _ N _ _ 1 1 st.a.n st.a.k st.a.l1 st.a.ls).mono ?_; rintro e w' ⟨rfl, hb'⟩; replace st := st.below hb'; clear hb'; obtain ⟨x0, x1, x2, x3, x4, x5, x6, x7, x8, xf⟩ := nd_cells st.bn; have xt := st.bt))
      go_ret
      exact ⟨rfl, st.bel⟩
    | true =>
      cases t2 : ((N.ks.length : Int) == 3) with
      | true =>
        have e2 := eq_of_beq t2
        have HLT : Hid (0 < N.ks.length) := by show _ < _; omega
        clear e2
        cases t3 : exB ns N (N.ks.length - 1) 0 with
        | false =>
          go_enter Tryz.func41, Tryz.ntmps41
          go_wp2_with (first | (go_at_call 55; refine (l2bare_ffft _ N _ _ st.a.n st.a.k st.a.l1).mono ?_; rintro e w' ⟨rfl, hb'⟩; replace st := st.below hb'; clear hb'; obtain ⟨x0, x1, x2, x3, x4, x5, x6, x7, x8, xf⟩ := nd_cells st.bn; have xt := st.bt) | (go_at_call 56; refine (l2named_any _ N _ _ 1 1 st.a.n st.a.k st.a.l1 st.a.ls).mono ?_; rintro e w' ⟨rfl, hb'⟩; replace st := st.below hb'; clear hb'; obtain ⟨x0, x1, x2, x3, x4, x5, x6, x7, x8, xf⟩ := nd_cells st.bn; have xt := st.bt) | (go_at_call 57; with_reducible refine (exm_any st.a HLT.out).mono ?_; rintro e w' ⟨rfl, hb'⟩; replace st := st.below hb'; clear hb'; obtain ⟨x0, x1, x2, x3, x4, x5, x6, x7, x8, xf⟩ := nd_cells st.bn; have xt := st.bt))
          go_ret
          exact ⟨rfl, st.bel⟩
        | true =>
          cases t4 : (kidK ns N (N.ks.length - 1) == 1) with
          | false =>
            go_enter Tryz.func41, Tryz.ntmps41
            go_wp2_with (first | (go_at_call 55; refine (l2bare_ffft _ N _ _ st.a.n st.a.k st.a.l1).mono ?_; rintro e w' ⟨rfl, hb'⟩; replace st := st.below hb'; clear hb'; obtain ⟨x0, x1, x2, x3, x4, x5, x6, x7, x8, xf⟩ := nd_cells st.bn; have xt := st.bt) | (go_at_call 56; refine (l2named_any _ N _ _ 1 1 st.a.n st.a.k st.a.l1 st.a.ls).mono ?_; rintro e w' ⟨rfl, hb'⟩; replace st := st.below hb'; clear hb'; obtain ⟨x0, x1, x2, x3, x4, x5, x6, x7, x8, xf⟩ := nd_cells st.bn; have xt := st.bt) | (go_at_call 57; with_reducible refine (exm_any st.a HLT.out).mono ?_; rintro e w' ⟨rfl, hb'⟩; replace st := st.below hb'; clear hb'; obtain ⟨x0, x1, x2, x3, x4, x5, x6, x7, x8, xf⟩ := nd_cells st.bn; have xt := st.bt) | (go_at_call 54; with_reducible refine (kidm_any st.a HLT.out).mono ?_; rintro e w' ⟨rfl, hb'⟩; replace st := st.below hb'; clear hb'; obtain ⟨x0, x1, x2, x3, x4, x5, x6, x7, x8, xf⟩ := nd_cells st.bn; have xt := st.bt))
            go_ret
            exact ⟨rfl, st.bel⟩
          | true =>
            go_enter Tryz.func41, Tryz.ntmps41
            go_wp2_with (first | (go_at_call 55; refine (l2bare_ffft _ N _ _ st.a.n st.a.k st.a.l1).mono ?_; rintro e w' ⟨rfl, hb'⟩; replace st := st.below hb'; clear hb'; obtain ⟨x0, x1, x2, x3, x4, x5, x6, x7, x8, xf⟩ := nd_cells st.bn; have xt := st.bt) | (go_at_call 56; refine (l2named_any _ N _ _ 1 1 st.a.n st.a.k st.a.l1 st.a.ls).mono ?_; rintro e w' ⟨rfl, hb'⟩; replace st := st.below hb'; clear hb'; obtain ⟨x0, x1, x2, x3, x4, x5, x6, x7, x8, xf⟩ := nd_cells st.bn; have xt := st.bt) | (go_at_call 57; with_reducible refine (exm_any st.a HLT.out).mono ?_; rintro e w' ⟨rfl, hb'⟩; replace st := st.below hb'; clear hb'; obtain ⟨x0, x1, x2, x3, x4, x5, x6, x7, x8, xf⟩ := nd_cells st.bn; have xt := st.bt) | (go_at_call 54; with_reducible refine (kidm_any st.a HLT.out).mono ?_; rintro e w' ⟨rfl, hb'⟩; replace st := st.below hb'; clear hb'; obtain ⟨x0, x1, x2, x3, x4, x5, x6, x7, x8, xf⟩ := nd_cells st.bn; have xt := st.bt))
            go_ret
            exact ⟨rfl, st.bel⟩
      | false =>
        cases t5 : ((N.ks.length : Int) == 4) with
        | true =>
          have e2 := eq_of_beq t5
          have HLT : Hid (0 < N.ks.length) := by show _ < _; omega
          clear e2
          cases t3 : exB ns N (N.ks.length - 1) 0 with
          | false =>
            go_enter Tryz.func41, Tryz.ntmps41
            go_wp2_with (first | (go_at_call 55; refine (l2bare_ffft _ N _ _ st.a.n st.a.k st.a.l1).mono ?_; rintro e w' ⟨rfl, hb'⟩; replace st := st.below hb'; clear hb'; obtain ⟨x0, x1, x2, x3, x4, x5, x6, x7, x8, xf⟩ := nd_cells st.bn; have xt := st.bt) | (go_at_call 56; refine (l2named_any _ N _ _ 1 1 st.a.n st.a.k st.a.l1 st.a.ls).mono ?_; rintro e w' ⟨rfl, hb'⟩; replace st := st.below hb'; clear hb'; obtain ⟨x0, x1, x2, x3, x4, x5, x6, x7, x8, xf⟩ := nd_cells st.bn; have xt := st.bt) | (go_at_call 57; with_reducible refine (exm_any st.a HLT.out).mono ?_; rintro e w' ⟨rfl, hb'⟩; replace st := st.below hb'; clear hb'; obtain ⟨x0, x1, x2, x3, x4, x5, x6, x7, x8, xf⟩ := nd_cells st.bn; have xt := st.bt))
            go_ret
            exact ⟨rfl, st.bel⟩
          | true =>
            cases t4 : (kidK ns N (N.ks.length - 1) == 1) with
            | false =>
              go_enter Tryz.func41, Tryz.ntmps41
              go_wp2_with (first | (go_at_call 55; refine (l2bare_ffft _ N _ _ st.a.n st.a.k st.a.l1).mono ?_; rintro e w' ⟨rfl, hb'⟩; replace st := st.below hb'; clear hb'; obtain ⟨x0, x1, x2, x3, x4, x5, x6, x7, x8, xf⟩ := nd_cells st.bn; have xt := st.bt) | (go_at_call 56; refine (l2named_any _ N _ _ 1 1 st.a.n st.a.k st.a.l1 st.a.ls).mono ?_; rintro e w' ⟨rfl, hb'⟩; replace st := st.below hb'; clear hb'; obtain ⟨x0, x1, x2, x3, x4, x5, x6, x7, x8, xf⟩ := nd_cells st.bn; have xt := st.bt) | (go_at_call 57; with_reducible refine (exm_any st.a HLT.out).mono ?_; rintro e w' ⟨rfl, hb'⟩; replace st := st.below hb'; clear hb'; obtain ⟨x0, x1, x2, x3, x4, x5, x6, x7, x8, xf⟩ := nd_cells st.bn; have xt := st.bt) | (go_at_call 54; with_reducible refine (kidm_any st.a HLT.out).mono ?_; rintro e w' ⟨rfl, hb'⟩; replace st := st.below hb'; clear hb'; obtain ⟨x0, x1, x2, x3, x4, x5, x6, x7, x8, xf⟩ := nd_cells st.bn; have xt := st.bt))
              go_ret
              exact ⟨rfl, st.bel⟩
            | true =>
              go_enter Tryz.func41, Tryz.ntmps41
              go_wp2_with (first | (go_at_call 55; refine (l2bare_ffft _ N _ _ st.a.n st.a.k st.a.l1).mono ?_; rintro e w' ⟨rfl, hb'⟩; replace st := st.below hb'; clear hb'; obtain ⟨x0, x1, x2, x3, x4, x5, x6, x7, x8, xf⟩ := nd_cells st.bn; have xt := st.bt) | (go_at_call 56; refine (l2named_any _ N _ _ 1 1 st.a.n st.a.k st.a.l1 st.a.ls).mono ?_; rintro e w' ⟨rfl, hb'⟩; replace st := st.below hb'; clear hb'; obtain ⟨x0, x1, x2, x3, x4, x5, x6, x7, x8, xf⟩ := nd_cells st.bn; have xt := st.bt) | (go_at_call 57; with_reducible refine (exm_any st.a HLT.out).mono ?_; rintro e w' ⟨rfl, hb'⟩; replace st := st.below hb'; clear hb'; obtain ⟨x0, x1, x2, x3, x4, x5, x6, x7, x8, xf⟩ := nd_cells st.bn; have xt := st.bt) | (go_at_call 54; with_reducible refine (kidm_any st.a HLT.out).mono ?_; rintro e w' ⟨rfl, hb'⟩; replace st := st.below hb'; clear hb'; obtain ⟨x0, x1, x2, x3, x4, x5, x6, x7, x8, xf⟩ := nd_cells st.bn; have xt := st.bt))
              go_ret
              exact ⟨rfl, st.bel⟩
        | false =>
          go_enter Tryz.func41, Tryz.ntmps41
          go_wp2_with (first | (go_at_call 55; refine (l2bare_ffft _ N _ _ st.a.n st.a.k st.a.l1).mono ?_; rintro e w' ⟨rfl, hb'⟩; replace st := st.below hb'; clear hb'; obtain ⟨x0, x1, x2, x3, x4, x5, x6, x7, x8, xf⟩ := nd_cells st.bn; have xt := st.bt) | (go_at_call 56; refine (l2named_any _ N _ _ 1 1 st.a.n st.a.k st.a.l1 st.a.ls).mono ?_; rintro e w' ⟨rfl, hb'⟩; replace st := st.below hb'; clear hb'; obtain ⟨x0, x1, x2, x3, x4, x5, x6, x7, x8, xf⟩ := nd_cells st.bn; have xt := st.bt))
          go_ret
          exact ⟨rfl, st.bel⟩
end Go.Proofs.YtdgbmihokecmhaaGreatDoor

namespace Go.Proofs.YtdgbmihokecmhaaGreatDoor
open Go.RowKit Go.Maps Go.WideMaps
set_option linter.unusedVariables false

/-- f kids from j on are targets. -/
def tgB (ns : List Nd) (N : Nd) : Nat → Nat → Bool
  | 0, _ => true
  | f + 1, j => targK (kidK ns N j) && tgB ns N f (j + 1)
structure TgIs (ns : List Nd) (N : Nd) (f j : Nat) (R : Bool) : Prop where
  out : tgB ns N f j = R
set_option maxRecDepth 100000 in
set_option maxHeartbeats 3200000 in
theorem l2st_s5 {w : World} {vt : Value} {ns : List Nd} {N : Nd} {vn vk : Value} (A : NArg w vt ns N vn vk) (hK : N.k = 5) :
    Calls Tryz.prog 41 #[.agg #[vt], vNd N vn vk] w fun e w' => e = .returned (.bool (bareB N false true false false && (decide (1 ≤ N.n ∧ N.n < (N.ks.length : Int)) && (tgB ns N N.n.toNat 0 && exB ns N (N.ks.length - N.n.toNat) N.n.toNat)))) ∧ Below w.heap.size w w' := by
  obtain ⟨a1, c1, rfl⟩ := A.t.form
  obtain ⟨a2, c2, rfl⟩ := A.n.form
  obtain ⟨a3, c3, rfl⟩ := A.k.form
  have st := St.start A
  have hl2 := A.l2
  clear A
  have q1 : (N.k == 1) = false := by rw [hK]; rfl
  have q2 : (N.k == 2) = false := by rw [hK]; rfl
  have q3 : (N.k == 3) = false := by rw [hK]; rfl
  have q4 : (N.k == 4) = false := by rw [hK]; rfl
  have q5 : (N.k == 5) = true := by rw [hK]; rfl
  clear hK
  unfold vNd
  cases t0 : bareB N false true false false with
  | false =>
    go_enter Tryz.func41, Tryz.ntmps41
    go_wp2_with (first | (go_at_call 55; refine (l2bare_ftff _ N _ _ st.a.n st.a.k st.a.l1).mono ?_; rintro e w' ⟨rfl, hb'⟩; replace st := st.below hb'; clear hb'; obtain ⟨x0, x1, x2, x3, x4, x5, x6, x7, x8, xf⟩ := nd_cells st.bn; have xt := st.bt))
    go_ret
    exact ⟨rfl, st.bel⟩
  | true =>
    by_cases g1 : N.n < 1
    · rw [decide_eq_false (by omega)]
      go_enter Tryz.func41, Tryz.ntmps41
      go_wp2_with (first | (go_at_call 55; refine (l2bare_ftff _ N _ _ st.a.n st.a.k st.a.l1).mono ?_; rintro e w' ⟨rfl, hb'⟩; replace st := st.below hb'; clear hb'; obtain ⟨x0, x1, x2, x3, x4, x5, x6, x7, x8, xf⟩ := nd_cells st.bn; have xt := st.bt))
      go_ret
      exact ⟨rfl, st.bel⟩
    by_cases g2 : (N.ks.length : Int) ≤ N.n
    · rw [decide_eq_false (by omega)]
      go_enter Tryz.func41, Tryz.ntmps41
      go_wp2_with (first | (go_at_call 55; refine (l2bare_ftff _ N _ _ st.a.n st.a.k st.a.l1).mono ?_; rintro e w' ⟨rfl, hb'⟩; replace st := st.below hb'; clear hb'; obtain ⟨x0, x1, x2, x3, x4, x5, x6, x7, x8, xf⟩ := nd_cells st.bn; have xt := st.bt))
      go_ret
      exact ⟨rfl, st.bel⟩
    rw [decide_eq_true (by omega)]
    obtain ⟨m, hm⟩ : ∃ m : Nat, N.n = (m : Int) := ⟨N.n.toNat, by omega⟩
    have hmn : N.n.toNat = m := by omega
    rw [hmn]
    have hml : m < N.ks.length := by omega
    have HM : Hid (N.n = (m : Int)) := hm
    obtain ⟨R, hR⟩ : ∃ R, tgB ns N m 0 = R := ⟨_, rfl⟩
    rw [hR]
    have HR : TgIs ns N m 0 R := ⟨hR⟩
    clear hR hm hmn
    go_enter Tryz.func41, Tryz.ntmps41
    go_wp2_with (first | (go_at_call 55; refine (l2bare_ftff _ N _ _ st.a.n st.a.k st.a.l1).mono ?_; rintro e w' ⟨rfl, hb'⟩; replace st := st.below hb'; clear hb'; obtain ⟨x0, x1, x2, x3, x4, x5, x6, x7, x8, xf⟩ := nd_cells st.bn; have xt := st.bt))
    go_loopw [7] (fun vj wr => ∃ (j : Nat), vj = .int .i64 j ∧ j ≤ m ∧ TgIs ns N (m - j) j R ∧ St w (.slice a1 ns.length c1) ns N (.slice a2 N.nm.length c2) (.slice a3 N.ks.length c3) wr) (fun vj _ => m - (intOf vj).toNat)
    case atStart => exact ⟨0, rfl, by omega, HR, st⟩
    case round =>
      clear st
      obtain ⟨j, rfl, hj, HJ, st⟩ := hrel
      obtain ⟨y0, y1, y2, y3, y4, y5, y6, y7, y8, yf⟩ := nd_cells st.bn
      have yt := st.bt
      have hst := HJ.out
      have hmm := HM.out
      by_cases hlt : j < m
      · rw [show m - j = (m - (j + 1)) + 1 by omega, tgB] at hst
        have hji : (j : Int) < N.n := by omega
        have ke := kid_any st.a j (by omega)
        unfold vNd at ke
        have kq := fun w => l2target_any (kidK ns N j) w
        clear hmm
        generalize kidK ns N j = c at hst ke kq
        cases hx : targK c with
        | false =>
          rw [hx, Bool.false_and] at hst
          rw [hx] at kq
          have HS : Hid (false = R) := hst
          clear hst hx
          go_wp2_with (first | (go_at_call 54; refine ke.mono ?_; rintro e w' ⟨rfl, hb'⟩; replace st := st.below hb'; clear hb'; obtain ⟨x0, x1, x2, x3, x4, x5, x6, x7, x8, xf⟩ := nd_cells st.bn; have xt := st.bt) | (go_at_call 58; refine (kq _).mono ?_; rintro e w' ⟨rfl, rfl⟩))
          go_ret
          exact ⟨by rw [← HS.out]; rfl, st.bel⟩
        | true =>
          rw [hx, Bool.true_and] at hst
          rw [hx] at kq
          have HS : TgIs ns N (m - (j + 1)) (j + 1) R := ⟨hst⟩
          clear hst hx
          go_wp2_with (first | (go_at_call 54; refine ke.mono ?_; rintro e w' ⟨rfl, hb'⟩; replace st := st.below hb'; clear hb'; obtain ⟨x0, x1, x2, x3, x4, x5, x6, x7, x8, xf⟩ := nd_cells st.bn; have xt := st.bt) | (go_at_call 58; refine (kq _).mono ?_; rintro e w' ⟨rfl, rfl⟩))
          exact ⟨⟨j + 1, by go_num, by omega, HS, st⟩, by simp [intOf]; omega⟩
      · rw [show m - j = 0 by omega, tgB] at hst
        have HS : Hid (true = R) := hst
        have hji : ¬ (j : Int) < N.n := by omega
        have kx := l2exprs_any _ _ ns N _ _ m N.ks.length st.a.t st.a.n st.a.k st.a.ok (Nat.le_refl _) st.a.ln st.a.l2
        unfold vNd at kx
        rw [← hmm] at kx
        clear hst hmm
        go_wp2_with (go_at_call 57; refine kx.mono ?_; rintro e w' ⟨rfl, hb'⟩; replace st := st.below hb'; clear hb'; obtain ⟨x0, x1, x2, x3, x4, x5, x6, x7, x8, xf⟩ := nd_cells st.bn; have xt := st.bt)
        go_ret
        exact ⟨by rw [← HS.out]; rfl, st.bel⟩
end Go.Proofs.YtdgbmihokecmhaaGreatDoor

namespace Go.Proofs.YtdgbmihokecmhaaGreatDoor
open Go.RowKit Go.Maps Go.WideMaps
set_option linter.unusedVariables false

/-- A statement has the kids and fields that its kind wants; so has an expression, or an entry. -/
def stB (ns : List Nd) (N : Nd) : Bool :=
  if N.k = 1 then (sbB ns N N.ks.length 0 && bareB N false false false false)
  else if N.k = 2 then (bareB N false false false true && namedB N 1 200 && exB ns N N.ks.length 0)
  else if N.k = 3 then (bareB N false false false true && namedB N 1 1 && ((N.ks.length : Int) == 1) && exB ns N 1 0)
  else if N.k = 4 then (bareB N false false false true && namedB N 1 1 && ((N.ks.length : Int) == 1) && (kidK ns N 0 == 36))
  else if N.k = 5 then (bareB N false true false false && (decide (1 ≤ N.n ∧ N.n < (N.ks.length : Int)) && (tgB ns N N.n.toNat 0 && exB ns N (N.ks.length - N.n.toNat) N.n.toNat)))
  else if N.k = 6 then (bareB N false false false false && ((N.ks.length : Int) == 1) && (kidK ns N 0 == 34))
  else if N.k = 7 then (bareB N false false false false && (decide (2 ≤ N.ks.length ∧ N.ks.length ≤ 3) && (exB ns N 1 0 && (!(kidK ns N 1 != 1) && ((N.ks.length : Int) == 2 || (kidK ns N 2 == 1 || kidK ns N 2 == 7))))))
  else if N.k = 8 then (bareB N false false false false && ((N.ks.length : Int) == 2) && exB ns N 1 0 && (kidK ns N 1 == 1))
  else if N.k = 9 then (bareB N false false false true && (namedB N 1 1 && (((N.ks.length : Int) == 3 || (N.ks.length : Int) == 4) && (exB ns N (N.ks.length - 1) 0 && (kidK ns N (N.ks.length - 1) == 1)))))
  else if N.k = 10 then (bareB N false false false true && namedB N 1 200 && ((N.ks.length : Int) == 2) && exB ns N 1 0 && (kidK ns N 1 == 1))
  else if N.k = 11 then (bareB N false false false false && ((N.ks.length : Int) == 0))
  else if N.k = 12 then (bareB N false false false false && ((N.ks.length : Int) == 0))
  else if N.k = 13 then (bareB N false false false false && exB ns N N.ks.length 0)
  else if N.k = 14 then (bareB N false false false true && namedB N 1 2 && ((N.ks.length : Int) == 2) && (kidK ns N 0 == 1) && (kidK ns N 1 == 1))
  else if N.k = 15 then (bareB N false false false false && ((N.ks.length : Int) == 1) && exB ns N 1 0)
  else if N.k = 16 then (bareB N false false false false && ((N.ks.length : Int) == 1) && (kidK ns N 0 == 34))
  else false
def exprB (ns : List Nd) (N : Nd) : Bool :=
  if N.k = 20 then (((N.ks.length : Int) == 0) && bareB N false false false false)
  else if N.k = 21 then (((N.ks.length : Int) == 0) && bareB N false false false false)
  else if N.k = 22 then (((N.ks.length : Int) == 0) && bareB N false false false false)
  else if N.k = 27 then (((N.ks.length : Int) == 0) && bareB N false false false false)
  else if N.k = 23 then (((N.ks.length : Int) == 0) && bareB N false true false false)
  else if N.k = 24 then (((N.ks.length : Int) == 0) && bareB N false false true false && fok N.x)
  else if N.k = 25 then (((N.ks.length : Int) == 0) && bareB N false false true false && decide ((N.x.size : Int) ≤ 4000))
  else if N.k = 26 then (((N.ks.length : Int) == 0) && bareB N false false true false && nmok N.x)
  else if N.k = 28 then (((N.ks.length : Int) == 2) && exB ns N 2 0 && bareB N false false false false)
  else if N.k = 29 then (((N.ks.length : Int) == 2) && exB ns N 2 0 && bareB N false false false false)
  else if N.k = 32 then (((N.ks.length : Int) == 2) && exB ns N 2 0 && (kidK ns N 0 != 27) && bareB N false false false false)
  else if N.k = 30 then (((N.ks.length : Int) == 1) && exB ns N 1 0 && bareB N true false false false && decide ((19 : Int) ≤ N.op) && decide (N.op ≤ 22))
  else if N.k = 31 then (((N.ks.length : Int) == 2) && exB ns N 2 0 && bareB N true false false false && decide ((1 : Int) ≤ N.op) && decide (N.op ≤ 18))
  else if N.k = 33 then (((N.ks.length : Int) == 1) && exB ns N 1 0 && (kidK ns N 0 != 27) && bareB N false false true false && nmok N.x)
  else if N.k = 34 then (decide ((1 : Int) ≤ (N.ks.length : Int)) && exB ns N N.ks.length 0 && (kidK ns N 0 != 27) && bareB N false false false false)
  else if N.k = 35 then (enB ns N N.ks.length 0 && bareB N false false false false)
  else if N.k = 36 then (((N.ks.length : Int) == 1) && (kidK ns N 0 == 1) && bareB N true false false true && namedB N 0 200 && (N.op == 0 || N.op == 1))
  else if N.k = 37 then (((N.ks.length : Int) == 1) && (kidK ns N 0 == 34 || kidK ns N 0 == 27) && bareB N false false false false)
  else if N.k = 40 then (((N.ks.length : Int) == 1) && exB ns N 1 0 && bareB N false false false false)
  else if N.k = 41 then (((N.ks.length : Int) == 2) && exB ns N 2 0 && bareB N false false false false)
  else if N.k = 42 then (((N.ks.length : Int) == 1) && exB ns N 1 0 && bareB N false false true false && nmok N.x)
  else false
theorem l2statement_any {w : World} {vt : Value} {ns : List Nd} {N : Nd} {vn vk : Value} (A : NArg w vt ns N vn vk) (h : statK N.k = true) :
    Calls Tryz.prog 41 #[.agg #[vt], vNd N vn vk] w fun e w' => e = .returned (.bool (stB ns N)) ∧ Below w.heap.size w w' := by
  unfold stB
  by_cases k1 : N.k = 1
  · rw [if_pos k1]; exact l2st_s1 A k1
  rw [if_neg k1]
  by_cases k2 : N.k = 2
  · rw [if_pos k2]; exact l2st_s2 A k2
  rw [if_neg k2]
  by_cases k3 : N.k = 3
  · rw [if_pos k3]; exact l2st_s3 A k3
  rw [if_neg k3]
  by_cases k4 : N.k = 4
  · rw [if_pos k4]; exact l2st_s4 A k4
  rw [if_neg k4]
  by_cases k5 : N.k = 5
  · rw [if_pos k5]; exact l2st_s5 A k5
  rw [if_neg k5]
  by_cases k6 : N.k = 6
  · rw [if_pos k6]; exact l2st_s6 A k6
  rw [if_neg k6]
  by_cases k7 : N.k = 7
  · rw [if_pos k7]; exact l2st_s7 A k7
  rw [if_neg k7]
  by_cases k8 : N.k = 8
  · rw [if_pos k8]; exact l2st_s8 A k8
  rw [if_neg k8]
  by_cases k9 : N.k = 9
  · rw [if_pos k9]; exact l2st_s9 A k9
  rw [if_neg k9]
  by_cases k10 : N.k = 10
  · rw [if_pos k10]; exact l2st_s10 A k10
  rw [if_neg k10]
  by_cases k11 : N.k = 11
  · rw [if_pos k11]; exact l2st_s11 A k11
  rw [if_neg k11]
  by_cases k12 : N.k = 12
  · rw [if_pos k12]; exact l2st_s12 A k12
  rw [if_neg k12]
  by_cases k13 : N.k = 13
  · rw [if_pos k13]; exact l2st_s13 A k13
  rw [if_neg k13]
  by_cases k14 : N.k = 14
  · rw [if_pos k14]; exact l2st_s14 A k14
  rw [if_neg k14]
  by_cases k15 : N.k = 15
  · rw [if_pos k15]; exact l2st_s15 A k15
  rw [if_neg k15]
  by_cases k16 : N.k = 16
  · rw [if_pos k16]; exact l2st_s16 A k16
  rw [if_neg k16]
  exact absurd (of_decide_eq_true h) (by omega)
theorem l2expression_any {w : World} {vt : Value} {ns : List Nd} {N : Nd} {vn vk : Value} (A : NArg w vt ns N vn vk) :
    Calls Tryz.prog 42 #[.agg #[vt], vNd N vn vk] w fun e w' => e = .returned (.bool (exprB ns N)) ∧ Below w.heap.size w w' := by
  unfold exprB
  by_cases k20 : N.k = 20
  · rw [if_pos k20]; exact l2ex_e20 A k20
  rw [if_neg k20]
  by_cases k21 : N.k = 21
  · rw [if_pos k21]; exact l2ex_e21 A k21
  rw [if_neg k21]
  by_cases k22 : N.k = 22
  · rw [if_pos k22]; exact l2ex_e22 A k22
  rw [if_neg k22]
  by_cases k27 : N.k = 27
  · rw [if_pos k27]; exact l2ex_e27 A k27
  rw [if_neg k27]
  by_cases k23 : N.k = 23
  · rw [if_pos k23]; exact l2ex_e23 A k23
  rw [if_neg k23]
  by_cases k24 : N.k = 24
  · rw [if_pos k24]; exact l2ex_e24 A k24
  rw [if_neg k24]
  by_cases k25 : N.k = 25
  · rw [if_pos k25]; exact l2ex_e25 A k25
  rw [if_neg k25]
  by_cases k26 : N.k = 26
  · rw [if_pos k26]; exact l2ex_e26 A k26
  rw [if_neg k26]
  by_cases k28 : N.k = 28
  · rw [if_pos k28]; exact l2ex_e28 A k28
  rw [if_neg k28]
  by_cases k29 : N.k = 29
  · rw [if_pos k29]; exact l2ex_e29 A k29
  rw [if_neg k29]
  by_cases k32 : N.k = 32
  · rw [if_pos k32]; exact l2ex_e32 A k32
  rw [if_neg k32]
  by_cases k30 : N.k = 30
  · rw [if_pos k30]; exact l2ex_e30 A k30
  rw [if_neg k30]
  by_cases k31 : N.k = 31
  · rw [if_pos k31]; exact l2ex_e31 A k31
  rw [if_neg k31]
  by_cases k33 : N.k = 33
  · rw [if_pos k33]; exact l2ex_e33 A k33
  rw [if_neg k33]
  by_cases k34 : N.k = 34
  · rw [if_pos k34]; exact l2ex_e34 A k34
  rw [if_neg k34]
  by_cases k35 : N.k = 35
  · rw [if_pos k35]; exact l2ex_e35 A k35
  rw [if_neg k35]
  by_cases k36 : N.k = 36
  · rw [if_pos k36]; exact l2ex_e36 A k36
  rw [if_neg k36]
  by_cases k37 : N.k = 37
  · rw [if_pos k37]; exact l2ex_e37 A k37
  rw [if_neg k37]
  by_cases k40 : N.k = 40
  · rw [if_pos k40]; exact l2ex_e40 A k40
  rw [if_neg k40]
  by_cases k41 : N.k = 41
  · rw [if_pos k41]; exact l2ex_e41 A k41
  rw [if_neg k41]
  by_cases k42 : N.k = 42
  · rw [if_pos k42]; exact l2ex_e42 A k42
  rw [if_neg k42]
  refine l2ex_no A fun c hc => ?_
  simp only [exKinds, List.mem_cons, List.not_mem_nil, or_false] at hc
  omega
end Go.Proofs.YtdgbmihokecmhaaGreatDoor

namespace Go.Proofs.YtdgbmihokecmhaaGreatDoor
open Go.RowKit Go.Maps Go.WideMaps
set_option linter.unusedVariables false

/-- f kids from j on are nodes ahead of i. -/
def klB (l : List Int) (i : Int) : Nat → Nat → Bool
  | 0, _ => true
  | f + 1, j => decide (0 ≤ l.getD j 0 ∧ l.getD j 0 < i) && klB l i f (j + 1)
structure KlIs (l : List Int) (i : Int) (f j : Nat) (R : Bool) : Prop where
  out : klB l i f j = R
theorem klB_all (l : List Int) (i : Int) : ∀ (f j : Nat), klB l i f j = true → ∀ k, j ≤ k → k < j + f → 0 ≤ l.getD k 0 ∧ l.getD k 0 < i
  | 0, j, _, k, h1, h2 => by omega
  | f + 1, j, h, k, h1, h2 => by
    rw [klB, Bool.and_eq_true] at h
    rcases Nat.eq_or_lt_of_le h1 with rfl | h3
    · exact of_decide_eq_true h.1
    · exact klB_all l i f (j + 1) h.2 k h3 (by omega)
theorem klB_ok {ns : List Nd} {N : Nd} {i : Nat} (h : klB N.ks i N.ks.length 0 = true) (hi : i ≤ ns.length) : KidsOk ns N := by
  refine ⟨fun z hz => ?_⟩
  obtain ⟨k, hk, rfl⟩ := List.getElem_of_mem hz
  have := klB_all N.ks i N.ks.length 0 h k (by omega) (by omega)
  rw [List.getD_eq_getElem?_getD, List.getElem?_eq_getElem hk] at this
  simp only [Option.getD_some] at this
  omega
def fldB (N : Nd) : Bool := decide (0 ≤ N.f ∧ N.f ≤ N.t ∧ 0 ≤ N.l ∧ N.ks.length ≤ 200)
def seB (ns : List Nd) (N : Nd) : Bool := if statK N.k = true then stB ns N else exprB ns N
def nodeB (ns : List Nd) (i : Nat) (N : Nd) : Bool := fldB N && (klB N.ks i N.ks.length 0 && seB ns N)
/-- A node's lengths, as the law lets them by. -/
structure NdSmall (N : Nd) : Prop where
  l1 : N.nm.length ≤ 1048576
  l2 : N.ks.length ≤ 1048576
  lx : N.x.size ≤ 1048576
  ls : ∀ s ∈ N.nm, s.size ≤ 1048576

set_option maxRecDepth 100000 in
set_option maxHeartbeats 3200000 in
theorem l2nodeok_any (w : World) (vt : Value) (ns : List Nd) (i : Nat) (N : Nd) (ht : NdsAt w vt ns) (hln : ns.length ≤ 1048576) (hi : ns[i]? = some N) (hS : NdSmall N) :
    Calls Tryz.prog 27 #[.agg #[vt], .int .i64 i] w fun e w' => e = .returned (.bool (nodeB ns i N)) ∧ Below w.heap.size w w' := by
  obtain ⟨a1, c1, rfl⟩ := ht.form
  obtain ⟨p1, rfl, vn, vk, g1⟩ := ht.get hi
  have hil : i < ns.length := by rcases Nat.lt_or_ge i ns.length with h | h; exact h; rw [List.getElem?_eq_none h] at hi; cases hi
  have hii : (i : Int) < (ns.length : Int) := by omega
  have hi0 : (0 : Int) ≤ (i : Int) := by omega
  obtain ⟨d0, d1, d2, d3, d4, d5, d6, d7, d8, hn, hk⟩ := g1
  obtain ⟨a2, c2, rfl⟩ := hn.form
  obtain ⟨a3, c3, rfl⟩ := hk.form
  have hb2 : Below w.heap.size w ((w.alloc (.cells #[.slice (some p1) ns.length c1] 30)).alloc (.cells #[.int .i64 N.k, .int .i64 N.f, .int .i64 N.t, .int .i64 N.l, .int .i64 N.op, .int .i64 N.n, .string N.x, .slice a2 N.nm.length c2, .slice a3 N.ks.length c3] 67)) := ((Below.refl _ w).alloc (Nat.le_refl _) _).alloc (by simp) _
  have hpl := cell_lt d0
  have HS : Hid (NdSmall N) := hS
  have HT : Hid (NdsAt w (.slice (some p1) ns.length c1) ns ∧ StrsAt w (.slice a2 N.nm.length c2) N.nm ∧ IntsAt w (.slice a3 N.ks.length c3) N.ks) := ⟨ht, hn, hk⟩
  have hl2 := hS.l2
  have hbt : ((w.alloc (.cells #[.slice (some p1) ns.length c1] 30)).alloc (.cells #[.int .i64 N.k, .int .i64 N.f, .int .i64 N.t, .int .i64 N.l, .int .i64 N.op, .int .i64 N.n, .string N.x, .slice a2 N.nm.length c2, .slice a3 N.ks.length c3] 67)).cell? ⟨w.heap.size, 0, none⟩ = some (.slice (some p1) ns.length c1) := by
    rw [cell_of_row _ _ _ _ _ _ ((Below.heap_alloc _ _ _ (by simp)).trans (heap_alloc_new w _))]; rfl
  have hbn : NdBox (w.heap.size + 1) ((w.alloc (.cells #[.slice (some p1) ns.length c1] 30)).alloc (.cells #[.int .i64 N.k, .int .i64 N.f, .int .i64 N.t, .int .i64 N.l, .int .i64 N.op, .int .i64 N.n, .string N.x, .slice a2 N.nm.length c2, .slice a3 N.ks.length c3] 67)) 67 N (.slice a2 N.nm.length c2) (.slice a3 N.ks.length c3) := by
    have := heap_alloc_new (w.alloc (.cells #[.slice (some p1) ns.length c1] 30)) (.cells #[.int .i64 N.k, .int .i64 N.f, .int .i64 N.t, .int .i64 N.l, .int .i64 N.op, .int .i64 N.n, .string N.x, .slice a2 N.nm.length c2, .slice a3 N.ks.length c3] 67)
    rw [World.size_alloc] at this
    exact this
  clear ht hn hk hS hi
  unfold nodeB
  by_cases f1 : N.f < 0
  · rw [show fldB N = false from decide_eq_false (by omega)]
    go_enter Tryz.func27, Tryz.ntmps27
    go_wp2
    all_goals (go_ret; exact ⟨rfl, hb2⟩)
  by_cases f2 : N.t < N.f
  · rw [show fldB N = false from decide_eq_false (by omega)]
    go_enter Tryz.func27, Tryz.ntmps27
    go_wp2
    all_goals (go_ret; exact ⟨rfl, hb2⟩)
  by_cases f3 : N.l < 0
  · rw [show fldB N = false from decide_eq_false (by omega)]
    go_enter Tryz.func27, Tryz.ntmps27
    go_wp2
    all_goals (go_ret; exact ⟨rfl, hb2⟩)
  by_cases f4 : (200 : Int) < (N.ks.length : Int)
  · rw [show fldB N = false from decide_eq_false (by omega)]
    go_enter Tryz.func27, Tryz.ntmps27
    go_wp2
    all_goals (go_ret; exact ⟨rfl, hb2⟩)
  rw [show fldB N = true from decide_eq_true (by omega)]
  obtain ⟨S, hS⟩ : ∃ S, seB ns N = S := ⟨_, rfl⟩
  rw [hS]
  have HSE : Hid (seB ns N = S) := hS
  clear hS
  obtain ⟨R, hR⟩ : ∃ R, klB N.ks i N.ks.length 0 = R := ⟨_, rfl⟩
  rw [hR]
  have HR0 : KlIs N.ks i N.ks.length 0 R := ⟨hR⟩
  clear hR
  go_enter Tryz.func27, Tryz.ntmps27
  go_wp2_with fail
  generalize (w.alloc (.cells #[.slice (some p1) ns.length c1] 30)).alloc (.cells #[.int .i64 N.k, .int .i64 N.f, .int .i64 N.t, .int .i64 N.l, .int .i64 N.op, .int .i64 N.n, .string N.x, .slice a2 N.nm.length c2, .slice a3 N.ks.length c3] 67) = W2 at hb2 hbt hbn ⊢
  clear d0 d1 d2 d3 d4 d5 d6 d7 d8
  go_loop [7, 37] (fun _ vj => ∃ j : Nat, vj = .int .i64 j ∧ j ≤ N.ks.length ∧ KlIs N.ks i (N.ks.length - j) j R) (fun _ vj => N.ks.length - (intOf vj).toNat)
  case atStart => exact ⟨0, rfl, by omega, HR0⟩
  case round =>
    obtain ⟨j, rfl, hj, HJ⟩ := hrel
    have hst := HJ.out
    by_cases hlt : j < N.ks.length
    · have hsk : N.ks[j]? = some N.ks[j] := List.getElem?_eq_getElem hlt
      obtain ⟨p3, rfl, g3⟩ := (HT.out.2.2.below hb2).get hsk
      rw [show N.ks.length - j = (N.ks.length - (j + 1)) + 1 by omega, klB, List.getD_eq_getElem?_getD, hsk, Option.getD_some] at hst
      have hji : (j : Int) < (N.ks.length : Int) := by omega
      have hj0 : (0 : Int) ≤ (j : Int) := by omega
      generalize N.ks[j] = z at hst g3
      clear hsk
      by_cases z0 : z < 0
      · rw [decide_eq_false (by omega), Bool.false_and] at hst
        have HS2 : Hid (false = R) := hst
        clear hst
        go_wp2_with fail
        go_ret
        exact ⟨by rw [← HS2.out]; rfl, hb2⟩
      by_cases z1 : (i : Int) ≤ z
      · rw [decide_eq_false (by omega), Bool.false_and] at hst
        have HS2 : Hid (false = R) := hst
        clear hst
        go_wp2_with fail
        go_ret
        exact ⟨by rw [← HS2.out]; rfl, hb2⟩
      rw [decide_eq_true (by omega), Bool.true_and] at hst
      have HS2 : KlIs N.ks i (N.ks.length - (j + 1)) (j + 1) R := ⟨hst⟩
      clear hst
      go_wp2_with fail
      go_round
      case rel => exact ⟨j + 1, by go_num, by omega, HS2⟩
      case measure => simp [intOf]; omega
    · rw [show N.ks.length - j = 0 by omega, klB] at hst
      have HS2 : Hid (true = R) := hst
      have hji : ¬ (j : Int) < (N.ks.length : Int) := by omega
      have hok : KidsOk ns N := klB_ok (by rw [HR0.out, ← HS2.out]) (Nat.le_of_lt hil)
      have A : NArg W2 (.slice (some p1) ns.length c1) ns N (.slice a2 N.nm.length c2) (.slice a3 N.ks.length c3) := ⟨HT.out.1.below hb2, HT.out.2.1.below hb2, HT.out.2.2.below hb2, hok, hln, HS.out.l1, HS.out.l2, HS.out.lx, HS.out.ls⟩
      obtain ⟨x0, x1, x2, x3, x4, x5, x6, x7, x8, xf⟩ := nd_cells hbn
      have kq := fun w => l2stat_any N.k w
      clear hst
      cases hx : statK N.k with
      | true =>
        have kz := l2statement_any A hx
        rw [hx] at kq
        rw [show stB ns N = S by rw [← HSE.out]; unfold seB; rw [if_pos hx]] at kz
        unfold vNd at kz
        clear hx A hok
        go_wp2_with (first | (go_at_call 40; refine (kq _).mono ?_; rintro e w' ⟨rfl, rfl⟩) | (go_at_call 41; refine kz.mono ?_; rintro e w3 ⟨rfl, hb3⟩))
        go_ret
        exact ⟨by rw [← HS2.out]; rfl, hb2.trans (hb3.mono hb2.size)⟩
      | false =>
        have kz := l2expression_any A
        rw [hx] at kq
        rw [show exprB ns N = S by rw [← HSE.out]; unfold seB; rw [if_neg (by rw [hx]; simp)]] at kz
        unfold vNd at kz
        clear hx A hok
        go_wp2_with (first | (go_at_call 40; refine (kq _).mono ?_; rintro e w' ⟨rfl, rfl⟩) | (go_at_call 42; refine kz.mono ?_; rintro e w3 ⟨rfl, hb3⟩))
        go_ret
        exact ⟨by rw [← HS2.out]; rfl, hb2.trans (hb3.mono hb2.size)⟩
end Go.Proofs.YtdgbmihokecmhaaGreatDoor

namespace Go.Proofs.YtdgbmihokecmhaaGreatDoor
open Go.RowKit Go.Maps Go.WideMaps
set_option linter.unusedVariables false

/-- The first place from j on, within f, of which p holds. -/
def fstI (p : Nat → Bool) : Nat → Nat → Option Nat
  | 0, _ => none
  | f + 1, j => if p j = true then some j else fstI p f (j + 1)
structure FsIs (p : Nat → Bool) (f j : Nat) (R : Option Nat) : Prop where
  out : fstI p f j = R
/-- The depths, from the last node on. -/
def dpK (i : Nat) : List Int → List Int → List Int
  | [], D => D
  | k :: r, D => dpK i r (D.set k.toNat (D.getD i 0 + 1))
def dpN (ns : List Nd) : Nat → List Int → List Int
  | 0, D => D
  | m + 1, D => dpN ns m (dpK m (ns.getD m zNd).ks D)
def dps (ns : List Nd) : List Int := dpN ns ns.length (List.replicate ns.length 0)
/-- The fault of a list of nodes. -/
def badHead (ns : List Nd) : Bool := decide (ns.length = 0 ∨ 3000 < ns.length ∨ (ns.getD (ns.length - 1) zNd).k ≠ 1)
def badNode (ns : List Nd) (i : Nat) : Bool := !(nodeB ns i (ns.getD i zNd))
def badSize (S : List Int) (i : Nat) : Bool := S.getD i 0 == 0
def badDeep (D : List Int) (i : Nat) : Bool := decide (100 < D.getD i 0)
def tf4 : Option Nat → Int × Int
  | some i => (4, (i : Int))
  | none => (0, 0)
def tf3 (S D : List Int) (n : Nat) : Option Nat → Int × Int
  | some i => (3, (i : Int))
  | none => if S.getD (n - 1) 0 ≠ (n : Int) then (3, (n : Int) - 1) else tf4 (fstI (badDeep D) n 0)
def tf2 (S D : List Int) (n : Nat) : Option Nat → Int × Int
  | some i => (2, (i : Int))
  | none => tf3 S D n (fstI (badSize S) n 0)
def treeF (ns : List Nd) : Int × Int := if badHead ns = true then (1, 0) else tf2 (szs ns) (dps ns) ns.length (fstI (badNode ns) ns.length 0)
def DpOk (n : Nat) (D : List Int) : Prop := D.length = n ∧ ∀ (j : Nat) z, D[j]? = some z → 0 ≤ z ∧ z ≤ (n : Int) - 1 - j
theorem DpOk.set {n : Nat} {D : List Int} (h : DpOk n D) (i q : Nat) (hi : i < n) (hq : q < i) : DpOk n (D.set q (D.getD i 0 + 1)) := by
  obtain ⟨hl, hd⟩ := h
  refine ⟨by simp [hl], fun j z hz => ?_⟩
  by_cases hj : q = j
  · subst hj
    rw [List.getElem?_set_self (by omega)] at hz
    obtain rfl := Option.some.inj hz
    rw [List.getD_eq_getElem?_getD, List.getElem?_eq_getElem (by omega)]
    have := hd i D[i] (List.getElem?_eq_getElem (by omega))
    simp
    omega
  · rw [List.getElem?_set_ne hj] at hz; exact hd j z hz
theorem fst_none {p : Nat → Bool} : ∀ {f j : Nat}, fstI p f j = none → ∀ k, j ≤ k → k < j + f → p k = false
  | 0, j, _, k, h1, h2 => by omega
  | f + 1, j, h, k, h1, h2 => by
    rw [fstI] at h
    split at h
    · cases h
    · rename_i hp
      rcases Nat.eq_or_lt_of_le h1 with rfl | g
      · simpa using hp
      · exact fst_none h k g (by omega)

/-- A fault in its box. -/
def FtBox (b : Nat) (W : World) (c n : Int) : Prop := W.heap[b]? = some (.cells #[.int .i64 c, .int .i64 n] 39 (0, 0))
theorem ft_cells {b : Nat} {W : World} {c n : Int} (h : FtBox b W c n) : W.cell? ⟨b, 0, none⟩ = some (.int .i64 c) ∧ W.cell? ⟨b, 1, none⟩ = some (.int .i64 n) ∧ ∀ j, W.frozen? ⟨b, j, none⟩ = false := by
  unfold FtBox at h
  exact ⟨by rw [cell_of_row _ _ _ _ _ _ h]; rfl, by rw [cell_of_row _ _ _ _ _ _ h]; rfl, fun j => frozen_of_row _ _ _ _ _ h⟩
theorem ft_put {b : Nat} {W : World} {c n : Int} (h : FtBox b W c n) (c2 n2 : Int) : FtBox b ((W.setCell ⟨b, 0, none⟩ (.int .i64 c2)).setCell ⟨b, 1, none⟩ (.int .i64 n2)) c2 n2 := heap_setCell_same _ b 1 _ _ _ (heap_setCell_same _ b 0 _ _ _ h)
theorem FtBox.below {b : Nat} {W W' : World} {c n : Int} (h : FtBox b W c n) (hb : Below W.heap.size W W') : FtBox b W' c n := (hb.block _ (lt_of_block h)).trans h

set_option maxRecDepth 100000 in
set_option maxHeartbeats 3200000 in
theorem treeok_head (w : World) (v : Value) (ns : List Nd) (h : NdsAt w v ns) (hl : ns.length ≤ 1048576) (hb : badHead ns = true) :
    Calls Tryz.prog 14 #[.agg #[v]] w fun e w' => e = .returned (.agg #[.int .i64 1, .int .i64 0]) ∧ Below w.heap.size w w' := by
  obtain ⟨a, c, rfl⟩ := h.form
  have hbb : ∀ o1 o2, Below w.heap.size w ((w.alloc o1).alloc o2) := fun o1 o2 => ((Below.refl _ w).alloc (Nat.le_refl _) o1).alloc (by simp) o2
  have hnew : ∀ o1 (cs : Array Value) (t : TypeId), ((w.alloc o1).alloc (.cells cs t)).heap[w.heap.size + 1]? = some (.cells cs t (0, 0)) := fun o1 cs t => by
    have := heap_alloc_new (w.alloc o1) (.cells cs t)
    rw [World.size_alloc] at this
    exact this
  have hb' := of_decide_eq_true hb
  by_cases g1 : ns.length = 0
  · rw [g1]
    go_enter Tryz.func14, Tryz.ntmps14
    go_wp2
    exact bodyPost_ret (results_cell_row rfl _ _ (w.heap.size + 1) _ _ _ _ rfl (hnew _ _ _) Tryz.underlying39 rfl (by kernel_rfl)) rfl ⟨rfl, hbb _ _⟩
  by_cases g2 : 3000 < ns.length
  · have g2i : (3000 : Int) < (ns.length : Int) := by omega
    have g1i : ¬ (ns.length : Int) = 0 := by omega
    generalize ns.length = n at g1i g2i hl ⊢
    clear h hb hb' g1 g2
    go_enter Tryz.func14, Tryz.ntmps14
    go_wp2
    exact bodyPost_ret (results_cell_row rfl _ _ (w.heap.size + 1) _ _ _ _ rfl (hnew _ _ _) Tryz.underlying39 rfl (by kernel_rfl)) rfl ⟨rfl, hbb _ _⟩
  · have g3 : (ns.getD (ns.length - 1) zNd).k ≠ 1 := by rcases hb' with e | e | e; exact absurd e g1; exact absurd e g2; exact e
    have hlt : ns.length - 1 < ns.length := by omega
    obtain ⟨N, hN⟩ : ∃ N, ns[ns.length - 1]? = some N := ⟨_, List.getElem?_eq_getElem hlt⟩
    rw [List.getD_eq_getElem?_getD, hN, Option.getD_some] at g3
    obtain ⟨a', rfl, vn, vk, hd⟩ := h.get hN
    have c0 := hd.c0
    obtain ⟨n, hn⟩ : ∃ n, ns.length = n := ⟨_, rfl⟩
    rw [hn] at c0 g1 g2 hl hlt ⊢
    obtain ⟨m, hm⟩ : ∃ m : Nat, n = m + 1 := ⟨n - 1, by omega⟩
    subst hm
    rw [Nat.add_sub_cancel] at c0
    have e1 : ((m + 1 : Nat) : Int) - 1 = (m : Int) := by omega
    have i1 : ¬ ((m + 1 : Nat) : Int) = 0 := by omega
    have i2 : ¬ (3000 : Int) < ((m + 1 : Nat) : Int) := by omega
    have i3 : (m : Int) < ((m + 1 : Nat) : Int) := by omega
    have i0 : (0 : Int) ≤ (m : Int) := by omega
    have d1 : (((m : Int) + 1) == 0) = false := by rw [beq_eq_false_iff_ne]; omega
    have d2 : decide ((3000 : Int) < (m : Int) + 1) = false := decide_eq_false (by omega)
    have i5 : (m : Int) < (m : Int) + 1 := by omega
    have hcl : ∀ o1 o2, ((w.alloc o1).alloc o2).cell? (a'.add (m * 9)) = some (.int .i64 N.k) := fun o1 o2 => cell_kept (hbb o1 o2) c0
    clear h hb hb' g1 g2 hN hd hn hlt
    go_enter Tryz.func14, Tryz.ntmps14
    go_wp2
    exact bodyPost_ret (results_cell_row rfl _ _ (w.heap.size + 1) _ _ _ _ rfl (hnew _ _ _) Tryz.underlying39 rfl (by kernel_rfl)) rfl ⟨rfl, hbb _ _⟩
end Go.Proofs.YtdgbmihokecmhaaGreatDoor
