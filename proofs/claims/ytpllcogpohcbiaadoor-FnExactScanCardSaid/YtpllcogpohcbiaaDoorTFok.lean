import Derived.Test.YtpllcogpohcbiaaDoorTL1r
namespace Go.Proofs.YtpllcogpohcbiaaDoor
open Go.RowKit Go.Maps Go.WideMaps
set_option linter.unusedVariables false

theorem dec_flt (q : ByteArray) (hd : digB (bat q 0) = true) (hN : nEx q (nA1 q (nA0 q 0)) = (q.size, true)) : decI q = none ↔ (nKd q 0 = true ∨ dcS q 0 q.size = none) := by
  cases hk : nKd q 0 with
  | false =>
    obtain ⟨h1, h2⟩ := dec_all q 0 hd hk
    have e : nA0 q 0 = q.size := by rw [hN] at h1; exact (Prod.mk.inj h1).1.symm
    rw [decI_dig q (dig_lt hd) (fun i hi => h2 i (by omega) (by omega))]
    simp
  | true =>
    simp only [true_or, iff_true]
    unfold nKd at hk
    rcases of_decide_eq_true hk with h | h
    · exact decI_bad q hd _ (lt_of_bat h.1 (by omega)) (by rw [h.1]; decide)
    · exact decI_bad q hd _ (lt_of_bat h (by omega)) (by rw [h]; decide)

def fok (q : ByteArray) : Bool := decide (q.size ≤ 40) && fltI q

set_option maxRecDepth 100000 in
set_option maxHeartbeats 3200000 in
theorem l1fltok_any (s : ByteArray) (hm : s.size ≤ 1100000) (w : World) : Calls Tryd.prog 30 #[.string s] w fun e w' => e = .returned (.bool (fok s)) ∧ Below w.heap.size w w' := by
  unfold fok
  by_cases h0 : 0 < s.size
  · have n0 : ((s.size : Int) == 0) = false := by rw [beq_eq_false_iff_ne]; omega
    by_cases h40 : s.size ≤ 40
    · have n40 : ¬ (40 : Int) < (s.size : Int) := by omega
      have i1 : ∀ w, (Instr.index 9 (.string s) (.int .i64 0)).run Tryd.prog w = .ok (.int .u8 (bat s 0)) w := fun w => idx_run h0 w
      by_cases hd : digB (bat s 0) = true
      · have kd := fun w => l1digit_q hd w
        have kr : ∀ w, Calls Tryd.prog 24 #[.string s, .int .i64 0] w fun e w' => e = .returned (.tuple #[numA s 0, .int .i64 (numF s 0)]) ∧ Below w.heap.size w w' := fun w => l1read_dig s hm 0 h0 hd w
        obtain ⟨hF, k, t, n, x, hA, hok⟩ := numN_num s 0
        rw [hA] at kr
        have hres : (decide (s.size ≤ 40) && fltI s) = (decide (numF s 0 < 0) && ((k == 3) && (t == (s.size : Int)))) := by
          rw [decide_eq_true h40, Bool.true_and]
          unfold fltI
          cases h2 : (numN s 0).2 with
          | false =>
            rw [decide_eq_false (show ¬ numF s 0 < 0 by rw [hF, h2]; simp), Bool.false_and, decide_eq_false_iff_not]
            rintro ⟨_, h, _⟩
            rw [h] at h2; cases h2
          | true =>
            obtain ⟨ht, hk⟩ := hok h2
            rw [decide_eq_true (hF.2 h2), Bool.true_and, hk, ht]
            by_cases he : (numN s 0).1 = s.size
            · have hN : numN s 0 = (s.size, true) := Prod.ext he h2
              rw [hN]
              simp only [Nat.sub_zero, beq_self_eq_true, Bool.and_true]
              rw [decide_eq_decide]
              constructor
              · rintro ⟨_, _, g1, g2⟩
                have hx : nEx s (nA1 s (nA0 s 0)) = (s.size, true) := by rw [← hN]; unfold numN; rw [if_neg g1]
                exact ⟨g1, (dec_flt s hd hx).1 g2⟩
              · rintro ⟨g1, g2⟩
                have hx : nEx s (nA1 s (nA0 s 0)) = (s.size, true) := by rw [← hN]; unfold numN; rw [if_neg g1]
                exact ⟨hd, trivial, g1, (dec_flt s hd hx).2 g2⟩
            · rw [show ((((numN s 0).1 : Nat) : Int) == (s.size : Int)) = false by rw [beq_eq_false_iff_ne]; omega, Bool.and_false, decide_eq_false_iff_not]
              rintro ⟨_, h, _⟩
              rw [h] at he; exact he rfl
        rw [hres]
        clear hres hok hA hF
        generalize numF s 0 = F at kr
        generalize bat s 0 = c at i1 kd
        clear hd
        by_cases hF : F < 0
        · by_cases hk : k = 3
          · subst hk
            go_enter Tryd.func30, Tryd.ntmps30
            go_wp2_with (first | (go_at_call 45; refine (kd _).mono ?_; rintro e w' ⟨rfl, rfl⟩) | (go_at_call 24; refine (kr _).mono ?_; rintro e w3 ⟨rfl, hb3⟩))
            go_ret
            exact ⟨by simp [hF], hb3.alloc hb3.size _⟩
          · have hk' : (k == 3) = false := by simp [hk]
            clear hk
            go_enter Tryd.func30, Tryd.ntmps30
            go_wp2_with (first | (go_at_call 45; refine (kd _).mono ?_; rintro e w' ⟨rfl, rfl⟩) | (go_at_call 24; refine (kr _).mono ?_; rintro e w3 ⟨rfl, hb3⟩))
            go_ret
            exact ⟨by simp [hk'], hb3.alloc hb3.size _⟩
        · go_enter Tryd.func30, Tryd.ntmps30
          go_wp2_with (first | (go_at_call 45; refine (kd _).mono ?_; rintro e w' ⟨rfl, rfl⟩) | (go_at_call 24; refine (kr _).mono ?_; rintro e w3 ⟨rfl, hb3⟩))
          go_ret
          exact ⟨by rw [decide_eq_false (show ¬ F < 0 by omega)]; simp, hb3.alloc hb3.size _⟩
      · have hd' : digB (bat s 0) = false := by simpa using hd
        have kd := fun w => l1digit_q hd' w
        rw [show fltI s = false by unfold fltI; simp [hd'], Bool.and_false]
        clear hd hd'
        generalize bat s 0 = c at i1 kd
        go_enter Tryd.func30, Tryd.ntmps30
        go_wp2_with (first | (go_at_call 45; refine (kd _).mono ?_; rintro e w' ⟨rfl, rfl⟩))
        go_ret
        exact ⟨rfl, Below.refl _ _⟩
    · have n40 : (40 : Int) < (s.size : Int) := by omega
      rw [decide_eq_false h40, Bool.false_and]
      go_enter Tryd.func30, Tryd.ntmps30
      go_wp2
      go_ret
      exact ⟨rfl, Below.refl _ _⟩
  · have n0 : ((s.size : Int) == 0) = true := by rw [beq_iff_eq]; omega
    rw [show fltI s = false by unfold fltI; rw [bat_out h0]; simp [dig_neg], Bool.and_false]
    go_enter Tryd.func30, Tryd.ntmps30
    go_wp2
    go_ret
    exact ⟨rfl, Below.refl _ _⟩
end Go.Proofs.YtpllcogpohcbiaaDoor
