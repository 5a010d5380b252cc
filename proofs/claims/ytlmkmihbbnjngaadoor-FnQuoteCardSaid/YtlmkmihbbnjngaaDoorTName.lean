import Derived.Test.YtlmkmihbbnjngaaDoorTText
import Derived.Maps.OwnSet
namespace Go.Proofs.YtlmkmihbbnjngaaDoor
open Go.RowKit Go.Maps Go.WideMaps
set_option linter.unusedVariables false

set_option maxHeartbeats 400000 in
theorem l1digit_any (c : Int) (w : World) : Calls Tryd.prog 30 #[.int .u8 c] w fun e w' => e = .returned (.bool (digB c)) ∧ w = w' := by
  rcases (show c < 48 ∨ 57 < c ∨ (48 ≤ c ∧ c ≤ 57) by omega) with h | h | ⟨h1, h2⟩
  · have e : digB c = false := by simp [digB]; omega
    rw [e]; clear e
    have h' : ¬ 48 ≤ c := by omega
    go_enter Tryd.func30, Tryd.ntmps30
    go_wp2
    go_ret
    exact ⟨rfl, rfl⟩
  · have e : digB c = false := by simp [digB]; omega
    rw [e]; clear e
    have h' : ¬ c ≤ 57 := by omega
    have h2 : 48 ≤ c := by omega
    go_enter Tryd.func30, Tryd.ntmps30
    go_wp2
    go_ret
    exact ⟨rfl, rfl⟩
  · have e : digB c = true := by simp [digB]; omega
    rw [e]; clear e
    go_enter Tryd.func30, Tryd.ntmps30
    go_wp2
    go_ret
    exact ⟨rfl, rfl⟩

set_option maxHeartbeats 400000 in
theorem l1letter_any (c : Int) (w : World) : Calls Tryd.prog 28 #[.int .u8 c] w fun e w' => e = .returned (.bool (lettB c)) ∧ w = w' := by
  rcases (show (97 ≤ c ∧ c ≤ 122) ∨ (65 ≤ c ∧ c ≤ 90) ∨ c = 95 ∨ c < 65 ∨ (90 < c ∧ c < 97 ∧ c ≠ 95) ∨ 122 < c by omega) with ⟨h1, h2⟩ | ⟨h1, h2⟩ | rfl | h | ⟨h1, h2, h3⟩ | h
  · have e : lettB c = true := by simp [lettB]; omega
    rw [e]; clear e
    go_enter Tryd.func28, Tryd.ntmps28
    go_wp2
    go_ret
    exact ⟨rfl, rfl⟩
  · have e : lettB c = true := by simp [lettB]; omega
    rw [e]; clear e
    have g1 : ¬ 97 ≤ c := by omega
    go_enter Tryd.func28, Tryd.ntmps28
    go_wp2
    go_ret
    exact ⟨rfl, rfl⟩
  · go_enter Tryd.func28, Tryd.ntmps28
    go_wp2
    go_ret
    exact ⟨rfl, rfl⟩
  · have e : lettB c = false := by simp [lettB]; omega
    rw [e]; clear e
    have g1 : ¬ 97 ≤ c := by omega
    have g2 : ¬ 65 ≤ c := by omega
    have g3 : (c == 95) = false := by simp; omega
    go_enter Tryd.func28, Tryd.ntmps28
    go_wp2
    go_ret
    exact ⟨rfl, rfl⟩
  · have e : lettB c = false := by simp [lettB]; omega
    rw [e]; clear e
    have g1 : ¬ 97 ≤ c := by omega
    have g2 : 65 ≤ c := by omega
    have g4 : ¬ c ≤ 90 := by omega
    have g3 : (c == 95) = false := by simp; omega
    go_enter Tryd.func28, Tryd.ntmps28
    go_wp2
    go_ret
    exact ⟨rfl, rfl⟩
  · have e : lettB c = false := by simp [lettB]; omega
    rw [e]; clear e
    have g1 : 97 ≤ c := by omega
    have g2 : ¬ c ≤ 122 := by omega
    have g4 : 65 ≤ c := by omega
    have g5 : ¬ c ≤ 90 := by omega
    have g3 : (c == 95) = false := by simp; omega
    go_enter Tryd.func28, Tryd.ntmps28
    go_wp2
    go_ret
    exact ⟨rfl, rfl⟩


def lk (s : ByteArray) (p : Nat) : Int := if p < s.size then bat s p else 0
theorem lk_in (s : ByteArray) (p : Nat) : 0 ≤ lk s p ∧ lk s p < 256 := by
  unfold lk; split
  · rename_i h; exact bat_in h
  · omega
theorem lett_lk (s : ByteArray) (p : Nat) : lettB (lk s p) = lettB (bat s p) := by
  unfold lk; split
  · rfl
  · rename_i h; rw [bat_out h]; decide
theorem dig_lk (s : ByteArray) (p : Nat) : digB (lk s p) = digB (bat s p) := by
  unfold lk; split
  · rfl
  · rename_i h; rw [bat_out h]; decide

set_option maxHeartbeats 400000 in
theorem l1look_any (s : ByteArray) (hm : s.size ≤ 1100000) (p : Nat) (w : World) : Calls Tryd.prog 27 #[.string s, .int .i64 p] w fun e w' => e = .returned (.int .u8 (lk s p)) ∧ w = w' := by
  unfold lk
  by_cases h : p < s.size
  · rw [if_pos h]
    have i1 := fun w => idx_run h w
    generalize bat s p = c at i1
    go_enter Tryd.func27, Tryd.ntmps27
    go_wp2
    go_ret
    exact ⟨rfl, rfl⟩
  · rw [if_neg h]
    have h' : ¬ (p : Int) < (s.size : Int) := by omega
    go_enter Tryd.func27, Tryd.ntmps27
    go_wp2
    go_ret
    exact ⟨rfl, rfl⟩

/-- Where letters and digits end. -/
def nmE (s : ByteArray) : Nat → Nat → Nat
  | 0, p => p
  | f + 1, p => if lettB (bat s p) = true ∨ digB (bat s p) = true then nmE s f (p + 1) else p
theorem ld_out {s : ByteArray} {p : Nat} (h : ¬ p < s.size) : ¬ (lettB (bat s p) = true ∨ digB (bat s p) = true) := by
  rw [bat_out h]; decide
theorem nmE_bd (s : ByteArray) : ∀ (f p : Nat), p ≤ s.size → p ≤ nmE s f p ∧ nmE s f p ≤ s.size
  | 0, p, h => ⟨Nat.le_refl _, h⟩
  | f + 1, p, h => by
    unfold nmE
    split
    · rename_i hx
      have h0 : p < s.size := by
        rcases Nat.lt_or_ge p s.size with h1 | h1
        · exact h1
        · exact absurd hx (ld_out (by omega))
      have := nmE_bd s f (p + 1) (by omega)
      omega
    · exact ⟨Nat.le_refl _, h⟩

set_option maxHeartbeats 1600000 in
theorem nameEnd_any (s : ByteArray) (hm : s.size ≤ 1100000) (p : Nat) (hp : p ≤ s.size) (w : World) : Calls Tryd.prog 47 #[.string s, .int .i64 p] w fun e w' => e = .returned (.int .i64 (nmE s (s.size + 1) p)) ∧ w' = w := by
  obtain ⟨R, hR⟩ : ∃ R, nmE s (s.size + 1) p = R := ⟨_, rfl⟩
  rw [hR]
  have HR : Hid (nmE s (s.size + 1) p = R) := hR
  clear hR
  go_enter Tryd.func47, Tryd.ntmps47
  go_wp2_with fail
  go_loop [1] (fun i => ∃ (k f : Nat), k ≤ s.size ∧ s.size < k + f ∧ i = .int .i64 k ∧ Hid (nmE s f k = R)) (fun i => s.size - (intOf i).toNat)
  case atStart => exact ⟨p, s.size + 1, hp, by omega, rfl, HR⟩
  case round =>
    obtain ⟨k, f, hk, hf, rfl, HF⟩ := hrel
    obtain ⟨f, rfl⟩ : ∃ g, f = g + 1 := ⟨f - 1, by omega⟩
    have hst := HF.out
    unfold nmE at hst
    by_cases hlt : k < s.size
    · have i1 := fun w => idx_run hlt w
      generalize bat s k = c at i1 hst
      have kl := fun w => isLetter_any c w
      have kd := fun w => isDigit_any c w
      by_cases h1 : lettB c = true
      · rw [if_pos (.inl h1)] at hst
        have HS : Hid (nmE s f (k + 1) = R) := hst
        clear hst
        rw [h1] at kl
        clear h1
        go_wp2_with (go_at_call 38; refine (kl _).mono ?_; rintro e w' ⟨rfl, rfl⟩)
        go_round
        case rel => exact ⟨k + 1, f, by omega, by omega, by go_num, HS⟩
        case measure => simp [intOf]; omega
      · have h1' : lettB c = false := by simpa using h1
        rw [h1'] at kl
        by_cases h2 : digB c = true
        · rw [if_pos (.inr h2)] at hst
          have HS : Hid (nmE s f (k + 1) = R) := hst
          clear hst
          rw [h2] at kd
          clear h1 h1' h2
          go_wp2_with (first | (go_at_call 38; refine (kl _).mono ?_; rintro e w' ⟨rfl, rfl⟩) | (go_at_call 40; refine (kd _).mono ?_; rintro e w' ⟨rfl, rfl⟩))
          go_round
          case rel => exact ⟨k + 1, f, by omega, by omega, by go_num, HS⟩
          case measure => simp [intOf]; omega
        · have h2' : digB c = false := by simpa using h2
          rw [if_neg (by rw [h1', h2']; simp)] at hst
          have HS : Hid (k = R) := hst
          clear hst
          rw [h2'] at kd
          clear h1 h1' h2 h2'
          go_wp2_with (first | (go_at_call 38; refine (kl _).mono ?_; rintro e w' ⟨rfl, rfl⟩) | (go_at_call 40; refine (kd _).mono ?_; rintro e w' ⟨rfl, rfl⟩))
          go_ret
          exact ⟨by rw [← HS.out]; rfl, rfl⟩
    · rw [if_neg (ld_out hlt)] at hst
      have HS : Hid (k = R) := hst
      clear hst
      have h' : ¬ (k : Int) < (s.size : Int) := by omega
      go_wp2
      go_ret
      exact ⟨by rw [← HS.out]; rfl, rfl⟩

end Go.Proofs.YtlmkmihbbnjngaaDoor
