import Derived.Test.YtlmkmihbbnjngaaDoorTNmok
import Derived.Test.YtlmkmihbbnjngaaDoorShelf
namespace Go.Proofs.YtlmkmihbbnjngaaDoor
open Go.RowKit Go.Maps Go.WideMaps
set_option linter.unusedVariables false

def hexB (c : Int) : Bool := decide (0 ≤ hexv c)
theorem hexB_iff (c : Int) : hexB c = true ↔ (48 ≤ c ∧ c ≤ 57) ∨ (97 ≤ c ∧ c ≤ 102) := by
  unfold hexB hexv
  rw [decide_eq_true_iff]
  split
  · omega
  · split <;> omega

set_option maxHeartbeats 400000 in
theorem isHexDigit_any (c : Int) (w : World) : Calls Tryd.prog 61 #[.int .u8 c] w fun e w' => e = .returned (.bool (hexB c)) ∧ w = w' := by
  have kd := fun w => isDigit_any c w
  by_cases h1 : digB c = true
  · rw [show hexB c = true by rw [hexB_iff]; have := dig_range h1; omega]
    rw [h1] at kd
    clear h1
    go_enter Tryd.func61, Tryd.ntmps61
    go_wp2_with (first | (go_at_call 40; refine (kd _).mono ?_; rintro e w' ⟨rfl, rfl⟩))
    go_ret
    exact ⟨rfl, rfl⟩
  · have h1' : digB c = false := by simpa using h1
    rw [h1'] at kd
    have hn : ¬ (48 ≤ c ∧ c ≤ 57) := by simpa [digB] using h1'
    rcases (show (97 ≤ c ∧ c ≤ 102) ∨ c < 97 ∨ (97 ≤ c ∧ 102 < c) by omega) with ⟨g1, g2⟩ | g | ⟨g1, g2⟩
    · rw [show hexB c = true by rw [hexB_iff]; omega]
      clear h1 h1' hn
      go_enter Tryd.func61, Tryd.ntmps61
      go_wp2_with (first | (go_at_call 40; refine (kd _).mono ?_; rintro e w' ⟨rfl, rfl⟩))
      go_ret
      exact ⟨rfl, rfl⟩
    · rw [show hexB c = false by rw [← Bool.not_eq_true, hexB_iff]; omega]
      have g' : ¬ 97 ≤ c := by omega
      clear h1 h1' hn
      go_enter Tryd.func61, Tryd.ntmps61
      go_wp2_with (first | (go_at_call 40; refine (kd _).mono ?_; rintro e w' ⟨rfl, rfl⟩))
      go_ret
      exact ⟨rfl, rfl⟩
    · rw [show hexB c = false by rw [← Bool.not_eq_true, hexB_iff]; omega]
      have g' : ¬ c ≤ 102 := by omega
      clear h1 h1' hn
      go_enter Tryd.func61, Tryd.ntmps61
      go_wp2_with (first | (go_at_call 40; refine (kd _).mono ?_; rintro e w' ⟨rfl, rfl⟩))
      go_ret
      exact ⟨by simp; omega, rfl⟩

/-- Where bytes of a kind end. -/
def runE (q : Int → Bool) (s : ByteArray) : Nat → Nat → Nat
  | 0, p => p
  | f + 1, p => if q (bat s p) = true then runE q s f (p + 1) else p
theorem run_in {q : Int → Bool} (hq : q (-1) = false) {s : ByteArray} {p : Nat} (h : q (bat s p) = true) : p < s.size := by
  rcases Nat.lt_or_ge p s.size with h1 | h1
  · exact h1
  · rw [bat_out (by omega), hq] at h; cases h
theorem runE_bd (q : Int → Bool) (hq : q (-1) = false) (s : ByteArray) : ∀ (f p : Nat), p ≤ s.size → p ≤ runE q s f p ∧ runE q s f p ≤ s.size
  | 0, p, h => ⟨Nat.le_refl _, h⟩
  | f + 1, p, h => by
    unfold runE
    split
    · rename_i hx
      have h0 := run_in hq hx
      have := runE_bd q hq s f (p + 1) (by omega)
      omega
    · exact ⟨Nat.le_refl _, h⟩
/-- All bytes ahead of the end are of the kind; the one at the end is not, where there was fuel. -/
theorem runE_all (q : Int → Bool) (s : ByteArray) : ∀ (f p i : Nat), p ≤ i → i < runE q s f p → q (bat s i) = true
  | 0, p, i, h1, h2 => by simp [runE] at h2; omega
  | f + 1, p, i, h1, h2 => by
    unfold runE at h2
    split at h2
    · rename_i hx
      rcases Nat.eq_or_lt_of_le h1 with rfl | h3
      · exact hx
      · exact runE_all q s f (p + 1) i h3 h2
    · omega
theorem runE_end (q : Int → Bool) (hq : q (-1) = false) (s : ByteArray) : ∀ (f p : Nat), s.size < p + f → q (bat s (runE q s f p)) = false
  | 0, p, h => by
    unfold runE
    rw [bat_out (by omega), hq]
  | f + 1, p, h => by
    unfold runE
    split
    · exact runE_end q hq s f (p + 1) (by omega)
    · rename_i hx; simpa using hx
theorem dig_neg : digB (-1) = false := by decide
theorem hex_neg : hexB (-1) = false := by decide
def digE (s : ByteArray) (p : Nat) : Nat := runE digB s (s.size + 1) p
def hxE (s : ByteArray) (p : Nat) : Nat := runE hexB s (s.size + 1) p

set_option maxHeartbeats 1600000 in
theorem digitsEnd_any (s : ByteArray) (hm : s.size ≤ 1100000) (p : Nat) (hp : p ≤ s.size) (w : World) : Calls Tryd.prog 56 #[.string s, .int .i64 p] w fun e w' => e = .returned (.int .i64 (digE s p)) ∧ w' = w := by
  unfold digE
  obtain ⟨R, hR⟩ : ∃ R, runE digB s (s.size + 1) p = R := ⟨_, rfl⟩
  rw [hR]
  have HR : Hid (runE digB s (s.size + 1) p = R) := hR
  clear hR
  go_enter Tryd.func56, Tryd.ntmps56
  go_wp2_with fail
  go_loop [1] (fun i => ∃ (k f : Nat), k ≤ s.size ∧ s.size < k + f ∧ i = .int .i64 k ∧ Hid (runE digB s f k = R)) (fun i => s.size - (intOf i).toNat)
  case atStart => exact ⟨p, s.size + 1, hp, by omega, rfl, HR⟩
  case round =>
    obtain ⟨k, f, hk, hf, rfl, HF⟩ := hrel
    obtain ⟨f, rfl⟩ : ∃ g, f = g + 1 := ⟨f - 1, by omega⟩
    have hst := HF.out
    unfold runE at hst
    by_cases hlt : k < s.size
    · have i1 := fun w => idx_run hlt w
      generalize bat s k = c at i1 hst
      have kd := fun w => isDigit_any c w
      by_cases h1 : digB c = true
      · rw [if_pos h1] at hst
        have HS : Hid (runE digB s f (k + 1) = R) := hst
        clear hst
        rw [h1] at kd
        clear h1
        go_wp2_with (go_at_call 40; refine (kd _).mono ?_; rintro e w' ⟨rfl, rfl⟩)
        go_round
        case rel => exact ⟨k + 1, f, by omega, by omega, by go_num, HS⟩
        case measure => simp [intOf]; omega
      · have h1' : digB c = false := by simpa using h1
        rw [if_neg h1] at hst
        have HS : Hid (k = R) := hst
        rw [h1'] at kd
        clear h1 h1' hst
        go_wp2_with (go_at_call 40; refine (kd _).mono ?_; rintro e w' ⟨rfl, rfl⟩)
        go_ret
        exact ⟨by rw [← HS.out]; rfl, rfl⟩
    · rw [if_neg (by rw [bat_out hlt]; decide)] at hst
      have HS : Hid (k = R) := hst
      clear hst
      have h' : ¬ (k : Int) < (s.size : Int) := by omega
      go_wp2
      go_ret
      exact ⟨by rw [← HS.out]; rfl, rfl⟩

def hexN (s : ByteArray) (q : Nat) : Nat × Bool := if q + 16 < hxE s q then (q + 16, false) else (hxE s q, decide (q < hxE s q))

set_option maxHeartbeats 1600000 in
theorem hexEnd_any (s : ByteArray) (hm : s.size ≤ 1100000) (p : Nat) (hp : p ≤ s.size) (w : World) : Calls Tryd.prog 55 #[.string s, .int .i64 p] w fun e w' => e = .returned (.tuple #[.int .i64 ((hexN s p).1 : Int), .bool (hexN s p).2]) ∧ w' = w := by
  unfold hexN hxE
  obtain ⟨R, hR⟩ : ∃ R, runE hexB s (s.size + 1) p = R := ⟨_, rfl⟩
  rw [hR]
  have HR : Hid (runE hexB s (s.size + 1) p = R) := hR
  clear hR
  obtain ⟨A, B, hA⟩ : ∃ A B, (if p + 16 < R then (p + 16, false) else (R, decide (p < R))) = (A, B) := ⟨_, _, rfl⟩
  rw [hA]
  have HA : Hid ((if p + 16 < R then (p + 16, false) else (R, decide (p < R))) = (A, B)) := hA
  clear hA
  go_enter Tryd.func55, Tryd.ntmps55
  go_wp2_with fail
  go_loop [6] (fun i => ∃ (k f : Nat), p ≤ k ∧ k ≤ p + 16 ∧ k ≤ s.size ∧ s.size < k + f ∧ i = .int .i64 k ∧ Hid (runE hexB s f k = R)) (fun i => s.size - (intOf i).toNat)
  case atStart => exact ⟨p, s.size + 1, Nat.le_refl _, by omega, hp, by omega, rfl, HR⟩
  case round =>
    obtain ⟨k, f, hpk, hk16, hk, hf, rfl, HF⟩ := hrel
    obtain ⟨f, rfl⟩ : ∃ g, f = g + 1 := ⟨f - 1, by omega⟩
    have hst := HF.out
    unfold runE at hst
    by_cases hlt : k < s.size
    · have i1 := fun w => idx_run hlt w
      generalize bat s k = c at i1 hst
      have kd := fun w => isHexDigit_any c w
      by_cases h1 : hexB c = true
      · rw [if_pos h1] at hst
        have hbd := (runE_bd hexB hex_neg s f (k + 1) (by omega)).1
        rw [hst] at hbd
        have HS : Hid (runE hexB s f (k + 1) = R) := hst
        clear hst
        rw [h1] at kd
        clear h1
        by_cases h16 : k = p + 16
        · have h := HA.out
          rw [if_pos (by omega), ← h16] at h
          obtain ⟨rfl, rfl⟩ := Prod.mk.inj h
          have e16 : ((k : Int) - (p : Int) == 16) = true := by rw [beq_iff_eq]; omega
          clear h HA h16
          go_wp2_with (go_at_call 61; refine (kd _).mono ?_; rintro e w' ⟨rfl, rfl⟩)
          go_ret2
          exact ⟨rfl, rfl⟩
        · have e16 : ((k : Int) - (p : Int) == 16) = false := by rw [beq_eq_false_iff_ne]; omega
          go_wp2_with (go_at_call 61; refine (kd _).mono ?_; rintro e w' ⟨rfl, rfl⟩)
          go_round
          case rel => exact ⟨k + 1, f, by omega, by omega, by omega, by omega, by go_num, HS⟩
          case measure => simp [intOf]; omega
      · have h1' : hexB c = false := by simpa using h1
        rw [if_neg h1] at hst
        subst hst
        rw [h1'] at kd
        clear h1 h1'
        have h := HA.out
        rw [if_neg (by omega)] at h
        obtain ⟨rfl, rfl⟩ := Prod.mk.inj h
        clear h HA
        go_wp2_with (go_at_call 61; refine (kd _).mono ?_; rintro e w' ⟨rfl, rfl⟩)
        go_ret2
        exact ⟨by simp, rfl⟩
    · rw [if_neg (by rw [bat_out hlt]; decide)] at hst
      subst hst
      have h' : ¬ (k : Int) < (s.size : Int) := by omega
      have h := HA.out
      rw [if_neg (by omega)] at h
      obtain ⟨rfl, rfl⟩ := Prod.mk.inj h
      clear h HA
      go_wp2
      go_ret2
      exact ⟨by simp, rfl⟩
end Go.Proofs.YtlmkmihbbnjngaaDoor
