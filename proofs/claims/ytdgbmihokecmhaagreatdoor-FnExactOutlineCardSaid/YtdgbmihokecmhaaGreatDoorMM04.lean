import Derived.Test.YtdgbmihokecmhaaGreatDoorMM03
namespace Go.Proofs.YtdgbmihokecmhaaGreatDoor
open Go.RowKit Go.Maps Go.WideMaps
set_option linter.unusedVariables false

theorem bat_list (s : ByteArray) (i : Nat) (b : UInt8) : s.data.toList[i]? = some b ↔ i < s.size ∧ bat s i = (b.toNat : Int) := by
  unfold bat
  by_cases h : i < s.size
  · rw [dif_pos h]
    have e : s.data.toList[i]? = some s[i] := by
      rw [Array.getElem?_toList]
      exact Array.getElem?_eq_getElem h
    rw [e]
    constructor
    · intro h1; injection h1 with h1; exact ⟨h, by rw [h1]⟩
    · intro ⟨_, h1⟩; congr 1; exact UInt8.toNat_inj.1 (by omega)
  · have e : s.data.toList[i]? = none := by
      rw [Array.getElem?_toList]
      exact Array.getElem?_eq_none (Nat.not_lt.1 h)
    rw [e]
    simp [h]
theorem pre_two (s : ByteArray) (p : Nat) (x y : UInt8) : Lib.hasPrefix (s.extract p s.size).data.toList [x, y] = decide (bat s p = (x.toNat : Int) ∧ bat s (p + 1) = (y.toNat : Int)) := by
  have e : (s.extract p s.size).data.toList = s.data.toList.drop p := by
    rw [← ByteArray.toList_eq, Lib.extract_toList, List.take_of_length_le]
    rw [List.length_drop, Array.length_toList]
    exact Nat.le_refl _
  rw [e]
  unfold Lib.hasPrefix
  rw [Bool.eq_iff_iff, List.isPrefixOf_iff_prefix, decide_eq_true_iff]
  constructor
  · rintro ⟨t, ht⟩
    have h0 : (s.data.toList.drop p)[0]? = some x := by rw [← ht]; rfl
    have h1 : (s.data.toList.drop p)[1]? = some y := by rw [← ht]; rfl
    rw [List.getElem?_drop] at h0 h1
    exact ⟨((bat_list s _ x).1 h0).2, ((bat_list s _ y).1 h1).2⟩
  · rintro ⟨h0, h1⟩
    have g : ∀ i (b : UInt8), bat s i = (b.toNat : Int) → s.data.toList[i]? = some b := fun i b h => by
      refine (bat_list s i b).2 ⟨?_, h⟩
      rcases Nat.lt_or_ge i s.size with h2 | h2
      · exact h2
      · rw [bat_out (by omega)] at h; omega
    have h0' := g p x h0
    have h1' := g (p + 1) y h1
    refine ⟨s.data.toList.drop (p + 2), ?_⟩
    have a0 := List.getElem?_eq_some_iff.1 h0'
    have a1 := List.getElem?_eq_some_iff.1 h1'
    obtain ⟨b0, c0⟩ := a0
    obtain ⟨b1, c1⟩ := a1
    rw [List.drop_eq_getElem_cons b0, List.drop_eq_getElem_cons b1, c0, c1]
    rfl

def nA0 (s : ByteArray) (p : Nat) : Nat := if bat s p = 48 then p + 1 else digE s (p + 1)
def nA1 (s : ByteArray) (a : Nat) : Nat := if bat s a = 46 ∧ digB (bat s (a + 1)) = true then digE s (a + 1) else a
def nA2 (s : ByteArray) (a : Nat) : Nat := if bat s (a + 1) = 43 ∨ bat s (a + 1) = 45 then a + 1 + 1 else a + 1
def nEx (s : ByteArray) (a : Nat) : Nat × Bool := if bat s a = 101 then (digE s (nA2 s a), decide (nA2 s a < digE s (nA2 s a))) else (a, true)
def numN (s : ByteArray) (p : Nat) : Nat × Bool := if bat s p = 48 ∧ bat s (p + 1) = 120 then hexN s (p + 2) else nEx s (nA1 s (nA0 s p))

theorem digE_bd (s : ByteArray) (p : Nat) (h : p ≤ s.size) : p ≤ digE s p ∧ digE s p ≤ s.size := runE_bd digB dig_neg s _ p h
theorem digitsEnd_int (s : ByteArray) (hm : s.size ≤ 1100000) (a : Int) (p : Nat) (ha : a = (p : Int)) (hp : p ≤ s.size) (w : World) : Calls Tryz.prog 109 #[.string s, .int .i64 a] w fun e w' => e = .returned (.int .i64 (digE s p)) ∧ w' = w := by
  subst ha; exact digitsEnd_any s hm p hp w
theorem idx_int {s : ByteArray} (a : Int) (i : Nat) (ha : a = (i : Int)) (h : i < s.size) (w : World) : (Instr.index 9 (.string s) (.int .i64 a)).run Tryz.prog w = .ok (.int .u8 (bat s i)) w := by
  subst ha; exact idx_run h w
theorem lt_of_bat {s : ByteArray} {i : Nat} {c : Int} (h : bat s i = c) (hc : 0 ≤ c) : i < s.size := by
  rcases Nat.lt_or_ge i s.size with h2 | h2
  · exact h2
  · rw [bat_out (by omega)] at h; omega
theorem dig_lt {s : ByteArray} {i : Nat} (h : digB (bat s i) = true) : i < s.size := run_in dig_neg h

theorem hasPre_run (s : ByteArray) (p : Nat) (w : World) : Calls Tryz.prog 76 #[.string (s.extract p s.size), .string { data := #[48, 120] }] w fun e w' => e = .returned (.bool (decide (bat s p = 48 ∧ bat s (p + 1) = 120))) ∧ w' = w := by
  have h := Tryz.strings_HasPrefix (s.extract p s.size) { data := #[48, 120] } w
  rw [show ({ data := #[48, 120] } : ByteArray).data.toList = [48, 120] from rfl, pre_two] at h
  exact h

set_option maxHeartbeats 1600000 in
theorem numberEnd_hex (s : ByteArray) (hm : s.size ≤ 1100000) (p : Nat) (h0 : bat s p = 48) (h1 : bat s (p + 1) = 120) (w : World) : Calls Tryz.prog 91 #[.string s, .int .i64 p] w fun e w' => e = .returned (.tuple #[.int .i64 ((hexN s (p + 2)).1 : Int), .bool (hexN s (p + 2)).2]) ∧ w' = w := by
  have hp := lt_of_bat h0 (by omega)
  have hp1 := lt_of_bat h1 (by omega)
  have kp := fun w => hasPre_run s p w
  rw [show decide (bat s p = 48 ∧ bat s (p + 1) = 120) = true by simp [h0, h1]] at kp
  have kh : ∀ w, Calls Tryz.prog 108 #[.string s, .int .i64 ((p : Int) + 2)] w fun e w' => e = .returned (.tuple #[.int .i64 ((hexN s (p + 2)).1 : Int), .bool (hexN s (p + 2)).2]) ∧ w' = w := fun w => hexEnd_any s hm (p + 2) (by omega) w
  generalize hexN s (p + 2) = R at kh
  obtain ⟨A, B⟩ := R
  simp only at kh ⊢
  clear h0 h1
  go_enter Tryz.func91, Tryz.ntmps91
  go_wp2_with (first | (go_at_call 76; refine (kp _).mono ?_; rintro e w' ⟨rfl, rfl⟩) | (go_at_call 108; refine (kh _).mono ?_; rintro e w' ⟨rfl, rfl⟩))
  go_ret2
  exact ⟨rfl, rfl⟩

set_option maxRecDepth 100000 in
set_option maxHeartbeats 3200000 in
theorem numberEnd_zy (s : ByteArray) (hm : s.size ≤ 1100000) (p : Nat) (hp : p < s.size) (h0 : bat s p = 48) (hx : ¬ bat s (p + 1) = 120) (hd : bat s (p + 1) = 46 ∧ digB (bat s ((p + 1) + 1)) = true) (w : World) : Calls Tryz.prog 91 #[.string s, .int .i64 p] w fun e w' => e = .returned (.tuple #[.int .i64 ((nEx s (digE s ((p + 1) + 1))).1 : Int), .bool (nEx s (digE s ((p + 1) + 1))).2]) ∧ w' = w := by
  have kp := fun w => hasPre_run s p w
  rw [show decide (bat s p = 48 ∧ bat s (p + 1) = 120) = false by simp [hx]] at kp
  have i0 := fun w => idx_run hp w
  rw [h0] at i0
  clear h0 hx
  obtain ⟨a, ha, hae⟩ : ∃ a : Int, a = (p : Int) + 1 ∧ a = ((p + 1 : Nat) : Int) := ⟨_, rfl, by omega⟩
  have hA : p + 1 ≤ s.size := by omega
  obtain ⟨A, hAe⟩ : ∃ A, p + 1 = A := ⟨_, rfl⟩
  rw [hAe] at hae hA hd ⊢
  have k0 : True := trivial
  have hA1 := dig_lt hd.2
  have iA : ∀ w, (Instr.index 9 (.string s) (.int .i64 ((p : Int) + 1))).run Tryz.prog w = .ok (.int .u8 46) w := fun w => by rw [← hd.1]; exact idx_int _ A (by omega) (by omega) w
  have iA1 : ∀ w, (Instr.index 9 (.string s) (.int .i64 (((p : Int) + 1) + 1))).run Tryz.prog w = .ok (.int .u8 (bat s (A + 1))) w := fun w => idx_int _ (A + 1) (by omega) (by omega) w
  have kq : ∀ w, Calls Tryz.prog 90 #[.int .u8 (bat s (A + 1))] w fun e w' => e = .returned (.bool true) ∧ w' = w := fun w => (isDigit_any _ w).mono fun e w' h => ⟨by rw [h.1, hd.2], h.2.symm⟩
  have k1 : ∀ w, Calls Tryz.prog 109 #[.string s, .int .i64 (((p : Int) + 1) + 1)] w fun e w' => e = .returned (.int .i64 (digE s (A + 1))) ∧ w' = w := fun w => digitsEnd_int s hm _ (A + 1) (by omega) (by omega) w
  have hB := (digE_bd s (A + 1) (by omega)).2
  have hA1' : ((p : Int) + 1) + 1 < (s.size : Int) := by omega
  generalize bat s (A + 1) = c1 at iA1 kq
  clear hd
  generalize digE s (A + 1) = B at hB k1 ⊢
  unfold nEx nA2
  by_cases he : bat s B = 101
  · rw [if_pos he]
    have hB1 := lt_of_bat he (by omega)
    have iB : ∀ w, (Instr.index 9 (.string s) (.int .i64 (B : Int))).run Tryz.prog w = .ok (.int .u8 101) w := fun w => by rw [← he]; exact idx_int _ B (by omega) hB1 w
    have nB : ((B : Int) == (s.size : Int)) = false := by rw [beq_eq_false_iff_ne]; omega
    rcases (show ¬ B + 1 < s.size ∨ (B + 1 < s.size ∧ bat s (B + 1) = 43) ∨ (B + 1 < s.size ∧ bat s (B + 1) = 45) ∨ (B + 1 < s.size ∧ bat s (B + 1) ≠ 43 ∧ bat s (B + 1) ≠ 45) by omega) with h2 | ⟨h2, h3⟩ | ⟨h2, h3⟩ | ⟨h2, h3, h4⟩
    · rw [if_neg (by rw [bat_out h2]; omega)]
      have h2i : ¬ (B : Int) + 1 < (s.size : Int) := by omega
      have k2 : ∀ w, Calls Tryz.prog 109 #[.string s, .int .i64 ((B : Int) + 1)] w fun e w' => e = .returned (.int .i64 (digE s (B + 1))) ∧ w' = w := fun w => digitsEnd_int s hm _ (B + 1) (by omega) (by omega) w
      have hC := (digE_bd s (B + 1) (by omega))
      have hdec : decide (B + 1 < digE s (B + 1)) = decide (((B : Int) + 1) < ((digE s (B + 1) : Nat) : Int)) := by rw [decide_eq_decide]; omega
      simp only [hdec]
      clear hdec
      generalize digE s (B + 1) = C at hC k2 ⊢
      clear he
      clear hae hAe ha
      go_enter Tryz.func91, Tryz.ntmps91
      go_wp2_with (first | (go_at_call 76; refine (kp _).mono ?_; rintro e w' ⟨rfl, rfl⟩) | (go_at_call 90; refine (kq _).mono ?_; rintro e w' ⟨rfl, rfl⟩) | (go_at_call 109; first | (with_reducible refine (k0 _).mono ?_; rintro e w' ⟨rfl, rfl⟩) | (with_reducible refine (k1 _).mono ?_; rintro e w' ⟨rfl, rfl⟩) | (with_reducible refine (k2 _).mono ?_; rintro e w' ⟨rfl, rfl⟩)))
      go_ret2
      exact ⟨rfl, rfl⟩
    · rw [if_pos (.inl h3)]
      have h2i : (B : Int) + 1 < (s.size : Int) := by omega
      have iB1 : ∀ w, (Instr.index 9 (.string s) (.int .i64 ((B : Int) + 1))).run Tryz.prog w = .ok (.int .u8 43) w := fun w => by rw [← h3]; exact idx_int _ (B + 1) (by omega) h2 w
      have k2 : ∀ w, Calls Tryz.prog 109 #[.string s, .int .i64 ((B : Int) + 1 + 1)] w fun e w' => e = .returned (.int .i64 (digE s (B + 1 + 1))) ∧ w' = w := fun w => digitsEnd_int s hm _ (B + 1 + 1) (by omega) (by omega) w
      have hC := (digE_bd s (B + 1 + 1) (by omega))
      have hdec : decide (B + 1 + 1 < digE s (B + 1 + 1)) = decide (((B : Int) + 1 + 1) < ((digE s (B + 1 + 1) : Nat) : Int)) := by rw [decide_eq_decide]; omega
      simp only [hdec]
      clear hdec
      generalize digE s (B + 1 + 1) = C at hC k2 ⊢
      clear h3
      clear he
      clear hae hAe ha
      go_enter Tryz.func91, Tryz.ntmps91
      go_wp2_with (first | (go_at_call 76; refine (kp _).mono ?_; rintro e w' ⟨rfl, rfl⟩) | (go_at_call 90; refine (kq _).mono ?_; rintro e w' ⟨rfl, rfl⟩) | (go_at_call 109; first | (with_reducible refine (k0 _).mono ?_; rintro e w' ⟨rfl, rfl⟩) | (with_reducible refine (k1 _).mono ?_; rintro e w' ⟨rfl, rfl⟩) | (with_reducible refine (k2 _).mono ?_; rintro e w' ⟨rfl, rfl⟩)))
      go_ret2
      exact ⟨rfl, rfl⟩
    · rw [if_pos (.inr h3)]
      have h2i : (B : Int) + 1 < (s.size : Int) := by omega
      have iB1 : ∀ w, (Instr.index 9 (.string s) (.int .i64 ((B : Int) + 1))).run Tryz.prog w = .ok (.int .u8 45) w := fun w => by rw [← h3]; exact idx_int _ (B + 1) (by omega) h2 w
      have k2 : ∀ w, Calls Tryz.prog 109 #[.string s, .int .i64 ((B : Int) + 1 + 1)] w fun e w' => e = .returned (.int .i64 (digE s (B + 1 + 1))) ∧ w' = w := fun w => digitsEnd_int s hm _ (B + 1 + 1) (by omega) (by omega) w
      have hC := (digE_bd s (B + 1 + 1) (by omega))
      have hdec : decide (B + 1 + 1 < digE s (B + 1 + 1)) = decide (((B : Int) + 1 + 1) < ((digE s (B + 1 + 1) : Nat) : Int)) := by rw [decide_eq_decide]; omega
      simp only [hdec]
      clear hdec
      generalize digE s (B + 1 + 1) = C at hC k2 ⊢
      clear h3
      clear he
      clear hae hAe ha
      go_enter Tryz.func91, Tryz.ntmps91
      go_wp2_with (first | (go_at_call 76; refine (kp _).mono ?_; rintro e w' ⟨rfl, rfl⟩) | (go_at_call 90; refine (kq _).mono ?_; rintro e w' ⟨rfl, rfl⟩) | (go_at_call 109; first | (with_reducible refine (k0 _).mono ?_; rintro e w' ⟨rfl, rfl⟩) | (with_reducible refine (k1 _).mono ?_; rintro e w' ⟨rfl, rfl⟩) | (with_reducible refine (k2 _).mono ?_; rintro e w' ⟨rfl, rfl⟩)))
      go_ret2
      exact ⟨rfl, rfl⟩
    · rw [if_neg (by omega)]
      have h2i : (B : Int) + 1 < (s.size : Int) := by omega
      have iB1 : ∀ w, (Instr.index 9 (.string s) (.int .i64 ((B : Int) + 1))).run Tryz.prog w = .ok (.int .u8 (bat s (B + 1))) w := fun w => idx_int _ (B + 1) (by omega) h2 w
      have g43 : (bat s (B + 1) == 43) = false := by rw [beq_eq_false_iff_ne]; exact h3
      have g45 : (bat s (B + 1) == 45) = false := by rw [beq_eq_false_iff_ne]; exact h4
      generalize bat s (B + 1) = c2 at iB1 g43 g45
      clear h3 h4
      have k2 : ∀ w, Calls Tryz.prog 109 #[.string s, .int .i64 ((B : Int) + 1)] w fun e w' => e = .returned (.int .i64 (digE s (B + 1))) ∧ w' = w := fun w => digitsEnd_int s hm _ (B + 1) (by omega) (by omega) w
      have hC := (digE_bd s (B + 1) (by omega))
      have hdec : decide (B + 1 < digE s (B + 1)) = decide (((B : Int) + 1) < ((digE s (B + 1) : Nat) : Int)) := by rw [decide_eq_decide]; omega
      simp only [hdec]
      clear hdec
      generalize digE s (B + 1) = C at hC k2 ⊢
      clear he
      clear hae hAe ha
      go_enter Tryz.func91, Tryz.ntmps91
      go_wp2_with (first | (go_at_call 76; refine (kp _).mono ?_; rintro e w' ⟨rfl, rfl⟩) | (go_at_call 90; refine (kq _).mono ?_; rintro e w' ⟨rfl, rfl⟩) | (go_at_call 109; first | (with_reducible refine (k0 _).mono ?_; rintro e w' ⟨rfl, rfl⟩) | (with_reducible refine (k1 _).mono ?_; rintro e w' ⟨rfl, rfl⟩) | (with_reducible refine (k2 _).mono ?_; rintro e w' ⟨rfl, rfl⟩)))
      go_ret2
      exact ⟨rfl, rfl⟩
  · rw [if_neg he]
    rcases (show B = s.size ∨ B < s.size by omega) with h2 | h2
    · have nB : ((B : Int) == (s.size : Int)) = true := by rw [beq_iff_eq]; omega
      clear he h2 hae hAe ha
      have k2 : True := trivial
      go_enter Tryz.func91, Tryz.ntmps91
      go_wp2_with (first | (go_at_call 76; refine (kp _).mono ?_; rintro e w' ⟨rfl, rfl⟩) | (go_at_call 90; refine (kq _).mono ?_; rintro e w' ⟨rfl, rfl⟩) | (go_at_call 109; first | (with_reducible refine (k0 _).mono ?_; rintro e w' ⟨rfl, rfl⟩) | (with_reducible refine (k1 _).mono ?_; rintro e w' ⟨rfl, rfl⟩) | (with_reducible refine (k2 _).mono ?_; rintro e w' ⟨rfl, rfl⟩)))
      go_ret2
      exact ⟨rfl, rfl⟩
    · have nB : ((B : Int) == (s.size : Int)) = false := by rw [beq_eq_false_iff_ne]; omega
      have iB : ∀ w, (Instr.index 9 (.string s) (.int .i64 (B : Int))).run Tryz.prog w = .ok (.int .u8 (bat s B)) w := fun w => idx_int _ B (by omega) h2 w
      have gB : (bat s B == 101) = false := by rw [beq_eq_false_iff_ne]; exact he
      generalize bat s B = c3 at iB gB
      clear he hae hAe ha
      have k2 : True := trivial
      go_enter Tryz.func91, Tryz.ntmps91
      go_wp2_with (first | (go_at_call 76; refine (kp _).mono ?_; rintro e w' ⟨rfl, rfl⟩) | (go_at_call 90; refine (kq _).mono ?_; rintro e w' ⟨rfl, rfl⟩) | (go_at_call 109; first | (with_reducible refine (k0 _).mono ?_; rintro e w' ⟨rfl, rfl⟩) | (with_reducible refine (k1 _).mono ?_; rintro e w' ⟨rfl, rfl⟩) | (with_reducible refine (k2 _).mono ?_; rintro e w' ⟨rfl, rfl⟩)))
      go_ret2
      exact ⟨rfl, rfl⟩

set_option maxRecDepth 100000 in
set_option maxHeartbeats 3200000 in
theorem numberEnd_zn (s : ByteArray) (hm : s.size ≤ 1100000) (p : Nat) (hp : p < s.size) (h0 : bat s p = 48) (hx : ¬ bat s (p + 1) = 120) (hd : ¬ (bat s (p + 1) = 46 ∧ digB (bat s ((p + 1) + 1)) = true)) (w : World) : Calls Tryz.prog 91 #[.string s, .int .i64 p] w fun e w' => e = .returned (.tuple #[.int .i64 ((nEx s (p + 1)).1 : Int), .bool (nEx s (p + 1)).2]) ∧ w' = w := by
  have kp := fun w => hasPre_run s p w
  rw [show decide (bat s p = 48 ∧ bat s (p + 1) = 120) = false by simp [hx]] at kp
  have i0 := fun w => idx_run hp w
  rw [h0] at i0
  clear h0 hx
  obtain ⟨a, ha, hae⟩ : ∃ a : Int, a = (p : Int) + 1 ∧ a = ((p + 1 : Nat) : Int) := ⟨_, rfl, by omega⟩
  have hA : p + 1 ≤ s.size := by omega
  obtain ⟨A, hAe⟩ : ∃ A, p + 1 = A := ⟨_, rfl⟩
  rw [hAe] at hae hA hd ⊢
  have k0 : True := trivial
  have k1 : True := trivial
  rcases (show ¬ A + 1 < s.size ∨ (A + 1 < s.size ∧ bat s A ≠ 46) ∨ (A + 1 < s.size ∧ bat s A = 46) by omega) with q1 | ⟨q1, q2⟩ | ⟨q1, q2⟩
  · have q1i : ¬ ((p : Int) + 1) + 1 < (s.size : Int) := by omega
    have kq : True := trivial
    clear hd
    unfold nEx nA2
    by_cases he : bat s A = 101
    · rw [if_pos he]
      have hB1 := lt_of_bat he (by omega)
      have iB : ∀ w, (Instr.index 9 (.string s) (.int .i64 ((p : Int) + 1))).run Tryz.prog w = .ok (.int .u8 101) w := fun w => by rw [← he]; exact idx_int _ A (by omega) hB1 w
      have nB : (((p : Int) + 1) == (s.size : Int)) = false := by rw [beq_eq_false_iff_ne]; omega
      rcases (show ¬ A + 1 < s.size ∨ (A + 1 < s.size ∧ bat s (A + 1) = 43) ∨ (A + 1 < s.size ∧ bat s (A + 1) = 45) ∨ (A + 1 < s.size ∧ bat s (A + 1) ≠ 43 ∧ bat s (A + 1) ≠ 45) by omega) with h2 | ⟨h2, h3⟩ | ⟨h2, h3⟩ | ⟨h2, h3, h4⟩
      · rw [if_neg (by rw [bat_out h2]; omega)]
        have h2i : ¬ ((p : Int) + 1) + 1 < (s.size : Int) := by omega
        have k2 : ∀ w, Calls Tryz.prog 109 #[.string s, .int .i64 (((p : Int) + 1) + 1)] w fun e w' => e = .returned (.int .i64 (digE s (A + 1))) ∧ w' = w := fun w => digitsEnd_int s hm _ (A + 1) (by omega) (by omega) w
        have hC := (digE_bd s (A + 1) (by omega))
        have hdec : decide (A + 1 < digE s (A + 1)) = decide ((((p : Int) + 1) + 1) < ((digE s (A + 1) : Nat) : Int)) := by rw [decide_eq_decide]; omega
        simp only [hdec]
        clear hdec
        generalize digE s (A + 1) = C at hC k2 ⊢
        clear he
        clear hae hAe ha
        go_enter Tryz.func91, Tryz.ntmps91
        go_wp2_with (first | (go_at_call 76; refine (kp _).mono ?_; rintro e w' ⟨rfl, rfl⟩) | (go_at_call 90; refine (kq _).mono ?_; rintro e w' ⟨rfl, rfl⟩) | (go_at_call 109; first | (with_reducible refine (k0 _).mono ?_; rintro e w' ⟨rfl, rfl⟩) | (with_reducible refine (k1 _).mono ?_; rintro e w' ⟨rfl, rfl⟩) | (with_reducible refine (k2 _).mono ?_; rintro e w' ⟨rfl, rfl⟩)))
        go_ret2
        exact ⟨rfl, rfl⟩
      · exact absurd h2 q1
      · exact absurd h2 q1
      · exact absurd h2 q1
    · rw [if_neg he]
      rcases (show A = s.size ∨ A < s.size by omega) with h2 | h2
      · have nB : (((p : Int) + 1) == (s.size : Int)) = true := by rw [beq_iff_eq]; omega
        have hfin : ((A : Nat) : Int) = (p : Int) + 1 := by omega
        simp only [hfin]
        clear he h2 hae hAe ha
        clear hfin
        have k2 : True := trivial
        go_enter Tryz.func91, Tryz.ntmps91
        go_wp2_with (first | (go_at_call 76; refine (kp _).mono ?_; rintro e w' ⟨rfl, rfl⟩) | (go_at_call 90; refine (kq _).mono ?_; rintro e w' ⟨rfl, rfl⟩) | (go_at_call 109; first | (with_reducible refine (k0 _).mono ?_; rintro e w' ⟨rfl, rfl⟩) | (with_reducible refine (k1 _).mono ?_; rintro e w' ⟨rfl, rfl⟩) | (with_reducible refine (k2 _).mono ?_; rintro e w' ⟨rfl, rfl⟩)))
        go_ret2
        exact ⟨rfl, rfl⟩
      · have nB : (((p : Int) + 1) == (s.size : Int)) = false := by rw [beq_eq_false_iff_ne]; omega
        have iB : ∀ w, (Instr.index 9 (.string s) (.int .i64 ((p : Int) + 1))).run Tryz.prog w = .ok (.int .u8 (bat s A)) w := fun w => idx_int _ A (by omega) h2 w
        have gB : (bat s A == 101) = false := by rw [beq_eq_false_iff_ne]; exact he
        have hfin : ((A : Nat) : Int) = (p : Int) + 1 := by omega
        simp only [hfin]
        clear he hae hAe ha
        clear hfin
        have k2 : True := trivial
        go_enter Tryz.func91, Tryz.ntmps91
        go_wp2_with (first | (go_at_call 76; refine (kp _).mono ?_; rintro e w' ⟨rfl, rfl⟩) | (go_at_call 90; refine (kq _).mono ?_; rintro e w' ⟨rfl, rfl⟩) | (go_at_call 109; first | (with_reducible refine (k0 _).mono ?_; rintro e w' ⟨rfl, rfl⟩) | (with_reducible refine (k1 _).mono ?_; rintro e w' ⟨rfl, rfl⟩) | (with_reducible refine (k2 _).mono ?_; rintro e w' ⟨rfl, rfl⟩)))
        go_ret2
        exact ⟨rfl, rfl⟩
  · have q1i : ((p : Int) + 1) + 1 < (s.size : Int) := by omega
    have iA : ∀ w, (Instr.index 9 (.string s) (.int .i64 ((p : Int) + 1))).run Tryz.prog w = .ok (.int .u8 (bat s A)) w := fun w => idx_int _ A (by omega) (by omega) w
    have g46 : (bat s A == 46) = false := by rw [beq_eq_false_iff_ne]; exact q2
    have kq : True := trivial
    clear hd q2
    unfold nEx nA2
    by_cases he : bat s A = 101
    · rw [if_pos he]
      have hB1 := lt_of_bat he (by omega)
      have iB : ∀ w, (Instr.index 9 (.string s) (.int .i64 ((p : Int) + 1))).run Tryz.prog w = .ok (.int .u8 101) w := fun w => by rw [← he]; exact idx_int _ A (by omega) hB1 w
      have nB : (((p : Int) + 1) == (s.size : Int)) = false := by rw [beq_eq_false_iff_ne]; omega
      rw [he] at iA g46
      rcases (show ¬ A + 1 < s.size ∨ (A + 1 < s.size ∧ bat s (A + 1) = 43) ∨ (A + 1 < s.size ∧ bat s (A + 1) = 45) ∨ (A + 1 < s.size ∧ bat s (A + 1) ≠ 43 ∧ bat s (A + 1) ≠ 45) by omega) with h2 | ⟨h2, h3⟩ | ⟨h2, h3⟩ | ⟨h2, h3, h4⟩
      · exact absurd q1 h2
      · rw [if_pos (.inl h3)]
        have h2i : ((p : Int) + 1) + 1 < (s.size : Int) := by omega
        have iB1 : ∀ w, (Instr.index 9 (.string s) (.int .i64 (((p : Int) + 1) + 1))).run Tryz.prog w = .ok (.int .u8 43) w := fun w => by rw [← h3]; exact idx_int _ (A + 1) (by omega) h2 w
        have k2 : ∀ w, Calls Tryz.prog 109 #[.string s, .int .i64 (((p : Int) + 1) + 1 + 1)] w fun e w' => e = .returned (.int .i64 (digE s (A + 1 + 1))) ∧ w' = w := fun w => digitsEnd_int s hm _ (A + 1 + 1) (by omega) (by omega) w
        have hC := (digE_bd s (A + 1 + 1) (by omega))
        have hdec : decide (A + 1 + 1 < digE s (A + 1 + 1)) = decide ((((p : Int) + 1) + 1 + 1) < ((digE s (A + 1 + 1) : Nat) : Int)) := by rw [decide_eq_decide]; omega
        simp only [hdec]
        clear hdec
        generalize digE s (A + 1 + 1) = C at hC k2 ⊢
        clear h3
        clear g46
        clear he
        clear hae hAe ha
        go_enter Tryz.func91, Tryz.ntmps91
        go_wp2_with (first | (go_at_call 76; refine (kp _).mono ?_; rintro e w' ⟨rfl, rfl⟩) | (go_at_call 90; refine (kq _).mono ?_; rintro e w' ⟨rfl, rfl⟩) | (go_at_call 109; first | (with_reducible refine (k0 _).mono ?_; rintro e w' ⟨rfl, rfl⟩) | (with_reducible refine (k1 _).mono ?_; rintro e w' ⟨rfl, rfl⟩) | (with_reducible refine (k2 _).mono ?_; rintro e w' ⟨rfl, rfl⟩)))
        go_ret2
        exact ⟨rfl, rfl⟩
      · rw [if_pos (.inr h3)]
        have h2i : ((p : Int) + 1) + 1 < (s.size : Int) := by omega
        have iB1 : ∀ w, (Instr.index 9 (.string s) (.int .i64 (((p : Int) + 1) + 1))).run Tryz.prog w = .ok (.int .u8 45) w := fun w => by rw [← h3]; exact idx_int _ (A + 1) (by omega) h2 w
        have k2 : ∀ w, Calls Tryz.prog 109 #[.string s, .int .i64 (((p : Int) + 1) + 1 + 1)] w fun e w' => e = .returned (.int .i64 (digE s (A + 1 + 1))) ∧ w' = w := fun w => digitsEnd_int s hm _ (A + 1 + 1) (by omega) (by omega) w
        have hC := (digE_bd s (A + 1 + 1) (by omega))
        have hdec : decide (A + 1 + 1 < digE s (A + 1 + 1)) = decide ((((p : Int) + 1) + 1 + 1) < ((digE s (A + 1 + 1) : Nat) : Int)) := by rw [decide_eq_decide]; omega
        simp only [hdec]
        clear hdec
        generalize digE s (A + 1 + 1) = C at hC k2 ⊢
        clear h3
        clear g46
        clear he
        clear hae hAe ha
        go_enter Tryz.func91, Tryz.ntmps91
        go_wp2_with (first | (go_at_call 76; refine (kp _).mono ?_; rintro e w' ⟨rfl, rfl⟩) | (go_at_call 90; refine (kq _).mono ?_; rintro e w' ⟨rfl, rfl⟩) | (go_at_call 109; first | (with_reducible refine (k0 _).mono ?_; rintro e w' ⟨rfl, rfl⟩) | (with_reducible refine (k1 _).mono ?_; rintro e w' ⟨rfl, rfl⟩) | (with_reducible refine (k2 _).mono ?_; rintro e w' ⟨rfl, rfl⟩)))
        go_ret2
        exact ⟨rfl, rfl⟩
      · rw [if_neg (by omega)]
        have h2i : ((p : Int) + 1) + 1 < (s.size : Int) := by omega
        have iB1 : ∀ w, (Instr.index 9 (.string s) (.int .i64 (((p : Int) + 1) + 1))).run Tryz.prog w = .ok (.int .u8 (bat s (A + 1))) w := fun w => idx_int _ (A + 1) (by omega) h2 w
        have g43 : (bat s (A + 1) == 43) = false := by rw [beq_eq_false_iff_ne]; exact h3
        have g45 : (bat s (A + 1) == 45) = false := by rw [beq_eq_false_iff_ne]; exact h4
        generalize bat s (A + 1) = c2 at iB1 g43 g45
        clear h3 h4
        have k2 : ∀ w, Calls Tryz.prog 109 #[.string s, .int .i64 (((p : Int) + 1) + 1)] w fun e w' => e = .returned (.int .i64 (digE s (A + 1))) ∧ w' = w := fun w => digitsEnd_int s hm _ (A + 1) (by omega) (by omega) w
        have hC := (digE_bd s (A + 1) (by omega))
        have hdec : decide (A + 1 < digE s (A + 1)) = decide ((((p : Int) + 1) + 1) < ((digE s (A + 1) : Nat) : Int)) := by rw [decide_eq_decide]; omega
        simp only [hdec]
        clear hdec
        generalize digE s (A + 1) = C at hC k2 ⊢
        clear g46
        clear he
        clear hae hAe ha
        go_enter Tryz.func91, Tryz.ntmps91
        go_wp2_with (first | (go_at_call 76; refine (kp _).mono ?_; rintro e w' ⟨rfl, rfl⟩) | (go_at_call 90; refine (kq _).mono ?_; rintro e w' ⟨rfl, rfl⟩) | (go_at_call 109; first | (with_reducible refine (k0 _).mono ?_; rintro e w' ⟨rfl, rfl⟩) | (with_reducible refine (k1 _).mono ?_; rintro e w' ⟨rfl, rfl⟩) | (with_reducible refine (k2 _).mono ?_; rintro e w' ⟨rfl, rfl⟩)))
        go_ret2
        exact ⟨rfl, rfl⟩
    · rw [if_neg he]
      rcases (show A = s.size ∨ A < s.size by omega) with h2 | h2
      · omega
      · have nB : (((p : Int) + 1) == (s.size : Int)) = false := by rw [beq_eq_false_iff_ne]; omega
        have iB : ∀ w, (Instr.index 9 (.string s) (.int .i64 ((p : Int) + 1))).run Tryz.prog w = .ok (.int .u8 (bat s A)) w := fun w => idx_int _ A (by omega) h2 w
        have gB : (bat s A == 101) = false := by rw [beq_eq_false_iff_ne]; exact he
        have hfin : ((A : Nat) : Int) = (p : Int) + 1 := by omega
        simp only [hfin]
        clear he hae hAe ha
        clear hfin
        have k2 : True := trivial
        go_enter Tryz.func91, Tryz.ntmps91
        go_wp2_with (first | (go_at_call 76; refine (kp _).mono ?_; rintro e w' ⟨rfl, rfl⟩) | (go_at_call 90; refine (kq _).mono ?_; rintro e w' ⟨rfl, rfl⟩) | (go_at_call 109; first | (with_reducible refine (k0 _).mono ?_; rintro e w' ⟨rfl, rfl⟩) | (with_reducible refine (k1 _).mono ?_; rintro e w' ⟨rfl, rfl⟩) | (with_reducible refine (k2 _).mono ?_; rintro e w' ⟨rfl, rfl⟩)))
        go_ret2
        exact ⟨rfl, rfl⟩
  · have q1i : ((p : Int) + 1) + 1 < (s.size : Int) := by omega
    have hdd : digB (bat s (A + 1)) = false := by cases hb : digB (bat s (A + 1)) with | false => rfl | true => exact absurd ⟨q2, hb⟩ hd
    have iA : ∀ w, (Instr.index 9 (.string s) (.int .i64 ((p : Int) + 1))).run Tryz.prog w = .ok (.int .u8 46) w := fun w => by rw [← q2]; exact idx_int _ A (by omega) (by omega) w
    have iA1 : ∀ w, (Instr.index 9 (.string s) (.int .i64 (((p : Int) + 1) + 1))).run Tryz.prog w = .ok (.int .u8 (bat s (A + 1))) w := fun w => idx_int _ (A + 1) (by omega) (by omega) w
    have kq : ∀ w, Calls Tryz.prog 90 #[.int .u8 (bat s (A + 1))] w fun e w' => e = .returned (.bool false) ∧ w' = w := fun w => (isDigit_any _ w).mono fun e w' h => ⟨by rw [h.1, hdd], h.2.symm⟩
    have nB : (((p : Int) + 1) == (s.size : Int)) = false := by rw [beq_eq_false_iff_ne]; omega
    unfold nEx
    rw [if_neg (by omega)]
    generalize bat s (A + 1) = c1 at iA1 kq
    have k2 : True := trivial
    clear hd hdd q2
    have hfin : ((A : Nat) : Int) = (p : Int) + 1 := by omega
    simp only [hfin]
    clear hae hAe ha hfin
    go_enter Tryz.func91, Tryz.ntmps91
    go_wp2_with (first | (go_at_call 76; refine (kp _).mono ?_; rintro e w' ⟨rfl, rfl⟩) | (go_at_call 90; refine (kq _).mono ?_; rintro e w' ⟨rfl, rfl⟩) | (go_at_call 109; first | (with_reducible refine (k0 _).mono ?_; rintro e w' ⟨rfl, rfl⟩) | (with_reducible refine (k1 _).mono ?_; rintro e w' ⟨rfl, rfl⟩) | (with_reducible refine (k2 _).mono ?_; rintro e w' ⟨rfl, rfl⟩)))
    go_ret2
    exact ⟨rfl, rfl⟩

set_option maxRecDepth 100000 in
set_option maxHeartbeats 3200000 in
theorem numberEnd_ny (s : ByteArray) (hm : s.size ≤ 1100000) (p : Nat) (hp : p < s.size) (h0 : ¬ bat s p = 48) (hd : bat s (digE s (p + 1)) = 46 ∧ digB (bat s ((digE s (p + 1)) + 1)) = true) (w : World) : Calls Tryz.prog 91 #[.string s, .int .i64 p] w fun e w' => e = .returned (.tuple #[.int .i64 ((nEx s (digE s ((digE s (p + 1)) + 1))).1 : Int), .bool (nEx s (digE s ((digE s (p + 1)) + 1))).2]) ∧ w' = w := by
  have kp := fun w => hasPre_run s p w
  rw [show decide (bat s p = 48 ∧ bat s (p + 1) = 120) = false by simp [h0]] at kp
  have i0 := fun w => idx_run hp w
  have g0 : (bat s p == 48) = false := by rw [beq_eq_false_iff_ne]; exact h0
  have k0 : ∀ w, Calls Tryz.prog 109 #[.string s, .int .i64 ((p : Int) + 1)] w fun e w' => e = .returned (.int .i64 (digE s (p + 1))) ∧ w' = w := fun w => digitsEnd_any s hm (p + 1) (by omega) w
  have hA := (digE_bd s (p + 1) (by omega)).2
  generalize bat s p = c0 at i0 g0
  clear h0
  generalize digE s (p + 1) = A at hA hd k0 ⊢
  have hA1 := dig_lt hd.2
  have iA : ∀ w, (Instr.index 9 (.string s) (.int .i64 (A : Int))).run Tryz.prog w = .ok (.int .u8 46) w := fun w => by rw [← hd.1]; exact idx_int _ A (by omega) (by omega) w
  have iA1 : ∀ w, (Instr.index 9 (.string s) (.int .i64 ((A : Int) + 1))).run Tryz.prog w = .ok (.int .u8 (bat s (A + 1))) w := fun w => idx_int _ (A + 1) (by omega) (by omega) w
  have kq : ∀ w, Calls Tryz.prog 90 #[.int .u8 (bat s (A + 1))] w fun e w' => e = .returned (.bool true) ∧ w' = w := fun w => (isDigit_any _ w).mono fun e w' h => ⟨by rw [h.1, hd.2], h.2.symm⟩
  have k1 : ∀ w, Calls Tryz.prog 109 #[.string s, .int .i64 ((A : Int) + 1)] w fun e w' => e = .returned (.int .i64 (digE s (A + 1))) ∧ w' = w := fun w => digitsEnd_int s hm _ (A + 1) (by omega) (by omega) w
  have hB := (digE_bd s (A + 1) (by omega)).2
  have hA1' : (A : Int) + 1 < (s.size : Int) := by omega
  generalize bat s (A + 1) = c1 at iA1 kq
  clear hd
  generalize digE s (A + 1) = B at hB k1 ⊢
  unfold nEx nA2
  by_cases he : bat s B = 101
  · rw [if_pos he]
    have hB1 := lt_of_bat he (by omega)
    have iB : ∀ w, (Instr.index 9 (.string s) (.int .i64 (B : Int))).run Tryz.prog w = .ok (.int .u8 101) w := fun w => by rw [← he]; exact idx_int _ B (by omega) hB1 w
    have nB : ((B : Int) == (s.size : Int)) = false := by rw [beq_eq_false_iff_ne]; omega
    rcases (show ¬ B + 1 < s.size ∨ (B + 1 < s.size ∧ bat s (B + 1) = 43) ∨ (B + 1 < s.size ∧ bat s (B + 1) = 45) ∨ (B + 1 < s.size ∧ bat s (B + 1) ≠ 43 ∧ bat s (B + 1) ≠ 45) by omega) with h2 | ⟨h2, h3⟩ | ⟨h2, h3⟩ | ⟨h2, h3, h4⟩
    · rw [if_neg (by rw [bat_out h2]; omega)]
      have h2i : ¬ (B : Int) + 1 < (s.size : Int) := by omega
      have k2 : ∀ w, Calls Tryz.prog 109 #[.string s, .int .i64 ((B : Int) + 1)] w fun e w' => e = .returned (.int .i64 (digE s (B + 1))) ∧ w' = w := fun w => digitsEnd_int s hm _ (B + 1) (by omega) (by omega) w
      have hC := (digE_bd s (B + 1) (by omega))
      have hdec : decide (B + 1 < digE s (B + 1)) = decide (((B : Int) + 1) < ((digE s (B + 1) : Nat) : Int)) := by rw [decide_eq_decide]; omega
      simp only [hdec]
      clear hdec
      generalize digE s (B + 1) = C at hC k2 ⊢
      clear he
      go_enter Tryz.func91, Tryz.ntmps91
      go_wp2_with (first | (go_at_call 76; refine (kp _).mono ?_; rintro e w' ⟨rfl, rfl⟩) | (go_at_call 90; refine (kq _).mono ?_; rintro e w' ⟨rfl, rfl⟩) | (go_at_call 109; first | (with_reducible refine (k0 _).mono ?_; rintro e w' ⟨rfl, rfl⟩) | (with_reducible refine (k1 _).mono ?_; rintro e w' ⟨rfl, rfl⟩) | (with_reducible refine (k2 _).mono ?_; rintro e w' ⟨rfl, rfl⟩)))
      go_ret2
      exact ⟨rfl, rfl⟩
    · rw [if_pos (.inl h3)]
      have h2i : (B : Int) + 1 < (s.size : Int) := by omega
      have iB1 : ∀ w, (Instr.index 9 (.string s) (.int .i64 ((B : Int) + 1))).run Tryz.prog w = .ok (.int .u8 43) w := fun w => by rw [← h3]; exact idx_int _ (B + 1) (by omega) h2 w
      have k2 : ∀ w, Calls Tryz.prog 109 #[.string s, .int .i64 ((B : Int) + 1 + 1)] w fun e w' => e = .returned (.int .i64 (digE s (B + 1 + 1))) ∧ w' = w := fun w => digitsEnd_int s hm _ (B + 1 + 1) (by omega) (by omega) w
      have hC := (digE_bd s (B + 1 + 1) (by omega))
      have hdec : decide (B + 1 + 1 < digE s (B + 1 + 1)) = decide (((B : Int) + 1 + 1) < ((digE s (B + 1 + 1) : Nat) : Int)) := by rw [decide_eq_decide]; omega
      simp only [hdec]
      clear hdec
      generalize digE s (B + 1 + 1) = C at hC k2 ⊢
      clear h3
      clear he
      go_enter Tryz.func91, Tryz.ntmps91
      go_wp2_with (first | (go_at_call 76; refine (kp _).mono ?_; rintro e w' ⟨rfl, rfl⟩) | (go_at_call 90; refine (kq _).mono ?_; rintro e w' ⟨rfl, rfl⟩) | (go_at_call 109; first | (with_reducible refine (k0 _).mono ?_; rintro e w' ⟨rfl, rfl⟩) | (with_reducible refine (k1 _).mono ?_; rintro e w' ⟨rfl, rfl⟩) | (with_reducible refine (k2 _).mono ?_; rintro e w' ⟨rfl, rfl⟩)))
      go_ret2
      exact ⟨rfl, rfl⟩
    · rw [if_pos (.inr h3)]
      have h2i : (B : Int) + 1 < (s.size : Int) := by omega
      have iB1 : ∀ w, (Instr.index 9 (.string s) (.int .i64 ((B : Int) + 1))).run Tryz.prog w = .ok (.int .u8 45) w := fun w => by rw [← h3]; exact idx_int _ (B + 1) (by omega) h2 w
      have k2 : ∀ w, Calls Tryz.prog 109 #[.string s, .int .i64 ((B : Int) + 1 + 1)] w fun e w' => e = .returned (.int .i64 (digE s (B + 1 + 1))) ∧ w' = w := fun w => digitsEnd_int s hm _ (B + 1 + 1) (by omega) (by omega) w
      have hC := (digE_bd s (B + 1 + 1) (by omega))
      have hdec : decide (B + 1 + 1 < digE s (B + 1 + 1)) = decide (((B : Int) + 1 + 1) < ((digE s (B + 1 + 1) : Nat) : Int)) := by rw [decide_eq_decide]; omega
      simp only [hdec]
      clear hdec
      generalize digE s (B + 1 + 1) = C at hC k2 ⊢
      clear h3
      clear he
      go_enter Tryz.func91, Tryz.ntmps91
      go_wp2_with (first | (go_at_call 76; refine (kp _).mono ?_; rintro e w' ⟨rfl, rfl⟩) | (go_at_call 90; refine (kq _).mono ?_; rintro e w' ⟨rfl, rfl⟩) | (go_at_call 109; first | (with_reducible refine (k0 _).mono ?_; rintro e w' ⟨rfl, rfl⟩) | (with_reducible refine (k1 _).mono ?_; rintro e w' ⟨rfl, rfl⟩) | (with_reducible refine (k2 _).mono ?_; rintro e w' ⟨rfl, rfl⟩)))
      go_ret2
      exact ⟨rfl, rfl⟩
    · rw [if_neg (by omega)]
      have h2i : (B : Int) + 1 < (s.size : Int) := by omega
      have iB1 : ∀ w, (Instr.index 9 (.string s) (.int .i64 ((B : Int) + 1))).run Tryz.prog w = .ok (.int .u8 (bat s (B + 1))) w := fun w => idx_int _ (B + 1) (by omega) h2 w
      have g43 : (bat s (B + 1) == 43) = false := by rw [beq_eq_false_iff_ne]; exact h3
      have g45 : (bat s (B + 1) == 45) = false := by rw [beq_eq_false_iff_ne]; exact h4
      generalize bat s (B + 1) = c2 at iB1 g43 g45
      clear h3 h4
      have k2 : ∀ w, Calls Tryz.prog 109 #[.string s, .int .i64 ((B : Int) + 1)] w fun e w' => e = .returned (.int .i64 (digE s (B + 1))) ∧ w' = w := fun w => digitsEnd_int s hm _ (B + 1) (by omega) (by omega) w
      have hC := (digE_bd s (B + 1) (by omega))
      have hdec : decide (B + 1 < digE s (B + 1)) = decide (((B : Int) + 1) < ((digE s (B + 1) : Nat) : Int)) := by rw [decide_eq_decide]; omega
      simp only [hdec]
      clear hdec
      generalize digE s (B + 1) = C at hC k2 ⊢
      clear he
      go_enter Tryz.func91, Tryz.ntmps91
      go_wp2_with (first | (go_at_call 76; refine (kp _).mono ?_; rintro e w' ⟨rfl, rfl⟩) | (go_at_call 90; refine (kq _).mono ?_; rintro e w' ⟨rfl, rfl⟩) | (go_at_call 109; first | (with_reducible refine (k0 _).mono ?_; rintro e w' ⟨rfl, rfl⟩) | (with_reducible refine (k1 _).mono ?_; rintro e w' ⟨rfl, rfl⟩) | (with_reducible refine (k2 _).mono ?_; rintro e w' ⟨rfl, rfl⟩)))
      go_ret2
      exact ⟨rfl, rfl⟩
  · rw [if_neg he]
    rcases (show B = s.size ∨ B < s.size by omega) with h2 | h2
    · have nB : ((B : Int) == (s.size : Int)) = true := by rw [beq_iff_eq]; omega
      clear he h2
      have k2 : True := trivial
      go_enter Tryz.func91, Tryz.ntmps91
      go_wp2_with (first | (go_at_call 76; refine (kp _).mono ?_; rintro e w' ⟨rfl, rfl⟩) | (go_at_call 90; refine (kq _).mono ?_; rintro e w' ⟨rfl, rfl⟩) | (go_at_call 109; first | (with_reducible refine (k0 _).mono ?_; rintro e w' ⟨rfl, rfl⟩) | (with_reducible refine (k1 _).mono ?_; rintro e w' ⟨rfl, rfl⟩) | (with_reducible refine (k2 _).mono ?_; rintro e w' ⟨rfl, rfl⟩)))
      go_ret2
      exact ⟨rfl, rfl⟩
    · have nB : ((B : Int) == (s.size : Int)) = false := by rw [beq_eq_false_iff_ne]; omega
      have iB : ∀ w, (Instr.index 9 (.string s) (.int .i64 (B : Int))).run Tryz.prog w = .ok (.int .u8 (bat s B)) w := fun w => idx_int _ B (by omega) h2 w
      have gB : (bat s B == 101) = false := by rw [beq_eq_false_iff_ne]; exact he
      generalize bat s B = c3 at iB gB
      clear he
      have k2 : True := trivial
      go_enter Tryz.func91, Tryz.ntmps91
      go_wp2_with (first | (go_at_call 76; refine (kp _).mono ?_; rintro e w' ⟨rfl, rfl⟩) | (go_at_call 90; refine (kq _).mono ?_; rintro e w' ⟨rfl, rfl⟩) | (go_at_call 109; first | (with_reducible refine (k0 _).mono ?_; rintro e w' ⟨rfl, rfl⟩) | (with_reducible refine (k1 _).mono ?_; rintro e w' ⟨rfl, rfl⟩) | (with_reducible refine (k2 _).mono ?_; rintro e w' ⟨rfl, rfl⟩)))
      go_ret2
      exact ⟨rfl, rfl⟩

set_option maxRecDepth 100000 in
set_option maxHeartbeats 3200000 in
theorem numberEnd_nn (s : ByteArray) (hm : s.size ≤ 1100000) (p : Nat) (hp : p < s.size) (h0 : ¬ bat s p = 48) (hd : ¬ (bat s (digE s (p + 1)) = 46 ∧ digB (bat s ((digE s (p + 1)) + 1)) = true)) (w : World) : Calls Tryz.prog 91 #[.string s, .int .i64 p] w fun e w' => e = .returned (.tuple #[.int .i64 ((nEx s (digE s (p + 1))).1 : Int), .bool (nEx s (digE s (p + 1))).2]) ∧ w' = w := by
  have kp := fun w => hasPre_run s p w
  rw [show decide (bat s p = 48 ∧ bat s (p + 1) = 120) = false by simp [h0]] at kp
  have i0 := fun w => idx_run hp w
  have g0 : (bat s p == 48) = false := by rw [beq_eq_false_iff_ne]; exact h0
  have k0 : ∀ w, Calls Tryz.prog 109 #[.string s, .int .i64 ((p : Int) + 1)] w fun e w' => e = .returned (.int .i64 (digE s (p + 1))) ∧ w' = w := fun w => digitsEnd_any s hm (p + 1) (by omega) w
  have hA := (digE_bd s (p + 1) (by omega)).2
  generalize bat s p = c0 at i0 g0
  clear h0
  generalize digE s (p + 1) = A at hA hd k0 ⊢
  have k1 : True := trivial
  rcases (show ¬ A + 1 < s.size ∨ (A + 1 < s.size ∧ bat s A ≠ 46) ∨ (A + 1 < s.size ∧ bat s A = 46) by omega) with q1 | ⟨q1, q2⟩ | ⟨q1, q2⟩
  · have q1i : ¬ (A : Int) + 1 < (s.size : Int) := by omega
    have kq : True := trivial
    clear hd
    unfold nEx nA2
    by_cases he : bat s A = 101
    · rw [if_pos he]
      have hB1 := lt_of_bat he (by omega)
      have iB : ∀ w, (Instr.index 9 (.string s) (.int .i64 (A : Int))).run Tryz.prog w = .ok (.int .u8 101) w := fun w => by rw [← he]; exact idx_int _ A (by omega) hB1 w
      have nB : ((A : Int) == (s.size : Int)) = false := by rw [beq_eq_false_iff_ne]; omega
      rcases (show ¬ A + 1 < s.size ∨ (A + 1 < s.size ∧ bat s (A + 1) = 43) ∨ (A + 1 < s.size ∧ bat s (A + 1) = 45) ∨ (A + 1 < s.size ∧ bat s (A + 1) ≠ 43 ∧ bat s (A + 1) ≠ 45) by omega) with h2 | ⟨h2, h3⟩ | ⟨h2, h3⟩ | ⟨h2, h3, h4⟩
      · rw [if_neg (by rw [bat_out h2]; omega)]
        have h2i : ¬ (A : Int) + 1 < (s.size : Int) := by omega
        have k2 : ∀ w, Calls Tryz.prog 109 #[.string s, .int .i64 ((A : Int) + 1)] w fun e w' => e = .returned (.int .i64 (digE s (A + 1))) ∧ w' = w := fun w => digitsEnd_int s hm _ (A + 1) (by omega) (by omega) w
        have hC := (digE_bd s (A + 1) (by omega))
        have hdec : decide (A + 1 < digE s (A + 1)) = decide (((A : Int) + 1) < ((digE s (A + 1) : Nat) : Int)) := by rw [decide_eq_decide]; omega
        simp only [hdec]
        clear hdec
        generalize digE s (A + 1) = C at hC k2 ⊢
        clear he
        go_enter Tryz.func91, Tryz.ntmps91
        go_wp2_with (first | (go_at_call 76; refine (kp _).mono ?_; rintro e w' ⟨rfl, rfl⟩) | (go_at_call 90; refine (kq _).mono ?_; rintro e w' ⟨rfl, rfl⟩) | (go_at_call 109; first | (with_reducible refine (k0 _).mono ?_; rintro e w' ⟨rfl, rfl⟩) | (with_reducible refine (k1 _).mono ?_; rintro e w' ⟨rfl, rfl⟩) | (with_reducible refine (k2 _).mono ?_; rintro e w' ⟨rfl, rfl⟩)))
        go_ret2
        exact ⟨rfl, rfl⟩
      · exact absurd h2 q1
      · exact absurd h2 q1
      · exact absurd h2 q1
    · rw [if_neg he]
      rcases (show A = s.size ∨ A < s.size by omega) with h2 | h2
      · have nB : ((A : Int) == (s.size : Int)) = true := by rw [beq_iff_eq]; omega
        clear he h2
        have k2 : True := trivial
        go_enter Tryz.func91, Tryz.ntmps91
        go_wp2_with (first | (go_at_call 76; refine (kp _).mono ?_; rintro e w' ⟨rfl, rfl⟩) | (go_at_call 90; refine (kq _).mono ?_; rintro e w' ⟨rfl, rfl⟩) | (go_at_call 109; first | (with_reducible refine (k0 _).mono ?_; rintro e w' ⟨rfl, rfl⟩) | (with_reducible refine (k1 _).mono ?_; rintro e w' ⟨rfl, rfl⟩) | (with_reducible refine (k2 _).mono ?_; rintro e w' ⟨rfl, rfl⟩)))
        go_ret2
        exact ⟨rfl, rfl⟩
      · have nB : ((A : Int) == (s.size : Int)) = false := by rw [beq_eq_false_iff_ne]; omega
        have iB : ∀ w, (Instr.index 9 (.string s) (.int .i64 (A : Int))).run Tryz.prog w = .ok (.int .u8 (bat s A)) w := fun w => idx_int _ A (by omega) h2 w
        have gB : (bat s A == 101) = false := by rw [beq_eq_false_iff_ne]; exact he
        clear he
        have k2 : True := trivial
        go_enter Tryz.func91, Tryz.ntmps91
        go_wp2_with (first | (go_at_call 76; refine (kp _).mono ?_; rintro e w' ⟨rfl, rfl⟩) | (go_at_call 90; refine (kq _).mono ?_; rintro e w' ⟨rfl, rfl⟩) | (go_at_call 109; first | (with_reducible refine (k0 _).mono ?_; rintro e w' ⟨rfl, rfl⟩) | (with_reducible refine (k1 _).mono ?_; rintro e w' ⟨rfl, rfl⟩) | (with_reducible refine (k2 _).mono ?_; rintro e w' ⟨rfl, rfl⟩)))
        go_ret2
        exact ⟨rfl, rfl⟩
  · have q1i : (A : Int) + 1 < (s.size : Int) := by omega
    have iA : ∀ w, (Instr.index 9 (.string s) (.int .i64 (A : Int))).run Tryz.prog w = .ok (.int .u8 (bat s A)) w := fun w => idx_int _ A (by omega) (by omega) w
    have g46 : (bat s A == 46) = false := by rw [beq_eq_false_iff_ne]; exact q2
    have kq : True := trivial
    clear hd q2
    unfold nEx nA2
    by_cases he : bat s A = 101
    · rw [if_pos he]
      have hB1 := lt_of_bat he (by omega)
      have iB : ∀ w, (Instr.index 9 (.string s) (.int .i64 (A : Int))).run Tryz.prog w = .ok (.int .u8 101) w := fun w => by rw [← he]; exact idx_int _ A (by omega) hB1 w
      have nB : ((A : Int) == (s.size : Int)) = false := by rw [beq_eq_false_iff_ne]; omega
      rw [he] at iA g46
      rcases (show ¬ A + 1 < s.size ∨ (A + 1 < s.size ∧ bat s (A + 1) = 43) ∨ (A + 1 < s.size ∧ bat s (A + 1) = 45) ∨ (A + 1 < s.size ∧ bat s (A + 1) ≠ 43 ∧ bat s (A + 1) ≠ 45) by omega) with h2 | ⟨h2, h3⟩ | ⟨h2, h3⟩ | ⟨h2, h3, h4⟩
      · exact absurd q1 h2
      · rw [if_pos (.inl h3)]
        have h2i : (A : Int) + 1 < (s.size : Int) := by omega
        have iB1 : ∀ w, (Instr.index 9 (.string s) (.int .i64 ((A : Int) + 1))).run Tryz.prog w = .ok (.int .u8 43) w := fun w => by rw [← h3]; exact idx_int _ (A + 1) (by omega) h2 w
        have k2 : ∀ w, Calls Tryz.prog 109 #[.string s, .int .i64 ((A : Int) + 1 + 1)] w fun e w' => e = .returned (.int .i64 (digE s (A + 1 + 1))) ∧ w' = w := fun w => digitsEnd_int s hm _ (A + 1 + 1) (by omega) (by omega) w
        have hC := (digE_bd s (A + 1 + 1) (by omega))
        have hdec : decide (A + 1 + 1 < digE s (A + 1 + 1)) = decide (((A : Int) + 1 + 1) < ((digE s (A + 1 + 1) : Nat) : Int)) := by rw [decide_eq_decide]; omega
        simp only [hdec]
        clear hdec
        generalize digE s (A + 1 + 1) = C at hC k2 ⊢
        clear h3
        clear g46
        clear he
        go_enter Tryz.func91, Tryz.ntmps91
        go_wp2_with (first | (go_at_call 76; refine (kp _).mono ?_; rintro e w' ⟨rfl, rfl⟩) | (go_at_call 90; refine (kq _).mono ?_; rintro e w' ⟨rfl, rfl⟩) | (go_at_call 109; first | (with_reducible refine (k0 _).mono ?_; rintro e w' ⟨rfl, rfl⟩) | (with_reducible refine (k1 _).mono ?_; rintro e w' ⟨rfl, rfl⟩) | (with_reducible refine (k2 _).mono ?_; rintro e w' ⟨rfl, rfl⟩)))
        go_ret2
        exact ⟨rfl, rfl⟩
      · rw [if_pos (.inr h3)]
        have h2i : (A : Int) + 1 < (s.size : Int) := by omega
        have iB1 : ∀ w, (Instr.index 9 (.string s) (.int .i64 ((A : Int) + 1))).run Tryz.prog w = .ok (.int .u8 45) w := fun w => by rw [← h3]; exact idx_int _ (A + 1) (by omega) h2 w
        have k2 : ∀ w, Calls Tryz.prog 109 #[.string s, .int .i64 ((A : Int) + 1 + 1)] w fun e w' => e = .returned (.int .i64 (digE s (A + 1 + 1))) ∧ w' = w := fun w => digitsEnd_int s hm _ (A + 1 + 1) (by omega) (by omega) w
        have hC := (digE_bd s (A + 1 + 1) (by omega))
        have hdec : decide (A + 1 + 1 < digE s (A + 1 + 1)) = decide (((A : Int) + 1 + 1) < ((digE s (A + 1 + 1) : Nat) : Int)) := by rw [decide_eq_decide]; omega
        simp only [hdec]
        clear hdec
        generalize digE s (A + 1 + 1) = C at hC k2 ⊢
        clear h3
        clear g46
        clear he
        go_enter Tryz.func91, Tryz.ntmps91
        go_wp2_with (first | (go_at_call 76; refine (kp _).mono ?_; rintro e w' ⟨rfl, rfl⟩) | (go_at_call 90; refine (kq _).mono ?_; rintro e w' ⟨rfl, rfl⟩) | (go_at_call 109; first | (with_reducible refine (k0 _).mono ?_; rintro e w' ⟨rfl, rfl⟩) | (with_reducible refine (k1 _).mono ?_; rintro e w' ⟨rfl, rfl⟩) | (with_reducible refine (k2 _).mono ?_; rintro e w' ⟨rfl, rfl⟩)))
        go_ret2
        exact ⟨rfl, rfl⟩
      · rw [if_neg (by omega)]
        have h2i : (A : Int) + 1 < (s.size : Int) := by omega
        have iB1 : ∀ w, (Instr.index 9 (.string s) (.int .i64 ((A : Int) + 1))).run Tryz.prog w = .ok (.int .u8 (bat s (A + 1))) w := fun w => idx_int _ (A + 1) (by omega) h2 w
        have g43 : (bat s (A + 1) == 43) = false := by rw [beq_eq_false_iff_ne]; exact h3
        have g45 : (bat s (A + 1) == 45) = false := by rw [beq_eq_false_iff_ne]; exact h4
        generalize bat s (A + 1) = c2 at iB1 g43 g45
        clear h3 h4
        have k2 : ∀ w, Calls Tryz.prog 109 #[.string s, .int .i64 ((A : Int) + 1)] w fun e w' => e = .returned (.int .i64 (digE s (A + 1))) ∧ w' = w := fun w => digitsEnd_int s hm _ (A + 1) (by omega) (by omega) w
        have hC := (digE_bd s (A + 1) (by omega))
        have hdec : decide (A + 1 < digE s (A + 1)) = decide (((A : Int) + 1) < ((digE s (A + 1) : Nat) : Int)) := by rw [decide_eq_decide]; omega
        simp only [hdec]
        clear hdec
        generalize digE s (A + 1) = C at hC k2 ⊢
        clear g46
        clear he
        go_enter Tryz.func91, Tryz.ntmps91
        go_wp2_with (first | (go_at_call 76; refine (kp _).mono ?_; rintro e w' ⟨rfl, rfl⟩) | (go_at_call 90; refine (kq _).mono ?_; rintro e w' ⟨rfl, rfl⟩) | (go_at_call 109; first | (with_reducible refine (k0 _).mono ?_; rintro e w' ⟨rfl, rfl⟩) | (with_reducible refine (k1 _).mono ?_; rintro e w' ⟨rfl, rfl⟩) | (with_reducible refine (k2 _).mono ?_; rintro e w' ⟨rfl, rfl⟩)))
        go_ret2
        exact ⟨rfl, rfl⟩
    · rw [if_neg he]
      rcases (show A = s.size ∨ A < s.size by omega) with h2 | h2
      · omega
      · have nB : ((A : Int) == (s.size : Int)) = false := by rw [beq_eq_false_iff_ne]; omega
        have iB : ∀ w, (Instr.index 9 (.string s) (.int .i64 (A : Int))).run Tryz.prog w = .ok (.int .u8 (bat s A)) w := fun w => idx_int _ A (by omega) h2 w
        have gB : (bat s A == 101) = false := by rw [beq_eq_false_iff_ne]; exact he
        clear he
        have k2 : True := trivial
        go_enter Tryz.func91, Tryz.ntmps91
        go_wp2_with (first | (go_at_call 76; refine (kp _).mono ?_; rintro e w' ⟨rfl, rfl⟩) | (go_at_call 90; refine (kq _).mono ?_; rintro e w' ⟨rfl, rfl⟩) | (go_at_call 109; first | (with_reducible refine (k0 _).mono ?_; rintro e w' ⟨rfl, rfl⟩) | (with_reducible refine (k1 _).mono ?_; rintro e w' ⟨rfl, rfl⟩) | (with_reducible refine (k2 _).mono ?_; rintro e w' ⟨rfl, rfl⟩)))
        go_ret2
        exact ⟨rfl, rfl⟩
  · have q1i : (A : Int) + 1 < (s.size : Int) := by omega
    have hdd : digB (bat s (A + 1)) = false := by cases hb : digB (bat s (A + 1)) with | false => rfl | true => exact absurd ⟨q2, hb⟩ hd
    have iA : ∀ w, (Instr.index 9 (.string s) (.int .i64 (A : Int))).run Tryz.prog w = .ok (.int .u8 46) w := fun w => by rw [← q2]; exact idx_int _ A (by omega) (by omega) w
    have iA1 : ∀ w, (Instr.index 9 (.string s) (.int .i64 ((A : Int) + 1))).run Tryz.prog w = .ok (.int .u8 (bat s (A + 1))) w := fun w => idx_int _ (A + 1) (by omega) (by omega) w
    have kq : ∀ w, Calls Tryz.prog 90 #[.int .u8 (bat s (A + 1))] w fun e w' => e = .returned (.bool false) ∧ w' = w := fun w => (isDigit_any _ w).mono fun e w' h => ⟨by rw [h.1, hdd], h.2.symm⟩
    have nB : ((A : Int) == (s.size : Int)) = false := by rw [beq_eq_false_iff_ne]; omega
    unfold nEx
    rw [if_neg (by omega)]
    generalize bat s (A + 1) = c1 at iA1 kq
    have k2 : True := trivial
    clear hd hdd q2
    go_enter Tryz.func91, Tryz.ntmps91
    go_wp2_with (first | (go_at_call 76; refine (kp _).mono ?_; rintro e w' ⟨rfl, rfl⟩) | (go_at_call 90; refine (kq _).mono ?_; rintro e w' ⟨rfl, rfl⟩) | (go_at_call 109; first | (with_reducible refine (k0 _).mono ?_; rintro e w' ⟨rfl, rfl⟩) | (with_reducible refine (k1 _).mono ?_; rintro e w' ⟨rfl, rfl⟩) | (with_reducible refine (k2 _).mono ?_; rintro e w' ⟨rfl, rfl⟩)))
    go_ret2
    exact ⟨rfl, rfl⟩

theorem numberEnd_any (s : ByteArray) (hm : s.size ≤ 1100000) (p : Nat) (hp : p < s.size) (w : World) : Calls Tryz.prog 91 #[.string s, .int .i64 p] w fun e w' => e = .returned (.tuple #[.int .i64 ((numN s p).1 : Int), .bool (numN s p).2]) ∧ w' = w := by
  unfold numN
  by_cases hx : bat s p = 48 ∧ bat s (p + 1) = 120
  · rw [if_pos hx]; exact numberEnd_hex s hm p hx.1 hx.2 w
  · rw [if_neg hx]
    unfold nA0
    by_cases h0 : bat s p = 48
    · rw [if_pos h0]
      unfold nA1
      split
      · rename_i hd; exact numberEnd_zy s hm p hp h0 (fun h => hx ⟨h0, h⟩) hd w
      · rename_i hd; exact numberEnd_zn s hm p hp h0 (fun h => hx ⟨h0, h⟩) hd w
    · rw [if_neg h0]
      unfold nA1
      split
      · rename_i hd; exact numberEnd_ny s hm p hp h0 hd w
      · rename_i hd; exact numberEnd_nn s hm p hp h0 hd w
end Go.Proofs.YtdgbmihokecmhaaGreatDoor
