import Derived.Test.YtpllcogpohcbiaaDoorTDec
namespace Go.Proofs.YtpllcogpohcbiaaDoor
open Go.RowKit Go.Maps Go.WideMaps
set_option linter.unusedVariables false

/-- A text that is a float as a whole. -/
def fltI (q : ByteArray) : Bool := decide (digB (bat q 0) = true ∧ numN q 0 = (q.size, true) ∧ ¬ (bat q 0 = 48 ∧ bat q 1 = 120) ∧ decI q = none)

theorem hxE_bd (s : ByteArray) (p : Nat) (h : p ≤ s.size) : p ≤ hxE s p ∧ hxE s p ≤ s.size := runE_bd hexB hex_neg s _ p h
theorem hexN_yes {s : ByteArray} {p e : Nat} (h : hexN s p = (e, true)) : p < e ∧ e ≤ p + 16 ∧ e = hxE s p ∧ ∀ i, p ≤ i → i < e → hexB (bat s i) = true := by
  unfold hexN at h
  split at h
  · cases h
  · rename_i hle
    obtain ⟨h1, h2⟩ := Prod.mk.inj h
    subst h1
    exact ⟨by simpa using h2, by omega, rfl, fun i hi h2 => runE_all hexB s _ p i hi h2⟩

theorem nil_toList {q : ByteArray} (h0 : 0 < q.size) : (q.toList == []) = false := by
  have : q.toList.length = q.size := by rw [ByteArray.toList_eq]; simp
  cases hs : q.toList with
  | nil => rw [hs] at this; simp at this; omega
  | cons a l => rfl
theorem nil_toList' {q : ByteArray} (h0 : ¬ 0 < q.size) : (q.toList == []) = true := by
  have : q.toList.length = q.size := by rw [ByteArray.toList_eq]; simp
  have : q.toList = [] := List.length_eq_zero_iff.1 (by omega)
  rw [this]; rfl

theorem isDigit_q {c : Int} {b : Bool} (h : digB c = b) (w : World) : Calls Tryd.prog 60 #[.int .u8 c] w fun e w' => e = .returned (.bool b) ∧ w' = w := (isDigit_any c w).mono fun e w' g => ⟨by rw [g.1, h], g.2.symm⟩
theorem numberEnd0 (s : ByteArray) (hm : s.size ≤ 1100000) (h0 : 0 < s.size) (w : World) : Calls Tryd.prog 61 #[.string s, .int .i64 0] w fun e w' => e = .returned (.tuple #[.int .i64 ((numN s 0).1 : Int), .bool (numN s 0).2]) ∧ w' = w := numberEnd_any s hm 0 h0 w

theorem nEx_bd (s : ByteArray) (a : Nat) (h : a ≤ s.size) : a ≤ (nEx s a).1 ∧ (nEx s a).1 ≤ s.size := by
  unfold nEx
  split
  · rename_i he
    have h1 := lt_of_bat he (by omega)
    have h2 : nA2 s a ≤ s.size ∧ a < nA2 s a := by
      unfold nA2
      split
      · rename_i hs
        rcases hs with hs | hs
        · have := lt_of_bat hs (by omega); omega
        · have := lt_of_bat hs (by omega); omega
      · omega
    have := digE_bd s (nA2 s a) h2.1
    simp only
    omega
  · exact ⟨Nat.le_refl _, h⟩
theorem nA0_bd (s : ByteArray) (p : Nat) (h : p < s.size) : p < nA0 s p ∧ nA0 s p ≤ s.size := by
  unfold nA0
  split
  · omega
  · have := digE_bd s (p + 1) (by omega); omega
theorem nA1_bd (s : ByteArray) (a : Nat) (h : a ≤ s.size) : a ≤ nA1 s a ∧ nA1 s a ≤ s.size := by
  unfold nA1
  split
  · rename_i hd
    have := digE_bd s (a + 1) (by have := dig_lt hd.2; omega); omega
  · omega
theorem hexN_bd (s : ByteArray) (p : Nat) (h : p ≤ s.size) : p ≤ (hexN s p).1 ∧ (hexN s p).1 ≤ s.size := by
  have := hxE_bd s p h
  unfold hexN
  split
  · simp only; omega
  · exact this
theorem numN_bd (s : ByteArray) (p : Nat) (h : p < s.size) : p < (numN s p).1 ∧ (numN s p).1 ≤ s.size := by
  unfold numN
  split
  · rename_i hx
    have := lt_of_bat hx.2 (by omega)
    have := hexN_bd s (p + 2) (by omega)
    omega
  · have h0 := nA0_bd s p h
    have h1 := nA1_bd s _ h0.2
    have h2 := nEx_bd s _ h1.2
    omega

set_option maxRecDepth 100000 in
set_option maxHeartbeats 3200000 in
theorem isFloat_any (q : ByteArray) (hm : q.size ≤ 1100000) (w : World) (hE : Errs w) : Calls Tryd.prog 36 #[.string q] w fun e w' => e = .returned (.bool (fltI q)) ∧ Below w.heap.size w w' := by
  by_cases h0 : 0 < q.size
  · have hne := nil_toList h0
    have i1 : ∀ w, (Instr.index 9 (.string q) (.int .i64 0)).run Tryd.prog w = .ok (.int .u8 (bat q 0)) w := fun w => idx_run h0 w
    by_cases hd : digB (bat q 0) = true
    · have kd := fun w => isDigit_q hd w
      have kn := fun w => numberEnd0 q hm h0 w
      have bd := (numN_bd q 0 h0).2
      by_cases hok : (numN q 0).2 = true
      · by_cases he : (numN q 0).1 = q.size
        · have hN : numN q 0 = (q.size, true) := Prod.ext he hok
          have hnl : ¬ (q.size : Int) < (q.size : Int) := by omega
          rw [hN] at kn
          by_cases hx : bat q 0 = 48 ∧ bat q 1 = 120
          · have hf : fltI q = false := by unfold fltI; simp [hx]
            rw [hf]
            have hh : hexN q 2 = (q.size, true) := by rw [← hN]; unfold numN; rw [if_pos hx]
            obtain ⟨g1, g2, g3, g4⟩ := hexN_yes hh
            have ki := fun w => intOf_hex q hx.1 hx.2 (by omega) (by omega) g4 w
            generalize wrap64 (hvS q 2 (q.size - 2) : Int) = v at ki
            clear hf hh g3 g4 hN hok he hx hd
            generalize bat q 0 = c at i1 kd
            go_enter Tryd.func36, Tryd.ntmps36
            go_wp2_with (first | (go_at_call 60; refine (kd _).mono ?_; rintro e w' ⟨rfl, rfl⟩) | (go_at_call 61; refine (kn _).mono ?_; rintro e w' ⟨rfl, rfl⟩) | (go_at_call 62; refine (ki _).mono ?_; rintro e w' ⟨rfl, hb⟩))
            go_ret
            exact ⟨rfl, hb⟩
          · have ki := intOf_dec q hm hx w hE
            have hf : fltI q = !(decI q).isSome := by
              unfold fltI
              cases hdc : decI q <;> simp [hd, hN, hx]
            rw [hf]
            generalize (decI q).isSome = B at ki
            clear hf hN hok he hx hd
            generalize bat q 0 = c at i1 kd
            go_enter Tryd.func36, Tryd.ntmps36
            go_wp2_with (first | (go_at_call 60; refine (kd _).mono ?_; rintro e w' ⟨rfl, rfl⟩) | (go_at_call 61; refine (kn _).mono ?_; rintro e w' ⟨rfl, rfl⟩) | (go_at_call 62; refine ki.mono ?_; rintro e w' ⟨⟨x, rfl, _⟩, hb⟩))
            go_ret
            exact ⟨rfl, hb⟩
        · have hf : fltI q = false := by unfold fltI; rw [decide_eq_false_iff_not]; rintro ⟨_, h2, _⟩; rw [h2] at he; exact he rfl
          rw [hf]
          have hlt : ((numN q 0).1 : Int) < (q.size : Int) := by omega
          rw [hok] at kn
          generalize (numN q 0).1 = E at kn hlt
          clear hf hok he hd bd
          generalize bat q 0 = c at i1 kd
          go_enter Tryd.func36, Tryd.ntmps36
          go_wp2_with (first | (go_at_call 60; refine (kd _).mono ?_; rintro e w' ⟨rfl, rfl⟩) | (go_at_call 61; refine (kn _).mono ?_; rintro e w' ⟨rfl, rfl⟩))
          go_ret
          exact ⟨rfl, Below.refl _ _⟩
      · have hok' : (numN q 0).2 = false := by simpa using hok
        have hf : fltI q = false := by unfold fltI; rw [decide_eq_false_iff_not]; rintro ⟨_, h2, _⟩; rw [h2] at hok; exact hok rfl
        rw [hf]
        rw [hok'] at kn
        generalize (numN q 0).1 = E at kn bd
        clear hf hok hok' hd
        generalize bat q 0 = c at i1 kd
        go_enter Tryd.func36, Tryd.ntmps36
        go_wp2_with (first | (go_at_call 60; refine (kd _).mono ?_; rintro e w' ⟨rfl, rfl⟩) | (go_at_call 61; refine (kn _).mono ?_; rintro e w' ⟨rfl, rfl⟩))
        go_ret
        exact ⟨rfl, Below.refl _ _⟩
    · have hd' : digB (bat q 0) = false := by simpa using hd
      have kd := fun w => isDigit_q hd' w
      have hf : fltI q = false := by unfold fltI; simp [hd']
      rw [hf]
      clear hf hd hd'
      generalize bat q 0 = c at i1 kd
      go_enter Tryd.func36, Tryd.ntmps36
      go_wp2_with (first | (go_at_call 60; refine (kd _).mono ?_; rintro e w' ⟨rfl, rfl⟩))
      go_ret
      exact ⟨rfl, Below.refl _ _⟩
  · have hne := nil_toList' h0
    have hf : fltI q = false := by unfold fltI; rw [bat_out h0]; simp [dig_neg]
    rw [hf]
    clear hf
    go_enter Tryd.func36, Tryd.ntmps36
    go_wp2
    go_ret
    exact ⟨rfl, Below.refl _ _⟩
end Go.Proofs.YtpllcogpohcbiaaDoor
