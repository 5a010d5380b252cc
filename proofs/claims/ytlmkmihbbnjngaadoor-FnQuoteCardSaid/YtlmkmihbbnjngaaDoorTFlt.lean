import Derived.Test.YtlmkmihbbnjngaaDoorTDec
namespace Go.Proofs.YtlmkmihbbnjngaaDoor
open Go.RowKit Go.Maps Go.WideMaps
set_option linter.unusedVariables false

/-- A text that is a float as a whole. -/
def fltI (q : ByteArray) : Bool := decide (digB (bat q 0) = true ∧ numN q 0 = (q.size, true) ∧ ¬ (bat q 0 = 48 ∧ bat q 1 = 120) ∧ decI q = none)

theorem hxE_bd (s : ByteArray) (p : Nat) (h : p ≤ s.size) : p ≤ hxE s p ∧ hxE s p ≤ s.size := runE_bd hexB hex_neg s _ p h
theorem hexN_yes {s : ByteArray} {p e : Nat} (h : hexN s p = (e, true)) : p < e ∧ e ≤ p + 16 ∧ e = hxE s p ∧ ∀ i, p ≤ i → i < e → hexB (bat s i) = true := by
  unfold hexN at h
  split at h
  · cases h
  · rename_i hle
    obtain ⟨h1, h2⟩ := Prod.mk.inj h
    subst h1
    exact ⟨by simpa using h2, by omega, rfl, fun i hi h2 => runE_all hexB s _ p i hi h2⟩

theorem nil_toList {q : ByteArray} (h0 : 0 < q.size) : (q.toList == []) = false := by
  have : q.toList.length = q.size := by rw [ByteArray.toList_eq]; simp
  cases hs : q.toList with
  | nil => rw [hs] at this; simp at this; omega
  | cons a l => rfl
theorem nil_toList' {q : ByteArray} (h0 : ¬ 0 < q.size) : (q.toList == []) = true := by
  have : q.toList.length = q.size := by rw [ByteArray.toList_eq]; simp
  have : q.toList = [] := List.length_eq_zero_iff.1 (by omega)
  rw [this]; rfl

theorem isDigit_q {c : Int} {b : Bool} (h : digB c = b) (w : World) : Calls Tryd.prog 40 #[.int .u8 c] w fun e w' => e = .returned (.bool b) ∧ w' = w := (isDigit_any c w).mono fun e w' g => ⟨by rw [g.1, h], g.2.symm⟩
theorem numberEnd0 (s : ByteArray) (hm : s.size ≤ 1100000) (h0 : 0 < s.size) (w : World) : Calls Tryd.prog 49 #[.string s, .int .i64 0] w fun e w' => e = .returned (.tuple #[.int .i64 ((numN s 0).1 : Int), .bool (numN s 0).2]) ∧ w' = w := numberEnd_any s hm 0 h0 w

theorem nEx_bd (s : ByteArray) (a : Nat) (h : a ≤ s.size) : a ≤ (nEx s a).1 ∧ (nEx s a).1 ≤ s.size := by
  unfold nEx
  split
  · rename_i he
    have h1 := lt_of_bat he (by omega)
    have h2 : nA2 s a ≤ s.size ∧ a < nA2 s a := by
      unfold nA2
      split
      · rename_i hs
        rcases hs with hs | hs
        · have := lt_of_bat hs (by omega); omega
        · have := lt_of_bat hs (by omega); omega
      · omega
    have := digE_bd s (nA2 s a) h2.1
    simp only
    omega
  · exact ⟨Nat.le_refl _, h⟩
theorem nA0_bd (s : ByteArray) (p : Nat) (h : p < s.size) : p < nA0 s p ∧ nA0 s p ≤ s.size := by
  unfold nA0
  split
  · omega
  · have := digE_bd s (p + 1) (by omega); omega
theorem nA1_bd (s : ByteArray) (a : Nat) (h : a ≤ s.size) : a ≤ nA1 s a ∧ nA1 s a ≤ s.size := by
  unfold nA1
  split
  · rename_i hd
    have := digE_bd s (a + 1) (by have := dig_lt hd.2; omega); omega
  · omega
theorem hexN_bd (s : ByteArray) (p : Nat) (h : p ≤ s.size) : p ≤ (hexN s p).1 ∧ (hexN s p).1 ≤ s.size := by
  have := hxE_bd s p h
  unfold hexN
  split
  · simp only; omega
  · exact this
theorem numN_bd (s : ByteArray) (p : Nat) (h : p < s.size) : p < (numN s p).1 ∧ (numN s p).1 ≤ s.size := by
  unfold numN
  split
  · rename_i hx
    have := lt_of_bat hx.2 (by omega)
    have := hexN_bd s (p + 2) (by omega)
    omega
  · have h0 := nA0_bd s p h
    have h1 := nA1_bd s _ h0.2
    have h2 := nEx_bd s _ h1.2
    omega

end Go.Proofs.YtlmkmihbbnjngaaDoor
