import Derived.Test.YtlmkmihbbnjngaaDoorTName
namespace Go.Proofs.YtlmkmihbbnjngaaDoor
open Go.RowKit Go.Maps Go.WideMaps
set_option linter.unusedVariables false

/-- Is this text a word? -/
def isWd (s : ByteArray) : Bool := (fnd wordV s 22 0).isSome
theorem strAt_word (k : Nat) : strAt wordV k = wordAt k := rfl
theorem fnd_some_lt (V : Array Value) (s : ByteArray) : ∀ (f k j : Nat), fnd V s f k = some j → k ≤ j ∧ j < k + f ∧ (strAt V j).toList = s.toList
  | 0, k, j, h => by simp [fnd] at h
  | f + 1, k, j, h => by
    unfold fnd at h
    split at h
    · rename_i hx
      obtain rfl := Option.some.inj h
      exact ⟨Nat.le_refl _, by omega, by simpa using hx⟩
    · have := fnd_some_lt V s f (k + 1) j h
      exact ⟨by omega, by omega, this.2.2⟩
theorem fnd_none (V : Array Value) (s : ByteArray) : ∀ (f k : Nat), fnd V s f k = none → ∀ j, k ≤ j → j < k + f → (strAt V j).toList ≠ s.toList
  | 0, k, h => fun j h1 h2 => by omega
  | f + 1, k, h => fun j h1 h2 => by
    unfold fnd at h
    split at h
    · cases h
    · rename_i hx
      rcases Nat.eq_or_lt_of_le h1 with rfl | h3
      · simpa using hx
      · exact fnd_none V s f (k + 1) h j h3 (by omega)
theorem wk_isMap {H : Type} : ∀ n, IsMap (wkD (H := H) n)
  | 0 => isMap_empty
  | n + 1 => (wk_isMap n).put _ _
theorem wk_none {H : Type} (l : List UInt8) : ∀ n, (∀ j, j < n → (wordAt j).data.toList ≠ l) → Maps.has (wkD (H := H) n) (.string l) = false
  | 0, _ => rfl
  | n + 1, h => by
    show Maps.has ((wkD n).put _ _) _ = false
    rw [has_put_other (by intro e; exact h n (by omega) (by injection e with e; exact e.symm))]
    exact wk_none l n fun j hj => h j (by omega)
theorem wk_some {H : Type} (l : List UInt8) (j : Nat) (hj : (wordAt j).data.toList = l) : ∀ n, j < n → Maps.has (wkD (H := H) n) (.string l) = true
  | 0, h => by omega
  | n + 1, h => by
    show Maps.has ((wkD n).put _ _) _ = true
    by_cases e : (wordAt n).data.toList = l
    · rw [e]; exact has_put_same (wk_isMap n) (by trivial) _
    · rw [has_put_other (by intro e'; injection e' with e'; exact e e'.symm)]
      rcases Nat.eq_or_lt_of_le (Nat.le_of_lt_succ h) with rfl | h3
      · exact absurd hj e
      · exact wk_some l j hj n h3
theorem has_word {H : Type} (s : ByteArray) : Maps.has (wkD (H := H) 22) (.string s.data.toList) = isWd s := by
  unfold isWd
  cases h : fnd wordV s 22 0 with
  | none =>
    have := fnd_none wordV s 22 0 h
    exact wk_none _ 22 fun j hj e => this j (Nat.zero_le _) (by omega) (by rw [strAt_word, ByteArray.toList_eq, ByteArray.toList_eq]; exact e)
  | some k =>
    obtain ⟨h1, h2, h3⟩ := fnd_some_lt wordV s 22 0 k h
    rw [strAt_word, ByteArray.toList_eq, ByteArray.toList_eq] at h3
    exact wk_some _ k h3 22 (by omega)
theorem word_ne : ∀ i j : Fin 22, i ≠ j → (wordAt i.val).data.toList ≠ (wordAt j.val).data.toList := by decide +kernel
theorem wk_at_gen {H : Type} (j : Nat) : ∀ n, n ≤ 22 → j < n → (wkD (H := H) n).atKey (.string (wordAt j).data.toList) (.lit (.int .i64 0)) = .lit (.int .i64 (10 + (j : Int)))
  | 0, _, h => by omega
  | n + 1, hn, h => by
    show ((wkD n).put _ _).atKey _ _ = _
    by_cases e : n = j
    · subst e; exact atKey_put_same (wk_isMap n) (by trivial) _ _
    · rw [atKey_put_other (by intro e'; injection e' with e'; exact word_ne ⟨j, by omega⟩ ⟨n, by omega⟩ (by intro e2; injection e2 with e2; exact e e2.symm) e')]
      exact wk_at_gen j n (by omega) (by omega)
theorem wk_at {H : Type} (k : Fin 22) : (wkD (H := H) 22).atKey (.string (wordAt k.val).data.toList) (.lit (.int .i64 0)) = .lit (.int .i64 (10 + (k.val : Int))) := wk_at_gen k.val 22 (by omega) k.isLt
theorem at_word {H : Type} (s : ByteArray) (k : Nat) (h : fnd wordV s 22 0 = some k) : (wkD (H := H) 22).atKey (.string s.data.toList) (.lit (.int .i64 0)) = .lit (.int .i64 (10 + (k : Int))) := by
  obtain ⟨h1, h2, h3⟩ := fnd_some_lt wordV s 22 0 k h
  rw [strAt_word, ByteArray.toList_eq, ByteArray.toList_eq] at h3
  rw [← h3]
  exact wk_at ⟨k, by omega⟩

end Go.Proofs.YtlmkmihbbnjngaaDoor
