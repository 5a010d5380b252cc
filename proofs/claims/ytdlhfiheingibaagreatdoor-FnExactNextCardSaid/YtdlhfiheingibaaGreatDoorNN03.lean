import Derived.Test.YtdlhfiheingibaaGreatDoorNN02
import Derived.Maps.OwnSet
import Derived.Shelf.Small.Strs
import Derived.Shelf.Small.Wraps
import Derived.Shelf.Strconv.Itoa0
import Derived.Shelf.Strconv.Itoa1
import Derived.Shelf.LaysM
import Derived.Shelf.Strconv.Itoa2
import Derived.Shelf.Strconv.Itoa3
import Derived.Shelf.Strconv.ParseIntEmpty
import Derived.Shelf.Strconv.Clone
import Derived.Shelf.Strconv.SyntaxError
import Derived.Shelf.LaysC
import Derived.Shelf.Strconv.ToError
import Derived.Shelf.Strconv.Lower
import Derived.Shelf.Strconv.ParseUint10
import Derived.Shelf.Strconv.ParseUint10Empty
import Derived.Shelf.Strconv.ParseUint10Any
import Derived.Shelf.Strconv.ParseInt10
import Derived.Shelf.Strconv.RangeError
import Derived.Shelf.Strconv.ToErrorRange
import Derived.Shelf.Strconv.ParseUintEmpty
import Derived.Shelf.Strconv.ParseUint10b64
import Derived.Shelf.Strconv.ParseUint10b32
import Derived.Shelf.Strconv.ParseUint10b16
import Derived.Shelf.Strconv.ParseUint10b8
import Derived.Shelf.Strconv.ParseUint10At
import Derived.Shelf.Strconv.ParseInt10At64
import Derived.Shelf.Strconv.ParseInt10At32
import Derived.Shelf.Strconv.ParseInt10At16
import Derived.Shelf.Strconv.ParseInt10At8
import Derived.Shelf.Strconv.ParseInt10All
import Derived.Shelf.Strconv.ParseIntPublic10
import Derived.Shelf.Strconv.ErrVarParseInt
import Derived.Ground.MpProg
import Derived.Shelf.Pu.ParseUintPublic10
import Derived.Shelf.Pu.ErrVarParseUint
import Derived.Shelf.Strings.Search1
import Derived.Shelf.Strings.Prefix
import Derived.Test.YtdlhfiheingibaaGreatDoorProg
namespace Go.Proofs.YtdlhfiheingibaaGreatDoor
open Go.RowKit Go.Maps Go.WideMaps
set_option linter.unusedVariables false

set_option maxHeartbeats 400000 in
theorem l1digit_any (c : Int) (w : World) : Calls Tryz.prog 31 #[.int .u8 c] w fun e w' => e = .returned (.bool (digB c)) ∧ w = w' := by
  rcases (show c < 48 ∨ 57 < c ∨ (48 ≤ c ∧ c ≤ 57) by omega) with h | h | ⟨h1, h2⟩
  · have e : digB c = false := by simp [digB]; omega
    rw [e]; clear e
    have h' : ¬ 48 ≤ c := by omega
    go_enter Tryz.func31, Tryz.ntmps31
    go_wp2
    go_ret
    exact ⟨rfl, rfl⟩
  · have e : digB c = false := by simp [digB]; omega
    rw [e]; clear e
    have h' : ¬ c ≤ 57 := by omega
    have h2 : 48 ≤ c := by omega
    go_enter Tryz.func31, Tryz.ntmps31
    go_wp2
    go_ret
    exact ⟨rfl, rfl⟩
  · have e : digB c = true := by simp [digB]; omega
    rw [e]; clear e
    go_enter Tryz.func31, Tryz.ntmps31
    go_wp2
    go_ret
    exact ⟨rfl, rfl⟩

set_option maxHeartbeats 400000 in
theorem l1letter_any (c : Int) (w : World) : Calls Tryz.prog 29 #[.int .u8 c] w fun e w' => e = .returned (.bool (lettB c)) ∧ w = w' := by
  rcases (show (97 ≤ c ∧ c ≤ 122) ∨ (65 ≤ c ∧ c ≤ 90) ∨ c = 95 ∨ c < 65 ∨ (90 < c ∧ c < 97 ∧ c ≠ 95) ∨ 122 < c by omega) with ⟨h1, h2⟩ | ⟨h1, h2⟩ | rfl | h | ⟨h1, h2, h3⟩ | h
  · have e : lettB c = true := by simp [lettB]; omega
    rw [e]; clear e
    go_enter Tryz.func29, Tryz.ntmps29
    go_wp2
    go_ret
    exact ⟨rfl, rfl⟩
  · have e : lettB c = true := by simp [lettB]; omega
    rw [e]; clear e
    have g1 : ¬ 97 ≤ c := by omega
    go_enter Tryz.func29, Tryz.ntmps29
    go_wp2
    go_ret
    exact ⟨rfl, rfl⟩
  · go_enter Tryz.func29, Tryz.ntmps29
    go_wp2
    go_ret
    exact ⟨rfl, rfl⟩
  · have e : lettB c = false := by simp [lettB]; omega
    rw [e]; clear e
    have g1 : ¬ 97 ≤ c := by omega
    have g2 : ¬ 65 ≤ c := by omega
    have g3 : (c == 95) = false := by simp; omega
    go_enter Tryz.func29, Tryz.ntmps29
    go_wp2
    go_ret
    exact ⟨rfl, rfl⟩
  · have e : lettB c = false := by simp [lettB]; omega
    rw [e]; clear e
    have g1 : ¬ 97 ≤ c := by omega
    have g2 : 65 ≤ c := by omega
    have g4 : ¬ c ≤ 90 := by omega
    have g3 : (c == 95) = false := by simp; omega
    go_enter Tryz.func29, Tryz.ntmps29
    go_wp2
    go_ret
    exact ⟨rfl, rfl⟩
  · have e : lettB c = false := by simp [lettB]; omega
    rw [e]; clear e
    have g1 : 97 ≤ c := by omega
    have g2 : ¬ c ≤ 122 := by omega
    have g4 : 65 ≤ c := by omega
    have g5 : ¬ c ≤ 90 := by omega
    have g3 : (c == 95) = false := by simp; omega
    go_enter Tryz.func29, Tryz.ntmps29
    go_wp2
    go_ret
    exact ⟨rfl, rfl⟩


def lk (s : ByteArray) (p : Nat) : Int := if p < s.size then bat s p else 0
theorem lk_in (s : ByteArray) (p : Nat) : 0 ≤ lk s p ∧ lk s p < 256 := by
  unfold lk; split
  · rename_i h; exact bat_in h
  · omega
theorem lett_lk (s : ByteArray) (p : Nat) : lettB (lk s p) = lettB (bat s p) := by
  unfold lk; split
  · rfl
  · rename_i h; rw [bat_out h]; decide
theorem dig_lk (s : ByteArray) (p : Nat) : digB (lk s p) = digB (bat s p) := by
  unfold lk; split
  · rfl
  · rename_i h; rw [bat_out h]; decide

set_option maxHeartbeats 400000 in
theorem l1look_any (s : ByteArray) (hm : s.size ≤ 1100000) (p : Nat) (w : World) : Calls Tryz.prog 28 #[.string s, .int .i64 p] w fun e w' => e = .returned (.int .u8 (lk s p)) ∧ w = w' := by
  unfold lk
  by_cases h : p < s.size
  · rw [if_pos h]
    have i1 := fun w => idx_run h w
    generalize bat s p = c at i1
    go_enter Tryz.func28, Tryz.ntmps28
    go_wp2
    go_ret
    exact ⟨rfl, rfl⟩
  · rw [if_neg h]
    have h' : ¬ (p : Int) < (s.size : Int) := by omega
    go_enter Tryz.func28, Tryz.ntmps28
    go_wp2
    go_ret
    exact ⟨rfl, rfl⟩

/-- Where letters and digits end. -/
def nmE (s : ByteArray) : Nat → Nat → Nat
  | 0, p => p
  | f + 1, p => if lettB (bat s p) = true ∨ digB (bat s p) = true then nmE s f (p + 1) else p
theorem ld_out {s : ByteArray} {p : Nat} (h : ¬ p < s.size) : ¬ (lettB (bat s p) = true ∨ digB (bat s p) = true) := by
  rw [bat_out h]; decide
theorem nmE_bd (s : ByteArray) : ∀ (f p : Nat), p ≤ s.size → p ≤ nmE s f p ∧ nmE s f p ≤ s.size
  | 0, p, h => ⟨Nat.le_refl _, h⟩
  | f + 1, p, h => by
    unfold nmE
    split
    · rename_i hx
      have h0 : p < s.size := by
        rcases Nat.lt_or_ge p s.size with h1 | h1
        · exact h1
        · exact absurd hx (ld_out (by omega))
      have := nmE_bd s f (p + 1) (by omega)
      omega
    · exact ⟨Nat.le_refl _, h⟩

set_option maxHeartbeats 1600000 in
theorem nameEnd_any (s : ByteArray) (hm : s.size ≤ 1100000) (p : Nat) (hp : p ≤ s.size) (w : World) : Calls Tryz.prog 76 #[.string s, .int .i64 p] w fun e w' => e = .returned (.int .i64 (nmE s (s.size + 1) p)) ∧ w' = w := by
  obtain ⟨R, hR⟩ : ∃ R, nmE s (s.size + 1) p = R := ⟨_, rfl⟩
  rw [hR]
  have HR : Hid (nmE s (s.size + 1) p = R) := hR
  clear hR
  go_enter Tryz.func76, Tryz.ntmps76
  go_wp2_with fail
  go_loop [1] (fun i => ∃ (k f : Nat), k ≤ s.size ∧ s.size < k + f ∧ i = .int .i64 k ∧ Hid (nmE s f k = R)) (fun i => s.size - (intOf i).toNat)
  case atStart => exact ⟨p, s.size + 1, hp, by omega, rfl, HR⟩
  case round =>
    obtain ⟨k, f, hk, hf, rfl, HF⟩ := hrel
    obtain ⟨f, rfl⟩ : ∃ g, f = g + 1 := ⟨f - 1, by omega⟩
    have hst := HF.out
    unfold nmE at hst
    by_cases hlt : k < s.size
    · have i1 := fun w => idx_run hlt w
      generalize bat s k = c at i1 hst
      have kl := fun w => isLetter_any c w
      have kd := fun w => isDigit_any c w
      by_cases h1 : lettB c = true
      · rw [if_pos (.inl h1)] at hst
        have HS : Hid (nmE s f (k + 1) = R) := hst
        clear hst
        rw [h1] at kl
        clear h1
        go_wp2_with (go_at_call 61; refine (kl _).mono ?_; rintro e w' ⟨rfl, rfl⟩)
        go_round
        case rel => exact ⟨k + 1, f, by omega, by omega, by go_num, HS⟩
        case measure => simp [intOf]; omega
      · have h1' : lettB c = false := by simpa using h1
        rw [h1'] at kl
        by_cases h2 : digB c = true
        · rw [if_pos (.inr h2)] at hst
          have HS : Hid (nmE s f (k + 1) = R) := hst
          clear hst
          rw [h2] at kd
          clear h1 h1' h2
          go_wp2_with (first | (go_at_call 61; refine (kl _).mono ?_; rintro e w' ⟨rfl, rfl⟩) | (go_at_call 63; refine (kd _).mono ?_; rintro e w' ⟨rfl, rfl⟩))
          go_round
          case rel => exact ⟨k + 1, f, by omega, by omega, by go_num, HS⟩
          case measure => simp [intOf]; omega
        · have h2' : digB c = false := by simpa using h2
          rw [if_neg (by rw [h1', h2']; simp)] at hst
          have HS : Hid (k = R) := hst
          clear hst
          rw [h2'] at kd
          clear h1 h1' h2 h2'
          go_wp2_with (first | (go_at_call 61; refine (kl _).mono ?_; rintro e w' ⟨rfl, rfl⟩) | (go_at_call 63; refine (kd _).mono ?_; rintro e w' ⟨rfl, rfl⟩))
          go_ret
          exact ⟨by rw [← HS.out]; rfl, rfl⟩
    · rw [if_neg (ld_out hlt)] at hst
      have HS : Hid (k = R) := hst
      clear hst
      have h' : ¬ (k : Int) < (s.size : Int) := by omega
      go_wp2
      go_ret
      exact ⟨by rw [← HS.out]; rfl, rfl⟩

end Go.Proofs.YtdlhfiheingibaaGreatDoor

namespace Go.Proofs.YtdlhfiheingibaaGreatDoor
open Go.RowKit Go.Maps Go.WideMaps
set_option linter.unusedVariables false

/-- Is this text a word? -/
def isWd (s : ByteArray) : Bool := (fnd wordV s 22 0).isSome
theorem strAt_word (k : Nat) : strAt wordV k = wordAt k := rfl
theorem fnd_some_lt (V : Array Value) (s : ByteArray) : ∀ (f k j : Nat), fnd V s f k = some j → k ≤ j ∧ j < k + f ∧ (strAt V j).toList = s.toList
  | 0, k, j, h => by simp [fnd] at h
  | f + 1, k, j, h => by
    unfold fnd at h
    split at h
    · rename_i hx
      obtain rfl := Option.some.inj h
      exact ⟨Nat.le_refl _, by omega, by simpa using hx⟩
    · have := fnd_some_lt V s f (k + 1) j h
      exact ⟨by omega, by omega, this.2.2⟩
theorem fnd_none (V : Array Value) (s : ByteArray) : ∀ (f k : Nat), fnd V s f k = none → ∀ j, k ≤ j → j < k + f → (strAt V j).toList ≠ s.toList
  | 0, k, h => fun j h1 h2 => by omega
  | f + 1, k, h => fun j h1 h2 => by
    unfold fnd at h
    split at h
    · cases h
    · rename_i hx
      rcases Nat.eq_or_lt_of_le h1 with rfl | h3
      · simpa using hx
      · exact fnd_none V s f (k + 1) h j h3 (by omega)
theorem wk_isMap {H : Type} : ∀ n, IsMap (wkD (H := H) n)
  | 0 => isMap_empty
  | n + 1 => (wk_isMap n).put _ _
theorem wk_none {H : Type} (l : List UInt8) : ∀ n, (∀ j, j < n → (wordAt j).data.toList ≠ l) → Maps.has (wkD (H := H) n) (.string l) = false
  | 0, _ => rfl
  | n + 1, h => by
    show Maps.has ((wkD n).put _ _) _ = false
    rw [has_put_other (by intro e; exact h n (by omega) (by injection e with e; exact e.symm))]
    exact wk_none l n fun j hj => h j (by omega)
theorem wk_some {H : Type} (l : List UInt8) (j : Nat) (hj : (wordAt j).data.toList = l) : ∀ n, j < n → Maps.has (wkD (H := H) n) (.string l) = true
  | 0, h => by omega
  | n + 1, h => by
    show Maps.has ((wkD n).put _ _) _ = true
    by_cases e : (wordAt n).data.toList = l
    · rw [e]; exact has_put_same (wk_isMap n) (by trivial) _
    · rw [has_put_other (by intro e'; injection e' with e'; exact e e'.symm)]
      rcases Nat.eq_or_lt_of_le (Nat.le_of_lt_succ h) with rfl | h3
      · exact absurd hj e
      · exact wk_some l j hj n h3
theorem has_word {H : Type} (s : ByteArray) : Maps.has (wkD (H := H) 22) (.string s.data.toList) = isWd s := by
  unfold isWd
  cases h : fnd wordV s 22 0 with
  | none =>
    have := fnd_none wordV s 22 0 h
    exact wk_none _ 22 fun j hj e => this j (Nat.zero_le _) (by omega) (by rw [strAt_word, ByteArray.toList_eq, ByteArray.toList_eq]; exact e)
  | some k =>
    obtain ⟨h1, h2, h3⟩ := fnd_some_lt wordV s 22 0 k h
    rw [strAt_word, ByteArray.toList_eq, ByteArray.toList_eq] at h3
    exact wk_some _ k h3 22 (by omega)
theorem word_ne : ∀ i j : Fin 22, i ≠ j → (wordAt i.val).data.toList ≠ (wordAt j.val).data.toList := by decide +kernel
theorem wk_at_gen {H : Type} (j : Nat) : ∀ n, n ≤ 22 → j < n → (wkD (H := H) n).atKey (.string (wordAt j).data.toList) (.lit (.int .i64 0)) = .lit (.int .i64 (10 + (j : Int)))
  | 0, _, h => by omega
  | n + 1, hn, h => by
    show ((wkD n).put _ _).atKey _ _ = _
    by_cases e : n = j
    · subst e; exact atKey_put_same (wk_isMap n) (by trivial) _ _
    · rw [atKey_put_other (by intro e'; injection e' with e'; exact word_ne ⟨j, by omega⟩ ⟨n, by omega⟩ (by intro e2; injection e2 with e2; exact e e2.symm) e')]
      exact wk_at_gen j n (by omega) (by omega)
theorem wk_at {H : Type} (k : Fin 22) : (wkD (H := H) 22).atKey (.string (wordAt k.val).data.toList) (.lit (.int .i64 0)) = .lit (.int .i64 (10 + (k.val : Int))) := wk_at_gen k.val 22 (by omega) k.isLt
theorem at_word {H : Type} (s : ByteArray) (k : Nat) (h : fnd wordV s 22 0 = some k) : (wkD (H := H) 22).atKey (.string s.data.toList) (.lit (.int .i64 0)) = .lit (.int .i64 (10 + (k : Int))) := by
  obtain ⟨h1, h2, h3⟩ := fnd_some_lt wordV s 22 0 k h
  rw [strAt_word, ByteArray.toList_eq, ByteArray.toList_eq] at h3
  rw [← h3]
  exact wk_at ⟨k, by omega⟩

end Go.Proofs.YtdlhfiheingibaaGreatDoor

namespace Go.Proofs.YtdlhfiheingibaaGreatDoor
open Go.RowKit Go.Maps Go.WideMaps
set_option linter.unusedVariables false

/-- What l1word answers at p. -/
def wdT (s : ByteArray) (p : Nat) : Value :=
  match fnd wordV (s.extract p (nmE s (s.size + 1) p)) 22 0 with
  | some k => .agg #[.int .i64 (10 + (k : Int)), .int .i64 p, .int .i64 (nmE s (s.size + 1) p), .int .i64 0, .int .i64 0, .string { data := #[] }]
  | none => .agg #[.int .i64 1, .int .i64 p, .int .i64 (nmE s (s.size + 1) p), .int .i64 0, .int .i64 0, .string (s.extract p (nmE s (s.size + 1) p))]

set_option maxRecDepth 100000 in
set_option maxHeartbeats 3200000 in
theorem l1word_any (s : ByteArray) (hm : s.size ≤ 1100000) (p : Nat) (hp : p ≤ s.size) (w : World) : Calls Tryz.prog 30 #[.string s, .agg #[.int .i64 0, .int .i64 p, .int .i64 0, .int .i64 0, .int .i64 0, .string { data := #[] }]] w fun e w' => e = .returned (.tuple #[wdT s p, .int .i64 (-1)]) ∧ Below w.heap.size w w' := by
  unfold wdT
  obtain ⟨E, hE⟩ : ∃ E, nmE s (s.size + 1) p = E := ⟨_, rfl⟩
  have bd := nmE_bd s (s.size + 1) p hp
  rw [hE] at bd ⊢
  have HE : Hid (nmE s (s.size + 1) p = E) := hE
  clear hE
  obtain ⟨R, hR⟩ : ∃ R, fnd wordV (s.extract p E) 22 0 = R := ⟨_, rfl⟩
  rw [hR]
  have HR : Hid (fnd wordV (s.extract p E) 22 0 = R) := hR
  clear hR
  have hT0 : TkAt w.heap.size ((w.alloc (.cells #[.int .i64 0, .int .i64 p, .int .i64 0, .int .i64 0, .int .i64 0, .string { data := #[] }] 45)).alloc (.cells #[.int .i64 0, .int .i64 0, .int .i64 0, .int .i64 0, .int .i64 0, .string { data := #[] }] 45)) 0 p 0 0 0 { data := #[] } := (Below.heap_alloc _ _ _ (by simp)).trans (heap_alloc_new w _)
  have hZ0 : TkAt (w.heap.size + 1) ((w.alloc (.cells #[.int .i64 0, .int .i64 p, .int .i64 0, .int .i64 0, .int .i64 0, .string { data := #[] }] 45)).alloc (.cells #[.int .i64 0, .int .i64 0, .int .i64 0, .int .i64 0, .int .i64 0, .string { data := #[] }] 45)) 0 0 0 0 0 { data := #[] } := by
    have := heap_alloc_new (w.alloc (.cells #[.int .i64 0, .int .i64 p, .int .i64 0, .int .i64 0, .int .i64 0, .string { data := #[] }] 45)) (.cells #[.int .i64 0, .int .i64 0, .int .i64 0, .int .i64 0, .int .i64 0, .string { data := #[] }] 45)
    rw [World.size_alloc] at this
    exact this
  have hB0 : Below w.heap.size w ((w.alloc (.cells #[.int .i64 0, .int .i64 p, .int .i64 0, .int .i64 0, .int .i64 0, .string { data := #[] }] 45)).alloc (.cells #[.int .i64 0, .int .i64 0, .int .i64 0, .int .i64 0, .int .i64 0, .string { data := #[] }] 45)) := (((Below.refl _ w).alloc (Nat.le_refl _) _).alloc (by simp) _)
  go_enter Tryz.func30, Tryz.ntmps30
  go_wp2_with fail
  generalize (w.alloc (.cells #[.int .i64 0, .int .i64 p, .int .i64 0, .int .i64 0, .int .i64 0, .string { data := #[] }] 45)).alloc (.cells #[.int .i64 0, .int .i64 0, .int .i64 0, .int .i64 0, .int .i64 0, .string { data := #[] }] 45) = W at hT0 hZ0 hB0
  have hsW : w.heap.size + 1 < W.heap.size := lt_of_block hZ0
  go_loop [6] (fun i => ∃ (k f : Nat), k ≤ s.size ∧ s.size < k + f ∧ i = .int .i64 k ∧ Hid (nmE s f k = E)) (fun i => s.size - (intOf i).toNat)
  case atStart => exact ⟨p, s.size + 1, hp, by omega, rfl, HE⟩
  case round =>
    obtain ⟨k, f, hk, hf, rfl, HF⟩ := hrel
    obtain ⟨f, rfl⟩ : ∃ g, f = g + 1 := ⟨f - 1, by omega⟩
    have hst := HF.out
    unfold nmE at hst
    have kk := fun w => l1look_any s hm k w
    have kl := fun w => l1letter_any (lk s k) w
    have kd := fun w => l1digit_any (lk s k) w
    have hlt : lettB (bat s k) = true ∨ digB (bat s k) = true → k < s.size := by
      intro h
      rcases Nat.lt_or_ge k s.size with h1 | h1
      · exact h1
      · exact absurd h (ld_out (by omega))
    rw [lett_lk] at kl
    rw [dig_lk] at kd
    generalize lk s k = c at kk kl kd
    generalize bat s k = c' at hst kl kd hlt
    by_cases h1 : lettB c' = true
    · rw [if_pos (.inl h1)] at hst
      have HS : Hid (nmE s f (k + 1) = E) := hst
      have hlt' := hlt (.inl h1)
      clear hst hlt
      rw [h1] at kl
      clear h1
      go_wp2_with (first | (go_at_call 28; refine (kk _).mono ?_; rintro e w' ⟨rfl, rfl⟩) | (go_at_call 29; refine (kl _).mono ?_; rintro e w' ⟨rfl, rfl⟩))
      go_round
      case rel => exact ⟨k + 1, f, by omega, by omega, by go_num, HS⟩
      case measure => simp [intOf]; omega
    · have h1' : lettB c' = false := by simpa using h1
      rw [h1'] at kl
      by_cases h2 : digB c' = true
      · rw [if_pos (.inr h2)] at hst
        have HS : Hid (nmE s f (k + 1) = E) := hst
        have hlt' := hlt (.inr h2)
        clear hst hlt
        rw [h2] at kd
        clear h1 h1' h2
        go_wp2_with (first | (go_at_call 28; refine (kk _).mono ?_; rintro e w' ⟨rfl, rfl⟩) | (go_at_call 29; refine (kl _).mono ?_; rintro e w' ⟨rfl, rfl⟩) | (go_at_call 31; refine (kd _).mono ?_; rintro e w' ⟨rfl, rfl⟩))
        go_round
        case rel => exact ⟨k + 1, f, by omega, by omega, by go_num, HS⟩
        case measure => simp [intOf]; omega
      · have h2' : digB c' = false := by simpa using h2
        rw [if_neg (by rw [h1', h2']; simp)] at hst
        rw [h2'] at kd
        clear h1 h1' h2 h2' hlt HF HE
        subst hst
        obtain ⟨t0, t1, t2, t3, t4, t5, tf⟩ := tk_cells hT0
        have hT1 := (hT0.setKind 1).setTo (k : Int)
        have hZ1 := (hZ0.other (a := ⟨w.heap.size, 0, none⟩) (by simp) (.int .i64 1)).other (a := ⟨w.heap.size, 2, none⟩) (by simp) (.int .i64 (k : Int))
        have hB1 : Below w.heap.size w ((W.setCell ⟨w.heap.size, 0, none⟩ (.int .i64 1)).setCell ⟨w.heap.size, 2, none⟩ (.int .i64 (k : Int))) := (hB0.setCell (by simp) _).setCell (by simp) _
        obtain ⟨W2, hW2⟩ : ∃ W2, (W.setCell ⟨w.heap.size, 0, none⟩ (.int .i64 1)).setCell ⟨w.heap.size, 2, none⟩ (.int .i64 (k : Int)) = W2 := ⟨_, rfl⟩
        have c1 : ((W.setCell ⟨w.heap.size, 0, none⟩ (.int .i64 1)).setCell ⟨w.heap.size, 2, none⟩ (.int .i64 (k : Int))).cell? ⟨w.heap.size, 1, none⟩ = some (.int .i64 p) := (tk_cells hT1).2.1
        rw [hW2] at hT1 hZ1 hB1
        have HW2 : Hid ((W.setCell ⟨w.heap.size, 0, none⟩ (.int .i64 1)).setCell ⟨w.heap.size, 2, none⟩ (.int .i64 (k : Int)) = W2) := hW2
        clear hW2
        go_wp2_with (first | (go_at_call 28; refine (kk _).mono ?_; rintro e w' ⟨rfl, rfl⟩) | (go_at_call 29; refine (kl _).mono ?_; rintro e w' ⟨rfl, rfl⟩) | (go_at_call 31; refine (kd _).mono ?_; rintro e w' ⟨rfl, rfl⟩))
        rw [show (W.setCell ⟨w.heap.size, 0, none⟩ (.int .i64 1)).setCell ⟨w.heap.size, 2, none⟩ (.int .i64 (k : Int)) = W2 from HW2.out]
        refine (l1words_any W2).mono ?_
        rintro e w3 ⟨rfl, hw3⟩
        have hT3 : TkAt w.heap.size w3 1 p k 0 0 { data := #[] } := by rw [hw3]; exact (Below.heap_alloc _ _ _ (lt_of_block hT1)).trans hT1
        have hZ3 : TkAt (w.heap.size + 1) w3 0 0 0 0 0 { data := #[] } := by rw [hw3]; exact (Below.heap_alloc _ _ _ (lt_of_block hZ1)).trans hZ1
        have hB3 : Below w.heap.size w w3 := by rw [hw3]; exact hB1.alloc hB1.size _
        have hblk : w3.heap[W2.heap.size]? = some (.cells wordV 9 (0, 0)) := by rw [hw3]; exact heap_alloc_new W2 _
        clear hw3 hT1 hZ1 hB1 hT0 hZ0 hB0 c1 t0 t1 t2 t3 t4 t5 tf kk kl kd
        go_wp2_with fail
        obtain ⟨t0, t1, t2, t3, t4, t5, tf⟩ := tk_cells hT3
        obtain ⟨z0, z1, z2, z3, z4, z5, zf⟩ := tk_cells hZ3
        have hx1 : w.heap.size < w3.heap.size := lt_of_block hT3
        have hx2 : w.heap.size + 1 < w3.heap.size := lt_of_block hZ3
        go_loop [34] (fun i => ∃ j : Nat, j ≤ 22 ∧ i = .int .i64 j ∧ Hid (fnd wordV (s.extract p k) (22 - j) j = R)) (fun i => 22 - (intOf i).toNat)
        case atStart => exact ⟨0, by omega, rfl, HR⟩
        case round =>
          obtain ⟨j, hj, rfl, HF⟩ := hrel
          by_cases hlt : j < 22
          · have hck : w3.cell? ⟨W2.heap.size, j, none⟩ = some (.string (strAt wordV j)) := by rw [cell_of_row _ _ _ _ _ _ hblk]; exact word_at ⟨j, hlt⟩
            have hst := HF.out
            rw [show 22 - j = (22 - (j + 1)) + 1 by omega] at hst
            unfold fnd at hst
            generalize strAt wordV j = x at hck hst
            by_cases hx : (x.toList == (s.extract p k).toList) = true
            · rw [if_pos hx] at hst
              subst hst
              go_wp2
              refine bodyPost_ret (v := .tuple #[.agg #[.int .i64 (10 + (j : Int)), .int .i64 p, .int .i64 k, .int .i64 0, .int .i64 0, .string { data := #[] }], .int .i64 (-1)]) (by simp [results, Tryz.results30, go_sem, z0, z1, z2, z3, z4, z5]) rfl ⟨rfl, ?_⟩
              iterate 7 refine Below.setCell ?_ (by simp) _
              exact hB3
            · rw [if_neg hx] at hst
              have HS : Hid (fnd wordV (s.extract p k) (22 - (j + 1)) (j + 1) = R) := hst
              have hx' : (x.toList == (s.extract p k).toList) = false := by simpa using hx
              clear hst hx
              go_wp2
              go_round
              case rel => exact ⟨j + 1, by omega, by go_num, HS⟩
              case measure => simp [intOf]; omega
          · obtain rfl : j = 22 := by omega
            have hst := HF.out
            simp only [Nat.sub_self, fnd] at hst
            subst hst
            go_wp2
            refine bodyPost_ret (v := .tuple #[.agg #[.int .i64 1, .int .i64 p, .int .i64 k, .int .i64 0, .int .i64 0, .string (s.extract p k)], .int .i64 (-1)]) (by simp [results, Tryz.results30, go_sem, z0, z1, z2, z3, z4, z5]) rfl ⟨rfl, ?_⟩
            iterate 7 refine Below.setCell ?_ (by simp) _
            exact hB3
end Go.Proofs.YtdlhfiheingibaaGreatDoor

namespace Go.Proofs.YtdlhfiheingibaaGreatDoor
open Go.RowKit Go.Maps Go.WideMaps
set_option linter.unusedVariables false

theorem lett_range {c : Int} (h : lettB c = true) : 65 ≤ c ∧ c ≤ 122 := by simp [lettB] at h; omega
theorem dig_range {c : Int} (h : digB c = true) : 48 ≤ c ∧ c ≤ 57 := by simpa [digB] using h
theorem wdT_is (s : ByteArray) (p : Nat) : ∃ (k : Int) (x : ByteArray), wdT s p = .agg #[.int .i64 k, .int .i64 p, .int .i64 (nmE s (s.size + 1) p), .int .i64 0, .int .i64 0, .string x] ∧ ((k == 1) = !(isWd (s.extract p (nmE s (s.size + 1) p)))) := by
  unfold wdT isWd
  cases h : fnd wordV (s.extract p (nmE s (s.size + 1) p)) 22 0 with
  | none => exact ⟨1, _, rfl, rfl⟩
  | some k => exact ⟨10 + (k : Int), _, rfl, by simp; omega⟩

set_option maxRecDepth 100000 in
set_option maxHeartbeats 3200000 in
/-- l1read at a letter. -/
theorem l1read_lett (s : ByteArray) (hm : s.size ≤ 1100000) (p : Nat) (hp : p < s.size) (hl : lettB (bat s p) = true) (w : World) : Calls Tryz.prog 17 #[.string s, .int .i64 p] w fun e w' => e = .returned (.tuple #[wdT s p, .int .i64 (-1)]) ∧ Below w.heap.size w w' := by
  have i1 := fun w => idx_run hp w
  have kl := fun w => l1letter_any (bat s p) w
  have kw := fun w => l1word_any s hm p (Nat.le_of_lt hp) w
  have hr := lett_range hl
  rw [hl] at kl
  generalize bat s p = c at i1 kl hr
  obtain ⟨k, x, hT, hk⟩ := wdT_is s p
  rw [hT] at kw ⊢
  generalize nmE s (s.size + 1) p = E at kw hk
  have h10 : (c == 10) = false := by simp; omega
  clear hl hk hT
  have hZ0 : TkAt w.heap.size ((w.alloc (.cells #[.int .i64 0, .int .i64 0, .int .i64 0, .int .i64 0, .int .i64 0, .string { data := #[] }] 45)).alloc (.cells #[.int .i64 0, .int .i64 p, .int .i64 0, .int .i64 0, .int .i64 0, .string { data := #[] }] 45)) 0 0 0 0 0 { data := #[] } := (Below.heap_alloc _ _ _ (by simp)).trans (heap_alloc_new w _)
  have hB0 : Below w.heap.size w ((w.alloc (.cells #[.int .i64 0, .int .i64 0, .int .i64 0, .int .i64 0, .int .i64 0, .string { data := #[] }] 45)).alloc (.cells #[.int .i64 0, .int .i64 p, .int .i64 0, .int .i64 0, .int .i64 0, .string { data := #[] }] 45)) := (((Below.refl _ w).alloc (Nat.le_refl _) _).alloc (by simp) _)
  go_enter Tryz.func17, Tryz.ntmps17
  go_wp2_with (first | (go_at_call 29; refine (kl _).mono ?_; rintro e w' ⟨rfl, rfl⟩))
  refine (kw _).mono ?_
  rintro e w3 ⟨rfl, hb3⟩
  have hZ3 := hZ0.below hb3 (by simp; omega)
  have hB3 := hB0.trans (hb3.mono (by simp; omega))
  clear hb3 hZ0 hB0 kw kl i1
  obtain ⟨z0, z1, z2, z3, z4, z5, zf⟩ := tk_cells hZ3
  have hx1 : w.heap.size < w3.heap.size := lt_of_block hZ3
  go_wp2
  refine bodyPost_ret (v := .tuple #[.agg #[.int .i64 k, .int .i64 p, .int .i64 E, .int .i64 0, .int .i64 0, .string x], .int .i64 (-1)]) (by simp [results, Tryz.results17, go_sem, z0, z1, z2, z3, z4, z5]) rfl ⟨rfl, ?_⟩
  iterate 6 refine Below.setCell ?_ (by simp) _
  exact hB3

theorem extract_all (s : ByteArray) : s.extract 0 s.size = s := by
  simp

def nmok (s : ByteArray) : Bool := decide (s.size ≤ 40 ∧ lettB (bat s 0) = true ∧ nmE s (s.size + 1) 0 = s.size ∧ isWd s = false)

end Go.Proofs.YtdlhfiheingibaaGreatDoor

namespace Go.Proofs
open Go.Shelf
def Tryz.lays103_ren : Go.Shelf.Ren := ⟨fun | 103 => 86 | 210 => 91 | 206 => 60 | n => n, fun | 9 => 9 | 4 => 4 | 24 => 123 | 3 => 3 | n => n, fun | n => n⟩
theorem Tryz.lays103 : Go.Proofs.Lays.n103 Tryz.prog Tryz.lays103_ren := {
  mixed := by kernel_rfl
  f103 := Tryz.func86.trans (congrArg some (by kernel_rfl))
  f206 := Tryz.func60.trans (congrArg some (by kernel_rfl))
  f210 := Tryz.func91.trans (congrArg some (by kernel_rfl))
  t3 := Tryz.underlying3
  a3 := Tryz.isAgg3
  z3 := Tryz.sizeOf3
  v3 := Tryz.zeroValue3
  t4 := Tryz.underlying4
  a4 := Tryz.isAgg4
  z4 := Tryz.sizeOf4
  v4 := Tryz.zeroValue4
  t9 := Tryz.underlying9
  a9 := Tryz.isAgg9
  z9 := Tryz.sizeOf9
  v9 := Tryz.zeroValue9
  t24 := Tryz.underlying123
  a24 := Tryz.isAgg123
  z24 := Tryz.sizeOf123
  v24 := Tryz.zeroValue123 }
open Go.RowKit in
theorem Tryz.strings_CutPrefix (s p : ByteArray) (w : World) :
    Calls Tryz.prog 86 #[.string s, .string p] w fun e w' => e = .returned (.tuple #[.string ⟨(Lib.trimPrefix s.data.toList p.data.toList).toArray⟩, .bool (Lib.hasPrefix s.data.toList p.data.toList)]) ∧ w' = w := Any.strings_CutPrefix Tryz.lays103 s p w
def Tryz.laysM316_ren : Go.Shelf.Ren := ⟨fun | 316 => 83 | n => n, fun | 9 => 9 | 3 => 3 | 4 => 4 | 37 => 94 | 0 => 0 | 127 => 131 | 5 => 5 | n => n, fun | n => n⟩
theorem Tryz.laysM316 : Go.Proofs.LaysM.n316 Tryz.prog Tryz.laysM316_ren := {
  mixed := by kernel_rfl
  f316 := Tryz.func83.trans (congrArg some (by kernel_rfl))
  t0 := Tryz.underlying0
  a0 := Tryz.isAgg0
  z0 := Tryz.sizeOf0
  v0 := Tryz.zeroValue0
  t3 := Tryz.underlying3
  a3 := Tryz.isAgg3
  z3 := Tryz.sizeOf3
  v3 := Tryz.zeroValue3
  t4 := Tryz.underlying4
  a4 := Tryz.isAgg4
  z4 := Tryz.sizeOf4
  v4 := Tryz.zeroValue4
  t9 := Tryz.underlying9
  a9 := Tryz.isAgg9
  z9 := Tryz.sizeOf9
  v9 := Tryz.zeroValue9
  t37 := Tryz.underlying94
  a37 := Tryz.isAgg94
  z37 := Tryz.sizeOf94
  v37 := Tryz.zeroValue94
  t127 := Tryz.underlying131
  a127 := Tryz.isAgg131
  z127 := Tryz.sizeOf131
  v127 := Tryz.zeroValue131
  t5 := Tryz.underlying5
  a5 := Tryz.isAgg5
  z5 := Tryz.sizeOf5
  v5 := Tryz.zeroValue5
  i0 := by kernel_rfl
  i3 := by kernel_rfl
  i4 := by kernel_rfl
  i5 := by kernel_rfl
  i9 := by kernel_rfl
  i37 := by kernel_rfl
  i127 := by kernel_rfl }
open Go.RowKit in
theorem Tryz.stringslite_Clone (s : ByteArray) (w : World) (hlim : s.size ≤ 281474976710656) :
    Calls Tryz.prog 83 #[.string s] w fun e w' => e = .returned (.string s) ∧ Below w.heap.size w w' := Any.stringslite_Clone Tryz.laysM316 s w hlim
def Tryz.lays321_ren : Go.Shelf.Ren := ⟨fun | 321 => 96 | n => n, fun | 5 => 5 | n => n, fun | n => n⟩
theorem Tryz.lays321 : Go.Proofs.Lays.n321 Tryz.prog Tryz.lays321_ren := {
  mixed := by kernel_rfl
  f321 := Tryz.func96.trans (congrArg some (by kernel_rfl))
  t5 := Tryz.underlying5
  a5 := Tryz.isAgg5
  z5 := Tryz.sizeOf5
  v5 := Tryz.zeroValue5 }
open Go.RowKit in
theorem Tryz.internal_strconv_lower (c : Int) (w : World) :
    Calls Tryz.prog 96 #[.int .u8 c] w fun e w' => e = .returned (.int .u8 (bits .or .u8 c 32)) ∧ w' = w := Any.internal_strconv_lower Tryz.lays321 c w
def Tryz.laysC174_ren : Go.Shelf.Ren := ⟨fun | 174 => 88 | 247 => 94 | 245 => 93 | 287 => 92 | 279 => 98 | 280 => 99 | 281 => 100 | 282 => 101 | 321 => 96 | 322 => 97 | 316 => 83 | 171 => 104 | 205 => 103 | 243 => 106 | 246 => 107 | 283 => 108 | 284 => 109 | 285 => 110 | 286 => 111 | 129 => 113 | 317 => 112 | 318 => 114 | 319 => 115 | 320 => 116 | 337 => 117 | 338 => 118 | n => n, fun | 9 => 9 | 3 => 3 | 2 => 2 | 75 => 126 | 85 => 129 | 4 => 4 | 167 => 135 | 5 => 5 | 53 => 93 | 175 => 127 | 46 => 134 | 168 => 137 | 37 => 94 | 0 => 0 | 210 => 141 | 21 => 21 | 127 => 131 | 145 => 145 | 143 => 143 | 171 => 147 | 173 => 150 | 212 => 154 | 51 => 155 | 20 => 20 | 213 => 156 | 232 => 159 | 233 => 160 | 80 => 161 | n => n, fun | 15 => 4 | 16 => 5 | 17 => 7 | 18 => 8 | 19 => 9 | n => n⟩
theorem Tryz.laysC174 : Go.Proofs.LaysC.n174 Tryz.prog Tryz.laysC174_ren := {
  mixed := by kernel_rfl
  f129 := Tryz.func113.trans (congrArg some (by kernel_rfl))
  f171 := Tryz.func104.trans (congrArg some (by kernel_rfl))
  f174 := Tryz.func88.trans (congrArg some (by kernel_rfl))
  f205 := Tryz.func103.trans (congrArg some (by kernel_rfl))
  f243 := Tryz.func106.trans (congrArg some (by kernel_rfl))
  f245 := Tryz.func93.trans (congrArg some (by kernel_rfl))
  f246 := Tryz.func107.trans (congrArg some (by kernel_rfl))
  f247 := Tryz.func94.trans (congrArg some (by kernel_rfl))
  f279 := Tryz.func98.trans (congrArg some (by kernel_rfl))
  f280 := Tryz.func99.trans (congrArg some (by kernel_rfl))
  f281 := Tryz.func100.trans (congrArg some (by kernel_rfl))
  f282 := Tryz.func101.trans (congrArg some (by kernel_rfl))
  f283 := Tryz.func108.trans (congrArg some (by kernel_rfl))
  f284 := Tryz.func109.trans (congrArg some (by kernel_rfl))
  f285 := Tryz.func110.trans (congrArg some (by kernel_rfl))
  f286 := Tryz.func111.trans (congrArg some (by kernel_rfl))
  f287 := Tryz.func92.trans (congrArg some (by kernel_rfl))
  f316 := Tryz.func83.trans (congrArg some (by kernel_rfl))
  f317 := Tryz.func112.trans (congrArg some (by kernel_rfl))
  f318 := Tryz.func114.trans (congrArg some (by kernel_rfl))
  f319 := Tryz.func115.trans (congrArg some (by kernel_rfl))
  f320 := Tryz.func116.trans (congrArg some (by kernel_rfl))
  f321 := Tryz.func96.trans (congrArg some (by kernel_rfl))
  f322 := Tryz.func97.trans (congrArg some (by kernel_rfl))
  f337 := Tryz.func117.trans (congrArg some (by kernel_rfl))
  f338 := Tryz.func118.trans (congrArg some (by kernel_rfl))
  t0 := Tryz.underlying0
  a0 := Tryz.isAgg0
  z0 := Tryz.sizeOf0
  v0 := Tryz.zeroValue0
  t2 := Tryz.underlying2
  a2 := Tryz.isAgg2
  z2 := Tryz.sizeOf2
  v2 := Tryz.zeroValue2
  t3 := Tryz.underlying3
  a3 := Tryz.isAgg3
  z3 := Tryz.sizeOf3
  v3 := Tryz.zeroValue3
  t4 := Tryz.underlying4
  a4 := Tryz.isAgg4
  z4 := Tryz.sizeOf4
  v4 := Tryz.zeroValue4
  t5 := Tryz.underlying5
  a5 := Tryz.isAgg5
  z5 := Tryz.sizeOf5
  v5 := Tryz.zeroValue5
  t9 := Tryz.underlying9
  a9 := Tryz.isAgg9
  z9 := Tryz.sizeOf9
  v9 := Tryz.zeroValue9
  t20 := Tryz.underlying20
  a20 := Tryz.isAgg20
  z20 := Tryz.sizeOf20
  v20 := Tryz.zeroValue20
  t21 := Tryz.underlying21
  a21 := Tryz.isAgg21
  z21 := Tryz.sizeOf21
  v21 := Tryz.zeroValue21
  t37 := Tryz.underlying94
  a37 := Tryz.isAgg94
  z37 := Tryz.sizeOf94
  v37 := Tryz.zeroValue94
  t46 := Tryz.underlying134
  a46 := Tryz.isAgg134
  z46 := Tryz.sizeOf134
  v46 := Tryz.zeroValue134
  t51 := Tryz.underlying155
  a51 := Tryz.isAgg155
  z51 := Tryz.sizeOf155
  v51 := Tryz.zeroValue155
  t53 := Tryz.underlying93
  a53 := Tryz.isAgg93
  z53 := Tryz.sizeOf93
  v53 := Tryz.zeroValue93
  t75 := Tryz.underlying126
  a75 := Tryz.isAgg126
  z75 := Tryz.sizeOf126
  v75 := Tryz.zeroValue126
  t85 := Tryz.underlying129
  a85 := Tryz.isAgg129
  z85 := Tryz.sizeOf129
  v85 := Tryz.zeroValue129
  t127 := Tryz.underlying131
  a127 := Tryz.isAgg131
  z127 := Tryz.sizeOf131
  v127 := Tryz.zeroValue131
  t143 := Tryz.underlying143
  a143 := Tryz.isAgg143
  z143 := Tryz.sizeOf143
  v143 := Tryz.zeroValue143
  t145 := Tryz.underlying145
  a145 := Tryz.isAgg145
  z145 := Tryz.sizeOf145
  v145 := Tryz.zeroValue145
  t167 := Tryz.underlying135
  a167 := Tryz.isAgg135
  z167 := Tryz.sizeOf135
  v167 := Tryz.zeroValue135
  t168 := Tryz.underlying137
  a168 := Tryz.isAgg137
  z168 := Tryz.sizeOf137
  v168 := Tryz.zeroValue137
  t171 := Tryz.underlying147
  a171 := Tryz.isAgg147
  z171 := Tryz.sizeOf147
  v171 := Tryz.zeroValue147
  t173 := Tryz.underlying150
  a173 := Tryz.isAgg150
  z173 := Tryz.sizeOf150
  v173 := Tryz.zeroValue150
  t175 := Tryz.underlying127
  a175 := Tryz.isAgg127
  z175 := Tryz.sizeOf127
  v175 := Tryz.zeroValue127
  t210 := Tryz.underlying141
  a210 := Tryz.isAgg141
  z210 := Tryz.sizeOf141
  v210 := Tryz.zeroValue141
  t212 := Tryz.underlying154
  a212 := Tryz.isAgg154
  z212 := Tryz.sizeOf154
  v212 := Tryz.zeroValue154
  t213 := Tryz.underlying156
  a213 := Tryz.isAgg156
  z213 := Tryz.sizeOf156
  t232 := Tryz.underlying159
  a232 := Tryz.isAgg159
  z232 := Tryz.sizeOf159
  v232 := Tryz.zeroValue159
  t233 := Tryz.underlying160
  a233 := Tryz.isAgg160
  z233 := Tryz.sizeOf160
  v233 := Tryz.zeroValue160
  g15 := by kernel_rfl
  g16 := by kernel_rfl
  g17 := by kernel_rfl
  g18 := by kernel_rfl
  g19 := by kernel_rfl
  t80 := Tryz.underlying161
  a80 := Tryz.isAgg161
  z80 := Tryz.sizeOf161
  v80 := Tryz.zeroValue161
  i0 := by kernel_rfl
  i2 := by kernel_rfl
  i3 := by kernel_rfl
  i4 := by kernel_rfl
  i5 := by kernel_rfl
  i9 := by kernel_rfl
  i20 := by kernel_rfl
  i21 := by kernel_rfl
  i37 := by kernel_rfl
  i46 := by kernel_rfl
  i51 := by kernel_rfl
  i53 := by kernel_rfl
  i75 := by kernel_rfl
  i80 := by kernel_rfl
  i85 := by kernel_rfl
  i127 := by kernel_rfl
  i143 := by kernel_rfl
  i145 := by kernel_rfl
  i167 := by kernel_rfl
  i168 := by kernel_rfl
  i171 := by kernel_rfl
  i173 := by kernel_rfl
  i175 := by kernel_rfl
  i210 := by kernel_rfl
  i212 := by kernel_rfl
  i232 := by kernel_rfl
  i233 := by kernel_rfl
  m15 := by kernel_rfl
  m16 := by kernel_rfl
  m17 := by kernel_rfl
  m18 := by kernel_rfl
  m19 := by kernel_rfl
  c0 := by kernel_rfl
  c2 := by kernel_rfl
  c3 := by kernel_rfl
  c4 := by kernel_rfl
  c5 := by kernel_rfl
  c9 := by kernel_rfl
  c20 := by kernel_rfl
  c21 := by kernel_rfl
  c37 := by kernel_rfl
  c46 := by kernel_rfl
  c51 := by kernel_rfl
  c53 := by kernel_rfl
  c75 := by kernel_rfl
  c80 := by kernel_rfl
  c85 := by kernel_rfl
  c127 := by kernel_rfl
  c143 := by kernel_rfl
  c145 := by kernel_rfl
  c167 := by kernel_rfl
  c168 := by kernel_rfl
  c171 := by kernel_rfl
  c173 := by kernel_rfl
  c175 := by kernel_rfl
  c210 := by kernel_rfl
  c212 := by kernel_rfl
  c213 := by kernel_rfl
  c232 := by kernel_rfl
  c233 := by kernel_rfl }
open Go.RowKit in
theorem Tryz.strconv_ParseInt_10_at64_ok (s : ByteArray) (hmax : s.size ≤ 9223372036854775806) (v : Int) (h : Lib.parseIntB 64 s.data.toList = .ok v) (w : World) :
    Calls Tryz.prog 88 #[.string s, .int .i64 10, .int .i64 64] w fun e w' => e = .returned (.tuple #[.int .i64 v, .nilIface]) ∧ (w' = w ∨ ∃ t, w' = Lib.bytesWorld w 5 t) := Any.strconv_ParseInt_10_at64_ok Tryz.laysC174 s hmax v h w
open Go.RowKit in
theorem Tryz.strconv_ParseInt_10_at64_syntax (s : ByteArray) (hlim : s.size ≤ 281474976710656) (h : Lib.parseIntB 64 s.data.toList = .«syntax») (ev : Value) (w : World) (hv : w.cell? ⟨4, 0, none⟩ = some ev) (hev : ev = .nilIface ∨ ∃ te pe, ev = .iface te pe) :
    Calls Tryz.prog 88 #[.string s, .int .i64 10, .int .i64 64] w fun e w' => ∃ N, e = .returned (.tuple #[.int .i64 (0), .iface 137 (.pointer (some ⟨N, 0, none⟩))]) ∧ w.heap.size ≤ N ∧ w'.heap[N]? = some (.cells #[.string ⟨#[80, 97, 114, 115, 101, 73, 110, 116]⟩, .string s, ev] 141 (0, 0)) ∧ Below w.heap.size w w' := Any.strconv_ParseInt_10_at64_syntax Tryz.laysC174 s hlim h ev w hv hev
open Go.RowKit in
theorem Tryz.strconv_ParseInt_10_at64_range (s : ByteArray) (hlim : s.size ≤ 281474976710656) (h : Lib.parseIntB 64 s.data.toList = .range) (ev : Value) (w : World) (hv : w.cell? ⟨5, 0, none⟩ = some ev) (hev : ev = .nilIface ∨ ∃ te pe, ev = .iface te pe) :
    Calls Tryz.prog 88 #[.string s, .int .i64 10, .int .i64 64] w fun e w' => ∃ N, e = .returned (.tuple #[.int .i64 (Lib.intSat 64 s.data.toList), .iface 137 (.pointer (some ⟨N, 0, none⟩))]) ∧ w.heap.size ≤ N ∧ w'.heap[N]? = some (.cells #[.string ⟨#[80, 97, 114, 115, 101, 73, 110, 116]⟩, .string s, ev] 141 (0, 0)) ∧ Below w.heap.size w w' := Any.strconv_ParseInt_10_at64_range Tryz.laysC174 s hlim h ev w hv hev
def Tryz.lays99_ren : Go.Shelf.Ren := ⟨fun | 99 => 42 | 206 => 60 | n => n, fun | 9 => 9 | 4 => 4 | 3 => 3 | n => n, fun | n => n⟩
theorem Tryz.lays99 : Go.Proofs.Lays.n99 Tryz.prog Tryz.lays99_ren := {
  mixed := by kernel_rfl
  f99 := Tryz.func42.trans (congrArg some (by kernel_rfl))
  f206 := Tryz.func60.trans (congrArg some (by kernel_rfl))
  t3 := Tryz.underlying3
  a3 := Tryz.isAgg3
  z3 := Tryz.sizeOf3
  v3 := Tryz.zeroValue3
  t4 := Tryz.underlying4
  a4 := Tryz.isAgg4
  z4 := Tryz.sizeOf4
  v4 := Tryz.zeroValue4
  t9 := Tryz.underlying9
  a9 := Tryz.isAgg9
  z9 := Tryz.sizeOf9
  v9 := Tryz.zeroValue9 }
open Go.RowKit Go.Lib in
theorem Tryz.strings_HasPrefix (s p : ByteArray) (w : World) :
    Calls Tryz.prog 42 #[.string s, .string p] w fun e w' => e = .returned (.bool (Lib.hasPrefix s.data.toList p.data.toList)) ∧ w' = w := Any.strings_HasPrefix Tryz.lays99 s p w
end Go.Proofs
