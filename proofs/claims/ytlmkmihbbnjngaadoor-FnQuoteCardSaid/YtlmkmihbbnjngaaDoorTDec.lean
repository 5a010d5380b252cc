import Derived.Test.YtlmkmihbbnjngaaDoorTIntOf
namespace Go.Proofs.YtlmkmihbbnjngaaDoor
open Go.RowKit Go.Maps Go.WideMaps
set_option linter.unusedVariables false

def stp (a : Option Nat) (c : UInt8) : Option Nat := match a with | none => none | some x => if x * 10 + (c.toNat - 48) ≤ 9223372036854775807 then some (x * 10 + (c.toNat - 48)) else none
theorem stp_none : ∀ l : List UInt8, l.foldl stp none = none
  | [] => rfl
  | c :: r => stp_none r
theorem pu_big : ∀ (l : List UInt8) (acc : Nat), (∀ c ∈ l, 48 ≤ c.toNat ∧ c.toNat ≤ 57) → 9223372036854775808 ≤ acc → Lib.parseUintM (2 ^ 64 - 1) acc l = .range ∨ ∃ u, Lib.parseUintM (2 ^ 64 - 1) acc l = .ok u ∧ 9223372036854775808 ≤ u
  | [], acc, _, h => .inr ⟨acc, rfl, h⟩
  | c :: r, acc, hd, h => by
    have hc := hd c (by simp)
    unfold Lib.parseUintM
    rw [if_pos hc, if_pos (by omega)]
    exact .inl rfl
theorem pu_dec : ∀ (l : List UInt8) (acc : Nat), (∀ c ∈ l, 48 ≤ c.toNat ∧ c.toNat ≤ 57) → acc ≤ 9223372036854775807 → (∀ u, l.foldl stp (some acc) = some u → Lib.parseUintM (2 ^ 64 - 1) acc l = .ok u ∧ u ≤ 9223372036854775807) ∧ (l.foldl stp (some acc) = none → Lib.parseUintM (2 ^ 64 - 1) acc l = .range ∨ ∃ u, Lib.parseUintM (2 ^ 64 - 1) acc l = .ok u ∧ 9223372036854775808 ≤ u)
  | [], acc, _, h => by
    refine ⟨fun u hu => ?_, fun hn => by simp at hn⟩
    simp at hu
    subst hu
    exact ⟨rfl, h⟩
  | c :: r, acc, hd, h => by
    have hc := hd c (by simp)
    have hr : ∀ x ∈ r, 48 ≤ x.toNat ∧ x.toNat ≤ 57 := fun x hx => hd x (by simp [hx])
    rw [List.foldl_cons, show stp (some acc) c = if acc * 10 + (c.toNat - 48) ≤ 9223372036854775807 then some (acc * 10 + (c.toNat - 48)) else none from rfl]
    by_cases hle : acc * 10 + (c.toNat - 48) ≤ 9223372036854775807
    · rw [if_pos hle]
      have ih := pu_dec r (acc * 10 + (c.toNat - 48)) hr hle
      have e : Lib.parseUintM (2 ^ 64 - 1) acc (c :: r) = Lib.parseUintM (2 ^ 64 - 1) (acc * 10 + (c.toNat - 48)) r := by
        rw [Lib.parseUintM, if_pos hc, if_neg (by omega), if_neg (by omega)]
      rw [e]
      exact ih
    · rw [if_neg hle, stp_none r]
      refine ⟨fun u hu => (by cases hu), fun _ => ?_⟩
      rw [Lib.parseUintM, if_pos hc]
      by_cases h1 : 1844674407370955162 ≤ acc
      · rw [if_pos h1]; exact .inl rfl
      · rw [if_neg h1]
        by_cases h2 : 2 ^ 64 - 1 < acc * 10 + (c.toNat - 48)
        · rw [if_pos h2]; exact .inl rfl
        · rw [if_neg h2]; exact pu_big r _ hr (by omega)
theorem pu_bad : ∀ (l : List UInt8) (acc : Nat), (∃ c ∈ l, ¬ (48 ≤ c.toNat ∧ c.toNat ≤ 57)) → ∀ u, Lib.parseUintM (2 ^ 64 - 1) acc l ≠ .ok u
  | [], _, h, u => by obtain ⟨c, hc, _⟩ := h; simp at hc
  | c :: r, acc, h, u => by
    rw [Lib.parseUintM]
    by_cases hc : 48 ≤ c.toNat ∧ c.toNat ≤ 57
    · rw [if_pos hc]
      split
      · intro h; cases h
      · split
        · intro h; cases h
        · refine pu_bad r _ ?_ u
          obtain ⟨d, hd, hn⟩ := h
          rcases List.mem_cons.1 hd with rfl | hd
          · exact absurd hc hn
          · exact ⟨d, hd, hn⟩
    · rw [if_neg hc]; intro h; cases h

/-- The digits' number, from p on, n of them; none where it is above the greatest int. -/
def dcS (s : ByteArray) (p : Nat) : Nat → Option Nat
  | 0 => some 0
  | n + 1 => match dcS s p n with | none => none | some x => if x * 10 + (bat s (p + n) - 48).toNat ≤ 9223372036854775807 then some (x * 10 + (bat s (p + n) - 48).toNat) else none
theorem dcS_fold (s : ByteArray) (p : Nat) : ∀ n, p + n ≤ s.size → dcS s p n = ((s.data.toList.drop p).take n).foldl stp (some 0)
  | 0, _ => rfl
  | n + 1, h => by
    have hlt : p + n < s.data.toList.length := by rw [Array.length_toList]; exact h
    have e : (s.data.toList.drop p)[n]? = some (s.data.toList[p + n]) := by rw [List.getElem?_drop]; exact List.getElem?_eq_getElem hlt
    have hb : bat s (p + n) = ((s.data.toList[p + n]).toNat : Int) := ((bat_list s (p + n) _).1 (List.getElem?_eq_getElem hlt)).2
    rw [List.take_add_one, e, List.foldl_append, ← dcS_fold s p n (by omega), dcS, hb]
    simp only [Option.toList_some, List.foldl_cons, List.foldl_nil, stp]
    have e2 : (((s.data.toList[p + n]).toNat : Int) - 48).toNat = (s.data.toList[p + n]).toNat - 48 := by omega
    rw [e2]
theorem dcS_le (s : ByteArray) (p : Nat) : ∀ n u, dcS s p n = some u → u ≤ 9223372036854775807
  | 0, u, h => by simp [dcS] at h; omega
  | n + 1, u, h => by
    unfold dcS at h
    split at h
    · cases h
    · split at h
      · rename_i h2; cases h; exact h2
      · cases h

theorem all_list (q : ByteArray) (h : ∀ i, i < q.size → digB (bat q i) = true) : ∀ c ∈ q.data.toList, 48 ≤ c.toNat ∧ c.toNat ≤ 57 := by
  intro c hc
  obtain ⟨i, hi, rfl⟩ := List.mem_iff_getElem.1 hc
  have := (bat_list q i _).1 (List.getElem?_eq_getElem hi)
  have hd := dig_range (h i this.1)
  rw [this.2] at hd
  omega
theorem head_dig (q : ByteArray) (h0 : digB (bat q 0) = true) : ∃ c r, q.data.toList = c :: r ∧ 48 ≤ c.toNat ∧ c.toNat ≤ 57 := by
  have hlt := dig_lt h0
  cases hq : q.data.toList with
  | nil => have : q.data.toList.length = q.size := by rw [Array.length_toList]; rfl
           rw [hq] at this; simp at this; omega
  | cons c r =>
    refine ⟨c, r, rfl, ?_⟩
    have := (bat_list q 0 c).1 (by rw [hq]; rfl)
    have hd := dig_range h0
    rw [this.2] at hd
    omega
theorem pint_of (c : UInt8) (r : List UInt8) (h1 : 48 ≤ c.toNat) (h2 : c.toNat ≤ 57) : Lib.parseIntB 64 (c :: r) = match Lib.parseUintM (2 ^ 64 - 1) 0 (c :: r) with | .syntax => .syntax | .range => .range | .ok u => if 9223372036854775808 ≤ u then .range else .ok (u : Int) := by
  simp only [Lib.parseIntB, Lib.parseUintB]
  rw [if_neg (show ¬ (c.toNat = 43 ∨ c.toNat = 45) by omega), if_neg (show ¬ (c :: r = []) by simp)]
  have hn : ¬ c.toNat = 45 := by omega
  cases Lib.parseUintM (2 ^ 64 - 1) 0 (c :: r) with
  | ok u => simp [hn]
  | «syntax» => rfl
  | range => rfl
theorem decI_dig (q : ByteArray) (h0 : 0 < q.size) (h : ∀ i, i < q.size → digB (bat q i) = true) : decI q = Option.map (fun u : Nat => (u : Int)) (dcS q 0 q.size) := by
  obtain ⟨c, r, hq, h1, h2⟩ := head_dig q (h 0 h0)
  have hall := all_list q h
  have hf := dcS_fold q 0 q.size (by omega)
  rw [List.drop_zero, List.take_of_length_le (by rw [Array.length_toList]; exact Nat.le_refl _)] at hf
  unfold decI
  rw [hf]
  rw [hq] at hall ⊢
  rw [pint_of c r h1 h2]
  have hp := pu_dec (c :: r) 0 hall (by omega)
  cases hx : (c :: r).foldl stp (some 0) with
  | some u =>
    obtain ⟨e1, e2⟩ := hp.1 u hx
    rw [e1]
    simp only [Option.map_some]
    rw [if_neg (by omega)]
  | none =>
    rcases hp.2 hx with e | ⟨u, e, hu⟩
    · rw [e]; rfl
    · rw [e]; simp only [if_pos hu]; rfl
theorem decI_bad (q : ByteArray) (h0 : digB (bat q 0) = true) (i : Nat) (hi : i < q.size) (hn : digB (bat q i) = false) : decI q = none := by
  obtain ⟨c, r, hq, h1, h2⟩ := head_dig q h0
  have hb : ∃ c ∈ q.data.toList, ¬ (48 ≤ c.toNat ∧ c.toNat ≤ 57) := by
    have hlt : i < q.data.toList.length := by rw [Array.length_toList]; exact hi
    refine ⟨q.data.toList[i], List.getElem_mem hlt, ?_⟩
    have := (bat_list q i _).1 (List.getElem?_eq_getElem hlt)
    have e : ¬ (48 ≤ bat q i ∧ bat q i ≤ 57) := by simpa [digB] using hn
    rw [this.2] at e
    omega
  unfold decI
  rw [hq] at hb ⊢
  rw [pint_of c r h1 h2]
  have := pu_bad (c :: r) 0 hb
  cases hx : Lib.parseUintM (2 ^ 64 - 1) 0 (c :: r) with
  | ok u => exact absurd hx (this u)
  | «syntax» => rfl
  | range => rfl
end Go.Proofs.YtlmkmihbbnjngaaDoor
