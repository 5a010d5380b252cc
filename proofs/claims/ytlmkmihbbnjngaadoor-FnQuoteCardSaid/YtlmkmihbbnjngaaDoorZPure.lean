import Derived.Test.YtlmkmihbbnjngaaDoorSRead
import Derived.Test.YtlmkmihbbnjngaaDoorZTok
namespace Go.Proofs.YtlmkmihbbnjngaaDoor
open Go.RowKit
set_option linter.unusedVariables false

/-- A token: its kind, its places, its line, its number and its text. -/
structure Tk where
  k : Int
  f : Int
  t : Int
  l : Int
  n : Int
  x : ByteArray
def vTk (T : Tk) : Value := .agg #[.int .i64 T.k, .int .i64 T.f, .int .i64 T.t, .int .i64 T.l, .int .i64 T.n, .string T.x]
def cTk (T : Tk) : List Value := [.int .i64 T.k, .int .i64 T.f, .int .i64 T.t, .int .i64 T.l, .int .i64 T.n, .string T.x]
def cTks (ts : List Tk) : List Value := ts.flatMap cTk
theorem cTks_app (a : List Tk) (T : Tk) : cTks (a ++ [T]) = cTks a ++ cTk T := by simp [cTks]
end Go.Proofs.YtlmkmihbbnjngaaDoor

namespace Go.Proofs.YtlmkmihbbnjngaaDoor
open Go.RowKit Go.Maps Go.WideMaps
set_option linter.unusedVariables false

theorem fix_oth (i : Nat) (h : i < 11) : fixI (40 + (i : Int)) = strAt othV i := by
  unfold fixI
  rw [if_neg (by omega), if_neg (by omega), if_neg (by omega), if_pos (by omega)]
  rw [show (40 + (i : Int) - 40).toNat = i by omega]
theorem fix_bin (i : Nat) (h : i < 18) : fixI (61 + (i : Int)) = strAt binV i := by
  unfold fixI
  rw [if_neg (by omega), if_neg (by omega), if_neg (by omega), if_neg (by omega), if_pos (by omega)]
  rw [show (61 + (i : Int) - 61).toNat = i by omega]
/-- The kind of a sign that the text begins with. -/
def Sgn (r : ByteArray) (k : Int) (n : Nat) : Prop := (k = 0 ∧ n = 0) ∨ (n = (fixI k).size ∧ 1 ≤ n ∧ Lib.hasPrefix r.data.toList (fixI k).data.toList = true ∧ k ≠ 0)
theorem sgL_sgn (V : Array Value) (base : Int) (r : ByteArray) (N : Nat) (hb : 0 < base) (hV : ∀ i, i < N → fixI (base + (i : Int)) = strAt V i) : ∀ (f i : Nat) (a : Int × Nat), i + f ≤ N → Sgn r a.1 a.2 → Sgn r (sgL V base r f i a).1 (sgL V base r f i a).2
  | 0, i, a, _, h => h
  | f + 1, i, a, hi, h => by
    unfold sgL
    refine sgL_sgn V base r N hb hV f (i + 1) _ (by omega) ?_
    split
    · rename_i hc
      refine .inr ⟨?_, ?_, ?_, ?_⟩
      · show (strAt V i).size = _; rw [hV i (by omega)]
      · show 1 ≤ (strAt V i).size; omega
      · show Lib.hasPrefix _ (fixI (base + (i : Int))).data.toList = true; rw [hV i (by omega)]; exact hc.2
      · show base + (i : Int) ≠ 0; omega
    · exact h
theorem pre_len (r x : ByteArray) (h : Lib.hasPrefix r.data.toList x.data.toList = true) : x.size ≤ r.size := by
  unfold Lib.hasPrefix at h
  rw [List.isPrefixOf_iff_prefix] at h
  have := h.length_le
  rwa [Array.length_toList, Array.length_toList] at this
theorem skI_pos (r : ByteArray) (h0 : 0 < r.size) (hk : skI r ≠ 0) : 1 ≤ (fixI (skI r)).size ∧ (fixI (skI r)).size ≤ r.size := by
  unfold skI at hk ⊢
  split
  · exact ⟨by decide, by show 1 ≤ r.size; omega⟩
  split
  · exact ⟨by decide, by show 1 ≤ r.size; omega⟩
  rename_i h1 h2
  rw [if_neg h1, if_neg h2] at hk
  have s1 := sgL_sgn othV 40 r 11 (by omega) fix_oth 11 0 (0, 0) (by omega) (.inl ⟨rfl, rfl⟩)
  have s2 := sgL_sgn binV 61 r 18 (by omega) fix_bin 18 0 _ (by omega) s1
  rcases s2 with ⟨h, _⟩ | ⟨h, h3, h4, _⟩
  · exact absurd h hk
  · exact ⟨by omega, pre_len r _ h4⟩

theorem nmE_pos (s : ByteArray) (p : Nat) (h : lettB (bat s p) = true) : p < nmE s (s.size + 1) p := by
  have hp : p < s.size := by
    rcases Nat.lt_or_ge p s.size with h1 | h1
    · exact h1
    · exact absurd (.inl h) (ld_out (by omega))
  rw [nmE, if_pos (.inl h)]
  have := nmE_bd s s.size (p + 1) (by omega)
  omega
/-- A token that was read stands behind its beginning and within the text. -/
theorem rdI_pos (s : ByteArray) (p : Nat) (hp : p < s.size) (hok : (rdI s p).ok = true) : p < (rdI s p).a ∧ (rdI s p).a ≤ s.size ∧ 0 ≤ (rdI s p).d ∧ (rdI s p).d ≤ 1 := by
  unfold rdI at hok ⊢
  split
  · rename_i h
    exact ⟨nmE_pos s p h, (nmE_bd s _ p (by omega)).2, by simp, by simp⟩
  split
  · rename_i h1 h2
    rw [if_neg h1, if_pos h2] at hok
    have := numN_bd s p hp
    split
    · exact ⟨this.1, this.2, by simp, by simp⟩
    · rename_i h3; rw [if_neg h3] at hok; cases hok
  split
  · rename_i h1 h2 h3
    rw [if_neg h1, if_neg h2, if_pos h3] at hok
    have := rdStr_bd s (s.size + 1) (p + 1) [] (by omega)
    split
    · exact ⟨by simp only; omega, this.2.1, by simp, by simp⟩
    · rename_i h4; rw [if_neg h4] at hok; cases hok
  · rename_i h1 h2 h3
    rw [if_neg h1, if_neg h2, if_neg h3] at hok
    split
    · rename_i h4; rw [if_pos h4] at hok; cases hok
    · rename_i h4
      have hz := ext_size s p s.size (Nat.le_refl _)
      have := skI_pos (s.extract p s.size) (by omega) h4
      refine ⟨by simp only; omega, by simp only; omega, ?_, ?_⟩
      · simp only; split <;> omega
      · simp only; split <;> omega

def nnB (c : Int) : Bool := decide (c ≠ 10 ∧ c ≠ -1)
theorem nn_neg : nnB (-1) = false := by decide
def nlE (s : ByteArray) (p : Nat) : Nat := runE nnB s (s.size + 1) p
/-- Where the next token begins. -/
def blk (s : ByteArray) : Nat → Nat → Nat
  | 0, p => p
  | f + 1, p => if s.size ≤ p then p else if blankB (bat s p) = true then blk s f (p + 1) else if bat s p = 45 ∧ bat s (p + 1) = 45 then blk s f (nlE s p) else p
theorem nlE_bd (s : ByteArray) (p : Nat) (h : p ≤ s.size) : p ≤ nlE s p ∧ nlE s p ≤ s.size := runE_bd nnB nn_neg s _ p h
theorem nlE_pos (s : ByteArray) (p : Nat) (h : bat s p = 45) : p < nlE s p := by
  have hp := lt_of_bat h (by omega)
  unfold nlE
  rw [runE, if_pos (by rw [h]; decide)]
  have := runE_bd nnB nn_neg s s.size (p + 1) (by omega)
  omega
theorem blk_fuel (s : ByteArray) : ∀ (f g p : Nat), p ≤ s.size → s.size < p + f → s.size < p + g → blk s f p = blk s g p
  | 0, g, p, h, hf, hg => by omega
  | f + 1, 0, p, h, hf, hg => by omega
  | f + 1, g + 1, p, h, hf, hg => by
    unfold blk
    split
    · rfl
    split
    · exact blk_fuel s f g (p + 1) (by omega) (by omega) (by omega)
    split
    · rename_i hd
      have h1 := nlE_pos s p hd.1
      have h2 := nlE_bd s p h
      exact blk_fuel s f g _ h2.2 (by omega) (by omega)
    · rfl
theorem blk_bd (s : ByteArray) : ∀ (f p : Nat), p ≤ s.size → p ≤ blk s f p ∧ blk s f p ≤ s.size
  | 0, p, h => ⟨Nat.le_refl _, h⟩
  | f + 1, p, h => by
    unfold blk
    split
    · exact ⟨Nat.le_refl _, h⟩
    split
    · have := blk_bd s f (p + 1) (by omega); omega
    split
    · have h2 := nlE_bd s p h
      have := blk_bd s f (nlE s p) h2.2
      omega
    · exact ⟨Nat.le_refl _, h⟩

/-- What the scanner makes of a text from p on: whether it comes through, the fault's place, the tokens. -/
def scn (s : ByteArray) : Nat → Nat → Int → Bool × Nat × List Tk
  | 0, _, _ => (true, 0, [])
  | f + 1, p, l =>
    if s.size ≤ blk s (s.size + 1) p then (true, 0, [])
    else if (rdI s (blk s (s.size + 1) p)).ok = true then
      ((scn s f (rdI s (blk s (s.size + 1) p)).a (l + (rdI s (blk s (s.size + 1) p)).d)).1, (scn s f (rdI s (blk s (s.size + 1) p)).a (l + (rdI s (blk s (s.size + 1) p)).d)).2.1,
        ⟨(rdI s (blk s (s.size + 1) p)).k, (blk s (s.size + 1) p : Nat), ((rdI s (blk s (s.size + 1) p)).a : Nat), l, (rdI s (blk s (s.size + 1) p)).n, (rdI s (blk s (s.size + 1) p)).x⟩ :: (scn s f (rdI s (blk s (s.size + 1) p)).a (l + (rdI s (blk s (s.size + 1) p)).d)).2.2)
    else (false, (rdI s (blk s (s.size + 1) p)).a, [])
/-- 'pre' has come, the scanner stands at p, in line l. -/
structure Rel (s : ByteArray) (E : Bool × Nat × List Tk) (pre : List Tk) (p : Nat) (l : Int) (f : Nat) : Prop where
  fu : s.size < p + f
  le : p ≤ s.size
  l0 : 0 ≤ l
  l1 : l ≤ (p : Int) + 1
  cn : pre.length ≤ p
  eq : E = ((scn s f p l).1, (scn s f p l).2.1, pre ++ (scn s f p l).2.2)
theorem scn_blk (s : ByteArray) (p q : Nat) (h : blk s (s.size + 1) p = blk s (s.size + 1) q) : ∀ (f : Nat) (l : Int), scn s f p l = scn s f q l
  | 0, _ => rfl
  | f + 1, l => by rw [scn, scn, h]
theorem blk_blank (s : ByteArray) (p : Nat) (hp : p < s.size) (h : blankB (bat s p) = true) : blk s (s.size + 1) p = blk s (s.size + 1) (p + 1) := by
  rw [blk, if_neg (by omega), if_pos h]
  exact blk_fuel s _ _ _ (by omega) (by omega) (by omega)
theorem dash_not (c : Int) (h : c = 45) : ¬ blankB c = true := by subst h; decide
theorem blk_dash (s : ByteArray) (p : Nat) (h : bat s p = 45) (h2 : bat s (p + 1) = 45) : blk s (s.size + 1) p = blk s (s.size + 1) (nlE s p) := by
  have hp := lt_of_bat h (by omega)
  have h1 := nlE_pos s p h
  have h3 := nlE_bd s p (by omega)
  rw [blk, if_neg (by omega), if_neg (dash_not _ h), if_pos ⟨h, h2⟩]
  exact blk_fuel s _ _ _ h3.2 (by omega) (by omega)
theorem blk_tok (s : ByteArray) (p : Nat) (h1 : ¬ blankB (bat s p) = true) (h2 : ¬ (bat s p = 45 ∧ bat s (p + 1) = 45)) : blk s (s.size + 1) p = p := by
  rw [blk, if_neg h1, if_neg h2]
  split <;> rfl
theorem blk_end (s : ByteArray) (p : Nat) (h : s.size ≤ p) : blk s (s.size + 1) p = p := by rw [blk, if_pos h]
theorem Rel.blank {s : ByteArray} {E : Bool × Nat × List Tk} {pre : List Tk} {p f : Nat} {l : Int} (h : Rel s E pre p l f) (hp : p < s.size) (hb : blankB (bat s p) = true) : Rel s E pre (p + 1) l f :=
  ⟨by have := h.fu; omega, by omega, h.l0, by have := h.l1; omega, by have := h.cn; omega, by rw [h.eq, scn_blk s p (p + 1) (blk_blank s p hp hb)]⟩
theorem Rel.dash {s : ByteArray} {E : Bool × Nat × List Tk} {pre : List Tk} {p f : Nat} {l : Int} (h : Rel s E pre p l f) (h1 : bat s p = 45) (h2 : bat s (p + 1) = 45) : Rel s E pre (nlE s p) l f := by
  have hp := lt_of_bat h1 (by omega)
  have hb := nlE_bd s p (by omega)
  exact ⟨by have := h.fu; omega, hb.2, h.l0, by have := h.l1; omega, by have := h.cn; omega, by rw [h.eq, scn_blk s p _ (blk_dash s p h1 h2)]⟩
theorem Rel.atEnd {s : ByteArray} {E : Bool × Nat × List Tk} {pre : List Tk} {p f : Nat} {l : Int} (h : Rel s E pre p l f) (hp : s.size ≤ p) : E = (true, 0, pre) := by
  rw [h.eq]
  cases f with
  | zero => simp [scn]
  | succ f => rw [scn, blk_end s p hp, if_pos hp]; simp
theorem Rel.tok {s : ByteArray} {E : Bool × Nat × List Tk} {pre : List Tk} {p f : Nat} {l : Int} (h : Rel s E pre p l f) (hp : p < s.size) (h1 : ¬ blankB (bat s p) = true) (h2 : ¬ (bat s p = 45 ∧ bat s (p + 1) = 45)) (hok : (rdI s p).ok = true) :
    Rel s E (pre ++ [⟨(rdI s p).k, (p : Nat), ((rdI s p).a : Nat), l, (rdI s p).n, (rdI s p).x⟩]) (rdI s p).a (l + (rdI s p).d) (f - 1) := by
  have hpos := rdI_pos s p hp hok
  have hf := h.fu
  obtain ⟨f, rfl⟩ : ∃ g, f = g + 1 := ⟨f - 1, by omega⟩
  refine ⟨by omega, hpos.2.1, by have := h.l0; omega, by have := h.l1; omega, by have := h.cn; simp; omega, ?_⟩
  rw [h.eq, scn, blk_tok s p h1 h2, if_neg (by omega), if_pos hok]
  simp
theorem Rel.bad {s : ByteArray} {E : Bool × Nat × List Tk} {pre : List Tk} {p f : Nat} {l : Int} (h : Rel s E pre p l f) (hp : p < s.size) (h1 : ¬ blankB (bat s p) = true) (h2 : ¬ (bat s p = 45 ∧ bat s (p + 1) = 45)) (hok : (rdI s p).ok = false) :
    E = (false, (rdI s p).a, pre) := by
  have hf := h.fu
  obtain ⟨f, rfl⟩ : ∃ g, f = g + 1 := ⟨f - 1, by omega⟩
  rw [h.eq, scn, blk_tok s p h1 h2, if_neg (by omega), if_neg (by rw [hok]; simp)]
  simp
end Go.Proofs.YtlmkmihbbnjngaaDoor
