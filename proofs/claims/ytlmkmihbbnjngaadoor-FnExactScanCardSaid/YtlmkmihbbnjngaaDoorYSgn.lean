import Derived.Test.YtlmkmihbbnjngaaDoorZPure
namespace Go.Proofs.YtlmkmihbbnjngaaDoor
open Go.RowKit Go.Maps Go.WideMaps
set_option linter.unusedVariables false

/-- Whether a text that begins with these three bytes begins with x, which has three at most. -/
def pB (b0 b1 b2 : Int) (x : ByteArray) : Bool := decide ((x.size = 0 ∨ b0 = bat x 0) ∧ (x.size ≤ 1 ∨ b1 = bat x 1) ∧ (x.size ≤ 2 ∨ b2 = bat x 2))
theorem pre_at (r x : ByteArray) (i : Nat) (hi : i < x.size) : r.data.toList[i]? = x.data.toList[i]? ↔ bat r i = bat x i := by
  have hx : x.data.toList[i]? = some x[i] := by rw [Array.getElem?_toList]; exact Array.getElem?_eq_getElem hi
  rw [hx, bat_list]
  have hb : bat x i = (x[i].toNat : Int) := by unfold bat; rw [dif_pos hi]
  rw [hb]
  constructor
  · exact fun h => h.2
  · intro h
    refine ⟨?_, h⟩
    rcases Nat.lt_or_ge i r.size with h1 | h1
    · exact h1
    · rw [bat_out (by omega)] at h; omega
theorem pre_pB (r x : ByteArray) (h : x.size ≤ 3) : Lib.hasPrefix r.data.toList x.data.toList = pB (bat r 0) (bat r 1) (bat r 2) x := by
  unfold Lib.hasPrefix pB
  rw [Bool.eq_iff_iff, List.isPrefixOf_iff_prefix, decide_eq_true_iff, List.prefix_iff_getElem?]
  have hl : x.data.toList.length = x.size := Array.length_toList
  have key : (∀ i (hi : i < x.data.toList.length), r.data.toList[i]? = some x.data.toList[i]) ↔ ∀ i, i < x.size → bat r i = bat x i := by
    constructor
    · intro g i hi
      rw [← pre_at r x i hi, g i (by omega)]
      exact (List.getElem?_eq_getElem (by omega)).symm
    · intro g i hi
      rw [(pre_at r x i (by omega)).2 (g i (by omega))]
      exact List.getElem?_eq_getElem hi
  rw [key]
  constructor
  · intro g
    refine ⟨?_, ?_, ?_⟩
    · rcases Nat.eq_zero_or_pos x.size with h0 | h0
      · exact .inl h0
      · exact .inr (g 0 h0)
    · rcases Nat.lt_or_ge 1 x.size with h0 | h0
      · exact .inr (g 1 h0)
      · exact .inl h0
    · rcases Nat.lt_or_ge 2 x.size with h0 | h0
      · exact .inr (g 2 h0)
      · exact .inl h0
  · rintro ⟨g0, g1, g2⟩ i hi
    rcases (show i = 0 ∨ i = 1 ∨ i = 2 by omega) with rfl | rfl | rfl
    · rcases g0 with g | g
      · omega
      · exact g
    · rcases g1 with g | g
      · omega
      · exact g
    · rcases g2 with g | g
      · omega
      · exact g

def sgLq (q : ByteArray → Bool) (V : Array Value) (base : Int) : Nat → Nat → Int × Nat → Int × Nat
  | 0, _, a => a
  | f + 1, i, a => sgLq q V base f (i + 1) (if a.2 < (strAt V i).size ∧ q (strAt V i) = true then (base + (i : Int), (strAt V i).size) else a)
def skq (b0 : Int) (q : ByteArray → Bool) : Int := if b0 = 59 then 5 else if b0 = 10 then 7 else (sgLq q binV 61 18 0 (sgLq q othV 40 11 0 (0, 0))).1
/-- The first of the signs that the text begins with, f of them looked at, from k on. -/
def sgFq (q : ByteArray → Bool) : Nat → Nat → Option Nat
  | 0, _ => none
  | f + 1, k => if q (strAt sgnV k) = true then some k else sgFq q f (k + 1)
theorem sgL_q (V : Array Value) (base : Int) (r : ByteArray) : ∀ (f i : Nat) (a : Int × Nat), sgL V base r f i a = sgLq (fun x => Lib.hasPrefix r.data.toList x.data.toList) V base f i a
  | 0, i, a => rfl
  | f + 1, i, a => by rw [sgL, sgLq]; exact sgL_q V base r f (i + 1) _
theorem sgLq_congr (q q' : ByteArray → Bool) (V : Array Value) (base : Int) (N : Nat) (h : ∀ i, i < N → q (strAt V i) = q' (strAt V i)) : ∀ (f i : Nat) (a : Int × Nat), i + f ≤ N → sgLq q V base f i a = sgLq q' V base f i a
  | 0, i, a, _ => rfl
  | f + 1, i, a, hi => by rw [sgLq, sgLq, h i (by omega)]; exact sgLq_congr q q' V base N h f (i + 1) _ (by omega)
theorem sgFq_congr (q q' : ByteArray → Bool) (h : ∀ i, i < 30 → q (strAt sgnV i) = q' (strAt sgnV i)) : ∀ (f i : Nat), i + f ≤ 30 → sgFq q f i = sgFq q' f i
  | 0, i, _ => rfl
  | f + 1, i, hi => by rw [sgFq, sgFq, h i (by omega), sgFq_congr q q' h f (i + 1) (by omega)]

def nrm (S : List Int) (b : Int) : Int := if b ∈ S then b else 0
theorem nrm_eq (S : List Int) (h0 : (0 : Int) ∉ S) (b a : Int) (ha : a ∈ S) : nrm S b = a ↔ b = a := by
  unfold nrm
  split
  · exact Iff.rfl
  · rename_i hb
    constructor
    · rintro rfl; exact absurd ha h0
    · rintro rfl; exact absurd ha hb
def fb0 : List Int := [46, 60, 62, 61, 126, 47, 40, 41, 123, 125, 91, 93, 44, 59, 35, 43, 45, 42, 37, 38, 124]
def fb1 : List Int := [46, 60, 61, 62, 47]
def fb2 : List Int := [46]
def inB (x : ByteArray) : Bool := decide (x.size ≤ 3 ∧ (x.size = 0 ∨ bat x 0 ∈ fb0) ∧ (x.size ≤ 1 ∨ bat x 1 ∈ fb1) ∧ (x.size ≤ 2 ∨ bat x 2 ∈ fb2))
theorem in_oth : ∀ i : Fin 11, inB (strAt othV i.val) = true := by decide +kernel
theorem in_bin : ∀ i : Fin 18, inB (strAt binV i.val) = true := by decide +kernel
theorem in_sgn : ∀ i : Fin 30, inB (strAt sgnV i.val) = true := by decide +kernel
theorem pB_nrm (b0 b1 b2 : Int) (x : ByteArray) (h : inB x = true) : pB b0 b1 b2 x = pB (nrm fb0 b0) (nrm fb1 b1) (nrm fb2 b2) x := by
  unfold inB at h
  rw [decide_eq_true_iff] at h
  obtain ⟨_, h0, h1, h2⟩ := h
  have e0 : (x.size = 0 ∨ b0 = bat x 0) ↔ (x.size = 0 ∨ nrm fb0 b0 = bat x 0) := by
    rcases h0 with h | h
    · simp [h]
    · rw [nrm_eq fb0 (by decide) b0 _ h]
  have e1 : (x.size ≤ 1 ∨ b1 = bat x 1) ↔ (x.size ≤ 1 ∨ nrm fb1 b1 = bat x 1) := by
    rcases h1 with h | h
    · simp [h]
    · rw [nrm_eq fb1 (by decide) b1 _ h]
  have e2 : (x.size ≤ 2 ∨ b2 = bat x 2) ↔ (x.size ≤ 2 ∨ nrm fb2 b2 = bat x 2) := by
    rcases h2 with h | h
    · simp [h]
    · rw [nrm_eq fb2 (by decide) b2 _ h]
  unfold pB
  rw [decide_eq_decide, e0, e1, e2]
/-- Both ways to look for a sign come to the same. -/
def goodB (b0 b1 b2 : Int) : Bool := match sgFq (pB b0 b1 b2) 30 0 with
  | some j => decide (skq b0 (pB b0 b1 b2) = sgnI (strAt sgnV j) ∧ (fixI (skq b0 (pB b0 b1 b2))).size = (strAt sgnV j).size ∧ skq b0 (pB b0 b1 b2) ≠ 0 ∧ skq b0 (pB b0 b1 b2) ≠ 7)
  | none => decide (skq b0 (pB b0 b1 b2) = 0)
theorem good_all : ∀ b0 ∈ 0 :: fb0, ∀ b1 ∈ 0 :: fb1, ∀ b2 ∈ 0 :: fb2, goodB b0 b1 b2 = true := by decide +kernel
theorem nrm_in (S : List Int) (b : Int) : nrm S b ∈ 0 :: S := by
  unfold nrm; split
  · exact List.mem_cons_of_mem _ (by assumption)
  · exact List.mem_cons_self
def SgSame (r : ByteArray) : Prop := match sgFq (fun x => Lib.hasPrefix r.data.toList x.data.toList) 30 0 with
  | some j => skI r = sgnI (strAt sgnV j) ∧ (fixI (skI r)).size = (strAt sgnV j).size ∧ skI r ≠ 0 ∧ skI r ≠ 7
  | none => skI r = 0
theorem sg_same (r : ByteArray) (h10 : bat r 0 ≠ 10) : SgSame r := by
  have hq : ∀ x, inB x = true → Lib.hasPrefix r.data.toList x.data.toList = pB (nrm fb0 (bat r 0)) (nrm fb1 (bat r 1)) (nrm fb2 (bat r 2)) x := fun x hx => by
    rw [← pB_nrm _ _ _ x hx]
    unfold inB at hx
    rw [decide_eq_true_iff] at hx
    exact pre_pB r x hx.1
  have hs : skI r = skq (nrm fb0 (bat r 0)) (pB (nrm fb0 (bat r 0)) (nrm fb1 (bat r 1)) (nrm fb2 (bat r 2))) := by
    unfold skI skq
    rw [sgL_q, sgL_q, sgLq_congr _ _ othV 40 11 (fun i hi => hq _ (in_oth ⟨i, hi⟩)) 11 0 _ (by omega), sgLq_congr _ _ binV 61 18 (fun i hi => hq _ (in_bin ⟨i, hi⟩)) 18 0 _ (by omega)]
    have h59 := nrm_eq fb0 (by decide) (bat r 0) 59 (by decide)
    have h10' : nrm fb0 (bat r 0) ≠ 10 := by
      unfold nrm; split
      · exact h10
      · decide
    rw [if_neg h10, if_neg h10']
    by_cases h : bat r 0 = 59
    · rw [if_pos h, if_pos (h59.2 h)]
    · rw [if_neg h, if_neg (fun g => h (h59.1 g))]
  have hg := good_all _ (nrm_in fb0 (bat r 0)) _ (nrm_in fb1 (bat r 1)) _ (nrm_in fb2 (bat r 2))
  unfold SgSame
  rw [sgFq_congr _ _ (fun i hi => hq _ (in_sgn ⟨i, hi⟩)) 30 0 (by omega), hs]
  unfold goodB at hg
  cases hf : sgFq (pB (nrm fb0 (bat r 0)) (nrm fb1 (bat r 1)) (nrm fb2 (bat r 2))) 30 0 with
  | some j => rw [hf] at hg; exact of_decide_eq_true hg
  | none => rw [hf] at hg; exact of_decide_eq_true hg
end Go.Proofs.YtlmkmihbbnjngaaDoor
