import Derived.Test.YtdlhfiheingibaaGreatDoorNN08
import Derived.Test.YtdlhfiheingibaaGreatDoorProg
import Derived.ProofKit
import Derived.WalkKit
import Derived.OwnWalk
import Derived.Below
import Derived.OneCell
import Derived.Laws.OwnMore
import Derived.RangeFuncBox
import Derived.Deep.RegionHeld3
import Derived.BigQuiet
namespace Go.Proofs.YtdlhfiheingibaaGreatDoor
set_option linter.unusedVariables false

/-- A stack run against a token: what is left, whether the token stands (none: all is used up), how many symbols were put on. The outer none: out of fuel. -/
def runS : Nat → List Int → Int → Nat → Option (List Int × Option Bool × Nat)
  | 0, _, _, _ => none
  | _ + 1, [], _, n => some ([], none, n)
  | f + 1, s :: r, t, n => if s < 100 then some (r, some (decide (s = t)), n) else if (xE s t).2 = true then runS f ((xE s t).1 ++ r) t (n + (xE s t).1.length) else some (r, some false, n)
/-- The stack behind a token. -/
def feedL : List Int → Int → List Int × Bool
  | [], _ => ([], false)
  | s :: r, t => if s < 100 then (r, decide (s = t)) else if (xE s t).1 = [] ∧ (xE s t).2 = true then feedL r t else match runS 8 [s] t 0 with | some (lo, some b, _) => (lo ++ r, b) | _ => ([], false)
def chkS (s t : Int) : Bool :=
  (xE s t).1.all (fun x => decide (x ≤ 133)) && (decide ((xE s t).1.length ≤ 7) &&
  (if (xE s t).1 = [] ∧ (xE s t).2 = true then true else match runS 8 [s] t 0 with | some (_, some _, n) => decide (n ≤ 20) | _ => false))
set_option maxRecDepth 100000 in
theorem chk_all : ((List.range 34).all fun s => (List.range 78).all fun t => chkS ((s : Int) + 100) ((t : Int) + 1)) = true := by decide +kernel
theorem chk_at {s t : Int} (h0 : 100 ≤ s) (h1 : s ≤ 133) (t0 : 1 ≤ t) (t1 : t ≤ 78) : chkS s t = true := by
  have h := List.all_eq_true.1 chk_all (s - 100).toNat (by rw [List.mem_range]; omega)
  have h2 := List.all_eq_true.1 h (t - 1).toNat (by rw [List.mem_range]; omega)
  have e1 : (((s - 100).toNat : Nat) : Int) + 100 = s := by omega
  have e2 : (((t - 1).toNat : Nat) : Int) + 1 = t := by omega
  rw [e1, e2] at h2
  exact h2
theorem xE_le {s t : Int} (h0 : 100 ≤ s) (h1 : s ≤ 133) (t0 : 1 ≤ t) (t1 : t ≤ 78) : (∀ x ∈ (xE s t).1, x ≤ 133) ∧ (xE s t).1.length ≤ 7 := by
  have h := chk_at h0 h1 t0 t1
  unfold chkS at h
  rw [Bool.and_eq_true, Bool.and_eq_true] at h
  exact ⟨fun x hx => of_decide_eq_true (List.all_eq_true.1 h.1 x hx), of_decide_eq_true h.2.1⟩
/-- Where a symbol does not become nothing, the run ends within it. -/
theorem xE_run {s t : Int} (h0 : 100 ≤ s) (h1 : s ≤ 133) (t0 : 1 ≤ t) (t1 : t ≤ 78) (hn : ¬ ((xE s t).1 = [] ∧ (xE s t).2 = true)) : ∃ lo b n, runS 8 [s] t 0 = some (lo, some b, n) ∧ n ≤ 20 := by
  have h := chk_at h0 h1 t0 t1
  unfold chkS at h
  rw [Bool.and_eq_true, Bool.and_eq_true, if_neg hn] at h
  have h3 := h.2.2
  split at h3
  · rename_i lo b n e
    exact ⟨lo, b, n, e, of_decide_eq_true h3⟩
  · cases h3
theorem feedL_nil {s t : Int} {r : List Int} (h0 : 100 ≤ s) (hn : (xE s t).1 = [] ∧ (xE s t).2 = true) : feedL (s :: r) t = feedL r t := by
  rw [feedL, if_neg (by omega), if_pos hn]
theorem feedL_run {s t : Int} {r lo : List Int} {b : Bool} {n : Nat} (h0 : 100 ≤ s) (hn : ¬ ((xE s t).1 = [] ∧ (xE s t).2 = true)) (hr : runS 8 [s] t 0 = some (lo, some b, n)) : feedL (s :: r) t = (lo ++ r, b) := by
  rw [feedL, if_neg (by omega), if_neg hn, hr]
theorem feedL_tok {s t : Int} {r : List Int} (h0 : s < 100) : feedL (s :: r) t = (r, decide (s = t)) := by
  rw [feedL, if_pos h0]
theorem runS_cons {s t : Int} {r lo : List Int} {b : Option Bool} {f n m : Nat} (h : runS (f + 1) (s :: r) t n = some (lo, b, m)) (h0 : 100 ≤ s) : ((xE s t).2 = true ∧ runS f ((xE s t).1 ++ r) t (n + (xE s t).1.length) = some (lo, b, m)) ∨ ((xE s t).2 = false ∧ lo = r ∧ b = some false ∧ m = n) := by
  rw [runS, if_neg (by omega)] at h
  split at h
  · rename_i e; exact .inl ⟨e, h⟩
  · rename_i e
    simp only [Option.some.injEq, Prod.mk.injEq] at h
    exact .inr ⟨by simpa using e, h.1.symm, h.2.1.symm, h.2.2.symm⟩
theorem runS_tok {s t : Int} {r lo : List Int} {b : Option Bool} {f n m : Nat} (h : runS (f + 1) (s :: r) t n = some (lo, b, m)) (h0 : s < 100) : lo = r ∧ b = some (decide (s = t)) ∧ m = n := by
  rw [runS, if_pos h0] at h
  simp only [Option.some.injEq, Prod.mk.injEq] at h
  exact ⟨h.1.symm, h.2.1.symm, h.2.2.symm⟩
/-- Symbols of a stack. -/
def OkS (st : List Int) : Prop := ∀ x ∈ st, x ≤ 133
theorem runS_ok : ∀ {f : Nat} {st : List Int} {t : Int} {n : Nat} {lo : List Int} {b : Option Bool} {m : Nat}, OkS st → 1 ≤ t → t ≤ 78 → runS f st t n = some (lo, b, m) → OkS lo
  | 0, _, _, _, _, _, _, _, _, _, h => by simp [runS] at h
  | f + 1, [], t, n, lo, b, m, ho, _, _, h => by
    simp only [runS, Option.some.injEq, Prod.mk.injEq] at h
    rw [← h.1]; exact ho
  | f + 1, s :: r, t, n, lo, b, m, ho, t0, t1, h => by
    have hr : OkS r := fun x hx => ho x (List.mem_cons_of_mem _ hx)
    by_cases h0 : s < 100
    · rw [(runS_tok h h0).1]; exact hr
    · rcases runS_cons h (by omega) with ⟨_, h2⟩ | ⟨_, h2, _⟩
      · refine runS_ok (fun x hx => ?_) t0 t1 h2
        rcases List.mem_append.1 hx with hx | hx
        · exact (xE_le (by omega) (ho s (List.mem_cons_self ..)) t0 t1).1 x hx
        · exact hr x hx
      · rw [h2]; exact hr
theorem feedL_ok : ∀ {st : List Int} {t : Int}, OkS st → 1 ≤ t → t ≤ 78 → OkS (feedL st t).1
  | [], t, ho, _, _ => by rw [feedL]; exact ho
  | s :: r, t, ho, t0, t1 => by
    have hr : OkS r := fun x hx => ho x (List.mem_cons_of_mem _ hx)
    by_cases h0 : s < 100
    · rw [feedL_tok h0]; exact hr
    · have hs := ho s (List.mem_cons_self ..)
      by_cases hn : (xE s t).1 = [] ∧ (xE s t).2 = true
      · rw [feedL_nil (by omega) hn]; exact feedL_ok hr t0 t1
      · obtain ⟨lo, b, n, e, _⟩ := xE_run (by omega) hs t0 t1 hn
        rw [feedL_run (by omega) hn e]
        intro x hx
        rcases List.mem_append.1 hx with hx | hx
        · refine runS_ok (st := [s]) ?_ t0 t1 e x hx
          intro y hy
          obtain rfl := List.mem_singleton.1 hy
          exact hs
        · exact hr x hx
end Go.Proofs.YtdlhfiheingibaaGreatDoor

namespace Go.Proofs.YtdlhfiheingibaaGreatDoor
set_option linter.unusedVariables false

/-! The program's guard as data: the rows of its parts; and that they accept what the model's machine accepts. -/
def sufI (place call : Int) : List (List Int) := [[48, 1, place], [44, 117, 45, place], [40, 111, 41, call]]
def rowsI (a : Int) : List (List Int) :=
  if a = 100 then [[5, 100], [102, 101], []]
  else if a = 101 then [[5, 100], []]
  else if a = 102 then [[22, 1, 109, 103], [13, 1, 47, 117], [18, 1, 113], [20, 117, 108, 107], [31, 117, 108], [19, 1, 104], [11], [23], [27, 111], [30, 108, 12, 1, 106, 108], [28, 117], [14, 131], [108], [1, 125], [40, 117, 41, 127]]
  else if a = 103 then [[47, 110], []]
  else if a = 104 then [[47, 117, 46, 117, 105, 108], [21, 117, 108], [46, 1, 109, 21, 117, 108]]
  else if a = 105 then [[46, 117], []]
  else if a = 106 then [[46, 1], []]
  else if a = 107 then [[15, 117, 108, 107], [16, 108], []]
  else if a = 108 then [[42, 100, 43]]
  else if a = 109 then [[46, 1, 109], []]
  else if a = 110 then [[117, 112]]
  else if a = 111 then [[117, 112], []]
  else if a = 112 then [[46, 117, 112], []]
  else if a = 113 then [[40, 114, 41, 108]]
  else if a = 114 then [[115], []]
  else if a = 115 then [[49], [1, 116]]
  else if a = 116 then [[46, 115], []]
  else if a = 117 then [[118, 119]]
  else if a = 118 then [[25, 118], [62, 118], [50, 118], [69, 118], [1, 120], [40, 117, 41, 120], [2], [3], [4], [24], [29], [17], [49], [18, 113], [121]]
  else if a = 119 then [] :: ([26, 10, 73, 74, 75, 76, 77, 78, 72, 68, 69, 67, 70, 71, 61, 62, 63, 64, 65, 66].map fun k => [k, 118, 119])
  else if a = 120 then sufI 120 120 ++ [[]]
  else if a = 121 then [[42, 122, 43]]
  else if a = 122 then [[124, 123], []]
  else if a = 123 then [[46, 122], []]
  else if a = 124 then [[117], [44, 117, 45, 47, 117], [48, 1, 47, 117]]
  else if a = 125 then sufI 125 126 ++ [[46, 128], [47, 110]]
  else if a = 126 then sufI 125 126 ++ [[]]
  else if a = 127 then sufI 125 126
  else if a = 128 then [[1, 129], [40, 117, 41, 130]]
  else if a = 129 then sufI 129 130 ++ [[46, 128], [47, 110]]
  else if a = 130 then sufI 129 130
  else if a = 131 then [[1, 132], [40, 117, 41, 132]]
  else if a = 132 then sufI 132 133
  else if a = 133 then sufI 132 133 ++ [[]]
  else []
/-- A kind of token begins a symbol. -/
def bgI : Nat → Int → Int → Bool
  | 0, _, _ => false
  | f + 1, a, t => if a < 100 then decide (a = t) else (rowsI a).any fun r => match r with | [] => false | h :: _ => bgI f h t
def hdI (t : Int) (r : List Int) : Bool := match r with | [] => false | h :: _ => bgI 8 h t
/-- The row of a part that a kind of token begins. -/
def rwI (a t : Int) : List Int := ((rowsI a).find? (hdI t)).getD []
def mbnI (a : Int) : Bool := (rowsI a).contains []
def mayI : List Int → Int → Bool
  | [], _ => false
  | a :: r, t => if bgI 9 a t = true then true else if mbnI a = true then mayI r t else false
def passI : Nat → List Int → Int → Option (List Int)
  | 0, _, _ => none
  | _ + 1, [], _ => none
  | f + 1, a :: r, t => if a = t then some r else passI f (rwI a t ++ r) t
/-- The model's symbols of a part. -/
def phi (a : Int) : List Int :=
  if a = 104 then [106] else if a = 105 then [107] else if a = 106 then [109] else if a = 107 then [105] else if a = 108 then [132] else if a = 109 then [104] else if a = 110 then [120, 121, 125] else if a = 111 then [123] else if a = 112 then [125]
  else if a = 113 then [133] else if a = 114 then [126] else if a = 115 then [128] else if a = 116 then [127] else if a = 117 then [120, 121] else if a = 118 then [120] else if a = 119 then [121] else if a = 120 then [122] else if a = 122 then [129] else if a = 123 then [130] else if a = 124 then [131]
  else if a = 125 then [110] else if a = 126 then [111] else if a = 127 then [112] else if a = 128 then [113] else if a = 129 then [114] else if a = 130 then [115] else if a = 131 then [116] else if a = 132 then [117] else if a = 133 then [118] else [a]
/-- The model's symbols that are others, told apart no more. -/
def psi (s : Int) : List Int := if s = 119 then [120, 121] else if s = 124 then [120, 121, 125] else if s = 108 then [123] else [s]
def canon (st : List Int) : List Int := st.flatMap psi
def imgI (st : List Int) : List Int := st.flatMap phi
def okI (a : Int) : Bool := decide (1 ≤ a ∧ a ≤ 133 ∧ a ≠ 102 ∧ a ≠ 121)
theorem canon_app (a b : List Int) : canon (a ++ b) = canon a ++ canon b := by simp [canon]
theorem imgI_app (a b : List Int) : imgI (a ++ b) = imgI a ++ imgI b := by simp [imgI]

theorem runS_more : ∀ {f g : Nat} {st : List Int} {t : Int} {n : Nat} {X : List Int × Option Bool × Nat}, runS f st t n = some X → f ≤ g → runS g st t n = some X
  | 0, _, _, _, _, _, h, _ => by simp [runS] at h
  | f + 1, 0, _, _, _, _, _, hg => by omega
  | f + 1, g + 1, [], t, n, X, h, hg => by rw [runS] at h ⊢; exact h
  | f + 1, g + 1, s :: r, t, n, X, h, hg => by
    rw [runS] at h ⊢
    split
    · rename_i h1; rw [if_pos h1] at h; exact h
    · rename_i h1
      rw [if_neg h1] at h
      split
      · rename_i h2; rw [if_pos h2] at h; exact runS_more h (by omega)
      · rename_i h2; rw [if_neg h2] at h; exact h
theorem runS_app : ∀ {f : Nat} {a c : List Int} {t : Int} {n : Nat} {lo : List Int} {b : Bool} {m : Nat}, runS f a t n = some (lo, some b, m) → runS f (a ++ c) t n = some (lo ++ c, some b, m)
  | 0, _, _, _, _, _, _, _, h => by simp [runS] at h
  | f + 1, [], _, t, n, lo, b, m, h => by simp [runS] at h
  | f + 1, s :: r, c, t, n, lo, b, m, h => by
    rw [List.cons_append]
    rw [runS] at h ⊢
    split
    · rename_i h1
      rw [if_pos h1] at h
      simp only [Option.some.injEq, Prod.mk.injEq] at h
      rw [← h.1, ← h.2.1, ← h.2.2]
    · rename_i h1
      rw [if_neg h1] at h
      split
      · rename_i h2
        rw [if_pos h2] at h
        rw [← List.append_assoc]
        exact runS_app h
      · rename_i h2
        rw [if_neg h2] at h
        simp only [Option.some.injEq, Prod.mk.injEq] at h
        rw [← h.1, ← h.2.1, ← h.2.2]
/-- A run tells what feed does. -/
theorem run_feed : ∀ {f : Nat} {st : List Int} {t : Int} {n : Nat} {lo : List Int} {ob : Option Bool} {m : Nat}, OkS st → 1 ≤ t → t ≤ 78 → runS f st t n = some (lo, ob, m) → ∀ r, (∀ b, ob = some b → feedL (st ++ r) t = (lo ++ r, b)) ∧ (ob = none → feedL (st ++ r) t = feedL r t)
  | 0, _, _, _, _, _, _, _, _, _, h, _ => by simp [runS] at h
  | f + 1, [], t, n, lo, ob, m, ho, t0, t1, h, r => by
    simp only [runS, Option.some.injEq, Prod.mk.injEq] at h
    obtain ⟨rfl, rfl, rfl⟩ := h
    exact ⟨fun b h => (by cases h), fun _ => rfl⟩
  | f + 1, s :: tl, t, n, lo, ob, m, ho, t0, t1, h, r => by
    have hs := ho s (List.mem_cons_self ..)
    have htl : OkS tl := fun x hx => ho x (List.mem_cons_of_mem _ hx)
    rw [List.cons_append]
    by_cases h0 : s < 100
    · obtain ⟨rfl, rfl, rfl⟩ := runS_tok h h0
      refine ⟨fun b hb => ?_, fun h => by cases h⟩
      rw [feedL_tok h0, ← Option.some.inj hb]
    · by_cases hn : (xE s t).1 = [] ∧ (xE s t).2 = true
      · rcases runS_cons h (by omega) with ⟨_, h2⟩ | ⟨h2, _⟩
        · rw [hn.1, List.nil_append] at h2
          have ih := run_feed htl t0 t1 h2 r
          rw [feedL_nil (by omega) hn]
          exact ih
        · rw [hn.2] at h2; cases h2
      · obtain ⟨lo1, b1, n1, e1, _⟩ := xE_run (by omega) hs t0 t1 hn
        rw [feedL_run (by omega) hn e1]
        have e2 : ∃ m2, runS 8 (s :: tl) t n = some (lo1 ++ tl, some b1, m2) := by
          have aux : ∀ {f : Nat} {st : List Int} {n1 n2 m1 : Nat} {lo : List Int} {ob : Option Bool}, runS f st t n1 = some (lo, ob, m1) → ∃ m2, runS f st t n2 = some (lo, ob, m2) := by
            intro f
            induction f with
            | zero => intro st n1 n2 m1 lo ob h; simp [runS] at h
            | succ f ih =>
              intro st n1 n2 m1 lo ob h
              cases st with
              | nil =>
                simp only [runS, Option.some.injEq, Prod.mk.injEq] at h ⊢
                exact ⟨n2, h.1, h.2.1, rfl⟩
              | cons s r =>
                rw [runS] at h ⊢
                split
                · rename_i h1
                  rw [if_pos h1] at h
                  simp only [Option.some.injEq, Prod.mk.injEq] at h ⊢
                  exact ⟨n2, h.1, h.2.1, rfl⟩
                · rename_i h1
                  rw [if_neg h1] at h
                  split
                  · rename_i h2; rw [if_pos h2] at h; exact ih h
                  · rename_i h2
                    rw [if_neg h2] at h
                    simp only [Option.some.injEq, Prod.mk.injEq] at h ⊢
                    exact ⟨n2, h.1, h.2.1, rfl⟩
          obtain ⟨m2, e⟩ := aux (n2 := n) e1
          exact ⟨m2, by have := runS_app (c := tl) e; simpa using this⟩
        obtain ⟨m2, e2⟩ := e2
        have g1 := runS_more h (show f + 1 ≤ f + 9 by omega)
        have g2 := runS_more e2 (show 8 ≤ f + 9 by omega)
        rw [g1] at g2
        simp only [Option.some.injEq, Prod.mk.injEq] at g2
        obtain ⟨rfl, rfl, _⟩ := g2
        refine ⟨fun b hb => ?_, fun h => by cases h⟩
        rw [Option.some.inj hb, List.append_assoc]

/-- Each symbol of the model against what it is told apart no more from. -/
def chkC (s t : Int) : Bool := match runS 12 [s] t 0, runS 12 (psi s) t 0 with
  | some (lo, some b, _), some (lo', some b', _) => b == b' && (!b || decide (canon lo = canon lo'))
  | some (_, none, _), some (_, none, _) => true
  | _, _ => false
set_option maxRecDepth 100000 in
theorem chkC_all : ((List.range 34).all fun s => (List.range 78).all fun t => chkC ((s : Int) + 100) ((t : Int) + 1)) = true := by decide +kernel
/-- Each part of the guard against the model's symbols. -/
def chkI (a t : Int) : Bool :=
  if bgI 9 a t = true then (match passI 9 [a] t, runS 12 (phi a) t 0 with
    | some lo, some (lo', some true, _) => lo.all okI && decide (canon lo' = imgI lo)
    | _, _ => false)
  else if mbnI a = true then (rwI a t).isEmpty && (match runS 12 (phi a) t 0 with | some (_, none, _) => true | _ => false)
  else (match runS 12 (phi a) t 0 with | some (_, some false, _) => true | _ => false)
set_option maxRecDepth 100000 in
theorem chkI_all : ((List.range 133).all fun a => !(okI ((a : Int) + 1)) || (List.range 78).all fun t => chkI ((a : Int) + 1) ((t : Int) + 1)) = true := by decide +kernel
theorem chkC_at {s t : Int} (h0 : 100 ≤ s) (h1 : s ≤ 133) (t0 : 1 ≤ t) (t1 : t ≤ 78) : chkC s t = true := by
  have h := List.all_eq_true.1 chkC_all (s - 100).toNat (by rw [List.mem_range]; omega)
  have h2 := List.all_eq_true.1 h (t - 1).toNat (by rw [List.mem_range]; omega)
  have e1 : (((s - 100).toNat : Nat) : Int) + 100 = s := by omega
  have e2 : (((t - 1).toNat : Nat) : Int) + 1 = t := by omega
  rw [e1, e2] at h2
  exact h2
theorem chkI_at {a t : Int} (ha : okI a = true) (t0 : 1 ≤ t) (t1 : t ≤ 78) : chkI a t = true := by
  have hb := of_decide_eq_true ha
  have h := List.all_eq_true.1 chkI_all (a - 1).toNat (by rw [List.mem_range]; omega)
  have e1 : (((a - 1).toNat : Nat) : Int) + 1 = a := by omega
  rw [e1, ha] at h
  have h2 := List.all_eq_true.1 (by simpa using h : ((List.range 78).all fun t => chkI a ((t : Int) + 1)) = true) (t - 1).toNat (by rw [List.mem_range]; omega)
  have e2 : (((t - 1).toNat : Nat) : Int) + 1 = t := by omega
  rw [e2] at h2
  exact h2
theorem psi_ok {s : Int} (h : s ≤ 133) : OkS (psi s) := by
  unfold psi
  intro x hx
  split at hx
  · simp at hx; omega
  split at hx
  · simp at hx; omega
  split at hx
  · simp at hx; omega
  · simp at hx; omega
theorem canon_psi (s : Int) : canon (psi s) = psi s := by
  unfold psi
  split
  · decide
  split
  · decide
  split
  · decide
  · rename_i h1 h2 h3
    simp [canon, psi, h1, h2, h3]
theorem canon_canon : ∀ st : List Int, canon (canon st) = canon st
  | [] => rfl
  | s :: r => by
    show canon (psi s ++ canon r) = psi s ++ canon r
    rw [canon_app, canon_psi, canon_canon r]
theorem canon_cons (s : Int) (r : List Int) : canon (s :: r) = psi s ++ canon r := rfl
theorem imgI_cons (s : Int) (r : List Int) : imgI (s :: r) = phi s ++ imgI r := rfl
/-- Feed sees no difference. -/
theorem canon_feed : ∀ {st : List Int} {t : Int}, OkS st → 1 ≤ t → t ≤ 78 → (feedL (canon st) t).2 = (feedL st t).2 ∧ ((feedL st t).2 = true → canon (feedL (canon st) t).1 = canon (feedL st t).1)
  | [], t, ho, _, _ => ⟨rfl, fun _ => rfl⟩
  | s :: r, t, ho, t0, t1 => by
    have hs := ho s (List.mem_cons_self ..)
    have hr : OkS r := fun x hx => ho x (List.mem_cons_of_mem _ hx)
    rw [canon_cons]
    by_cases h0 : s < 100
    · have e : psi s = [s] := by unfold psi; rw [if_neg (by omega), if_neg (by omega), if_neg (by omega)]
      rw [e, List.singleton_append, feedL_tok h0, feedL_tok h0]
      exact ⟨rfl, fun _ => canon_canon r⟩
    · have hc := chkC_at (by omega) hs t0 t1
      unfold chkC at hc
      have hs1 : OkS [s] := fun x hx => by obtain rfl := List.mem_singleton.1 hx; exact hs
      split at hc
      · rename_i lo b m lo' b' m' e1 e2
        have f1 := (run_feed hs1 t0 t1 e1 r).1 b rfl
        have f2 := (run_feed (psi_ok hs) t0 t1 e2 (canon r)).1 b' rfl
        rw [List.singleton_append] at f1
        rw [f1, f2]
        rw [Bool.and_eq_true] at hc
        have hb : b = b' := by simpa using hc.1
        subst hb
        refine ⟨rfl, fun hb => ?_⟩
        simp only at hb
        subst hb
        have hcc : canon lo = canon lo' := by simpa using hc.2
        show canon (lo' ++ canon r) = canon (lo ++ r)
        rw [canon_app, canon_app, canon_canon, hcc]
      · rename_i lo m lo' m' e1 e2
        have f1 := (run_feed hs1 t0 t1 e1 r).2 rfl
        have f2 := (run_feed (psi_ok hs) t0 t1 e2 (canon r)).2 rfl
        rw [List.singleton_append] at f1
        rw [f1, f2]
        exact canon_feed hr t0 t1
      · cases hc
def OkI (st : List Int) : Prop := ∀ a ∈ st, okI a = true
set_option maxRecDepth 100000 in
theorem phi_all : ((List.range 133).all fun a => !(okI ((a : Int) + 1)) || ((phi ((a : Int) + 1)).all (fun x => decide (x ≤ 133)) && decide (canon (phi ((a : Int) + 1)) = phi ((a : Int) + 1)))) = true := by decide +kernel
theorem phi_at {a : Int} (ha : okI a = true) : OkS (phi a) ∧ canon (phi a) = phi a := by
  have hb := of_decide_eq_true ha
  have h := List.all_eq_true.1 phi_all (a - 1).toNat (by rw [List.mem_range]; omega)
  have e1 : (((a - 1).toNat : Nat) : Int) + 1 = a := by omega
  rw [e1, ha, Bool.not_true, Bool.false_or, Bool.and_eq_true] at h
  exact ⟨fun x hx => of_decide_eq_true (List.all_eq_true.1 h.1 x hx), of_decide_eq_true h.2⟩
theorem phi_ok {a : Int} (h : okI a = true) : OkS (phi a) := (phi_at h).1
theorem imgI_ok : ∀ {st : List Int}, OkI st → OkS (imgI st)
  | [], h => fun x hx => by simp [imgI] at hx
  | a :: r, h => by
    rw [imgI_cons]
    intro x hx
    rcases List.mem_append.1 hx with hx | hx
    · exact phi_ok (h a (List.mem_cons_self ..)) x hx
    · exact imgI_ok (fun y hy => h y (List.mem_cons_of_mem _ hy)) x hx
theorem canon_phi {a : Int} (h : okI a = true) : canon (phi a) = phi a := (phi_at h).2
theorem canon_imgI : ∀ {st : List Int}, OkI st → canon (imgI st) = imgI st
  | [], _ => rfl
  | a :: r, h => by
    rw [imgI_cons, canon_app, canon_phi (h a (List.mem_cons_self ..)), canon_imgI (fun y hy => h y (List.mem_cons_of_mem _ hy))]
theorem passI_app : ∀ {f : Nat} {a c lo : List Int} {t : Int}, passI f a t = some lo → passI f (a ++ c) t = some (lo ++ c)
  | 0, _, _, _, _, h => by simp [passI] at h
  | f + 1, [], _, _, _, h => by simp [passI] at h
  | f + 1, a :: r, c, lo, t, h => by
    rw [List.cons_append]
    rw [passI] at h ⊢
    split
    · rename_i h1
      rw [if_pos h1] at h
      rw [← Option.some.inj h]
    · rename_i h1
      rw [if_neg h1] at h
      rw [← List.append_assoc]
      exact passI_app h
theorem passI_more : ∀ {f g : Nat} {st lo : List Int} {t : Int}, passI f st t = some lo → f ≤ g → passI g st t = some lo
  | 0, _, _, _, _, h, _ => by simp [passI] at h
  | f + 1, 0, _, _, _, _, hg => by omega
  | f + 1, g + 1, [], _, _, h, _ => by simp [passI] at h
  | f + 1, g + 1, a :: r, lo, t, h, hg => by
    rw [passI] at h ⊢
    split
    · rename_i h1; rw [if_pos h1] at h; exact h
    · rename_i h1; rw [if_neg h1] at h; exact passI_more h (by omega)
/-- The guard's stack and the model's image of it: the same tokens may stand; behind one that may, they are alike again. -/
theorem impl_feed : ∀ {st : List Int} {t : Int}, OkI st → 1 ≤ t → t ≤ 78 → mayI st t = (feedL (imgI st) t).2 ∧ (mayI st t = true → ∃ st', passI (st.length + 9) st t = some st' ∧ OkI st' ∧ canon (feedL (imgI st) t).1 = imgI st')
  | [], t, ho, _, _ => ⟨rfl, fun h => by simp [mayI] at h⟩
  | a :: r, t, ho, t0, t1 => by
    have ha := ho a (List.mem_cons_self ..)
    have hr : OkI r := fun x hx => ho x (List.mem_cons_of_mem _ hx)
    have hc := chkI_at ha t0 t1
    have hpo := phi_ok ha
    rw [imgI_cons, mayI]
    unfold chkI at hc
    by_cases hb : bgI 9 a t = true
    · rw [if_pos hb] at hc ⊢
      split at hc
      · rename_i lo lo' m e1 e2
        have f2 := (run_feed hpo t0 t1 e2 (imgI r)).1 true rfl
        rw [f2]
        rw [Bool.and_eq_true] at hc
        have hcc := of_decide_eq_true hc.2
        refine ⟨rfl, fun _ => ⟨lo ++ r, ?_, ?_, ?_⟩⟩
        · exact passI_more (passI_app (c := r) e1) (by omega)
        · intro x hx
          rcases List.mem_append.1 hx with hx | hx
          · exact List.all_eq_true.1 hc.1 x hx
          · exact hr x hx
        · show canon (lo' ++ imgI r) = imgI (lo ++ r)
          rw [canon_app, imgI_app, hcc]
          congr 1
          exact canon_imgI hr
      · cases hc
    · rw [if_neg hb] at hc ⊢
      by_cases hm : mbnI a = true
      · rw [if_pos hm] at hc ⊢
        rw [Bool.and_eq_true] at hc
        have hc2 := hc.2
        split at hc2
        · rename_i lo m e2
          have f2 := (run_feed hpo t0 t1 e2 (imgI r)).2 rfl
          rw [f2]
          obtain ⟨g1, g2⟩ := impl_feed hr t0 t1
          refine ⟨g1, fun h => ?_⟩
          obtain ⟨st', p1, p2, p3⟩ := g2 h
          refine ⟨st', ?_, p2, p3⟩
          have hat : ¬ a = t := fun e => by
            subst e
            have hb2 := of_decide_eq_true ha
            have : bgI 9 a a = true := by rw [bgI, if_pos (by omega)]; exact decide_eq_true rfl
            exact hb this
          have hrw : rwI a t = [] := by simpa using hc.1
          rw [show (a :: r).length + 9 = (r.length + 9) + 1 from Nat.add_right_comm r.length 1 9, passI, if_neg hat, hrw, List.nil_append]
          exact p1
        · cases hc2
      · rw [if_neg hm] at hc ⊢
        split at hc
        · rename_i lo m e2
          have f2 := (run_feed hpo t0 t1 e2 (imgI r)).1 false rfl
          rw [f2]
          exact ⟨rfl, fun h => by cases h⟩
        · cases hc
/-- The guard's stack and the model's are alike. -/
structure Sim (st stk : List Int) : Prop where
  o1 : OkI st
  o2 : OkS stk
  eq : canon stk = imgI st
theorem Sim.may {st stk : List Int} (h : Sim st stk) {t : Int} (t0 : 1 ≤ t) (t1 : t ≤ 78) : mayI st t = (feedL stk t).2 := by
  rw [(impl_feed h.o1 t0 t1).1, ← h.eq]
  exact (canon_feed h.o2 t0 t1).1
theorem Sim.pass {st stk : List Int} (h : Sim st stk) {t : Int} (t0 : 1 ≤ t) (t1 : t ≤ 78) (hm : mayI st t = true) : ∃ st', passI (st.length + 9) st t = some st' ∧ Sim st' (feedL stk t).1 := by
  obtain ⟨st', p1, p2, p3⟩ := (impl_feed h.o1 t0 t1).2 hm
  refine ⟨st', p1, p2, feedL_ok h.o2 t0 t1, ?_⟩
  rw [← p3, ← h.eq]
  exact ((canon_feed h.o2 t0 t1).2 (by rw [← h.may t0 t1]; exact hm)).symm
theorem sim_begin : Sim [100, 6] [100, 6] := ⟨by unfold OkI; decide, by unfold OkS; decide, by decide⟩
end Go.Proofs.YtdlhfiheingibaaGreatDoor

namespace Go.Proofs.YtdlhfiheingibaaGreatDoor
open Go.RowKit
set_option linter.unusedVariables false

/-- A node of a tree. -/
structure Nd where
  k : Int
  f : Int
  t : Int
  l : Int
  op : Int
  n : Int
  x : ByteArray
  nm : List ByteArray
  ks : List Int

/-- A slice of texts, a slice of ints in memory, to be read. -/
def StrsAt (W : World) (v : Value) (l : List ByteArray) : Prop :=
  (l = [] ∧ ∃ a c, v = .slice a 0 c) ∨ ∃ a c, v = .slice (some a) l.length c ∧ ∀ j s, l[j]? = some s → W.cell? (a.add j) = some (.string s)
def IntsAt (W : World) (v : Value) (l : List Int) : Prop :=
  (l = [] ∧ ∃ a c, v = .slice a 0 c) ∨ ∃ a c, v = .slice (some a) l.length c ∧ ∀ j z, l[j]? = some z → W.cell? (a.add j) = some (.int .i64 z)
/-- A node in memory: nine cells from a on. -/
structure NdAt (W : World) (a : Addr) (N : Nd) (vn vk : Value) : Prop where
  c0 : W.cell? a = some (.int .i64 N.k)
  c1 : W.cell? ⟨a.block, a.off + 1, none⟩ = some (.int .i64 N.f)
  c2 : W.cell? ⟨a.block, a.off + 2, none⟩ = some (.int .i64 N.t)
  c3 : W.cell? ⟨a.block, a.off + 3, none⟩ = some (.int .i64 N.l)
  c4 : W.cell? ⟨a.block, a.off + 4, none⟩ = some (.int .i64 N.op)
  c5 : W.cell? ⟨a.block, a.off + 5, none⟩ = some (.int .i64 N.n)
  c6 : W.cell? ⟨a.block, a.off + 6, none⟩ = some (.string N.x)
  c7 : W.cell? ⟨a.block, a.off + 7, none⟩ = some vn
  c8 : W.cell? ⟨a.block, a.off + 8, none⟩ = some vk
  hn : StrsAt W vn N.nm
  hk : IntsAt W vk N.ks
def NdsAt (W : World) (v : Value) (ns : List Nd) : Prop :=
  (ns = [] ∧ ∃ a c, v = .slice a 0 c) ∨ ∃ a c, v = .slice (some a) ns.length c ∧ ∀ i N, ns[i]? = some N → ∃ vn vk, NdAt W (a.add (i * 9)) N vn vk

theorem cell_lt {W : World} {a : Addr} {v : Value} (h : W.cell? a = some v) : a.block < W.heap.size := by
  unfold World.cell? at h
  rcases Nat.lt_or_ge a.block W.heap.size with g | g
  · exact g
  · rw [Array.getElem?_eq_none g] at h; simp at h
theorem cell_kept {W W' : World} (hb : Below W.heap.size W W') {a : Addr} {v : Value} (h : W.cell? a = some v) : W'.cell? a = some v := by
  rw [← h]
  unfold World.cell?
  rw [hb.block _ (cell_lt h)]
theorem StrsAt.below {W W' : World} {v : Value} {l : List ByteArray} (h : StrsAt W v l) (hb : Below W.heap.size W W') : StrsAt W' v l := by
  rcases h with h | ⟨a, c, h1, h2⟩
  · exact .inl h
  · exact .inr ⟨a, c, h1, fun j s hs => cell_kept hb (h2 j s hs)⟩
theorem IntsAt.below {W W' : World} {v : Value} {l : List Int} (h : IntsAt W v l) (hb : Below W.heap.size W W') : IntsAt W' v l := by
  rcases h with h | ⟨a, c, h1, h2⟩
  · exact .inl h
  · exact .inr ⟨a, c, h1, fun j s hs => cell_kept hb (h2 j s hs)⟩
theorem NdAt.below {W W' : World} {a : Addr} {N : Nd} {vn vk : Value} (h : NdAt W a N vn vk) (hb : Below W.heap.size W W') : NdAt W' a N vn vk :=
  ⟨cell_kept hb h.c0, cell_kept hb h.c1, cell_kept hb h.c2, cell_kept hb h.c3, cell_kept hb h.c4, cell_kept hb h.c5, cell_kept hb h.c6, cell_kept hb h.c7, cell_kept hb h.c8, h.hn.below hb, h.hk.below hb⟩
theorem NdsAt.below {W W' : World} {v : Value} {ns : List Nd} (h : NdsAt W v ns) (hb : Below W.heap.size W W') : NdsAt W' v ns := by
  rcases h with h | ⟨a, c, h1, h2⟩
  · exact .inl h
  · exact .inr ⟨a, c, h1, fun i N hN => by obtain ⟨vn, vk, g⟩ := h2 i N hN; exact ⟨vn, vk, g.below hb⟩⟩
theorem StrsAt.form {W : World} {v : Value} {l : List ByteArray} (h : StrsAt W v l) : ∃ a c, v = .slice a l.length c := by
  rcases h with ⟨rfl, a, c, h⟩ | ⟨a, c, h1, h2⟩
  · exact ⟨a, c, h⟩
  · exact ⟨_, _, h1⟩
theorem IntsAt.form {W : World} {v : Value} {l : List Int} (h : IntsAt W v l) : ∃ a c, v = .slice a l.length c := by
  rcases h with ⟨rfl, a, c, h⟩ | ⟨a, c, h1, h2⟩
  · exact ⟨a, c, h⟩
  · exact ⟨_, _, h1⟩
theorem NdsAt.form {W : World} {v : Value} {l : List Nd} (h : NdsAt W v l) : ∃ a c, v = .slice a l.length c := by
  rcases h with ⟨rfl, a, c, h⟩ | ⟨a, c, h1, h2⟩
  · exact ⟨a, c, h⟩
  · exact ⟨_, _, h1⟩
theorem StrsAt.get {W : World} {a : Option Addr} {n c : Nat} {l : List ByteArray} (h : StrsAt W (.slice a n c) l) {k : Nat} {s : ByteArray} (hk : l[k]? = some s) : ∃ a', a = some a' ∧ W.cell? (a'.add k) = some (.string s) := by
  rcases h with ⟨rfl, _⟩ | ⟨a', c', e, hc⟩
  · simp at hk
  · cases e; exact ⟨a', rfl, hc k s hk⟩
theorem IntsAt.get {W : World} {a : Option Addr} {n c : Nat} {l : List Int} (h : IntsAt W (.slice a n c) l) {k : Nat} {s : Int} (hk : l[k]? = some s) : ∃ a', a = some a' ∧ W.cell? (a'.add k) = some (.int .i64 s) := by
  rcases h with ⟨rfl, _⟩ | ⟨a', c', e, hc⟩
  · simp at hk
  · cases e; exact ⟨a', rfl, hc k s hk⟩
theorem NdsAt.get {W : World} {a : Option Addr} {n c : Nat} {l : List Nd} (h : NdsAt W (.slice a n c) l) {k : Nat} {N : Nd} (hk : l[k]? = some N) : ∃ a', a = some a' ∧ ∃ vn vk, NdAt W (a'.add (k * 9)) N vn vk := by
  rcases h with ⟨rfl, _⟩ | ⟨a', c', e, hc⟩
  · simp at hk
  · cases e; exact ⟨a', rfl, hc k N hk⟩
theorem own_keep {w w' : World} {base e size : Nat} {v : Value} {n : Nat} {xs : List Value} (h : w.ownsRow base e size v n xs) (hb : Below w.heap.size w w') : w'.ownsRow base e size v n xs :=
  h.kept (row := none) ⟨hb.os, hb.tape, hb.output, hb.size, fun k hk _ => hb.block k hk⟩ (by cases v.ownBlock <;> simp)
theorem own_le {w : World} {base base' e size : Nat} {v : Value} {n : Nat} {xs : List Value} (h : w.ownsRow base e size v n xs) (hb : base' ≤ base) : w.ownsRow base' e size v n xs := by
  obtain ⟨h1, h2⟩ := h
  refine ⟨h1, ?_⟩
  rcases h2 with h2 | ⟨g, cap, cur, hv, hg, rest⟩
  · exact .inl h2
  · exact .inr ⟨g, cap, cur, hv, Nat.le_trans hb hg, rest⟩
theorem some_at {α : Type} {l : List α} {n k : Nat} (hn : l.length = n) (h : k < n) : ∃ s, l[k]? = some s := ⟨l[k]'(by omega), List.getElem?_eq_getElem _⟩
end Go.Proofs.YtdlhfiheingibaaGreatDoor

namespace Go.Proofs.YtdlhfiheingibaaGreatDoor
open Go.RowKit
set_option linter.unusedVariables false

theorem infoStr : (Tryz.prog.info? 9).map (fun i => (i.zero, i.size, i.bytes)) = some (some (.string ⟨#[]⟩), 1, 16) := by kernel_rfl
theorem infoInt : (Tryz.prog.info? 3).map (fun i => (i.zero, i.size, i.bytes)) = some (some (.int .i64 0), 1, 8) := by kernel_rfl
theorem fill_set {α : Type} (xs : List α) (f : α → Value) (z : Value) (n k : Nat) (s : α) (hn : xs.length = n) (hs : xs[k]? = some s) (hk : k < n) :
    ((xs.take k).map f ++ List.replicate (n - k) z).set k (f s) = (xs.take (k + 1)).map f ++ List.replicate (n - (k + 1)) z := by
  have hl : ((xs.take k).map f).length = k := by rw [List.length_map, List.length_take]; omega
  rw [List.set_append_right _ _ (by omega), hl, Nat.sub_self, show n - k = (n - (k + 1)) + 1 by omega, List.replicate_succ, List.set_cons_zero, List.take_add_one, hs]
  simp

theorem own_strs {W : World} {base g n c : Nat} {l : List ByteArray} (h : W.ownsRow base 9 1 (.slice (some ⟨g, 0, none⟩) n c) n (l.map Value.string)) (hn : l.length = n) : StrsAt W (.slice (some ⟨g, 0, none⟩) n c) l := by
  subst hn
  refine .inr ⟨⟨g, 0, none⟩, c, rfl, fun j s hs => ?_⟩
  have hj : j < l.length := by rcases Nat.lt_or_ge j l.length with h | h; exact h; rw [List.getElem?_eq_none h] at hs; cases hs
  have e : (⟨g, 0, none⟩ : Addr).add j = ⟨g, j, none⟩ := by unfold Addr.add; split <;> simp_all
  rw [e, h.cellAt j (by omega), List.getElem?_map, hs]; rfl
theorem own_ints {W : World} {base g n c : Nat} {l : List Int} (h : W.ownsRow base 3 1 (.slice (some ⟨g, 0, none⟩) n c) n (l.map (Value.int .i64))) (hn : l.length = n) : IntsAt W (.slice (some ⟨g, 0, none⟩) n c) l := by
  subst hn
  refine .inr ⟨⟨g, 0, none⟩, c, rfl, fun j s hs => ?_⟩
  have hj : j < l.length := by rcases Nat.lt_or_ge j l.length with h | h; exact h; rw [List.getElem?_eq_none h] at hs; cases hs
  have e : (⟨g, 0, none⟩ : Addr).add j = ⟨g, j, none⟩ := by unfold Addr.add; split <;> simp_all
  rw [e, h.cellAt j (by omega), List.getElem?_map, hs]; rfl
end Go.Proofs.YtdlhfiheingibaaGreatDoor

namespace Go.Proofs.YtdlhfiheingibaaGreatDoor
open Go.RowKit
set_option linter.unusedVariables false

def sumS : List ByteArray → Nat
  | [] => 0
  | s :: l => s.size + sumS l
theorem sumS_app (a b : List ByteArray) : sumS (a ++ b) = sumS a + sumS b := by
  induction a with
  | nil => simp [sumS]
  | cons x r ih => simp [sumS, ih]; omega
theorem sumS_take (l : List ByteArray) (k : Nat) (s : ByteArray) (h : l[k]? = some s) : sumS (l.take (k + 1)) = sumS (l.take k) + s.size := by
  rw [List.take_add_one, h, sumS_app]; simp [sumS]
theorem sumS_le (l : List ByteArray) (k : Nat) : sumS (l.take k) ≤ sumS l := by
  have h := sumS_app (l.take k) (l.drop k)
  rw [List.take_append_drop] at h
  omega
def bulkS (l : List ByteArray) : Nat := l.length + sumS l
def lessI (left : Int) (b : Nat) : Int := if (b : Int) ≤ left then left - b else -1
theorem lessI_yes {left : Int} {b : Nat} (h : (b : Int) ≤ left) : lessI left b = left - b := by unfold lessI; rw [if_pos h]
theorem lessI_no {left : Int} {b : Nat} (h : ¬ (b : Int) ≤ left) : lessI left b = -1 := by unfold lessI; rw [if_neg h]

theorem lessI_two {left : Int} {a b : Nat} (h : (a : Int) ≤ left) : lessI (left - a) b = lessI left (a + b) := by
  unfold lessI
  by_cases g : (b : Int) ≤ left - a
  · rw [if_pos g, if_pos (by omega)]; omega
  · rw [if_neg g, if_neg (by omega)]
/-- A node's lengths are lengths. -/
structure NdLen (N : Nd) : Prop where
  x : N.x.size ≤ 9223372036854775807
  s : ∀ s ∈ N.nm, s.size ≤ 9223372036854775807
  n : N.nm.length ≤ 9223372036854775807
  k : N.ks.length ≤ 9223372036854775807
def bulkN (N : Nd) : Nat := N.x.size + (bulkS N.nm + N.ks.length)
def vNd (N : Nd) (vn vk : Value) : Value := .agg #[.int .i64 N.k, .int .i64 N.f, .int .i64 N.t, .int .i64 N.l, .int .i64 N.op, .int .i64 N.n, .string N.x, vn, vk]

end Go.Proofs.YtdlhfiheingibaaGreatDoor

namespace Go.Proofs.YtdlhfiheingibaaGreatDoor
open Go.RowKit
set_option linter.unusedVariables false

/-- A node in a block of its own. -/
def NdBox (b : Nat) (W : World) (t : TypeId) (N : Nd) (vn vk : Value) : Prop :=
  W.heap[b]? = some (.cells #[.int .i64 N.k, .int .i64 N.f, .int .i64 N.t, .int .i64 N.l, .int .i64 N.op, .int .i64 N.n, .string N.x, vn, vk] t (0, 0))
theorem nd_cells {b : Nat} {W : World} {t : TypeId} {N : Nd} {vn vk : Value} (h : NdBox b W t N vn vk) :
    W.cell? ⟨b, 0, none⟩ = some (.int .i64 N.k) ∧ W.cell? ⟨b, 1, none⟩ = some (.int .i64 N.f) ∧ W.cell? ⟨b, 2, none⟩ = some (.int .i64 N.t) ∧ W.cell? ⟨b, 3, none⟩ = some (.int .i64 N.l) ∧ W.cell? ⟨b, 4, none⟩ = some (.int .i64 N.op) ∧ W.cell? ⟨b, 5, none⟩ = some (.int .i64 N.n) ∧ W.cell? ⟨b, 6, none⟩ = some (.string N.x) ∧ W.cell? ⟨b, 7, none⟩ = some vn ∧ W.cell? ⟨b, 8, none⟩ = some vk ∧ (∀ j, W.frozen? ⟨b, j, none⟩ = false) := by
  unfold NdBox at h
  exact ⟨by rw [cell_of_row _ _ _ _ _ _ h]; rfl, by rw [cell_of_row _ _ _ _ _ _ h]; rfl, by rw [cell_of_row _ _ _ _ _ _ h]; rfl, by rw [cell_of_row _ _ _ _ _ _ h]; rfl, by rw [cell_of_row _ _ _ _ _ _ h]; rfl, by rw [cell_of_row _ _ _ _ _ _ h]; rfl, by rw [cell_of_row _ _ _ _ _ _ h]; rfl, by rw [cell_of_row _ _ _ _ _ _ h]; rfl, by rw [cell_of_row _ _ _ _ _ _ h]; rfl, fun j => frozen_of_row _ _ _ _ _ h⟩
def zNd : Nd := ⟨0, 0, 0, 0, 0, 0, { data := #[] }, [], []⟩
theorem NdBox.below {b : Nat} {W W' : World} {t : TypeId} {N : Nd} {vn vk : Value} (h : NdBox b W t N vn vk) (hb : Below W.heap.size W W') : NdBox b W' t N vn vk := (hb.block _ (lt_of_block h)).trans h

def set9 (W : World) (b : Nat) (N : Nd) (vn vk : Value) : World := (((((((((W.setCell ⟨b, 0, none⟩ (.int .i64 N.k)).setCell ⟨b, 1, none⟩ (.int .i64 N.f)).setCell ⟨b, 2, none⟩ (.int .i64 N.t)).setCell ⟨b, 3, none⟩ (.int .i64 N.l)).setCell ⟨b, 4, none⟩ (.int .i64 N.op)).setCell ⟨b, 5, none⟩ (.int .i64 N.n)).setCell ⟨b, 6, none⟩ (.string N.x)).setCell ⟨b, 7, none⟩ (vn)).setCell ⟨b, 8, none⟩ (vk))
theorem nd_set9 {b : Nat} {W : World} {t : TypeId} {M : Nd} {vm vl : Value} (h : NdBox b W t M vm vl) (N : Nd) (vn vk : Value) : NdBox b (set9 W b N vn vk) t N vn vk := by
  unfold set9
  have s0 : (W.setCell ⟨b, 0, none⟩ (.int .i64 N.k)).heap[b]? = some (.cells #[.int .i64 N.k, .int .i64 M.f, .int .i64 M.t, .int .i64 M.l, .int .i64 M.op, .int .i64 M.n, .string M.x, vm, vl] t (0, 0)) := heap_setCell_same _ b 0 _ _ _ h
  have s1 : ((W.setCell ⟨b, 0, none⟩ (.int .i64 N.k)).setCell ⟨b, 1, none⟩ (.int .i64 N.f)).heap[b]? = some (.cells #[.int .i64 N.k, .int .i64 N.f, .int .i64 M.t, .int .i64 M.l, .int .i64 M.op, .int .i64 M.n, .string M.x, vm, vl] t (0, 0)) := heap_setCell_same _ b 1 _ _ _ s0
  have s2 : (((W.setCell ⟨b, 0, none⟩ (.int .i64 N.k)).setCell ⟨b, 1, none⟩ (.int .i64 N.f)).setCell ⟨b, 2, none⟩ (.int .i64 N.t)).heap[b]? = some (.cells #[.int .i64 N.k, .int .i64 N.f, .int .i64 N.t, .int .i64 M.l, .int .i64 M.op, .int .i64 M.n, .string M.x, vm, vl] t (0, 0)) := heap_setCell_same _ b 2 _ _ _ s1
  have s3 : ((((W.setCell ⟨b, 0, none⟩ (.int .i64 N.k)).setCell ⟨b, 1, none⟩ (.int .i64 N.f)).setCell ⟨b, 2, none⟩ (.int .i64 N.t)).setCell ⟨b, 3, none⟩ (.int .i64 N.l)).heap[b]? = some (.cells #[.int .i64 N.k, .int .i64 N.f, .int .i64 N.t, .int .i64 N.l, .int .i64 M.op, .int .i64 M.n, .string M.x, vm, vl] t (0, 0)) := heap_setCell_same _ b 3 _ _ _ s2
  have s4 : (((((W.setCell ⟨b, 0, none⟩ (.int .i64 N.k)).setCell ⟨b, 1, none⟩ (.int .i64 N.f)).setCell ⟨b, 2, none⟩ (.int .i64 N.t)).setCell ⟨b, 3, none⟩ (.int .i64 N.l)).setCell ⟨b, 4, none⟩ (.int .i64 N.op)).heap[b]? = some (.cells #[.int .i64 N.k, .int .i64 N.f, .int .i64 N.t, .int .i64 N.l, .int .i64 N.op, .int .i64 M.n, .string M.x, vm, vl] t (0, 0)) := heap_setCell_same _ b 4 _ _ _ s3
  have s5 : ((((((W.setCell ⟨b, 0, none⟩ (.int .i64 N.k)).setCell ⟨b, 1, none⟩ (.int .i64 N.f)).setCell ⟨b, 2, none⟩ (.int .i64 N.t)).setCell ⟨b, 3, none⟩ (.int .i64 N.l)).setCell ⟨b, 4, none⟩ (.int .i64 N.op)).setCell ⟨b, 5, none⟩ (.int .i64 N.n)).heap[b]? = some (.cells #[.int .i64 N.k, .int .i64 N.f, .int .i64 N.t, .int .i64 N.l, .int .i64 N.op, .int .i64 N.n, .string M.x, vm, vl] t (0, 0)) := heap_setCell_same _ b 5 _ _ _ s4
  have s6 : (((((((W.setCell ⟨b, 0, none⟩ (.int .i64 N.k)).setCell ⟨b, 1, none⟩ (.int .i64 N.f)).setCell ⟨b, 2, none⟩ (.int .i64 N.t)).setCell ⟨b, 3, none⟩ (.int .i64 N.l)).setCell ⟨b, 4, none⟩ (.int .i64 N.op)).setCell ⟨b, 5, none⟩ (.int .i64 N.n)).setCell ⟨b, 6, none⟩ (.string N.x)).heap[b]? = some (.cells #[.int .i64 N.k, .int .i64 N.f, .int .i64 N.t, .int .i64 N.l, .int .i64 N.op, .int .i64 N.n, .string N.x, vm, vl] t (0, 0)) := heap_setCell_same _ b 6 _ _ _ s5
  have s7 : ((((((((W.setCell ⟨b, 0, none⟩ (.int .i64 N.k)).setCell ⟨b, 1, none⟩ (.int .i64 N.f)).setCell ⟨b, 2, none⟩ (.int .i64 N.t)).setCell ⟨b, 3, none⟩ (.int .i64 N.l)).setCell ⟨b, 4, none⟩ (.int .i64 N.op)).setCell ⟨b, 5, none⟩ (.int .i64 N.n)).setCell ⟨b, 6, none⟩ (.string N.x)).setCell ⟨b, 7, none⟩ (vn)).heap[b]? = some (.cells #[.int .i64 N.k, .int .i64 N.f, .int .i64 N.t, .int .i64 N.l, .int .i64 N.op, .int .i64 N.n, .string N.x, vn, vl] t (0, 0)) := heap_setCell_same _ b 7 _ _ _ s6
  have s8 : (((((((((W.setCell ⟨b, 0, none⟩ (.int .i64 N.k)).setCell ⟨b, 1, none⟩ (.int .i64 N.f)).setCell ⟨b, 2, none⟩ (.int .i64 N.t)).setCell ⟨b, 3, none⟩ (.int .i64 N.l)).setCell ⟨b, 4, none⟩ (.int .i64 N.op)).setCell ⟨b, 5, none⟩ (.int .i64 N.n)).setCell ⟨b, 6, none⟩ (.string N.x)).setCell ⟨b, 7, none⟩ (vn)).setCell ⟨b, 8, none⟩ (vk)).heap[b]? = some (.cells #[.int .i64 N.k, .int .i64 N.f, .int .i64 N.t, .int .i64 N.l, .int .i64 N.op, .int .i64 N.n, .string N.x, vn, vk] t (0, 0)) := heap_setCell_same _ b 8 _ _ _ s7
  exact s8
theorem own_set9 {W : World} {base e size : Nat} {v : Value} {n : Nat} {xs : List Value} {b : Nat} (h : W.ownsRow base e size v n xs) (hb : b < base) (N : Nd) (vn vk : Value) : (set9 W b N vn vk).ownsRow base e size v n xs := by
  unfold set9
  iterate 9 refine ownsRow_setCell_below ?_ hb _
  exact h
theorem below_set9 {w W : World} {base b : Nat} (h : Below base w W) (hb : base ≤ b) (N : Nd) (vn vk : Value) : Below base w (set9 W b N vn vk) := by
  unfold set9
  iterate 9 refine Below.setCell ?_ hb _
  exact h

end Go.Proofs.YtdlhfiheingibaaGreatDoor

namespace Go.Proofs.YtdlhfiheingibaaGreatDoor
open Go.RowKit
set_option linter.unusedVariables false

theorem bel_drew {B : Nat} {a w : World} (h : Below B a w) (n : Nat) : Below B a (w.drewN n) := ⟨h.os, h.tape, h.output, h.size, h.block⟩
theorem bel_drew1 {B : Nat} {a w : World} (h : Below B a w) : Below B a w.drew := ⟨h.os, h.tape, h.output, h.size, h.block⟩

set_option maxRecDepth 100000 in
set_option maxHeartbeats 1600000 in
theorem eqIntS_any (w : World) (v1 v2 : Value) (l : List Int) (h1 : IntsAt w v1 l) (h2 : IntsAt w v2 l) (hl : l.length ≤ 1048576) :
    Calls Tryz.prog 6 #[v1, v2] w fun e w' => e = .returned (.bool true) ∧ Below w.heap.size w w' := by
  obtain ⟨a1, c1, rfl⟩ := h1.form
  obtain ⟨a2, c2, rfl⟩ := h2.form
  obtain ⟨n, hn⟩ : ∃ n, l.length = n := ⟨_, rfl⟩
  have HN : Hid (l.length = n) := hn
  have HA : Hid (IntsAt w (.slice a1 n c1) l ∧ IntsAt w (.slice a2 n c2) l) := by rw [← hn]; exact ⟨h1, h2⟩
  rw [hn] at hl ⊢
  clear h1 h2 hn
  go_enter Tryz.func6, Tryz.ntmps6
  go_wp2_with fail
  go_loopw [5] (fun vi wr => ∃ k : Nat, k ≤ n ∧ vi = .int .i64 k ∧ Below w.heap.size w wr) (fun vi _ => n - (intOf vi).toNat)
  case atStart => exact ⟨0, by omega, rfl, Below.refl _ _⟩
  case round =>
    obtain ⟨k, hk, rfl, hb⟩ := hrel
    by_cases hlt : k < n
    · obtain ⟨s, hsk⟩ := some_at HN.out hlt
      obtain ⟨b1, rfl, d1⟩ := (HA.out.1.below hb).get hsk
      obtain ⟨b2, rfl, d2⟩ := (HA.out.2.below hb).get hsk
      have hki : (k : Int) < (n : Int) := by omega
      have hk0 : (0 : Int) ≤ (k : Int) := by omega
      clear hsk
      go_wp2_with fail
      go_quiet (fail)
      go_wp2_with fail
      exact ⟨⟨k + 1, by omega, by go_num, bel_drew hb _⟩, by simp [intOf]; omega⟩
    · obtain rfl : k = n := by omega
      go_wp2_with fail
      go_ret
      exact ⟨rfl, hb⟩

end Go.Proofs.YtdlhfiheingibaaGreatDoor
