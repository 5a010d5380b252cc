import Derived.Test.YtdgbmihokecmhaaGreatDoorMM26
namespace Go.Proofs.YtdgbmihokecmhaaGreatDoor
open Go.RowKit Go.Maps Go.WideMaps
set_option linter.unusedVariables false

theorem km_nil (K : List Int) : kmatch [] K = K.isEmpty := rfl
theorem km_star (i : Nat) (K : List Int) : kmatch [(i, 1)] K = K.all (ms i) := by
  rw [kmatch, if_neg (by omega), km_nil]
  have e : tkN i 1 K = (K.takeWhile (ms i)).length := by unfold tkN; rw [if_pos rfl]
  rw [e]
  induction K with
  | nil => rfl
  | cons a r ih =>
    cases h : ms i a with
    | false => rw [List.takeWhile_cons_of_neg (by simp [h])]; simp [h]
    | true =>
      rw [List.takeWhile_cons_of_pos (by simp [h]), List.all_cons, h, Bool.true_and, List.length_cons, List.drop_succ_cons]
      exact ih (by unfold tkN; rw [if_pos rfl])
theorem tk01 (i f : Nat) (hf : f ≠ 1) (a : Int) (r : List Int) : tkN i f (a :: r) = if ms i a = true then 1 else 0 := by
  unfold tkN
  rw [if_neg hf]
  cases h : ms i a with
  | false => rw [List.takeWhile_cons_of_neg (by simp [h])]; simp
  | true => rw [List.takeWhile_cons_of_pos (by simp [h]), List.length_cons, if_pos rfl]; omega
theorem km_one (i : Nat) (ws : List (Nat × Nat)) (a : Int) (r : List Int) : kmatch ((i, 0) :: ws) (a :: r) = (ms i a && kmatch ws r) := by
  rw [kmatch, tk01 i 0 (by omega)]
  cases h : ms i a with
  | false => simp
  | true => simp
theorem km_one0 (i : Nat) (ws : List (Nat × Nat)) : kmatch ((i, 0) :: ws) [] = false := by
  rw [kmatch]; simp [tkN]
theorem km_opt (i : Nat) (ws : List (Nat × Nat)) (a : Int) (r : List Int) : kmatch ((i, 2) :: ws) (a :: r) = if ms i a = true then kmatch ws r else kmatch ws (a :: r) := by
  rw [kmatch, tk01 i 2 (by omega)]
  cases h : ms i a with
  | false => simp
  | true => simp
theorem km_opt0 (i : Nat) (ws : List (Nat × Nat)) : kmatch ((i, 2) :: ws) [] = kmatch ws [] := by
  rw [kmatch]; simp [tkN]
theorem km_set (n : Nat) : ∀ (K : List Int), n < K.length → kmatch (setW n) K = ((K.take n).all (ms 5) && (K.drop n).all (ms 3)) := by
  induction n with
  | zero =>
    intro K hK
    match K, hK with
    | a :: r, _ =>
      show kmatch ((3, 0) :: [(3, 1)]) (a :: r) = _
      rw [km_one, km_star]; simp
  | succ n ih =>
    intro K hK
    match K, hK with
    | a :: r, hK =>
      show kmatch ((5, 0) :: setW n) (a :: r) = _
      rw [km_one, ih r (by simpa using hK)]
      simp [Bool.and_assoc]
theorem getD_kid (ns : List Nd) (N : Nd) (j : Nat) (h : j < N.ks.length) : kidK ns N j = (kinds ns N.ks).getD j 0 := by
  rw [List.getD_eq_getElem?_getD, kinds_at ns N j h]; rfl
theorem all_step (K : List Int) (p : Int → Bool) (f j : Nat) (h : j + (f + 1) ≤ K.length) : ((K.drop j).take (f + 1)).all p = (p (K.getD j 0) && ((K.drop (j + 1)).take f).all p) := by
  have hj : j < K.length := by omega
  rw [List.drop_eq_getElem_cons hj, List.take_succ_cons, List.all_cons, List.getD_eq_getElem?_getD, List.getElem?_eq_getElem hj]
  rfl
theorem ex_all (ns : List Nd) (N : Nd) : ∀ (f j : Nat), j + f ≤ N.ks.length → exB ns N f j = (((kinds ns N.ks).drop j).take f).all exprK
  | 0, j, _ => by simp [exB]
  | f + 1, j, h => by
    rw [exB, ex_all ns N f (j + 1) (by omega), all_step _ _ _ _ (by rw [kinds_len]; exact h), getD_kid ns N j (by omega)]
theorem sb_all (ns : List Nd) (N : Nd) : ∀ (f j : Nat), j + f ≤ N.ks.length → sbB ns N f j = (((kinds ns N.ks).drop j).take f).all statK
  | 0, j, _ => by simp [sbB]
  | f + 1, j, h => by
    rw [sbB, sb_all ns N f (j + 1) (by omega), all_step _ _ _ _ (by rw [kinds_len]; exact h), getD_kid ns N j (by omega)]
theorem tg_all (ns : List Nd) (N : Nd) : ∀ (f j : Nat), j + f ≤ N.ks.length → tgB ns N f j = (((kinds ns N.ks).drop j).take f).all targK
  | 0, j, _ => by simp [tgB]
  | f + 1, j, h => by
    rw [tgB, tg_all ns N f (j + 1) (by omega), all_step _ _ _ _ (by rw [kinds_len]; exact h), getD_kid ns N j (by omega)]
theorem en_all (ns : List Nd) (N : Nd) : ∀ (f j : Nat), j + f ≤ N.ks.length → enB ns N f j = (((kinds ns N.ks).drop j).take f).all (ms 9)
  | 0, j, _ => by simp [enB]
  | f + 1, j, h => by
    rw [enB, en_all ns N f (j + 1) (by omega), all_step _ _ _ _ (by rw [kinds_len]; exact h), getD_kid ns N j (by omega)]
    rfl
theorem targ_ms (k : Int) : ms 5 k = targK k := by
  unfold ms targK
  by_cases h1 : k = 26 <;> by_cases h2 : k = 32 <;> by_cases h3 : k = 33 <;> simp [h1, h2, h3]
end Go.Proofs.YtdgbmihokecmhaaGreatDoor
