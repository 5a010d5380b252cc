import Derived.Test.YtdlhfiheingibaaGreatDoorNN12
namespace Go.Proofs.YtdlhfiheingibaaGreatDoor
open Go.RowKit
set_option linter.unusedVariables false

theorem row_later {w w1 : World} {r : List Int × Bool} {e : Ending} {w' : World} (hb : Below w.heap.size w w1) (h : RowPost w1 r e w') : RowPost w r e w' := by
  obtain ⟨a, c, rfl, ho, hb2⟩ := h
  exact ⟨a, c, rfl, own_le ho hb.size, hb.trans (hb2.mono hb.size)⟩
set_option maxRecDepth 100000 in
set_option maxHeartbeats 3200000 in
theorem ex110_l3expand2 (w : World) (t : Int) : Calls Tryz.prog 56 #[.int .i64 110, .int .i64 t] w (RowPost w (x110 t)) := by
  have ks := fun w => l3suffix_any w t 110 111
  unfold x110
  by_cases h : t = 48 ∨ t = 44 ∨ t = 40
  · rcases h with rfl | rfl | rfl
    · show Calls _ _ _ _ (RowPost w ([48, 1, 110], true))
      rw [show xSuffix 48 110 111 = [48, 1, 110] from rfl] at ks
      simp only [List.length_cons, List.length_nil, Nat.reduceAdd] at ks
      go_enter Tryz.func56, Tryz.ntmps56
      go_wp2_with (first | (go_at_call 73; refine (ks _).mono ?_; rintro e w' ⟨a, c, rfl, ho, hb⟩) | (go_at_call 53; refine (l3row_any _ _).mono ?_; rintro e w' ⟨rfl, hw⟩; subst w'))
      go_ret2
      exact ⟨_, _, rfl, ho, hb⟩
    · show Calls _ _ _ _ (RowPost w ([44, 119, 45, 110], true))
      rw [show xSuffix 44 110 111 = [44, 119, 45, 110] from rfl] at ks
      simp only [List.length_cons, List.length_nil, Nat.reduceAdd] at ks
      go_enter Tryz.func56, Tryz.ntmps56
      go_wp2_with (first | (go_at_call 73; refine (ks _).mono ?_; rintro e w' ⟨a, c, rfl, ho, hb⟩) | (go_at_call 53; refine (l3row_any _ _).mono ?_; rintro e w' ⟨rfl, hw⟩; subst w'))
      go_ret2
      exact ⟨_, _, rfl, ho, hb⟩
    · show Calls _ _ _ _ (RowPost w ([40, 123, 41, 111], true))
      rw [show xSuffix 40 110 111 = [40, 123, 41, 111] from rfl] at ks
      simp only [List.length_cons, List.length_nil, Nat.reduceAdd] at ks
      go_enter Tryz.func56, Tryz.ntmps56
      go_wp2_with (first | (go_at_call 73; refine (ks _).mono ?_; rintro e w' ⟨a, c, rfl, ho, hb⟩) | (go_at_call 53; refine (l3row_any _ _).mono ?_; rintro e w' ⟨rfl, hw⟩; subst w'))
      go_ret2
      exact ⟨_, _, rfl, ho, hb⟩
  · rw [if_neg (by omega), if_neg (by omega), if_neg (by omega)]
    rw [show xSuffix t 110 111 = [] by unfold xSuffix; rw [if_neg (by omega), if_neg (by omega), if_neg (by omega)]] at ks
    simp only [List.length_nil] at ks
    have h48 : ¬ t = 48 := by omega
    have b48 : (t == 48) = false := beq_eq_false_iff_ne.2 h48
    have h44 : ¬ t = 44 := by omega
    have b44 : (t == 44) = false := beq_eq_false_iff_ne.2 h44
    have h40 : ¬ t = 40 := by omega
    have b40 : (t == 40) = false := beq_eq_false_iff_ne.2 h40
    clear h
    by_cases g : t = 46 ∨ t = 47
    · rcases g with rfl | rfl
      · show Calls _ _ _ _ (RowPost w ([46, 113], true))
        go_enter Tryz.func56, Tryz.ntmps56
        go_wp2_with (first | (go_at_call 73; refine (ks _).mono ?_; rintro e w' ⟨a, c, rfl, ho, hb⟩) | (go_at_call 53; refine (l3row_any _ _).mono ?_; rintro e w' ⟨rfl, hw⟩; subst w'))
        go_ret2
        exact row_later hb (row_lits _ [46, 113] true (by simp))
      · show Calls _ _ _ _ (RowPost w ([47, 124], true))
        go_enter Tryz.func56, Tryz.ntmps56
        go_wp2_with (first | (go_at_call 73; refine (ks _).mono ?_; rintro e w' ⟨a, c, rfl, ho, hb⟩) | (go_at_call 53; refine (l3row_any _ _).mono ?_; rintro e w' ⟨rfl, hw⟩; subst w'))
        go_ret2
        exact row_later hb (row_lits _ [47, 124] true (by simp))
    · rw [if_neg (by omega), if_neg (by omega)]
      have g46 : ¬ t = 46 := by omega
      have f46 : (t == 46) = false := beq_eq_false_iff_ne.2 g46
      have g47 : ¬ t = 47 := by omega
      have f47 : (t == 47) = false := beq_eq_false_iff_ne.2 g47
      clear g
      go_enter Tryz.func56, Tryz.ntmps56
      go_wp2_with (first | (go_at_call 73; refine (ks _).mono ?_; rintro e w' ⟨a, c, rfl, ho, hb⟩) | (go_at_call 53; refine (l3row_any _ _).mono ?_; rintro e w' ⟨rfl, hw⟩; subst w'))
      go_ret2
      exact row_later hb (row_nil _ false)
set_option maxRecDepth 100000 in
set_option maxHeartbeats 3200000 in
theorem ex111_l3expand2 (w : World) (t : Int) : Calls Tryz.prog 56 #[.int .i64 111, .int .i64 t] w (RowPost w (x111 t)) := by
  have ks := fun w => l3suffix_any w t 110 111
  unfold x111
  by_cases h : t = 48 ∨ t = 44 ∨ t = 40
  · rcases h with rfl | rfl | rfl
    · show Calls _ _ _ _ (RowPost w ([48, 1, 110], true))
      rw [show xSuffix 48 110 111 = [48, 1, 110] from rfl] at ks
      simp only [List.length_cons, List.length_nil, Nat.reduceAdd] at ks
      go_enter Tryz.func56, Tryz.ntmps56
      go_wp2_with (first | (go_at_call 73; refine (ks _).mono ?_; rintro e w' ⟨a, c, rfl, ho, hb⟩) | (go_at_call 53; refine (l3row_any _ _).mono ?_; rintro e w' ⟨rfl, hw⟩; subst w'))
      go_ret2
      exact ⟨_, _, rfl, ho, hb⟩
    · show Calls _ _ _ _ (RowPost w ([44, 119, 45, 110], true))
      rw [show xSuffix 44 110 111 = [44, 119, 45, 110] from rfl] at ks
      simp only [List.length_cons, List.length_nil, Nat.reduceAdd] at ks
      go_enter Tryz.func56, Tryz.ntmps56
      go_wp2_with (first | (go_at_call 73; refine (ks _).mono ?_; rintro e w' ⟨a, c, rfl, ho, hb⟩) | (go_at_call 53; refine (l3row_any _ _).mono ?_; rintro e w' ⟨rfl, hw⟩; subst w'))
      go_ret2
      exact ⟨_, _, rfl, ho, hb⟩
    · show Calls _ _ _ _ (RowPost w ([40, 123, 41, 111], true))
      rw [show xSuffix 40 110 111 = [40, 123, 41, 111] from rfl] at ks
      simp only [List.length_cons, List.length_nil, Nat.reduceAdd] at ks
      go_enter Tryz.func56, Tryz.ntmps56
      go_wp2_with (first | (go_at_call 73; refine (ks _).mono ?_; rintro e w' ⟨a, c, rfl, ho, hb⟩) | (go_at_call 53; refine (l3row_any _ _).mono ?_; rintro e w' ⟨rfl, hw⟩; subst w'))
      go_ret2
      exact ⟨_, _, rfl, ho, hb⟩
  · rw [if_neg (by omega), if_neg (by omega), if_neg (by omega)]
    rw [show xSuffix t 110 111 = [] by unfold xSuffix; rw [if_neg (by omega), if_neg (by omega), if_neg (by omega)]] at ks
    simp only [List.length_nil] at ks
    have h48 : ¬ t = 48 := by omega
    have b48 : (t == 48) = false := beq_eq_false_iff_ne.2 h48
    have h44 : ¬ t = 44 := by omega
    have b44 : (t == 44) = false := beq_eq_false_iff_ne.2 h44
    have h40 : ¬ t = 40 := by omega
    have b40 : (t == 40) = false := beq_eq_false_iff_ne.2 h40
    clear h
    go_enter Tryz.func56, Tryz.ntmps56
    go_wp2_with (first | (go_at_call 73; refine (ks _).mono ?_; rintro e w' ⟨a, c, rfl, ho, hb⟩) | (go_at_call 53; refine (l3row_any _ _).mono ?_; rintro e w' ⟨rfl, hw⟩; subst w'))
    go_ret2
    exact row_later hb (row_nil _ true)
set_option maxRecDepth 100000 in
set_option maxHeartbeats 3200000 in
theorem ex112_l3expand2 (w : World) (t : Int) : Calls Tryz.prog 56 #[.int .i64 112, .int .i64 t] w (RowPost w (x112 t)) := by
  have ks := fun w => l3suffix_any w t 110 111
  unfold x112
  by_cases h : t = 48 ∨ t = 44 ∨ t = 40
  · rcases h with rfl | rfl | rfl
    · show Calls _ _ _ _ (RowPost w ([48, 1, 110], true))
      rw [show xSuffix 48 110 111 = [48, 1, 110] from rfl] at ks
      simp only [List.length_cons, List.length_nil, Nat.reduceAdd] at ks
      go_enter Tryz.func56, Tryz.ntmps56
      go_wp2_with (first | (go_at_call 73; refine (ks _).mono ?_; rintro e w' ⟨a, c, rfl, ho, hb⟩) | (go_at_call 53; refine (l3row_any _ _).mono ?_; rintro e w' ⟨rfl, hw⟩; subst w'))
      go_ret2
      exact ⟨_, _, rfl, ho, hb⟩
    · show Calls _ _ _ _ (RowPost w ([44, 119, 45, 110], true))
      rw [show xSuffix 44 110 111 = [44, 119, 45, 110] from rfl] at ks
      simp only [List.length_cons, List.length_nil, Nat.reduceAdd] at ks
      go_enter Tryz.func56, Tryz.ntmps56
      go_wp2_with (first | (go_at_call 73; refine (ks _).mono ?_; rintro e w' ⟨a, c, rfl, ho, hb⟩) | (go_at_call 53; refine (l3row_any _ _).mono ?_; rintro e w' ⟨rfl, hw⟩; subst w'))
      go_ret2
      exact ⟨_, _, rfl, ho, hb⟩
    · show Calls _ _ _ _ (RowPost w ([40, 123, 41, 111], true))
      rw [show xSuffix 40 110 111 = [40, 123, 41, 111] from rfl] at ks
      simp only [List.length_cons, List.length_nil, Nat.reduceAdd] at ks
      go_enter Tryz.func56, Tryz.ntmps56
      go_wp2_with (first | (go_at_call 73; refine (ks _).mono ?_; rintro e w' ⟨a, c, rfl, ho, hb⟩) | (go_at_call 53; refine (l3row_any _ _).mono ?_; rintro e w' ⟨rfl, hw⟩; subst w'))
      go_ret2
      exact ⟨_, _, rfl, ho, hb⟩
  · rw [if_neg (by omega), if_neg (by omega), if_neg (by omega)]
    rw [show xSuffix t 110 111 = [] by unfold xSuffix; rw [if_neg (by omega), if_neg (by omega), if_neg (by omega)]] at ks
    simp only [List.length_nil] at ks
    have h48 : ¬ t = 48 := by omega
    have b48 : (t == 48) = false := beq_eq_false_iff_ne.2 h48
    have h44 : ¬ t = 44 := by omega
    have b44 : (t == 44) = false := beq_eq_false_iff_ne.2 h44
    have h40 : ¬ t = 40 := by omega
    have b40 : (t == 40) = false := beq_eq_false_iff_ne.2 h40
    clear h
    go_enter Tryz.func56, Tryz.ntmps56
    go_wp2_with (first | (go_at_call 73; refine (ks _).mono ?_; rintro e w' ⟨a, c, rfl, ho, hb⟩) | (go_at_call 53; refine (l3row_any _ _).mono ?_; rintro e w' ⟨rfl, hw⟩; subst w'))
    go_ret2
    exact row_later hb (row_nil _ false)
set_option maxRecDepth 100000 in
set_option maxHeartbeats 3200000 in
theorem ex114_l3expand2 (w : World) (t : Int) : Calls Tryz.prog 56 #[.int .i64 114, .int .i64 t] w (RowPost w (x114 t)) := by
  have ks := fun w => l3suffix_any w t 114 115
  unfold x114
  by_cases h : t = 48 ∨ t = 44 ∨ t = 40
  · rcases h with rfl | rfl | rfl
    · show Calls _ _ _ _ (RowPost w ([48, 1, 114], true))
      rw [show xSuffix 48 114 115 = [48, 1, 114] from rfl] at ks
      simp only [List.length_cons, List.length_nil, Nat.reduceAdd] at ks
      go_enter Tryz.func56, Tryz.ntmps56
      go_wp2_with (first | (go_at_call 73; refine (ks _).mono ?_; rintro e w' ⟨a, c, rfl, ho, hb⟩) | (go_at_call 53; refine (l3row_any _ _).mono ?_; rintro e w' ⟨rfl, hw⟩; subst w'))
      go_ret2
      exact ⟨_, _, rfl, ho, hb⟩
    · show Calls _ _ _ _ (RowPost w ([44, 119, 45, 114], true))
      rw [show xSuffix 44 114 115 = [44, 119, 45, 114] from rfl] at ks
      simp only [List.length_cons, List.length_nil, Nat.reduceAdd] at ks
      go_enter Tryz.func56, Tryz.ntmps56
      go_wp2_with (first | (go_at_call 73; refine (ks _).mono ?_; rintro e w' ⟨a, c, rfl, ho, hb⟩) | (go_at_call 53; refine (l3row_any _ _).mono ?_; rintro e w' ⟨rfl, hw⟩; subst w'))
      go_ret2
      exact ⟨_, _, rfl, ho, hb⟩
    · show Calls _ _ _ _ (RowPost w ([40, 123, 41, 115], true))
      rw [show xSuffix 40 114 115 = [40, 123, 41, 115] from rfl] at ks
      simp only [List.length_cons, List.length_nil, Nat.reduceAdd] at ks
      go_enter Tryz.func56, Tryz.ntmps56
      go_wp2_with (first | (go_at_call 73; refine (ks _).mono ?_; rintro e w' ⟨a, c, rfl, ho, hb⟩) | (go_at_call 53; refine (l3row_any _ _).mono ?_; rintro e w' ⟨rfl, hw⟩; subst w'))
      go_ret2
      exact ⟨_, _, rfl, ho, hb⟩
  · rw [if_neg (by omega), if_neg (by omega), if_neg (by omega)]
    rw [show xSuffix t 114 115 = [] by unfold xSuffix; rw [if_neg (by omega), if_neg (by omega), if_neg (by omega)]] at ks
    simp only [List.length_nil] at ks
    have h48 : ¬ t = 48 := by omega
    have b48 : (t == 48) = false := beq_eq_false_iff_ne.2 h48
    have h44 : ¬ t = 44 := by omega
    have b44 : (t == 44) = false := beq_eq_false_iff_ne.2 h44
    have h40 : ¬ t = 40 := by omega
    have b40 : (t == 40) = false := beq_eq_false_iff_ne.2 h40
    clear h
    by_cases g : t = 46 ∨ t = 47
    · rcases g with rfl | rfl
      · show Calls _ _ _ _ (RowPost w ([46, 113], true))
        go_enter Tryz.func56, Tryz.ntmps56
        go_wp2_with (first | (go_at_call 73; refine (ks _).mono ?_; rintro e w' ⟨a, c, rfl, ho, hb⟩) | (go_at_call 53; refine (l3row_any _ _).mono ?_; rintro e w' ⟨rfl, hw⟩; subst w'))
        go_ret2
        exact row_later hb (row_lits _ [46, 113] true (by simp))
      · show Calls _ _ _ _ (RowPost w ([47, 124], true))
        go_enter Tryz.func56, Tryz.ntmps56
        go_wp2_with (first | (go_at_call 73; refine (ks _).mono ?_; rintro e w' ⟨a, c, rfl, ho, hb⟩) | (go_at_call 53; refine (l3row_any _ _).mono ?_; rintro e w' ⟨rfl, hw⟩; subst w'))
        go_ret2
        exact row_later hb (row_lits _ [47, 124] true (by simp))
    · rw [if_neg (by omega), if_neg (by omega)]
      have g46 : ¬ t = 46 := by omega
      have f46 : (t == 46) = false := beq_eq_false_iff_ne.2 g46
      have g47 : ¬ t = 47 := by omega
      have f47 : (t == 47) = false := beq_eq_false_iff_ne.2 g47
      clear g
      go_enter Tryz.func56, Tryz.ntmps56
      go_wp2_with (first | (go_at_call 73; refine (ks _).mono ?_; rintro e w' ⟨a, c, rfl, ho, hb⟩) | (go_at_call 53; refine (l3row_any _ _).mono ?_; rintro e w' ⟨rfl, hw⟩; subst w'))
      go_ret2
      exact row_later hb (row_nil _ false)
set_option maxRecDepth 100000 in
set_option maxHeartbeats 3200000 in
theorem ex115_l3expand2 (w : World) (t : Int) : Calls Tryz.prog 56 #[.int .i64 115, .int .i64 t] w (RowPost w (x115 t)) := by
  have ks := fun w => l3suffix_any w t 114 115
  unfold x115
  by_cases h : t = 48 ∨ t = 44 ∨ t = 40
  · rcases h with rfl | rfl | rfl
    · show Calls _ _ _ _ (RowPost w ([48, 1, 114], true))
      rw [show xSuffix 48 114 115 = [48, 1, 114] from rfl] at ks
      simp only [List.length_cons, List.length_nil, Nat.reduceAdd] at ks
      go_enter Tryz.func56, Tryz.ntmps56
      go_wp2_with (first | (go_at_call 73; refine (ks _).mono ?_; rintro e w' ⟨a, c, rfl, ho, hb⟩) | (go_at_call 53; refine (l3row_any _ _).mono ?_; rintro e w' ⟨rfl, hw⟩; subst w'))
      go_ret2
      exact ⟨_, _, rfl, ho, hb⟩
    · show Calls _ _ _ _ (RowPost w ([44, 119, 45, 114], true))
      rw [show xSuffix 44 114 115 = [44, 119, 45, 114] from rfl] at ks
      simp only [List.length_cons, List.length_nil, Nat.reduceAdd] at ks
      go_enter Tryz.func56, Tryz.ntmps56
      go_wp2_with (first | (go_at_call 73; refine (ks _).mono ?_; rintro e w' ⟨a, c, rfl, ho, hb⟩) | (go_at_call 53; refine (l3row_any _ _).mono ?_; rintro e w' ⟨rfl, hw⟩; subst w'))
      go_ret2
      exact ⟨_, _, rfl, ho, hb⟩
    · show Calls _ _ _ _ (RowPost w ([40, 123, 41, 115], true))
      rw [show xSuffix 40 114 115 = [40, 123, 41, 115] from rfl] at ks
      simp only [List.length_cons, List.length_nil, Nat.reduceAdd] at ks
      go_enter Tryz.func56, Tryz.ntmps56
      go_wp2_with (first | (go_at_call 73; refine (ks _).mono ?_; rintro e w' ⟨a, c, rfl, ho, hb⟩) | (go_at_call 53; refine (l3row_any _ _).mono ?_; rintro e w' ⟨rfl, hw⟩; subst w'))
      go_ret2
      exact ⟨_, _, rfl, ho, hb⟩
  · rw [if_neg (by omega), if_neg (by omega), if_neg (by omega)]
    rw [show xSuffix t 114 115 = [] by unfold xSuffix; rw [if_neg (by omega), if_neg (by omega), if_neg (by omega)]] at ks
    simp only [List.length_nil] at ks
    have h48 : ¬ t = 48 := by omega
    have b48 : (t == 48) = false := beq_eq_false_iff_ne.2 h48
    have h44 : ¬ t = 44 := by omega
    have b44 : (t == 44) = false := beq_eq_false_iff_ne.2 h44
    have h40 : ¬ t = 40 := by omega
    have b40 : (t == 40) = false := beq_eq_false_iff_ne.2 h40
    clear h
    go_enter Tryz.func56, Tryz.ntmps56
    go_wp2_with (first | (go_at_call 73; refine (ks _).mono ?_; rintro e w' ⟨a, c, rfl, ho, hb⟩) | (go_at_call 53; refine (l3row_any _ _).mono ?_; rintro e w' ⟨rfl, hw⟩; subst w'))
    go_ret2
    exact row_later hb (row_nil _ false)
set_option maxRecDepth 100000 in
set_option maxHeartbeats 3200000 in
theorem ex117_l3expand2 (w : World) (t : Int) : Calls Tryz.prog 56 #[.int .i64 117, .int .i64 t] w (RowPost w (x117 t)) := by
  have ks := fun w => l3suffix_any w t 117 118
  unfold x117
  by_cases h : t = 48 ∨ t = 44 ∨ t = 40
  · rcases h with rfl | rfl | rfl
    · show Calls _ _ _ _ (RowPost w ([48, 1, 117], true))
      rw [show xSuffix 48 117 118 = [48, 1, 117] from rfl] at ks
      simp only [List.length_cons, List.length_nil, Nat.reduceAdd] at ks
      go_enter Tryz.func56, Tryz.ntmps56
      go_wp2_with (first | (go_at_call 73; refine (ks _).mono ?_; rintro e w' ⟨a, c, rfl, ho, hb⟩) | (go_at_call 53; refine (l3row_any _ _).mono ?_; rintro e w' ⟨rfl, hw⟩; subst w'))
      go_ret2
      exact ⟨_, _, rfl, ho, hb⟩
    · show Calls _ _ _ _ (RowPost w ([44, 119, 45, 117], true))
      rw [show xSuffix 44 117 118 = [44, 119, 45, 117] from rfl] at ks
      simp only [List.length_cons, List.length_nil, Nat.reduceAdd] at ks
      go_enter Tryz.func56, Tryz.ntmps56
      go_wp2_with (first | (go_at_call 73; refine (ks _).mono ?_; rintro e w' ⟨a, c, rfl, ho, hb⟩) | (go_at_call 53; refine (l3row_any _ _).mono ?_; rintro e w' ⟨rfl, hw⟩; subst w'))
      go_ret2
      exact ⟨_, _, rfl, ho, hb⟩
    · show Calls _ _ _ _ (RowPost w ([40, 123, 41, 118], true))
      rw [show xSuffix 40 117 118 = [40, 123, 41, 118] from rfl] at ks
      simp only [List.length_cons, List.length_nil, Nat.reduceAdd] at ks
      go_enter Tryz.func56, Tryz.ntmps56
      go_wp2_with (first | (go_at_call 73; refine (ks _).mono ?_; rintro e w' ⟨a, c, rfl, ho, hb⟩) | (go_at_call 53; refine (l3row_any _ _).mono ?_; rintro e w' ⟨rfl, hw⟩; subst w'))
      go_ret2
      exact ⟨_, _, rfl, ho, hb⟩
  · rw [if_neg (by omega), if_neg (by omega), if_neg (by omega)]
    rw [show xSuffix t 117 118 = [] by unfold xSuffix; rw [if_neg (by omega), if_neg (by omega), if_neg (by omega)]] at ks
    simp only [List.length_nil] at ks
    have h48 : ¬ t = 48 := by omega
    have b48 : (t == 48) = false := beq_eq_false_iff_ne.2 h48
    have h44 : ¬ t = 44 := by omega
    have b44 : (t == 44) = false := beq_eq_false_iff_ne.2 h44
    have h40 : ¬ t = 40 := by omega
    have b40 : (t == 40) = false := beq_eq_false_iff_ne.2 h40
    clear h
    go_enter Tryz.func56, Tryz.ntmps56
    go_wp2_with (first | (go_at_call 73; refine (ks _).mono ?_; rintro e w' ⟨a, c, rfl, ho, hb⟩) | (go_at_call 53; refine (l3row_any _ _).mono ?_; rintro e w' ⟨rfl, hw⟩; subst w'))
    go_ret2
    exact row_later hb (row_nil _ false)
set_option maxRecDepth 100000 in
set_option maxHeartbeats 3200000 in
theorem ex118_l3expand2 (w : World) (t : Int) : Calls Tryz.prog 56 #[.int .i64 118, .int .i64 t] w (RowPost w (x118 t)) := by
  have ks := fun w => l3suffix_any w t 117 118
  unfold x118
  by_cases h : t = 48 ∨ t = 44 ∨ t = 40
  · rcases h with rfl | rfl | rfl
    · show Calls _ _ _ _ (RowPost w ([48, 1, 117], true))
      rw [show xSuffix 48 117 118 = [48, 1, 117] from rfl] at ks
      simp only [List.length_cons, List.length_nil, Nat.reduceAdd] at ks
      go_enter Tryz.func56, Tryz.ntmps56
      go_wp2_with (first | (go_at_call 73; refine (ks _).mono ?_; rintro e w' ⟨a, c, rfl, ho, hb⟩) | (go_at_call 53; refine (l3row_any _ _).mono ?_; rintro e w' ⟨rfl, hw⟩; subst w'))
      go_ret2
      exact ⟨_, _, rfl, ho, hb⟩
    · show Calls _ _ _ _ (RowPost w ([44, 119, 45, 117], true))
      rw [show xSuffix 44 117 118 = [44, 119, 45, 117] from rfl] at ks
      simp only [List.length_cons, List.length_nil, Nat.reduceAdd] at ks
      go_enter Tryz.func56, Tryz.ntmps56
      go_wp2_with (first | (go_at_call 73; refine (ks _).mono ?_; rintro e w' ⟨a, c, rfl, ho, hb⟩) | (go_at_call 53; refine (l3row_any _ _).mono ?_; rintro e w' ⟨rfl, hw⟩; subst w'))
      go_ret2
      exact ⟨_, _, rfl, ho, hb⟩
    · show Calls _ _ _ _ (RowPost w ([40, 123, 41, 118], true))
      rw [show xSuffix 40 117 118 = [40, 123, 41, 118] from rfl] at ks
      simp only [List.length_cons, List.length_nil, Nat.reduceAdd] at ks
      go_enter Tryz.func56, Tryz.ntmps56
      go_wp2_with (first | (go_at_call 73; refine (ks _).mono ?_; rintro e w' ⟨a, c, rfl, ho, hb⟩) | (go_at_call 53; refine (l3row_any _ _).mono ?_; rintro e w' ⟨rfl, hw⟩; subst w'))
      go_ret2
      exact ⟨_, _, rfl, ho, hb⟩
  · rw [if_neg (by omega), if_neg (by omega), if_neg (by omega)]
    rw [show xSuffix t 117 118 = [] by unfold xSuffix; rw [if_neg (by omega), if_neg (by omega), if_neg (by omega)]] at ks
    simp only [List.length_nil] at ks
    have h48 : ¬ t = 48 := by omega
    have b48 : (t == 48) = false := beq_eq_false_iff_ne.2 h48
    have h44 : ¬ t = 44 := by omega
    have b44 : (t == 44) = false := beq_eq_false_iff_ne.2 h44
    have h40 : ¬ t = 40 := by omega
    have b40 : (t == 40) = false := beq_eq_false_iff_ne.2 h40
    clear h
    go_enter Tryz.func56, Tryz.ntmps56
    go_wp2_with (first | (go_at_call 73; refine (ks _).mono ?_; rintro e w' ⟨a, c, rfl, ho, hb⟩) | (go_at_call 53; refine (l3row_any _ _).mono ?_; rintro e w' ⟨rfl, hw⟩; subst w'))
    go_ret2
    exact row_later hb (row_nil _ true)
set_option maxRecDepth 100000 in
set_option maxHeartbeats 3200000 in
theorem ex113_l3expand2 (w : World) (t : Int) : Calls Tryz.prog 56 #[.int .i64 113, .int .i64 t] w (RowPost w (x113 t)) := by
  unfold x113
  by_cases h : t = 1 ∨ t = 40
  · rcases h with rfl | rfl
    · show Calls _ _ _ _ (RowPost w ([1, 114], true))
      go_enter Tryz.func56, Tryz.ntmps56
      go_wp2_with (go_at_call 53; refine (l3row_any _ _).mono ?_; rintro e w' ⟨rfl, hw⟩; subst w')
      go_ret2
      exact row_lits w [1, 114] true (by simp)
    · show Calls _ _ _ _ (RowPost w ([40, 119, 41, 115], true))
      go_enter Tryz.func56, Tryz.ntmps56
      go_wp2_with (go_at_call 53; refine (l3row_any _ _).mono ?_; rintro e w' ⟨rfl, hw⟩; subst w')
      go_ret2
      exact row_lits w [40, 119, 41, 115] true (by simp)
  · rw [if_neg (by omega), if_neg (by omega)]
    have h1 : ¬ t = 1 := by omega
    have b1 : (t == 1) = false := beq_eq_false_iff_ne.2 h1
    have h40 : ¬ t = 40 := by omega
    have b40 : (t == 40) = false := beq_eq_false_iff_ne.2 h40
    clear h
    go_enter Tryz.func56, Tryz.ntmps56
    go_wp2_with (go_at_call 53; refine (l3row_any _ _).mono ?_; rintro e w' ⟨rfl, hw⟩; subst w')
    go_ret2
    exact row_nil w false
set_option maxRecDepth 100000 in
set_option maxHeartbeats 3200000 in
theorem ex116_l3expand2 (w : World) (t : Int) : Calls Tryz.prog 56 #[.int .i64 116, .int .i64 t] w (RowPost w (x116 t)) := by
  unfold x116
  by_cases h : t = 1 ∨ t = 40
  · rcases h with rfl | rfl
    · show Calls _ _ _ _ (RowPost w ([1, 117], true))
      go_enter Tryz.func56, Tryz.ntmps56
      go_wp2_with (go_at_call 53; refine (l3row_any _ _).mono ?_; rintro e w' ⟨rfl, hw⟩; subst w')
      go_ret2
      exact row_lits w [1, 117] true (by simp)
    · show Calls _ _ _ _ (RowPost w ([40, 119, 41, 117], true))
      go_enter Tryz.func56, Tryz.ntmps56
      go_wp2_with (go_at_call 53; refine (l3row_any _ _).mono ?_; rintro e w' ⟨rfl, hw⟩; subst w')
      go_ret2
      exact row_lits w [40, 119, 41, 117] true (by simp)
  · rw [if_neg (by omega), if_neg (by omega)]
    have h1 : ¬ t = 1 := by omega
    have b1 : (t == 1) = false := beq_eq_false_iff_ne.2 h1
    have h40 : ¬ t = 40 := by omega
    have b40 : (t == 40) = false := beq_eq_false_iff_ne.2 h40
    clear h
    go_enter Tryz.func56, Tryz.ntmps56
    go_wp2_with (go_at_call 53; refine (l3row_any _ _).mono ?_; rintro e w' ⟨rfl, hw⟩; subst w')
    go_ret2
    exact row_nil w false
end Go.Proofs.YtdlhfiheingibaaGreatDoor

namespace Go.Proofs.YtdlhfiheingibaaGreatDoor
open Go.RowKit
set_option linter.unusedVariables false

set_option maxRecDepth 100000 in
set_option maxHeartbeats 3200000 in
theorem ex101_l3expand (w : World) (t : Int) : Calls Tryz.prog 36 #[.int .i64 101, .int .i64 t] w (RowPost w (x101 t)) := by
  unfold x101
  by_cases h : t = 5
  · subst h
    show Calls _ _ _ _ (RowPost w ([5, 100], true))
    go_enter Tryz.func36, Tryz.ntmps36
    go_wp2_with (go_at_call 53; refine (l3row_any _ _).mono ?_; rintro e w' ⟨rfl, hw⟩; subst w')
    go_ret2
    exact row_lits w [5, 100] true (by simp)
  · rw [if_neg (by omega)]
    have h5 : ¬ t = 5 := by omega
    have b5 : (t == 5) = false := beq_eq_false_iff_ne.2 h5
    clear h
    go_enter Tryz.func36, Tryz.ntmps36
    go_wp2_with (go_at_call 53; refine (l3row_any _ _).mono ?_; rintro e w' ⟨rfl, hw⟩; subst w')
    go_ret2
    exact row_nil w true
set_option maxRecDepth 100000 in
set_option maxHeartbeats 3200000 in
theorem ex103_l3expand (w : World) (t : Int) : Calls Tryz.prog 36 #[.int .i64 103, .int .i64 t] w (RowPost w (x103 t)) := by
  unfold x103
  by_cases h : t = 47
  · subst h
    show Calls _ _ _ _ (RowPost w ([47, 124], true))
    go_enter Tryz.func36, Tryz.ntmps36
    go_wp2_with (go_at_call 53; refine (l3row_any _ _).mono ?_; rintro e w' ⟨rfl, hw⟩; subst w')
    go_ret2
    exact row_lits w [47, 124] true (by simp)
  · rw [if_neg (by omega)]
    have h47 : ¬ t = 47 := by omega
    have b47 : (t == 47) = false := beq_eq_false_iff_ne.2 h47
    clear h
    go_enter Tryz.func36, Tryz.ntmps36
    go_wp2_with (go_at_call 53; refine (l3row_any _ _).mono ?_; rintro e w' ⟨rfl, hw⟩; subst w')
    go_ret2
    exact row_nil w true
set_option maxRecDepth 100000 in
set_option maxHeartbeats 3200000 in
theorem ex104_l3expand (w : World) (t : Int) : Calls Tryz.prog 36 #[.int .i64 104, .int .i64 t] w (RowPost w (x104 t)) := by
  unfold x104
  by_cases h : t = 46
  · subst h
    show Calls _ _ _ _ (RowPost w ([46, 1, 104], true))
    go_enter Tryz.func36, Tryz.ntmps36
    go_wp2_with (go_at_call 53; refine (l3row_any _ _).mono ?_; rintro e w' ⟨rfl, hw⟩; subst w')
    go_ret2
    exact row_lits w [46, 1, 104] true (by simp)
  · rw [if_neg (by omega)]
    have h46 : ¬ t = 46 := by omega
    have b46 : (t == 46) = false := beq_eq_false_iff_ne.2 h46
    clear h
    go_enter Tryz.func36, Tryz.ntmps36
    go_wp2_with (go_at_call 53; refine (l3row_any _ _).mono ?_; rintro e w' ⟨rfl, hw⟩; subst w')
    go_ret2
    exact row_nil w true
set_option maxRecDepth 100000 in
set_option maxHeartbeats 3200000 in
theorem ex105_l3expand (w : World) (t : Int) : Calls Tryz.prog 36 #[.int .i64 105, .int .i64 t] w (RowPost w (x105 t)) := by
  unfold x105
  by_cases h : t = 15 ∨ t = 16
  · rcases h with rfl | rfl
    · show Calls _ _ _ _ (RowPost w ([15, 119, 132, 105], true))
      go_enter Tryz.func36, Tryz.ntmps36
      go_wp2_with (go_at_call 53; refine (l3row_any _ _).mono ?_; rintro e w' ⟨rfl, hw⟩; subst w')
      go_ret2
      exact row_lits w [15, 119, 132, 105] true (by simp)
    · show Calls _ _ _ _ (RowPost w ([16, 132], true))
      go_enter Tryz.func36, Tryz.ntmps36
      go_wp2_with (go_at_call 53; refine (l3row_any _ _).mono ?_; rintro e w' ⟨rfl, hw⟩; subst w')
      go_ret2
      exact row_lits w [16, 132] true (by simp)
  · rw [if_neg (by omega), if_neg (by omega)]
    have h15 : ¬ t = 15 := by omega
    have b15 : (t == 15) = false := beq_eq_false_iff_ne.2 h15
    have h16 : ¬ t = 16 := by omega
    have b16 : (t == 16) = false := beq_eq_false_iff_ne.2 h16
    clear h
    go_enter Tryz.func36, Tryz.ntmps36
    go_wp2_with (go_at_call 53; refine (l3row_any _ _).mono ?_; rintro e w' ⟨rfl, hw⟩; subst w')
    go_ret2
    exact row_nil w true
set_option maxRecDepth 100000 in
set_option maxHeartbeats 3200000 in
theorem ex106_l3expand (w : World) (t : Int) : Calls Tryz.prog 36 #[.int .i64 106, .int .i64 t] w (RowPost w (x106 t)) := by
  unfold x106
  by_cases h : t = 47
  · subst h
    show Calls _ _ _ _ (RowPost w ([47, 119, 46, 119, 107, 132], true))
    go_enter Tryz.func36, Tryz.ntmps36
    go_wp2_with (go_at_call 53; refine (l3row_any _ _).mono ?_; rintro e w' ⟨rfl, hw⟩; subst w')
    go_ret2
    exact row_lits w [47, 119, 46, 119, 107, 132] true (by simp)
  · rw [if_neg (by omega)]
    have h47 : ¬ t = 47 := by omega
    have b47 : (t == 47) = false := beq_eq_false_iff_ne.2 h47
    clear h
    by_cases g : t = 46 ∨ t = 21
    · rw [decide_eq_true g]
      rcases g with rfl | rfl
      all_goals
        go_enter Tryz.func36, Tryz.ntmps36
        go_wp2_with (go_at_call 53; refine (l3row_any _ _).mono ?_; rintro e w' ⟨rfl, hw⟩; subst w')
        go_ret2
        exact row_lits w [104, 21, 119, 132] true (by simp)
    · rw [decide_eq_false g]
      have g46 : ¬ t = 46 := by omega
      have f46 : (t == 46) = false := beq_eq_false_iff_ne.2 g46
      have g21 : ¬ t = 21 := by omega
      have f21 : (t == 21) = false := beq_eq_false_iff_ne.2 g21
      clear g
      go_enter Tryz.func36, Tryz.ntmps36
      go_wp2_with (go_at_call 53; refine (l3row_any _ _).mono ?_; rintro e w' ⟨rfl, hw⟩; subst w')
      go_ret2
      exact row_lits w [104, 21, 119, 132] false (by simp)
set_option maxRecDepth 100000 in
set_option maxHeartbeats 3200000 in
theorem ex107_l3expand (w : World) (t : Int) : Calls Tryz.prog 36 #[.int .i64 107, .int .i64 t] w (RowPost w (x107 t)) := by
  unfold x107
  by_cases h : t = 46
  · subst h
    show Calls _ _ _ _ (RowPost w ([46, 119], true))
    go_enter Tryz.func36, Tryz.ntmps36
    go_wp2_with (go_at_call 53; refine (l3row_any _ _).mono ?_; rintro e w' ⟨rfl, hw⟩; subst w')
    go_ret2
    exact row_lits w [46, 119] true (by simp)
  · rw [if_neg (by omega)]
    have h46 : ¬ t = 46 := by omega
    have b46 : (t == 46) = false := beq_eq_false_iff_ne.2 h46
    clear h
    go_enter Tryz.func36, Tryz.ntmps36
    go_wp2_with (go_at_call 53; refine (l3row_any _ _).mono ?_; rintro e w' ⟨rfl, hw⟩; subst w')
    go_ret2
    exact row_nil w true
set_option maxRecDepth 100000 in
set_option maxHeartbeats 3200000 in
theorem ex109_l3expand (w : World) (t : Int) : Calls Tryz.prog 36 #[.int .i64 109, .int .i64 t] w (RowPost w (x109 t)) := by
  unfold x109
  by_cases h : t = 46
  · subst h
    show Calls _ _ _ _ (RowPost w ([46, 1], true))
    go_enter Tryz.func36, Tryz.ntmps36
    go_wp2_with (go_at_call 53; refine (l3row_any _ _).mono ?_; rintro e w' ⟨rfl, hw⟩; subst w')
    go_ret2
    exact row_lits w [46, 1] true (by simp)
  · rw [if_neg (by omega)]
    have h46 : ¬ t = 46 := by omega
    have b46 : (t == 46) = false := beq_eq_false_iff_ne.2 h46
    clear h
    go_enter Tryz.func36, Tryz.ntmps36
    go_wp2_with (go_at_call 53; refine (l3row_any _ _).mono ?_; rintro e w' ⟨rfl, hw⟩; subst w')
    go_ret2
    exact row_nil w true
set_option maxRecDepth 100000 in
set_option maxHeartbeats 3200000 in
theorem ex108_l3expand (w : World) (t : Int) : Calls Tryz.prog 36 #[.int .i64 108, .int .i64 t] w (RowPost w (x108 t)) := by
  have kb := fun w => l3begins_any w t
  unfold x108
  cases hp : xBegins t with
  | true =>
    rw [if_pos rfl]
    rw [hp] at kb
    clear hp
    go_enter Tryz.func36, Tryz.ntmps36
    go_wp2_with (first | (go_at_call 55; refine (kb _).mono ?_; rintro e w' ⟨rfl, hw⟩; subst w') | (go_at_call 53; refine (l3row_any _ _).mono ?_; rintro e w' ⟨rfl, hw⟩; subst w'))
    go_ret2
    exact row_lits w [124] true (by simp)
  | false =>
    rw [if_neg (by decide)]
    rw [hp] at kb
    clear hp
    go_enter Tryz.func36, Tryz.ntmps36
    go_wp2_with (first | (go_at_call 55; refine (kb _).mono ?_; rintro e w' ⟨rfl, hw⟩; subst w') | (go_at_call 53; refine (l3row_any _ _).mono ?_; rintro e w' ⟨rfl, hw⟩; subst w'))
    go_ret2
    exact row_nil w true
set_option maxRecDepth 100000 in
set_option maxHeartbeats 3200000 in
theorem ex110_l3expand (w : World) (t : Int) : Calls Tryz.prog 36 #[.int .i64 110, .int .i64 t] w (RowPost w (x110 t)) := by
  have ku := fun w => ex110_l3expand2 w t
  generalize x110 t = r at ku ⊢
  go_enter Tryz.func36, Tryz.ntmps36
  go_wp2_with (go_at_call 56; refine (ku _).mono ?_; rintro e w' ⟨a, c, rfl, ho, hb⟩)
  go_ret2
  exact ⟨_, _, rfl, ho, hb⟩
set_option maxRecDepth 100000 in
set_option maxHeartbeats 3200000 in
theorem ex111_l3expand (w : World) (t : Int) : Calls Tryz.prog 36 #[.int .i64 111, .int .i64 t] w (RowPost w (x111 t)) := by
  have ku := fun w => ex111_l3expand2 w t
  generalize x111 t = r at ku ⊢
  go_enter Tryz.func36, Tryz.ntmps36
  go_wp2_with (go_at_call 56; refine (ku _).mono ?_; rintro e w' ⟨a, c, rfl, ho, hb⟩)
  go_ret2
  exact ⟨_, _, rfl, ho, hb⟩
set_option maxRecDepth 100000 in
set_option maxHeartbeats 3200000 in
theorem ex112_l3expand (w : World) (t : Int) : Calls Tryz.prog 36 #[.int .i64 112, .int .i64 t] w (RowPost w (x112 t)) := by
  have ku := fun w => ex112_l3expand2 w t
  generalize x112 t = r at ku ⊢
  go_enter Tryz.func36, Tryz.ntmps36
  go_wp2_with (go_at_call 56; refine (ku _).mono ?_; rintro e w' ⟨a, c, rfl, ho, hb⟩)
  go_ret2
  exact ⟨_, _, rfl, ho, hb⟩
set_option maxRecDepth 100000 in
set_option maxHeartbeats 3200000 in
theorem ex113_l3expand (w : World) (t : Int) : Calls Tryz.prog 36 #[.int .i64 113, .int .i64 t] w (RowPost w (x113 t)) := by
  have ku := fun w => ex113_l3expand2 w t
  generalize x113 t = r at ku ⊢
  go_enter Tryz.func36, Tryz.ntmps36
  go_wp2_with (go_at_call 56; refine (ku _).mono ?_; rintro e w' ⟨a, c, rfl, ho, hb⟩)
  go_ret2
  exact ⟨_, _, rfl, ho, hb⟩
set_option maxRecDepth 100000 in
set_option maxHeartbeats 3200000 in
theorem ex114_l3expand (w : World) (t : Int) : Calls Tryz.prog 36 #[.int .i64 114, .int .i64 t] w (RowPost w (x114 t)) := by
  have ku := fun w => ex114_l3expand2 w t
  generalize x114 t = r at ku ⊢
  go_enter Tryz.func36, Tryz.ntmps36
  go_wp2_with (go_at_call 56; refine (ku _).mono ?_; rintro e w' ⟨a, c, rfl, ho, hb⟩)
  go_ret2
  exact ⟨_, _, rfl, ho, hb⟩
set_option maxRecDepth 100000 in
set_option maxHeartbeats 3200000 in
theorem ex115_l3expand (w : World) (t : Int) : Calls Tryz.prog 36 #[.int .i64 115, .int .i64 t] w (RowPost w (x115 t)) := by
  have ku := fun w => ex115_l3expand2 w t
  generalize x115 t = r at ku ⊢
  go_enter Tryz.func36, Tryz.ntmps36
  go_wp2_with (go_at_call 56; refine (ku _).mono ?_; rintro e w' ⟨a, c, rfl, ho, hb⟩)
  go_ret2
  exact ⟨_, _, rfl, ho, hb⟩
set_option maxRecDepth 100000 in
set_option maxHeartbeats 3200000 in
theorem ex116_l3expand (w : World) (t : Int) : Calls Tryz.prog 36 #[.int .i64 116, .int .i64 t] w (RowPost w (x116 t)) := by
  have ku := fun w => ex116_l3expand2 w t
  generalize x116 t = r at ku ⊢
  go_enter Tryz.func36, Tryz.ntmps36
  go_wp2_with (go_at_call 56; refine (ku _).mono ?_; rintro e w' ⟨a, c, rfl, ho, hb⟩)
  go_ret2
  exact ⟨_, _, rfl, ho, hb⟩
set_option maxRecDepth 100000 in
set_option maxHeartbeats 3200000 in
theorem ex117_l3expand (w : World) (t : Int) : Calls Tryz.prog 36 #[.int .i64 117, .int .i64 t] w (RowPost w (x117 t)) := by
  have ku := fun w => ex117_l3expand2 w t
  generalize x117 t = r at ku ⊢
  go_enter Tryz.func36, Tryz.ntmps36
  go_wp2_with (go_at_call 56; refine (ku _).mono ?_; rintro e w' ⟨a, c, rfl, ho, hb⟩)
  go_ret2
  exact ⟨_, _, rfl, ho, hb⟩
set_option maxRecDepth 100000 in
set_option maxHeartbeats 3200000 in
theorem ex118_l3expand (w : World) (t : Int) : Calls Tryz.prog 36 #[.int .i64 118, .int .i64 t] w (RowPost w (x118 t)) := by
  have ku := fun w => ex118_l3expand2 w t
  generalize x118 t = r at ku ⊢
  go_enter Tryz.func36, Tryz.ntmps36
  go_wp2_with (go_at_call 56; refine (ku _).mono ?_; rintro e w' ⟨a, c, rfl, ho, hb⟩)
  go_ret2
  exact ⟨_, _, rfl, ho, hb⟩
set_option maxRecDepth 100000 in
set_option maxHeartbeats 3200000 in
theorem ex102_l3expand (w : World) (t : Int) : Calls Tryz.prog 36 #[.int .i64 102, .int .i64 t] w (RowPost w (x102 t)) := by
  have ku := fun w => ex102_l3expand3 w t
  generalize x102 t = r at ku ⊢
  go_enter Tryz.func36, Tryz.ntmps36
  go_wp2_with (go_at_call 57; refine (ku _).mono ?_; rintro e w' ⟨a, c, rfl, ho, hb⟩)
  go_ret2
  exact ⟨_, _, rfl, ho, hb⟩
set_option maxRecDepth 100000 in
set_option maxHeartbeats 3200000 in
theorem ex119_l3expand (w : World) (t : Int) : Calls Tryz.prog 36 #[.int .i64 119, .int .i64 t] w (RowPost w (x119 t)) := by
  have ku := fun w => ex119_l3expand3 w t
  generalize x119 t = r at ku ⊢
  go_enter Tryz.func36, Tryz.ntmps36
  go_wp2_with (go_at_call 57; refine (ku _).mono ?_; rintro e w' ⟨a, c, rfl, ho, hb⟩)
  go_ret2
  exact ⟨_, _, rfl, ho, hb⟩
set_option maxRecDepth 100000 in
set_option maxHeartbeats 3200000 in
theorem ex120_l3expand (w : World) (t : Int) : Calls Tryz.prog 36 #[.int .i64 120, .int .i64 t] w (RowPost w (x120 t)) := by
  have ku := fun w => ex120_l3expand3 w t
  generalize x120 t = r at ku ⊢
  go_enter Tryz.func36, Tryz.ntmps36
  go_wp2_with (go_at_call 57; refine (ku _).mono ?_; rintro e w' ⟨a, c, rfl, ho, hb⟩)
  go_ret2
  exact ⟨_, _, rfl, ho, hb⟩
set_option maxRecDepth 100000 in
set_option maxHeartbeats 3200000 in
theorem ex121_l3expand (w : World) (t : Int) : Calls Tryz.prog 36 #[.int .i64 121, .int .i64 t] w (RowPost w (x121 t)) := by
  have ku := fun w => ex121_l3expand3 w t
  generalize x121 t = r at ku ⊢
  go_enter Tryz.func36, Tryz.ntmps36
  go_wp2_with (go_at_call 57; refine (ku _).mono ?_; rintro e w' ⟨a, c, rfl, ho, hb⟩)
  go_ret2
  exact ⟨_, _, rfl, ho, hb⟩
set_option maxRecDepth 100000 in
set_option maxHeartbeats 3200000 in
theorem ex122_l3expand (w : World) (t : Int) : Calls Tryz.prog 36 #[.int .i64 122, .int .i64 t] w (RowPost w (x122 t)) := by
  have ku := fun w => ex122_l3expand3 w t
  generalize x122 t = r at ku ⊢
  go_enter Tryz.func36, Tryz.ntmps36
  go_wp2_with (go_at_call 57; refine (ku _).mono ?_; rintro e w' ⟨a, c, rfl, ho, hb⟩)
  go_ret2
  exact ⟨_, _, rfl, ho, hb⟩
set_option maxRecDepth 100000 in
set_option maxHeartbeats 3200000 in
theorem ex123_l3expand (w : World) (t : Int) : Calls Tryz.prog 36 #[.int .i64 123, .int .i64 t] w (RowPost w (x123 t)) := by
  have ku := fun w => ex123_l3expand3 w t
  generalize x123 t = r at ku ⊢
  go_enter Tryz.func36, Tryz.ntmps36
  go_wp2_with (go_at_call 57; refine (ku _).mono ?_; rintro e w' ⟨a, c, rfl, ho, hb⟩)
  go_ret2
  exact ⟨_, _, rfl, ho, hb⟩
set_option maxRecDepth 100000 in
set_option maxHeartbeats 3200000 in
theorem ex124_l3expand (w : World) (t : Int) : Calls Tryz.prog 36 #[.int .i64 124, .int .i64 t] w (RowPost w (x124 t)) := by
  have ku := fun w => ex124_l3expand3 w t
  generalize x124 t = r at ku ⊢
  go_enter Tryz.func36, Tryz.ntmps36
  go_wp2_with (go_at_call 57; refine (ku _).mono ?_; rintro e w' ⟨a, c, rfl, ho, hb⟩)
  go_ret2
  exact ⟨_, _, rfl, ho, hb⟩
set_option maxRecDepth 100000 in
set_option maxHeartbeats 3200000 in
theorem ex125_l3expand (w : World) (t : Int) : Calls Tryz.prog 36 #[.int .i64 125, .int .i64 t] w (RowPost w (x125 t)) := by
  have ku := fun w => ex125_l3expand3 w t
  generalize x125 t = r at ku ⊢
  go_enter Tryz.func36, Tryz.ntmps36
  go_wp2_with (go_at_call 57; refine (ku _).mono ?_; rintro e w' ⟨a, c, rfl, ho, hb⟩)
  go_ret2
  exact ⟨_, _, rfl, ho, hb⟩
set_option maxRecDepth 100000 in
set_option maxHeartbeats 3200000 in
theorem ex126_l3expand (w : World) (t : Int) : Calls Tryz.prog 36 #[.int .i64 126, .int .i64 t] w (RowPost w (x126 t)) := by
  have ku := fun w => ex126_l3expand3 w t
  generalize x126 t = r at ku ⊢
  go_enter Tryz.func36, Tryz.ntmps36
  go_wp2_with (go_at_call 57; refine (ku _).mono ?_; rintro e w' ⟨a, c, rfl, ho, hb⟩)
  go_ret2
  exact ⟨_, _, rfl, ho, hb⟩
set_option maxRecDepth 100000 in
set_option maxHeartbeats 3200000 in
theorem ex127_l3expand (w : World) (t : Int) : Calls Tryz.prog 36 #[.int .i64 127, .int .i64 t] w (RowPost w (x127 t)) := by
  have ku := fun w => ex127_l3expand3 w t
  generalize x127 t = r at ku ⊢
  go_enter Tryz.func36, Tryz.ntmps36
  go_wp2_with (go_at_call 57; refine (ku _).mono ?_; rintro e w' ⟨a, c, rfl, ho, hb⟩)
  go_ret2
  exact ⟨_, _, rfl, ho, hb⟩
set_option maxRecDepth 100000 in
set_option maxHeartbeats 3200000 in
theorem ex128_l3expand (w : World) (t : Int) : Calls Tryz.prog 36 #[.int .i64 128, .int .i64 t] w (RowPost w (x128 t)) := by
  have ku := fun w => ex128_l3expand3 w t
  generalize x128 t = r at ku ⊢
  go_enter Tryz.func36, Tryz.ntmps36
  go_wp2_with (go_at_call 57; refine (ku _).mono ?_; rintro e w' ⟨a, c, rfl, ho, hb⟩)
  go_ret2
  exact ⟨_, _, rfl, ho, hb⟩
set_option maxRecDepth 100000 in
set_option maxHeartbeats 3200000 in
theorem ex129_l3expand (w : World) (t : Int) : Calls Tryz.prog 36 #[.int .i64 129, .int .i64 t] w (RowPost w (x129 t)) := by
  have ku := fun w => ex129_l3expand3 w t
  generalize x129 t = r at ku ⊢
  go_enter Tryz.func36, Tryz.ntmps36
  go_wp2_with (go_at_call 57; refine (ku _).mono ?_; rintro e w' ⟨a, c, rfl, ho, hb⟩)
  go_ret2
  exact ⟨_, _, rfl, ho, hb⟩
set_option maxRecDepth 100000 in
set_option maxHeartbeats 3200000 in
theorem ex130_l3expand (w : World) (t : Int) : Calls Tryz.prog 36 #[.int .i64 130, .int .i64 t] w (RowPost w (x130 t)) := by
  have ku := fun w => ex130_l3expand3 w t
  generalize x130 t = r at ku ⊢
  go_enter Tryz.func36, Tryz.ntmps36
  go_wp2_with (go_at_call 57; refine (ku _).mono ?_; rintro e w' ⟨a, c, rfl, ho, hb⟩)
  go_ret2
  exact ⟨_, _, rfl, ho, hb⟩
set_option maxRecDepth 100000 in
set_option maxHeartbeats 3200000 in
theorem ex131_l3expand (w : World) (t : Int) : Calls Tryz.prog 36 #[.int .i64 131, .int .i64 t] w (RowPost w (x131 t)) := by
  have ku := fun w => ex131_l3expand3 w t
  generalize x131 t = r at ku ⊢
  go_enter Tryz.func36, Tryz.ntmps36
  go_wp2_with (go_at_call 57; refine (ku _).mono ?_; rintro e w' ⟨a, c, rfl, ho, hb⟩)
  go_ret2
  exact ⟨_, _, rfl, ho, hb⟩
set_option maxRecDepth 100000 in
set_option maxHeartbeats 3200000 in
theorem ex132_l3expand (w : World) (t : Int) : Calls Tryz.prog 36 #[.int .i64 132, .int .i64 t] w (RowPost w (x132 t)) := by
  have ku := fun w => ex132_l3expand3 w t
  generalize x132 t = r at ku ⊢
  go_enter Tryz.func36, Tryz.ntmps36
  go_wp2_with (go_at_call 57; refine (ku _).mono ?_; rintro e w' ⟨a, c, rfl, ho, hb⟩)
  go_ret2
  exact ⟨_, _, rfl, ho, hb⟩
set_option maxRecDepth 100000 in
set_option maxHeartbeats 3200000 in
theorem ex133_l3expand (w : World) (t : Int) : Calls Tryz.prog 36 #[.int .i64 133, .int .i64 t] w (RowPost w (x133 t)) := by
  have ku := fun w => ex133_l3expand3 w t
  generalize x133 t = r at ku ⊢
  go_enter Tryz.func36, Tryz.ntmps36
  go_wp2_with (go_at_call 57; refine (ku _).mono ?_; rintro e w' ⟨a, c, rfl, ho, hb⟩)
  go_ret2
  exact ⟨_, _, rfl, ho, hb⟩
end Go.Proofs.YtdlhfiheingibaaGreatDoor
