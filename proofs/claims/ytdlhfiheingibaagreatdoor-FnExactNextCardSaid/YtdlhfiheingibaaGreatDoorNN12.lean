import Derived.Test.YtdlhfiheingibaaGreatDoorNN11
namespace Go.Proofs.YtdlhfiheingibaaGreatDoor
open Go.RowKit
set_option linter.unusedVariables false

set_option maxRecDepth 100000 in
set_option maxHeartbeats 3200000 in
theorem l3stat_any (w : World) (t : Int) : Calls Tryz.prog 54 #[.int .i64 t] w (RowPost w (xStat t)) := by
  by_cases h : t = 22 ∨ t = 13 ∨ t = 18 ∨ t = 20 ∨ t = 31 ∨ t = 19 ∨ t = 11 ∨ t = 23 ∨ t = 27 ∨ t = 30 ∨ t = 28 ∨ t = 14 ∨ t = 42 ∨ t = 1 ∨ t = 40
  · rcases h with rfl | rfl | rfl | rfl | rfl | rfl | rfl | rfl | rfl | rfl | rfl | rfl | rfl | rfl | rfl
    · show Calls _ _ _ _ (RowPost w ([22, 1, 104, 103], true))
      go_enter Tryz.func54, Tryz.ntmps54
      go_wp2_with (go_at_call 53; refine (l3row_any _ _).mono ?_; rintro e w' ⟨rfl, hw⟩; subst w')
      go_ret2
      exact row_lits w [22, 1, 104, 103] true (by simp)
    · show Calls _ _ _ _ (RowPost w ([13, 1, 47, 119], true))
      go_enter Tryz.func54, Tryz.ntmps54
      go_wp2_with (go_at_call 53; refine (l3row_any _ _).mono ?_; rintro e w' ⟨rfl, hw⟩; subst w')
      go_ret2
      exact row_lits w [13, 1, 47, 119] true (by simp)
    · show Calls _ _ _ _ (RowPost w ([18, 1, 133], true))
      go_enter Tryz.func54, Tryz.ntmps54
      go_wp2_with (go_at_call 53; refine (l3row_any _ _).mono ?_; rintro e w' ⟨rfl, hw⟩; subst w')
      go_ret2
      exact row_lits w [18, 1, 133] true (by simp)
    · show Calls _ _ _ _ (RowPost w ([20, 119, 132, 105], true))
      go_enter Tryz.func54, Tryz.ntmps54
      go_wp2_with (go_at_call 53; refine (l3row_any _ _).mono ?_; rintro e w' ⟨rfl, hw⟩; subst w')
      go_ret2
      exact row_lits w [20, 119, 132, 105] true (by simp)
    · show Calls _ _ _ _ (RowPost w ([31, 119, 132], true))
      go_enter Tryz.func54, Tryz.ntmps54
      go_wp2_with (go_at_call 53; refine (l3row_any _ _).mono ?_; rintro e w' ⟨rfl, hw⟩; subst w')
      go_ret2
      exact row_lits w [31, 119, 132] true (by simp)
    · show Calls _ _ _ _ (RowPost w ([19, 1, 106], true))
      go_enter Tryz.func54, Tryz.ntmps54
      go_wp2_with (go_at_call 53; refine (l3row_any _ _).mono ?_; rintro e w' ⟨rfl, hw⟩; subst w')
      go_ret2
      exact row_lits w [19, 1, 106] true (by simp)
    · show Calls _ _ _ _ (RowPost w ([11], true))
      go_enter Tryz.func54, Tryz.ntmps54
      go_wp2_with (go_at_call 53; refine (l3row_any _ _).mono ?_; rintro e w' ⟨rfl, hw⟩; subst w')
      go_ret2
      exact row_lits w [11] true (by simp)
    · show Calls _ _ _ _ (RowPost w ([23], true))
      go_enter Tryz.func54, Tryz.ntmps54
      go_wp2_with (go_at_call 53; refine (l3row_any _ _).mono ?_; rintro e w' ⟨rfl, hw⟩; subst w')
      go_ret2
      exact row_lits w [23] true (by simp)
    · show Calls _ _ _ _ (RowPost w ([27, 108], true))
      go_enter Tryz.func54, Tryz.ntmps54
      go_wp2_with (go_at_call 53; refine (l3row_any _ _).mono ?_; rintro e w' ⟨rfl, hw⟩; subst w')
      go_ret2
      exact row_lits w [27, 108] true (by simp)
    · show Calls _ _ _ _ (RowPost w ([30, 132, 12, 1, 109, 132], true))
      go_enter Tryz.func54, Tryz.ntmps54
      go_wp2_with (go_at_call 53; refine (l3row_any _ _).mono ?_; rintro e w' ⟨rfl, hw⟩; subst w')
      go_ret2
      exact row_lits w [30, 132, 12, 1, 109, 132] true (by simp)
    · show Calls _ _ _ _ (RowPost w ([28, 119], true))
      go_enter Tryz.func54, Tryz.ntmps54
      go_wp2_with (go_at_call 53; refine (l3row_any _ _).mono ?_; rintro e w' ⟨rfl, hw⟩; subst w')
      go_ret2
      exact row_lits w [28, 119] true (by simp)
    · show Calls _ _ _ _ (RowPost w ([14, 116], true))
      go_enter Tryz.func54, Tryz.ntmps54
      go_wp2_with (go_at_call 53; refine (l3row_any _ _).mono ?_; rintro e w' ⟨rfl, hw⟩; subst w')
      go_ret2
      exact row_lits w [14, 116] true (by simp)
    · show Calls _ _ _ _ (RowPost w ([132], true))
      go_enter Tryz.func54, Tryz.ntmps54
      go_wp2_with (go_at_call 53; refine (l3row_any _ _).mono ?_; rintro e w' ⟨rfl, hw⟩; subst w')
      go_ret2
      exact row_lits w [132] true (by simp)
    · show Calls _ _ _ _ (RowPost w ([1, 110], true))
      go_enter Tryz.func54, Tryz.ntmps54
      go_wp2_with (go_at_call 53; refine (l3row_any _ _).mono ?_; rintro e w' ⟨rfl, hw⟩; subst w')
      go_ret2
      exact row_lits w [1, 110] true (by simp)
    · show Calls _ _ _ _ (RowPost w ([40, 119, 41, 112], true))
      go_enter Tryz.func54, Tryz.ntmps54
      go_wp2_with (go_at_call 53; refine (l3row_any _ _).mono ?_; rintro e w' ⟨rfl, hw⟩; subst w')
      go_ret2
      exact row_lits w [40, 119, 41, 112] true (by simp)
  · have e : xStat t = ([], false) := by
      unfold xStat
      rw [if_neg (by omega), if_neg (by omega), if_neg (by omega), if_neg (by omega), if_neg (by omega), if_neg (by omega), if_neg (by omega), if_neg (by omega), if_neg (by omega), if_neg (by omega), if_neg (by omega), if_neg (by omega), if_neg (by omega), if_neg (by omega), if_neg (by omega)]
    rw [e]
    have h22 : ¬ t = 22 := by omega
    have b22 : (t == 22) = false := beq_eq_false_iff_ne.2 h22
    have h13 : ¬ t = 13 := by omega
    have b13 : (t == 13) = false := beq_eq_false_iff_ne.2 h13
    have h18 : ¬ t = 18 := by omega
    have b18 : (t == 18) = false := beq_eq_false_iff_ne.2 h18
    have h20 : ¬ t = 20 := by omega
    have b20 : (t == 20) = false := beq_eq_false_iff_ne.2 h20
    have h31 : ¬ t = 31 := by omega
    have b31 : (t == 31) = false := beq_eq_false_iff_ne.2 h31
    have h19 : ¬ t = 19 := by omega
    have b19 : (t == 19) = false := beq_eq_false_iff_ne.2 h19
    have h11 : ¬ t = 11 := by omega
    have b11 : (t == 11) = false := beq_eq_false_iff_ne.2 h11
    have h23 : ¬ t = 23 := by omega
    have b23 : (t == 23) = false := beq_eq_false_iff_ne.2 h23
    have h27 : ¬ t = 27 := by omega
    have b27 : (t == 27) = false := beq_eq_false_iff_ne.2 h27
    have h30 : ¬ t = 30 := by omega
    have b30 : (t == 30) = false := beq_eq_false_iff_ne.2 h30
    have h28 : ¬ t = 28 := by omega
    have b28 : (t == 28) = false := beq_eq_false_iff_ne.2 h28
    have h14 : ¬ t = 14 := by omega
    have b14 : (t == 14) = false := beq_eq_false_iff_ne.2 h14
    have h42 : ¬ t = 42 := by omega
    have b42 : (t == 42) = false := beq_eq_false_iff_ne.2 h42
    have h1 : ¬ t = 1 := by omega
    have b1 : (t == 1) = false := beq_eq_false_iff_ne.2 h1
    have h40 : ¬ t = 40 := by omega
    have b40 : (t == 40) = false := beq_eq_false_iff_ne.2 h40
    clear h e
    go_enter Tryz.func54, Tryz.ntmps54
    go_wp2_with (go_at_call 53; refine (l3row_any _ _).mono ?_; rintro e w' ⟨rfl, hw⟩; subst w')
    go_ret2
    exact row_nil w false
set_option maxRecDepth 100000 in
set_option maxHeartbeats 3200000 in
theorem l3suffix_any (w : World) (t a c : Int) : Calls Tryz.prog 73 #[.int .i64 t, .int .i64 a, .int .i64 c] w fun e w' => ∃ b k, e = .returned (.slice b (xSuffix t a c).length k) ∧ w'.ownsRow w.heap.size 3 1 (.slice b (xSuffix t a c).length k) (xSuffix t a c).length ((xSuffix t a c).map (Value.int .i64)) ∧ Below w.heap.size w w' := by
  by_cases h : t = 48 ∨ t = 44 ∨ t = 40
  · rcases h with rfl | rfl | rfl
    · have e : xSuffix 48 a c = [48, 1, a] := rfl
      rw [e]
      go_enter Tryz.func73, Tryz.ntmps73
      go_wp2_with (go_at_call 53; refine (l3row_any _ _).mono ?_; rintro e w' ⟨rfl, hw⟩; subst w')
      go_ret
      exact ⟨_, _, rfl, own_lits w [48, 1, a] _ rfl (by simp), bel1 w _⟩
    · have e : xSuffix 44 a c = [44, 119, 45, a] := rfl
      rw [e]
      go_enter Tryz.func73, Tryz.ntmps73
      go_wp2_with (go_at_call 53; refine (l3row_any _ _).mono ?_; rintro e w' ⟨rfl, hw⟩; subst w')
      go_ret
      exact ⟨_, _, rfl, own_lits w [44, 119, 45, a] _ rfl (by simp), bel1 w _⟩
    · have e : xSuffix 40 a c = [40, 123, 41, c] := rfl
      rw [e]
      go_enter Tryz.func73, Tryz.ntmps73
      go_wp2_with (go_at_call 53; refine (l3row_any _ _).mono ?_; rintro e w' ⟨rfl, hw⟩; subst w')
      go_ret
      exact ⟨_, _, rfl, own_lits w [40, 123, 41, c] _ rfl (by simp), bel1 w _⟩
  · have e : xSuffix t a c = [] := by unfold xSuffix; rw [if_neg (by omega), if_neg (by omega), if_neg (by omega)]
    rw [e]
    have h48 : ¬ t = 48 := by omega
    have b48 : (t == 48) = false := beq_eq_false_iff_ne.2 h48
    have h44 : ¬ t = 44 := by omega
    have b44 : (t == 44) = false := beq_eq_false_iff_ne.2 h44
    have h40 : ¬ t = 40 := by omega
    have b40 : (t == 40) = false := beq_eq_false_iff_ne.2 h40
    clear h e
    go_enter Tryz.func73, Tryz.ntmps73
    go_wp2_with fail
    go_ret
    exact ⟨_, _, rfl, World.ownsRow_nil _ _ _ _, Below.refl _ w⟩
set_option maxRecDepth 100000 in
set_option maxHeartbeats 3200000 in
theorem l3unit_any (w : World) (t : Int) : Calls Tryz.prog 74 #[.int .i64 t] w (RowPost w (xUnit t)) := by
  have kp := fun w => l3prefix_any w t
  have kb := fun w => l3begins_any w t
  unfold xUnit
  cases hp : xPrefix t with
  | true =>
    rw [if_pos rfl]
    rw [hp] at kp
    clear hp kb
    go_enter Tryz.func74, Tryz.ntmps74
    go_wp2_with (first | (go_at_call 72; refine (kp _).mono ?_; rintro e w' ⟨rfl, hw⟩; subst w') | (go_at_call 53; refine (l3row_any _ _).mono ?_; rintro e w' ⟨rfl, hw⟩; subst w'))
    go_ret2
    exact row_lits w [t, 120] true (by simp)
  | false =>
    rw [if_neg (by decide)]
    rw [hp] at kp
    clear hp
    by_cases h : t = 1 ∨ t = 40 ∨ t = 42 ∨ t = 18
    · clear kb
      rcases h with rfl | rfl | rfl | rfl
      · show Calls _ _ _ _ (RowPost w ([1, 122], true))
        go_enter Tryz.func74, Tryz.ntmps74
        go_wp2_with (first | (go_at_call 72; refine (kp _).mono ?_; rintro e w' ⟨rfl, hw⟩; subst w') | (go_at_call 53; refine (l3row_any _ _).mono ?_; rintro e w' ⟨rfl, hw⟩; subst w'))
        go_ret2
        exact row_lits w [1, 122] true (by simp)
      · show Calls _ _ _ _ (RowPost w ([40, 119, 41, 122], true))
        go_enter Tryz.func74, Tryz.ntmps74
        go_wp2_with (first | (go_at_call 72; refine (kp _).mono ?_; rintro e w' ⟨rfl, hw⟩; subst w') | (go_at_call 53; refine (l3row_any _ _).mono ?_; rintro e w' ⟨rfl, hw⟩; subst w'))
        go_ret2
        exact row_lits w [40, 119, 41, 122] true (by simp)
      · show Calls _ _ _ _ (RowPost w ([42, 129, 43], true))
        go_enter Tryz.func74, Tryz.ntmps74
        go_wp2_with (first | (go_at_call 72; refine (kp _).mono ?_; rintro e w' ⟨rfl, hw⟩; subst w') | (go_at_call 53; refine (l3row_any _ _).mono ?_; rintro e w' ⟨rfl, hw⟩; subst w'))
        go_ret2
        exact row_lits w [42, 129, 43] true (by simp)
      · show Calls _ _ _ _ (RowPost w ([18, 133], true))
        go_enter Tryz.func74, Tryz.ntmps74
        go_wp2_with (first | (go_at_call 72; refine (kp _).mono ?_; rintro e w' ⟨rfl, hw⟩; subst w') | (go_at_call 53; refine (l3row_any _ _).mono ?_; rintro e w' ⟨rfl, hw⟩; subst w'))
        go_ret2
        exact row_lits w [18, 133] true (by simp)
    · rw [if_neg (by omega), if_neg (by omega), if_neg (by omega), if_neg (by omega)]
      have h1 : ¬ t = 1 := by omega
      have b1 : (t == 1) = false := beq_eq_false_iff_ne.2 h1
      have h40 : ¬ t = 40 := by omega
      have b40 : (t == 40) = false := beq_eq_false_iff_ne.2 h40
      have h42 : ¬ t = 42 := by omega
      have b42 : (t == 42) = false := beq_eq_false_iff_ne.2 h42
      have h18 : ¬ t = 18 := by omega
      have b18 : (t == 18) = false := beq_eq_false_iff_ne.2 h18
      clear h
      generalize xBegins t = b at kb ⊢
      go_enter Tryz.func74, Tryz.ntmps74
      go_wp2_with (first | (go_at_call 72; refine (kp _).mono ?_; rintro e w' ⟨rfl, hw⟩; subst w') | (go_at_call 53; refine (l3row_any _ _).mono ?_; rintro e w' ⟨rfl, hw⟩; subst w') | (go_at_call 55; refine (kb _).mono ?_; rintro e w' ⟨rfl, hw⟩; subst w'))
      go_ret2
      exact row_lits w [t] b (by simp)
end Go.Proofs.YtdlhfiheingibaaGreatDoor

namespace Go.Proofs.YtdlhfiheingibaaGreatDoor
open Go.RowKit
set_option linter.unusedVariables false

set_option maxRecDepth 100000 in
set_option maxHeartbeats 3200000 in
theorem ex119_l3expand3 (w : World) (t : Int) : Calls Tryz.prog 57 #[.int .i64 119, .int .i64 t] w (RowPost w (x119 t)) := by
  have kb := fun w => l3begins_any w t
  unfold x119
  generalize xBegins t = b at kb ⊢
  go_enter Tryz.func57, Tryz.ntmps57
  go_wp2_with (first | (go_at_call 53; refine (l3row_any _ _).mono ?_; rintro e w' ⟨rfl, hw⟩; subst w') | (go_at_call 55; refine (kb _).mono ?_; rintro e w' ⟨rfl, hw⟩; subst w'))
  go_ret2
  exact row_lits w [120, 121] b (by simp)
set_option maxRecDepth 100000 in
set_option maxHeartbeats 3200000 in
theorem ex124_l3expand3 (w : World) (t : Int) : Calls Tryz.prog 57 #[.int .i64 124, .int .i64 t] w (RowPost w (x124 t)) := by
  have kb := fun w => l3begins_any w t
  unfold x124
  generalize xBegins t = b at kb ⊢
  go_enter Tryz.func57, Tryz.ntmps57
  go_wp2_with (first | (go_at_call 53; refine (l3row_any _ _).mono ?_; rintro e w' ⟨rfl, hw⟩; subst w') | (go_at_call 55; refine (kb _).mono ?_; rintro e w' ⟨rfl, hw⟩; subst w'))
  go_ret2
  exact row_lits w [119, 125] b (by simp)
set_option maxRecDepth 100000 in
set_option maxHeartbeats 3200000 in
theorem ex125_l3expand3 (w : World) (t : Int) : Calls Tryz.prog 57 #[.int .i64 125, .int .i64 t] w (RowPost w (x125 t)) := by
  unfold x125
  by_cases h : t = 46
  · subst h
    show Calls _ _ _ _ (RowPost w ([46, 119, 125], true))
    go_enter Tryz.func57, Tryz.ntmps57
    go_wp2_with (go_at_call 53; refine (l3row_any _ _).mono ?_; rintro e w' ⟨rfl, hw⟩; subst w')
    go_ret2
    exact row_lits w [46, 119, 125] true (by simp)
  · rw [if_neg (by omega)]
    have h46 : ¬ t = 46 := by omega
    have b46 : (t == 46) = false := beq_eq_false_iff_ne.2 h46
    clear h
    go_enter Tryz.func57, Tryz.ntmps57
    go_wp2_with (go_at_call 53; refine (l3row_any _ _).mono ?_; rintro e w' ⟨rfl, hw⟩; subst w')
    go_ret2
    exact row_nil w true
set_option maxRecDepth 100000 in
set_option maxHeartbeats 3200000 in
theorem ex126_l3expand3 (w : World) (t : Int) : Calls Tryz.prog 57 #[.int .i64 126, .int .i64 t] w (RowPost w (x126 t)) := by
  unfold x126
  by_cases h : t = 1 ∨ t = 49
  · rcases h with rfl | rfl
    · show Calls _ _ _ _ (RowPost w ([1, 127], true))
      go_enter Tryz.func57, Tryz.ntmps57
      go_wp2_with (go_at_call 53; refine (l3row_any _ _).mono ?_; rintro e w' ⟨rfl, hw⟩; subst w')
      go_ret2
      exact row_lits w [1, 127] true (by simp)
    · show Calls _ _ _ _ (RowPost w ([49], true))
      go_enter Tryz.func57, Tryz.ntmps57
      go_wp2_with (go_at_call 53; refine (l3row_any _ _).mono ?_; rintro e w' ⟨rfl, hw⟩; subst w')
      go_ret2
      exact row_lits w [49] true (by simp)
  · rw [if_neg (by omega), if_neg (by omega)]
    have h1 : ¬ t = 1 := by omega
    have b1 : (t == 1) = false := beq_eq_false_iff_ne.2 h1
    have h49 : ¬ t = 49 := by omega
    have b49 : (t == 49) = false := beq_eq_false_iff_ne.2 h49
    clear h
    go_enter Tryz.func57, Tryz.ntmps57
    go_wp2_with (go_at_call 53; refine (l3row_any _ _).mono ?_; rintro e w' ⟨rfl, hw⟩; subst w')
    go_ret2
    exact row_nil w true
set_option maxRecDepth 100000 in
set_option maxHeartbeats 3200000 in
theorem ex127_l3expand3 (w : World) (t : Int) : Calls Tryz.prog 57 #[.int .i64 127, .int .i64 t] w (RowPost w (x127 t)) := by
  unfold x127
  by_cases h : t = 46
  · subst h
    show Calls _ _ _ _ (RowPost w ([46, 128], true))
    go_enter Tryz.func57, Tryz.ntmps57
    go_wp2_with (go_at_call 53; refine (l3row_any _ _).mono ?_; rintro e w' ⟨rfl, hw⟩; subst w')
    go_ret2
    exact row_lits w [46, 128] true (by simp)
  · rw [if_neg (by omega)]
    have h46 : ¬ t = 46 := by omega
    have b46 : (t == 46) = false := beq_eq_false_iff_ne.2 h46
    clear h
    go_enter Tryz.func57, Tryz.ntmps57
    go_wp2_with (go_at_call 53; refine (l3row_any _ _).mono ?_; rintro e w' ⟨rfl, hw⟩; subst w')
    go_ret2
    exact row_nil w true
set_option maxRecDepth 100000 in
set_option maxHeartbeats 3200000 in
theorem ex128_l3expand3 (w : World) (t : Int) : Calls Tryz.prog 57 #[.int .i64 128, .int .i64 t] w (RowPost w (x128 t)) := by
  unfold x128
  by_cases h : t = 1 ∨ t = 49
  · rcases h with rfl | rfl
    · show Calls _ _ _ _ (RowPost w ([1, 127], true))
      go_enter Tryz.func57, Tryz.ntmps57
      go_wp2_with (go_at_call 53; refine (l3row_any _ _).mono ?_; rintro e w' ⟨rfl, hw⟩; subst w')
      go_ret2
      exact row_lits w [1, 127] true (by simp)
    · show Calls _ _ _ _ (RowPost w ([49], true))
      go_enter Tryz.func57, Tryz.ntmps57
      go_wp2_with (go_at_call 53; refine (l3row_any _ _).mono ?_; rintro e w' ⟨rfl, hw⟩; subst w')
      go_ret2
      exact row_lits w [49] true (by simp)
  · rw [if_neg (by omega), if_neg (by omega)]
    have h1 : ¬ t = 1 := by omega
    have b1 : (t == 1) = false := beq_eq_false_iff_ne.2 h1
    have h49 : ¬ t = 49 := by omega
    have b49 : (t == 49) = false := beq_eq_false_iff_ne.2 h49
    clear h
    go_enter Tryz.func57, Tryz.ntmps57
    go_wp2_with (go_at_call 53; refine (l3row_any _ _).mono ?_; rintro e w' ⟨rfl, hw⟩; subst w')
    go_ret2
    exact row_nil w false
set_option maxRecDepth 100000 in
set_option maxHeartbeats 3200000 in
theorem ex130_l3expand3 (w : World) (t : Int) : Calls Tryz.prog 57 #[.int .i64 130, .int .i64 t] w (RowPost w (x130 t)) := by
  unfold x130
  by_cases h : t = 46
  · subst h
    show Calls _ _ _ _ (RowPost w ([46, 129], true))
    go_enter Tryz.func57, Tryz.ntmps57
    go_wp2_with (go_at_call 53; refine (l3row_any _ _).mono ?_; rintro e w' ⟨rfl, hw⟩; subst w')
    go_ret2
    exact row_lits w [46, 129] true (by simp)
  · rw [if_neg (by omega)]
    have h46 : ¬ t = 46 := by omega
    have b46 : (t == 46) = false := beq_eq_false_iff_ne.2 h46
    clear h
    go_enter Tryz.func57, Tryz.ntmps57
    go_wp2_with (go_at_call 53; refine (l3row_any _ _).mono ?_; rintro e w' ⟨rfl, hw⟩; subst w')
    go_ret2
    exact row_nil w true
set_option maxRecDepth 100000 in
set_option maxHeartbeats 3200000 in
theorem ex131_l3expand3 (w : World) (t : Int) : Calls Tryz.prog 57 #[.int .i64 131, .int .i64 t] w (RowPost w (x131 t)) := by
  have kb := fun w => l3begins_any w t
  unfold x131
  by_cases h : t = 48 ∨ t = 44
  · rcases h with rfl | rfl
    · show Calls _ _ _ _ (RowPost w ([48, 1, 47, 119], true))
      go_enter Tryz.func57, Tryz.ntmps57
      go_wp2_with (first | (go_at_call 53; refine (l3row_any _ _).mono ?_; rintro e w' ⟨rfl, hw⟩; subst w') | (go_at_call 55; refine (kb _).mono ?_; rintro e w' ⟨rfl, hw⟩; subst w'))
      go_ret2
      exact row_lits w [48, 1, 47, 119] true (by simp)
    · show Calls _ _ _ _ (RowPost w ([44, 119, 45, 47, 119], true))
      go_enter Tryz.func57, Tryz.ntmps57
      go_wp2_with (first | (go_at_call 53; refine (l3row_any _ _).mono ?_; rintro e w' ⟨rfl, hw⟩; subst w') | (go_at_call 55; refine (kb _).mono ?_; rintro e w' ⟨rfl, hw⟩; subst w'))
      go_ret2
      exact row_lits w [44, 119, 45, 47, 119] true (by simp)
  · rw [if_neg (by omega), if_neg (by omega)]
    have h48 : ¬ t = 48 := by omega
    have b48 : (t == 48) = false := beq_eq_false_iff_ne.2 h48
    have h44 : ¬ t = 44 := by omega
    have b44 : (t == 44) = false := beq_eq_false_iff_ne.2 h44
    clear h
    generalize xBegins t = b at kb ⊢
    go_enter Tryz.func57, Tryz.ntmps57
    go_wp2_with (first | (go_at_call 53; refine (l3row_any _ _).mono ?_; rintro e w' ⟨rfl, hw⟩; subst w') | (go_at_call 55; refine (kb _).mono ?_; rintro e w' ⟨rfl, hw⟩; subst w'))
    go_ret2
    exact row_lits w [119] b (by simp)
set_option maxRecDepth 100000 in
set_option maxHeartbeats 3200000 in
theorem ex132_l3expand3 (w : World) (t : Int) : Calls Tryz.prog 57 #[.int .i64 132, .int .i64 t] w (RowPost w (x132 t)) := by
  unfold x132
  by_cases g : t = 42
  · rw [decide_eq_true g]
    subst g
    all_goals
      go_enter Tryz.func57, Tryz.ntmps57
      go_wp2_with (go_at_call 53; refine (l3row_any _ _).mono ?_; rintro e w' ⟨rfl, hw⟩; subst w')
      go_ret2
      exact row_lits w [42, 100, 43] true (by simp)
  · rw [decide_eq_false g]
    have g42 : ¬ t = 42 := by omega
    have f42 : (t == 42) = false := beq_eq_false_iff_ne.2 g42
    clear g
    go_enter Tryz.func57, Tryz.ntmps57
    go_wp2_with (go_at_call 53; refine (l3row_any _ _).mono ?_; rintro e w' ⟨rfl, hw⟩; subst w')
    go_ret2
    exact row_lits w [42, 100, 43] false (by simp)
set_option maxRecDepth 100000 in
set_option maxHeartbeats 3200000 in
theorem ex133_l3expand3 (w : World) (t : Int) : Calls Tryz.prog 57 #[.int .i64 133, .int .i64 t] w (RowPost w (x133 t)) := by
  unfold x133
  by_cases g : t = 40
  · rw [decide_eq_true g]
    subst g
    all_goals
      go_enter Tryz.func57, Tryz.ntmps57
      go_wp2_with (go_at_call 53; refine (l3row_any _ _).mono ?_; rintro e w' ⟨rfl, hw⟩; subst w')
      go_ret2
      exact row_lits w [40, 126, 41, 132] true (by simp)
  · rw [decide_eq_false g]
    have g40 : ¬ t = 40 := by omega
    have f40 : (t == 40) = false := beq_eq_false_iff_ne.2 g40
    clear g
    go_enter Tryz.func57, Tryz.ntmps57
    go_wp2_with (go_at_call 53; refine (l3row_any _ _).mono ?_; rintro e w' ⟨rfl, hw⟩; subst w')
    go_ret2
    exact row_lits w [40, 126, 41, 132] false (by simp)
set_option maxRecDepth 100000 in
set_option maxHeartbeats 3200000 in
theorem ex102_l3expand3 (w : World) (t : Int) : Calls Tryz.prog 57 #[.int .i64 102, .int .i64 t] w (RowPost w (x102 t)) := by
  unfold x102
  by_cases g : t = 40
  · rw [decide_eq_true g]
    subst g
    all_goals
      go_enter Tryz.func57, Tryz.ntmps57
      go_wp2_with (go_at_call 53; refine (l3row_any _ _).mono ?_; rintro e w' ⟨rfl, hw⟩; subst w')
      go_ret2
      exact row_lits w [40, 126, 41, 132] true (by simp)
  · rw [decide_eq_false g]
    have g40 : ¬ t = 40 := by omega
    have f40 : (t == 40) = false := beq_eq_false_iff_ne.2 g40
    clear g
    go_enter Tryz.func57, Tryz.ntmps57
    go_wp2_with (go_at_call 53; refine (l3row_any _ _).mono ?_; rintro e w' ⟨rfl, hw⟩; subst w')
    go_ret2
    exact row_lits w [40, 126, 41, 132] false (by simp)
set_option maxRecDepth 100000 in
set_option maxHeartbeats 3200000 in
theorem ex121_l3expand3 (w : World) (t : Int) : Calls Tryz.prog 57 #[.int .i64 121, .int .i64 t] w (RowPost w (x121 t)) := by
  have kp := fun w => l3infix_any w t
  unfold x121
  cases hp : xInfix t with
  | true =>
    rw [if_pos rfl]
    rw [hp] at kp
    clear hp
    go_enter Tryz.func57, Tryz.ntmps57
    go_wp2_with (first | (go_at_call 75; refine (kp _).mono ?_; rintro e w' ⟨rfl, hw⟩; subst w') | (go_at_call 53; refine (l3row_any _ _).mono ?_; rintro e w' ⟨rfl, hw⟩; subst w'))
    go_ret2
    exact row_lits w [t, 119] true (by simp)
  | false =>
    rw [if_neg (by decide)]
    rw [hp] at kp
    clear hp
    go_enter Tryz.func57, Tryz.ntmps57
    go_wp2_with (first | (go_at_call 75; refine (kp _).mono ?_; rintro e w' ⟨rfl, hw⟩; subst w') | (go_at_call 53; refine (l3row_any _ _).mono ?_; rintro e w' ⟨rfl, hw⟩; subst w'))
    go_ret2
    exact row_nil w true
set_option maxRecDepth 100000 in
set_option maxHeartbeats 3200000 in
theorem ex123_l3expand3 (w : World) (t : Int) : Calls Tryz.prog 57 #[.int .i64 123, .int .i64 t] w (RowPost w (x123 t)) := by
  have kb := fun w => l3begins_any w t
  unfold x123
  cases hp : xBegins t with
  | true =>
    rw [if_pos rfl]
    rw [hp] at kb
    clear hp
    go_enter Tryz.func57, Tryz.ntmps57
    go_wp2_with (first | (go_at_call 55; refine (kb _).mono ?_; rintro e w' ⟨rfl, hw⟩; subst w') | (go_at_call 53; refine (l3row_any _ _).mono ?_; rintro e w' ⟨rfl, hw⟩; subst w'))
    go_ret2
    exact row_lits w [124] true (by simp)
  | false =>
    rw [if_neg (by decide)]
    rw [hp] at kb
    clear hp
    go_enter Tryz.func57, Tryz.ntmps57
    go_wp2_with (first | (go_at_call 55; refine (kb _).mono ?_; rintro e w' ⟨rfl, hw⟩; subst w') | (go_at_call 53; refine (l3row_any _ _).mono ?_; rintro e w' ⟨rfl, hw⟩; subst w'))
    go_ret2
    exact row_nil w true
set_option maxRecDepth 100000 in
set_option maxHeartbeats 3200000 in
theorem ex129_l3expand3 (w : World) (t : Int) : Calls Tryz.prog 57 #[.int .i64 129, .int .i64 t] w (RowPost w (x129 t)) := by
  have kb := fun w => l3begins_any w t
  unfold x129
  cases hp : xBegins t with
  | true =>
    rw [if_pos rfl]
    rw [hp] at kb
    clear hp
    go_enter Tryz.func57, Tryz.ntmps57
    go_wp2_with (first | (go_at_call 55; refine (kb _).mono ?_; rintro e w' ⟨rfl, hw⟩; subst w') | (go_at_call 53; refine (l3row_any _ _).mono ?_; rintro e w' ⟨rfl, hw⟩; subst w'))
    go_ret2
    exact row_lits w [131, 130] true (by simp)
  | false =>
    rw [if_neg (by decide)]
    rw [hp] at kb
    clear hp
    by_cases h : t = 48 ∨ t = 44
    · rcases h with rfl | rfl
      all_goals
        show Calls _ _ _ _ (RowPost w ([131, 130], true))
        go_enter Tryz.func57, Tryz.ntmps57
        go_wp2_with (first | (go_at_call 55; refine (kb _).mono ?_; rintro e w' ⟨rfl, hw⟩; subst w') | (go_at_call 53; refine (l3row_any _ _).mono ?_; rintro e w' ⟨rfl, hw⟩; subst w'))
        go_ret2
        exact row_lits w [131, 130] true (by simp)
    · rw [if_neg (by omega), if_neg (by omega)]
      have h48 : ¬ t = 48 := by omega
      have b48 : (t == 48) = false := beq_eq_false_iff_ne.2 h48
      have h44 : ¬ t = 44 := by omega
      have b44 : (t == 44) = false := beq_eq_false_iff_ne.2 h44
      clear h
      go_enter Tryz.func57, Tryz.ntmps57
      go_wp2_with (first | (go_at_call 55; refine (kb _).mono ?_; rintro e w' ⟨rfl, hw⟩; subst w') | (go_at_call 53; refine (l3row_any _ _).mono ?_; rintro e w' ⟨rfl, hw⟩; subst w'))
      go_ret2
      exact row_nil w true
set_option maxRecDepth 100000 in
set_option maxHeartbeats 3200000 in
theorem ex120_l3expand3 (w : World) (t : Int) : Calls Tryz.prog 57 #[.int .i64 120, .int .i64 t] w (RowPost w (x120 t)) := by
  have ku := fun w => l3unit_any w t
  unfold x120
  generalize xUnit t = r at ku ⊢
  go_enter Tryz.func57, Tryz.ntmps57
  go_wp2_with (go_at_call 74; refine (ku _).mono ?_; rintro e w' ⟨a, c, rfl, ho, hb⟩)
  go_ret2
  exact ⟨_, _, rfl, ho, hb⟩
theorem ex122_l3expand3 (w : World) (t : Int) : Calls Tryz.prog 57 #[.int .i64 122, .int .i64 t] w (RowPost w (x122 t)) := by
  have ku := fun w => l3suffix_any w t 122 122
  unfold x122
  generalize xSuffix t 122 122 = r at ku ⊢
  go_enter Tryz.func57, Tryz.ntmps57
  go_wp2_with (go_at_call 73; refine (ku _).mono ?_; rintro e w' ⟨a, c, rfl, ho, hb⟩)
  go_ret2
  exact ⟨_, _, rfl, ho, hb⟩
end Go.Proofs.YtdlhfiheingibaaGreatDoor
