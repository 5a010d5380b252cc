import Derived.Test.YtpllcogpohcbiaaDoorTImp
namespace Go.Proofs.YtpllcogpohcbiaaDoor
open Go.RowKit Go.Maps Go.WideMaps
set_option linter.unusedVariables false

set_option maxHeartbeats 800000 in
theorem szTok (k f t l n : Int) (x : ByteArray) (hm : x.size ≤ 9223372036854775807) (w : World) : Calls Tryd.prog 13 #[.agg #[.int .i64 k, .int .i64 f, .int .i64 t, .int .i64 l, .int .i64 n, .string x], .int .i64 1048576] w fun e w' => e = .returned (.int .i64 (if 1048576 < x.size then -1 else 1048576 - (x.size : Int))) ∧ Below w.heap.size w w' := by
  have hb0 : Below w.heap.size w (w.alloc (.cells #[.int .i64 k, .int .i64 f, .int .i64 t, .int .i64 l, .int .i64 n, .string x] 35)) := (Below.refl _ w).alloc (Nat.le_refl _) _
  by_cases h : 1048576 < x.size
  · rw [if_pos h]
    have hn : (1048576 : Int) - (x.size : Int) < 0 := by omega
    go_enter Tryd.func13, Tryd.ntmps13
    go_wp2
    go_ret
    exact ⟨rfl, hb0⟩
  · rw [if_neg h]
    have hn : ¬ (1048576 : Int) - (x.size : Int) < 0 := by omega
    go_enter Tryd.func13, Tryd.ntmps13
    go_wp2
    go_ret
    exact ⟨rfl, hb0⟩

set_option maxHeartbeats 1600000 in
theorem toTok (k f t l n : Int) (x : ByteArray) (w : World) : Calls Tryd.prog 15 #[.agg #[.int .i64 k, .int .i64 f, .int .i64 t, .int .i64 l, .int .i64 n, .string x]] w fun e w' => e = .returned (.agg #[.int .i64 k, .int .i64 f, .int .i64 t, .int .i64 l, .int .i64 n, .string x]) ∧ Below w.heap.size w w' := by
  go_enter Tryd.func15, Tryd.ntmps15
  go_wp2
  refine bodyPost_ret (v := .agg #[.int .i64 k, .int .i64 f, .int .i64 t, .int .i64 l, .int .i64 n, .string x]) (by simp [results, Tryd.results15, go_sem]) rfl ⟨rfl, ?_⟩
  exact ((((Below.refl _ w).alloc (Nat.le_refl _) _).alloc (by simp) _).alloc (by simp; omega) _)

set_option maxHeartbeats 1600000 in
theorem tok_walk (k f t l n : Int) (x : ByteArray) (k0 : -9223372036854775808 ≤ k) (k1 : k ≤ 9223372036854775807) (h0 : -9223372036854775808 ≤ n) (h1 : n ≤ 9223372036854775807) (hm : x.size ≤ 9223372036854775807) (w : World) (hL : Lay w) : Calls Tryd.prog 5 #[.agg #[.int .i64 k, .int .i64 f, .int .i64 t, .int .i64 l, .int .i64 n, .string x]] w fun e w' => e = .returned (.bool true) ∧ Below w.heap.size w w' := by
  have hb0 : Below w.heap.size w (w.alloc (.cells #[.int .i64 k, .int .i64 f, .int .i64 t, .int .i64 l, .int .i64 n, .string x] 35)) := (Below.refl _ w).alloc (Nat.le_refl _) _
  have hT0 : (w.alloc (.cells #[.int .i64 k, .int .i64 f, .int .i64 t, .int .i64 l, .int .i64 n, .string x] 35)).heap[w.heap.size]? = some (.cells #[.int .i64 k, .int .i64 f, .int .i64 t, .int .i64 l, .int .i64 n, .string x] 35 (0, 0)) := heap_alloc_new w _
  have hL0 := hL.below hb0 (Nat.le_refl _)
  have ks := fun w => szTok k f t l n x hm w
  have kt := fun w => toTok k f t l n x w
  by_cases hx : 1048576 < x.size
  · rw [if_pos hx] at ks
    go_enter Tryd.func5, Tryd.ntmps5
    go_wp2_with (first | (go_at_call 13; refine (ks _).mono ?_; rintro e w1 ⟨rfl, hb1⟩; have hbb := hb0.trans (hb1.mono hb0.size); clear hb1 hb0 hT0 hL0))
    go_ret
    exact ⟨rfl, hbb⟩
  · rw [if_neg hx] at ks
    have ka := fun w => specTok k f t l n x h0 h1 (by omega) w
    have ki := fun w hL => implTok k f t l n x k0 k1 h0 h1 (by omega) w hL
    generalize tokS k n x = R at ka ki
    go_enter Tryd.func5, Tryd.ntmps5
    go_upto_region 2 with fail
    generalize w.alloc (.cells #[.int .i64 k, .int .i64 f, .int .i64 t, .int .i64 l, .int .i64 n, .string x] 35) = W at hb0 hT0 hL0
    have hlt : w.heap.size < W.heap.size := lt_of_block hT0
    have cells : ∀ W' : World, W'.heap[w.heap.size]? = some (.cells #[.int .i64 k, .int .i64 f, .int .i64 t, .int .i64 l, .int .i64 n, .string x] 35 (0, 0)) →
      W'.cell? ⟨w.heap.size, 0, none⟩ = some (.int .i64 k) ∧ W'.cell? ⟨w.heap.size, 1, none⟩ = some (.int .i64 f) ∧ W'.cell? ⟨w.heap.size, 2, none⟩ = some (.int .i64 t) ∧ W'.cell? ⟨w.heap.size, 3, none⟩ = some (.int .i64 l) ∧ W'.cell? ⟨w.heap.size, 4, none⟩ = some (.int .i64 n) ∧ W'.cell? ⟨w.heap.size, 5, none⟩ = some (.string x) := fun W' h =>
        ⟨by rw [cell_of_row _ _ _ _ _ _ h]; rfl, by rw [cell_of_row _ _ _ _ _ _ h]; rfl, by rw [cell_of_row _ _ _ _ _ _ h]; rfl, by rw [cell_of_row _ _ _ _ _ _ h]; rfl, by rw [cell_of_row _ _ _ _ _ _ h]; rfl, by rw [cell_of_row _ _ _ _ _ _ h]; rfl⟩
    have HC : Hid (∀ W' : World, W'.heap[w.heap.size]? = some (.cells #[.int .i64 k, .int .i64 f, .int .i64 t, .int .i64 l, .int .i64 n, .string x] 35 (0, 0)) →
      W'.cell? ⟨w.heap.size, 0, none⟩ = some (.int .i64 k) ∧ W'.cell? ⟨w.heap.size, 1, none⟩ = some (.int .i64 f) ∧ W'.cell? ⟨w.heap.size, 2, none⟩ = some (.int .i64 t) ∧ W'.cell? ⟨w.heap.size, 3, none⟩ = some (.int .i64 l) ∧ W'.cell? ⟨w.heap.size, 4, none⟩ = some (.int .i64 n) ∧ W'.cell? ⟨w.heap.size, 5, none⟩ = some (.string x)) := cells
    clear cells
    obtain ⟨c0, c1, c2, c3, c4, c5⟩ := HC.out W hT0
    go_upto_region 5 with (first | (go_at_call 13; refine (ks _).mono ?_; rintro e w1 ⟨rfl, hb1⟩))
    have hT1 := (hb1.block _ hlt).trans hT0
    have hL1 := hL0.below hb1 (Nat.le_refl _)
    have hB1 := hb0.trans (hb1.mono (Nat.le_of_lt hlt))
    have hlt1 : w.heap.size < w1.heap.size := lt_of_block hT1
    clear c0 c1 c2 c3 c4 c5 hb1 hT0 hL0 hb0 hlt
    obtain ⟨c0, c1, c2, c3, c4, c5⟩ := HC.out w1 hT1
    go_upto_region 6 with (first | (go_at_call 15; refine (kt _).mono ?_; rintro e w2 ⟨rfl, hb2⟩) | (go_at_call 14; refine (ka _).mono ?_; rintro e w3 ⟨rfl, hb3⟩))
    have hb23 := hb2.trans (hb3.mono hb2.size)
    have hT3 := (hb23.block _ hlt1).trans hT1
    have hL3 := hL1.below hb23 (Nat.le_refl _)
    have hB3 := hB1.trans (hb23.mono (Nat.le_of_lt hlt1))
    have hlt3 : w.heap.size < w3.heap.size := lt_of_block hT3
    clear c0 c1 c2 c3 c4 c5 hb2 hb3 hb23 hT1 hL1 hB1 hlt1
    obtain ⟨c0, c1, c2, c3, c4, c5⟩ := HC.out w3 hT3
    go_wp2_with (first | (go_at_call 15; refine (kt _).mono ?_; rintro e w4 ⟨rfl, hb4⟩; have hL4 := hL3.below hb4 (Nat.le_refl _)) | (go_at_call 16; refine (ki _ hL4).mono ?_; rintro e w5 ⟨rfl, hb5⟩))
    go_ret
    exact ⟨rfl, hB3.trans ((hb4.trans (hb5.mono hb4.size)).mono (Nat.le_of_lt hlt3))⟩
end Go.Proofs.YtpllcogpohcbiaaDoor
