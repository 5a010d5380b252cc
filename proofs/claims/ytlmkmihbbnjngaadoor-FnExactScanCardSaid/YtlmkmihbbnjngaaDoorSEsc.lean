import Derived.Test.YtlmkmihbbnjngaaDoorSLeaf
namespace Go.Proofs.YtlmkmihbbnjngaaDoor
open Go.RowKit
set_option linter.unusedVariables false

/-- The byte at a place; -1 behind the end. -/
def bat (s : ByteArray) (i : Nat) : Int := if h : i < s.size then (s[i].toNat : Int) else -1
theorem bat_in {s : ByteArray} {i : Nat} (h : i < s.size) : 0 ≤ bat s i ∧ bat s i < 256 := by
  unfold bat; rw [dif_pos h]; have := s[i].toNat_lt; omega
theorem bat_out {s : ByteArray} {i : Nat} (h : ¬ i < s.size) : bat s i = -1 := by unfold bat; rw [dif_neg h]
theorem idx_run {s : ByteArray} {i : Nat} (h : i < s.size) (w : World) : (Instr.index 9 (.string s) (.int .i64 (i : Int))).run Tryd.prog w = .ok (.int .u8 (bat s i)) w := by
  unfold bat; rw [dif_pos h]; go_simp
theorem idx_run1 {s : ByteArray} {i : Nat} (h : i + 1 < s.size) (w : World) : (Instr.index 9 (.string s) (.int .i64 ((i : Int) + 1))).run Tryd.prog w = .ok (.int .u8 (bat s (i + 1))) w := by
  have := idx_run h w
  have e : ((i + 1 : Nat) : Int) = (i : Int) + 1 := by omega
  rw [e] at this; exact this

theorem hexv_lt (c : Int) : hexv c < 16 := by unfold hexv; split; omega; split <;> omega
theorem or4 (a b : Int) (h0 : 0 ≤ a) (h1 : a < 256) (h2 : a % 16 = 0) (b0 : 0 ≤ b) (b1 : b < 16) : bits .or .i64 a b = a + b :=
  bits_join .i64 8 (by decide) (fun n a b => by rw [IntKind.wrap_i64]; omega) 4 a b h0 h2 h1 b0 b1 (by omega)
theorem or0 (b : Int) (b0 : 0 ≤ b) (b1 : b < 16) : bits .or .i64 0 b = b := by
  have := or4 0 b (by omega) (by omega) (by omega) b0 b1
  rw [this]; omega

def hexI (s : ByteArray) (p : Nat) : Int × Nat × Bool :=
  if hexv (bat s p) < 0 then (0, p, false) else if hexv (bat s (p + 1)) < 0 then (0, p + 1, false) else (hexv (bat s p) * 16 + hexv (bat s (p + 1)), p + 1 + 1, true)
def vHex (r : Int × Nat × Bool) : Value := .tuple #[.int .u8 r.1, .int .i64 (r.2.1 : Int), .bool r.2.2]

set_option maxHeartbeats 800000 in
theorem hexByte_two (s : ByteArray) (hm : s.size ≤ 100000) (p : Nat) (h1 : p + 1 < s.size) (x y : Int) (hx : hexv (bat s p) = x) (hy : hexv (bat s (p + 1)) = y) (x0 : 0 ≤ x) (y0 : 0 ≤ y) (w : World) :
    Calls Tryd.prog 60 #[.string s, .int .i64 p] w fun e w' => e = .returned (.tuple #[.int .u8 (x * 16 + y), .int .i64 ((p : Int) + 1 + 1), .bool true]) ∧ w' = w := by
  have x1 : x < 16 := by rw [← hx]; exact hexv_lt _
  have y1 : y < 16 := by rw [← hy]; exact hexv_lt _
  have i1 := fun w => idx_run (s := s) (i := p) (by omega) w
  have i2 := fun w => idx_run1 (s := s) (i := p) (by omega) w
  have hp0 : ((p : Int) == (s.size : Int)) = false := by simp; omega
  have hp1 : ((p : Int) + 1 == (s.size : Int)) = false := by simp; omega
  have b1 : bits .or .i64 0 x = x := or0 x x0 x1
  have b2 : bits .or .i64 (x * 16) y = x * 16 + y := or4 (x * 16) y (by omega) (by omega) (by omega) y0 y1
  have n1 := bat_in (s := s) (i := p) (by omega)
  have n2 := bat_in (s := s) (i := p + 1) h1
  obtain ⟨c, hc⟩ : ∃ c, bat s p = c := ⟨_, rfl⟩
  obtain ⟨d, hd⟩ : ∃ d, bat s (p + 1) = d := ⟨_, rfl⟩
  rw [hc] at hx i1 n1
  rw [hd] at hy i2 n2
  clear hc hd
  go_enter Tryd.func60, Tryd.ntmps60
  go_wp2_with fail
  refine wp_loop_rounds 3 ?_
  rw [rounds_succ]
  go_wp2_with (go_at_call 66; refine (idx_any c n1.1 n1.2 _).mono ?_; rintro e w' ⟨rfl, rfl⟩)
  rw [rounds_succ]
  go_wp2_with (go_at_call 66; refine (idx_any d n2.1 n2.2 _).mono ?_; rintro e w2 ⟨rfl, rfl⟩)
  rw [rounds_succ]
  go_wp2
  go_ret3
  exact ⟨rfl, rfl⟩

set_option maxHeartbeats 800000 in
theorem hexByte_first (s : ByteArray) (hm : s.size ≤ 100000) (p : Nat) (h1 : p < s.size) (x : Int) (hx : hexv (bat s p) = x) (x0 : x < 0) (w : World) :
    Calls Tryd.prog 60 #[.string s, .int .i64 p] w fun e w' => e = .returned (.tuple #[.int .u8 0, .int .i64 (p : Int), .bool false]) ∧ w' = w := by
  have i1 := fun w => idx_run (s := s) (i := p) (by omega) w
  have hp0 : ((p : Int) == (s.size : Int)) = false := by simp; omega
  have n1 := bat_in (s := s) (i := p) (by omega)
  obtain ⟨c, hc⟩ : ∃ c, bat s p = c := ⟨_, rfl⟩
  rw [hc] at hx i1 n1
  clear hc
  go_enter Tryd.func60, Tryd.ntmps60
  go_wp2_with fail
  refine wp_loop_rounds 1 ?_
  rw [rounds_succ]
  go_wp2_with (go_at_call 66; refine (idx_any c n1.1 n1.2 _).mono ?_; rintro e w' ⟨rfl, rfl⟩)
  go_ret3
  exact ⟨rfl, rfl⟩

set_option maxHeartbeats 800000 in
theorem hexByte_end (s : ByteArray) (hm : s.size ≤ 100000) (p : Nat) (h1 : p = s.size) (w : World) :
    Calls Tryd.prog 60 #[.string s, .int .i64 p] w fun e w' => e = .returned (.tuple #[.int .u8 0, .int .i64 (p : Int), .bool false]) ∧ w' = w := by
  subst h1
  go_enter Tryd.func60, Tryd.ntmps60
  go_wp2_with fail
  refine wp_loop_rounds 1 ?_
  rw [rounds_succ]
  go_wp2
  go_ret3
  exact ⟨rfl, rfl⟩

set_option maxHeartbeats 800000 in
theorem hexByte_second (s : ByteArray) (hm : s.size ≤ 100000) (p : Nat) (h1 : p + 1 < s.size) (x y : Int) (hx : hexv (bat s p) = x) (hy : hexv (bat s (p + 1)) = y) (x0 : 0 ≤ x) (y0 : y < 0) (w : World) :
    Calls Tryd.prog 60 #[.string s, .int .i64 p] w fun e w' => e = .returned (.tuple #[.int .u8 0, .int .i64 ((p : Int) + 1), .bool false]) ∧ w' = w := by
  have x1 : x < 16 := by rw [← hx]; exact hexv_lt _
  have i1 := fun w => idx_run (s := s) (i := p) (by omega) w
  have i2 := fun w => idx_run1 (s := s) (i := p) (by omega) w
  have hp0 : ((p : Int) == (s.size : Int)) = false := by simp; omega
  have hp1 : ((p : Int) + 1 == (s.size : Int)) = false := by simp; omega
  have b1 : bits .or .i64 0 x = x := or0 x x0 x1
  have n1 := bat_in (s := s) (i := p) (by omega)
  have n2 := bat_in (s := s) (i := p + 1) h1
  obtain ⟨c, hc⟩ : ∃ c, bat s p = c := ⟨_, rfl⟩
  obtain ⟨d, hd⟩ : ∃ d, bat s (p + 1) = d := ⟨_, rfl⟩
  rw [hc] at hx i1 n1
  rw [hd] at hy i2 n2
  clear hc hd
  go_enter Tryd.func60, Tryd.ntmps60
  go_wp2_with fail
  refine wp_loop_rounds 2 ?_
  rw [rounds_succ]
  go_wp2_with (go_at_call 66; refine (idx_any c n1.1 n1.2 _).mono ?_; rintro e w' ⟨rfl, rfl⟩)
  rw [rounds_succ]
  go_wp2_with (go_at_call 66; refine (idx_any d n2.1 n2.2 _).mono ?_; rintro e w2 ⟨rfl, rfl⟩)
  go_ret3
  exact ⟨rfl, rfl⟩

set_option maxHeartbeats 800000 in
theorem hexByte_mid (s : ByteArray) (hm : s.size ≤ 100000) (p : Nat) (h1 : p + 1 = s.size) (x : Int) (hx : hexv (bat s p) = x) (x0 : 0 ≤ x) (w : World) :
    Calls Tryd.prog 60 #[.string s, .int .i64 p] w fun e w' => e = .returned (.tuple #[.int .u8 0, .int .i64 ((p : Int) + 1), .bool false]) ∧ w' = w := by
  have x1 : x < 16 := by rw [← hx]; exact hexv_lt _
  have i1 := fun w => idx_run (s := s) (i := p) (by omega) w
  have hp0 : ((p : Int) == (s.size : Int)) = false := by simp; omega
  have hp1 : ((p : Int) + 1 == (s.size : Int)) = true := by simp; omega
  have hpm : p ≤ 100000 := by omega
  have b1 : bits .or .i64 0 x = x := or0 x x0 x1
  have n1 := bat_in (s := s) (i := p) (by omega)
  obtain ⟨c, hc⟩ : ∃ c, bat s p = c := ⟨_, rfl⟩
  rw [hc] at hx i1 n1
  clear hc h1
  go_enter Tryd.func60, Tryd.ntmps60
  go_wp2_with fail
  refine wp_loop_rounds 2 ?_
  rw [rounds_succ]
  go_wp2_with (go_at_call 66; refine (idx_any c n1.1 n1.2 _).mono ?_; rintro e w' ⟨rfl, rfl⟩)
  rw [rounds_succ]
  go_wp2
  go_ret3
  exact ⟨rfl, rfl⟩

theorem hexByte_any (s : ByteArray) (hm : s.size ≤ 100000) (p : Nat) (h : p ≤ s.size) (w : World) :
    Calls Tryd.prog 60 #[.string s, .int .i64 p] w fun e w' => e = .returned (vHex (hexI s p)) ∧ w' = w := by
  have hneg : hexv (-1) = -1 := by decide
  unfold hexI vHex
  by_cases h0 : p < s.size
  · by_cases hx : hexv (bat s p) < 0
    · rw [if_pos hx]; exact hexByte_first s hm p h0 _ rfl hx w
    · rw [if_neg hx]
      by_cases h1 : p + 1 < s.size
      · by_cases hy : hexv (bat s (p + 1)) < 0
        · rw [if_pos hy]; exact hexByte_second s hm p h1 _ _ rfl rfl (by omega) hy w
        · rw [if_neg hy]; exact hexByte_two s hm p h1 _ _ rfl rfl (by omega) (by omega) w
      · have e := bat_out (s := s) (i := p + 1) h1
        rw [if_pos (by rw [e, hneg]; omega)]
        exact hexByte_mid s hm p (by omega) _ rfl (by omega) w
  · have e := bat_out (s := s) (i := p) h0
    rw [if_pos (by rw [e, hneg]; omega)]
    exact hexByte_end s hm p (by omega) w
end Go.Proofs.YtlmkmihbbnjngaaDoor
