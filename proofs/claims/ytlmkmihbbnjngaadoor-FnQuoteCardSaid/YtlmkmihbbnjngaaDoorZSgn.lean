import Derived.Test.YtlmkmihbbnjngaaDoorZNum
namespace Go.Proofs.YtlmkmihbbnjngaaDoor
open Go.RowKit Go.Maps Go.WideMaps
set_option linter.unusedVariables false

theorem oidx (k : Nat) (hk : k < 11) (w : World) : (Instr.index 84 (.agg othV) (.int .i64 (k : Int))).run Tryd.prog w = .ok (.string (strAt othV k)) w := by
  rcases (show k = 0 ∨ k = 1 ∨ k = 2 ∨ k = 3 ∨ k = 4 ∨ k = 5 ∨ k = 6 ∨ k = 7 ∨ k = 8 ∨ k = 9 ∨ k = 10 by omega) with rfl | rfl | rfl | rfl | rfl | rfl | rfl | rfl | rfl | rfl | rfl
  all_goals kernel_rfl
theorem bidx (k : Nat) (hk : k < 18) (w : World) : (Instr.index 85 (.agg binV) (.int .i64 (k : Int))).run Tryd.prog w = .ok (.string (strAt binV k)) w := by
  rcases (show k = 0 ∨ k = 1 ∨ k = 2 ∨ k = 3 ∨ k = 4 ∨ k = 5 ∨ k = 6 ∨ k = 7 ∨ k = 8 ∨ k = 9 ∨ k = 10 ∨ k = 11 ∨ k = 12 ∨ k = 13 ∨ k = 14 ∨ k = 15 ∨ k = 16 ∨ k = 17 by omega) with rfl | rfl | rfl | rfl | rfl | rfl | rfl | rfl | rfl | rfl | rfl | rfl | rfl | rfl | rfl | rfl | rfl | rfl
  all_goals kernel_rfl
theorem osz : ∀ k : Fin 11, (strAt othV k.val).size ≤ 3 := by decide
theorem bsz : ∀ k : Fin 18, (strAt binV k.val).size ≤ 3 := by decide

/-- The longest of a table's texts that a text begins with, f of them looked at, from i on. -/
def sgL (V : Array Value) (base : Int) (r : ByteArray) : Nat → Nat → Int × Nat → Int × Nat
  | 0, _, a => a
  | f + 1, i, a => sgL V base r f (i + 1) (if a.2 < (strAt V i).size ∧ Lib.hasPrefix r.data.toList (strAt V i).data.toList = true then (base + (i : Int), (strAt V i).size) else a)
structure SgIs (V : Array Value) (base : Int) (r : ByteArray) (f i : Nat) (a R : Int × Nat) : Prop where
  out : sgL V base r f i a = R
def skI (r : ByteArray) : Int := if bat r 0 = 59 then 5 else if bat r 0 = 10 then 7 else (sgL binV 61 r 18 0 (sgL othV 40 r 11 0 (0, 0))).1

set_option maxRecDepth 100000 in
set_option maxHeartbeats 800000 in
theorem signKind_any (r : ByteArray) (hm : r.size ≤ 70000) (h0 : 0 < r.size) (w : World) (hT : Tabs w) : Calls Tryd.prog 52 #[.string r] w fun e w' => e = .returned (.int .i64 (skI r)) ∧ w' = w := by
  unfold skI
  have i0 : ∀ w, (Instr.index 9 (.string r) (.int .i64 0)).run Tryd.prog w = .ok (.int .u8 (bat r 0)) w := fun w => idx_run h0 w
  by_cases h59 : bat r 0 = 59
  · rw [if_pos h59]
    rw [h59] at i0
    go_enter Tryd.func52, Tryd.ntmps52
    go_wp2
    go_ret
    exact ⟨rfl, rfl⟩
  rw [if_neg h59]
  by_cases h10 : bat r 0 = 10
  · rw [if_pos h10]
    rw [h10] at i0
    go_enter Tryd.func52, Tryd.ntmps52
    go_wp2
    go_ret
    exact ⟨rfl, rfl⟩
  rw [if_neg h10]
  have g59 : (bat r 0 == 59) = false := by rw [beq_eq_false_iff_ne]; exact h59
  have g10 : (bat r 0 == 10) = false := by rw [beq_eq_false_iff_ne]; exact h10
  generalize bat r 0 = c at i0 g59 g10
  clear h59 h10
  obtain ⟨-, ⟨t2, f2, hmk⟩, ⟨t3, f3, hbn⟩⟩ := hT
  have hoi := fun i hi w => oidx i hi w
  have hbi := fun i hi w => bidx i hi w
  obtain ⟨OV, hOV⟩ : ∃ OV : Array Value, othV = OV := ⟨_, rfl⟩
  obtain ⟨BV, hBV⟩ : ∃ BV : Array Value, binV = BV := ⟨_, rfl⟩
  have HOI : Hid (∀ i : Nat, i < 11 → ∀ w, (Instr.index 84 (.agg OV) (.int .i64 (i : Int))).run Tryd.prog w = .ok (.string (strAt othV i)) w) := by rw [← hOV]; exact hoi
  have HBI : Hid (∀ i : Nat, i < 18 → ∀ w, (Instr.index 85 (.agg BV) (.int .i64 (i : Int))).run Tryd.prog w = .ok (.string (strAt binV i)) w) := by rw [← hBV]; exact hbi
  rw [hOV] at hmk
  rw [hBV] at hbn
  have z1 : OV.size = 11 := by rw [← hOV]; rfl
  have z2 : BV.size = 18 := by rw [← hBV]; rfl
  clear hoi hbi hOV hBV
  obtain ⟨R1, hR1⟩ : ∃ R, sgL othV 40 r 11 0 (0, 0) = R := ⟨_, rfl⟩
  rw [hR1]
  obtain ⟨R2, hR2⟩ : ∃ R, sgL binV 61 r 18 0 R1 = R := ⟨_, rfl⟩
  rw [hR2]
  have HR1 : SgIs othV 40 r 11 0 (0, 0) R1 := ⟨hR1⟩
  have HR2 : SgIs binV 61 r 18 0 R1 R2 := ⟨hR2⟩
  clear hR1 hR2
  go_enter Tryd.func52, Tryd.ntmps52
  go_wp2_with (refine wpList_load_row rfl 84 _ rfl 1 rfl t2 _ f2 _ hmk Tryd.underlying84 rfl (by rw [z1]; kernel_rfl) ?_)
  go_loop [3, 4, 16] (fun vk vl vi => ∃ (i n : Nat) (k : Int), i ≤ 11 ∧ n ≤ 3 ∧ vk = .int .i64 k ∧ vl = .int .i64 n ∧ vi = .int .i64 i ∧ SgIs othV 40 r (11 - i) i (k, n) R1) (fun _ _ vi => 11 - (intOf vi).toNat)
  case atStart => exact ⟨0, 0, 0, by omega, by omega, rfl, rfl, rfl, HR1⟩
  case round =>
    obtain ⟨i, n, k, hi, hn, rfl, rfl, rfl, HF⟩ := hrel
    by_cases hlt : i < 11
    · have hix := HOI.out i hlt
      have hsz : (strAt othV i).size ≤ 3 := osz ⟨i, hlt⟩
      have hst := HF.out
      rw [show 11 - i = (11 - (i + 1)) + 1 by omega, sgL] at hst
      have kp := fun w => Tryd.strings_HasPrefix r (strAt othV i) w
      generalize strAt othV i = x at hix hsz hst kp
      by_cases h1 : n < x.size
      · have h1i : (n : Int) < (x.size : Int) := by omega
        by_cases h2 : Lib.hasPrefix r.data.toList x.data.toList = true
        · rw [if_pos ⟨h1, h2⟩] at hst
          have HS : SgIs othV 40 r (11 - (i + 1)) (i + 1) (40 + (i : Int), x.size) R1 := ⟨hst⟩
          rw [h2] at kp
          clear hst h2
          go_wp2_with (go_at_call 25; refine (kp _).mono ?_; rintro e w' ⟨rfl, rfl⟩)
          go_round
          case rel => exact ⟨i + 1, x.size, 40 + (i : Int), by omega, hsz, by go_num, rfl, by go_num, HS⟩
          case measure => simp [intOf]; omega
        · have h2' : Lib.hasPrefix r.data.toList x.data.toList = false := by simpa using h2
          rw [if_neg (fun h => h2 h.2)] at hst
          have HS : SgIs othV 40 r (11 - (i + 1)) (i + 1) (k, n) R1 := ⟨hst⟩
          rw [h2'] at kp
          clear hst h2 h2'
          go_wp2_with (go_at_call 25; refine (kp _).mono ?_; rintro e w' ⟨rfl, rfl⟩)
          go_round
          case rel => exact ⟨i + 1, n, k, by omega, hn, rfl, rfl, by go_num, HS⟩
          case measure => simp [intOf]; omega
      · have h1i : ¬ (n : Int) < (x.size : Int) := by omega
        rw [if_neg (fun h => h1 h.1)] at hst
        have HS : SgIs othV 40 r (11 - (i + 1)) (i + 1) (k, n) R1 := ⟨hst⟩
        clear hst
        go_wp2
        go_round
        case rel => exact ⟨i + 1, n, k, by omega, hn, rfl, rfl, by go_num, HS⟩
        case measure => simp [intOf]; omega
    · obtain rfl : i = 11 := by omega
      have hst := HF.out
      rw [Nat.sub_self, sgL] at hst
      subst hst
      clear HF HR1
      go_wp2_with (refine wpList_load_row rfl 85 _ rfl 2 rfl t3 _ f3 _ hbn Tryd.underlying85 rfl (by rw [z2]; kernel_rfl) ?_)
      go_loop [3, 4, 35] (fun vk vl vi => ∃ (i n : Nat) (k : Int), i ≤ 18 ∧ n ≤ 3 ∧ vk = .int .i64 k ∧ vl = .int .i64 n ∧ vi = .int .i64 i ∧ SgIs binV 61 r (18 - i) i (k, n) R2) (fun _ _ vi => 18 - (intOf vi).toNat)
      case atStart => exact ⟨0, n, k, by omega, hn, rfl, rfl, rfl, HR2⟩
      case round =>
        obtain ⟨i, n, k, hi, hn, rfl, rfl, rfl, HF⟩ := hrel
        by_cases hlt : i < 18
        · have hix := HBI.out i hlt
          have hsz : (strAt binV i).size ≤ 3 := bsz ⟨i, hlt⟩
          have hst := HF.out
          rw [show 18 - i = (18 - (i + 1)) + 1 by omega, sgL] at hst
          have kp := fun w => Tryd.strings_HasPrefix r (strAt binV i) w
          generalize strAt binV i = x at hix hsz hst kp
          by_cases h1 : n < x.size
          · have h1i : (n : Int) < (x.size : Int) := by omega
            by_cases h2 : Lib.hasPrefix r.data.toList x.data.toList = true
            · rw [if_pos ⟨h1, h2⟩] at hst
              have HS : SgIs binV 61 r (18 - (i + 1)) (i + 1) (61 + (i : Int), x.size) R2 := ⟨hst⟩
              rw [h2] at kp
              clear hst h2
              go_wp2_with (go_at_call 25; refine (kp _).mono ?_; rintro e w' ⟨rfl, rfl⟩)
              go_round
              case rel => exact ⟨i + 1, x.size, 61 + (i : Int), by omega, hsz, by go_num, rfl, by go_num, HS⟩
              case measure => simp [intOf]; omega
            · have h2' : Lib.hasPrefix r.data.toList x.data.toList = false := by simpa using h2
              rw [if_neg (fun h => h2 h.2)] at hst
              have HS : SgIs binV 61 r (18 - (i + 1)) (i + 1) (k, n) R2 := ⟨hst⟩
              rw [h2'] at kp
              clear hst h2 h2'
              go_wp2_with (go_at_call 25; refine (kp _).mono ?_; rintro e w' ⟨rfl, rfl⟩)
              go_round
              case rel => exact ⟨i + 1, n, k, by omega, hn, rfl, rfl, by go_num, HS⟩
              case measure => simp [intOf]; omega
          · have h1i : ¬ (n : Int) < (x.size : Int) := by omega
            rw [if_neg (fun h => h1 h.1)] at hst
            have HS : SgIs binV 61 r (18 - (i + 1)) (i + 1) (k, n) R2 := ⟨hst⟩
            clear hst
            go_wp2
            go_round
            case rel => exact ⟨i + 1, n, k, by omega, hn, rfl, rfl, by go_num, HS⟩
            case measure => simp [intOf]; omega
        · obtain rfl : i = 18 := by omega
          have hst := HF.out
          rw [Nat.sub_self, sgL] at hst
          subst hst
          clear HF HR2
          go_wp2
          go_ret
          exact ⟨rfl, rfl⟩
end Go.Proofs.YtlmkmihbbnjngaaDoor
