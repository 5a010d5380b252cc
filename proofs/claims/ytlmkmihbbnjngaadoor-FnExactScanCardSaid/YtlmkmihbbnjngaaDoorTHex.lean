import Derived.Test.YtlmkmihbbnjngaaDoorTNum
import Derived.Lib.ConvBytes
import Derived.Lib.AtoiErrMem
import Derived.Laws.Strings3
import Derived.WalkKit
import Derived.BigCall
import Derived.BigGuard
namespace Go.Proofs.YtlmkmihbbnjngaaDoor
open Go.RowKit Go.Maps Go.WideMaps
set_option linter.unusedVariables false

/-- The number of the n hexadecimal digits from p on. -/
def hvS (s : ByteArray) (p : Nat) : Nat → Nat
  | 0 => 0
  | n + 1 => hvS s p n * 16 + (hexv (bat s (p + n))).toNat
theorem hvS_lt (s : ByteArray) (p : Nat) : ∀ n, hvS s p n < 16 ^ n
  | 0 => by simp [hvS]
  | n + 1 => by
    have h := hvS_lt s p n
    have h2 := hexv_lt (bat s (p + n))
    have e : 16 ^ (n + 1) = 16 ^ n * 16 := Nat.pow_succ 16 n
    unfold hvS
    omega
theorem hvS_60 (s : ByteArray) (p n : Nat) (h : n ≤ 15) : hvS s p n < 1152921504606846976 := by
  have h1 := hvS_lt s p n
  have h2 : 16 ^ n ≤ 16 ^ 15 := Nat.pow_le_pow_right (by omega) h
  have h3 : 16 ^ 15 = 1152921504606846976 := by decide
  omega
theorem hvS_64 (s : ByteArray) (p n : Nat) (h : n ≤ 16) : hvS s p n < 18446744073709551616 := by
  have h1 := hvS_lt s p n
  have h2 : 16 ^ n ≤ 16 ^ 16 := Nat.pow_le_pow_right (by omega) h
  have h3 : 16 ^ 16 = 18446744073709551616 := by decide
  omega
theorem low_hex (c : Int) (h0 : 97 ≤ c) (h1 : c ≤ 102) : bits .or .u8 c 32 = c := by
  rcases (show c = 97 ∨ c = 98 ∨ c = 99 ∨ c = 100 ∨ c = 101 ∨ c = 102 by omega) with rfl | rfl | rfl | rfl | rfl | rfl <;> decide +kernel
theorem bat_getD (s : ByteArray) (j : Nat) (h : j < s.size) : ((s.data.toList.getD j 0).toNat : Int) = bat s j := by
  have : s.data.toList[j]? = some s[j] := by
    rw [Array.getElem?_toList]; exact Array.getElem?_eq_getElem h
  rw [List.getD, this]
  unfold bat
  rw [dif_pos h]
  rfl

set_option maxHeartbeats 3200000 in
set_option maxRecDepth 100000 in
theorem pu16 (t : ByteArray) (h1 : 1 ≤ t.size) (h16 : t.size ≤ 16) (hall : ∀ i, i < t.size → hexB (bat t i) = true) (w : World) :
    Calls Tryd.prog 63 #[.string t, .int .i64 16, .int .i64 64] w fun e w' => e = .returned (.tuple #[.int .u64 (hvS t 0 t.size : Int), .nilIface]) ∧ w' = Lib.bytesWorld w 5 t := by
  have hemp : t.toList.isEmpty = false := by
    rw [← decide_eq_emptyBytes]
    exact decide_eq_false (fun h => by rw [h] at h1; simp at h1)
  have hcv := Lib.run_convert_string_bytes (P := Tryd.prog) w 9 22 5 t (u := .string) Tryd.underlying9 Tryd.underlying22 Tryd.underlying5
  have hB : ∀ j, j < t.size → (Lib.bytesWorld w 5 t).cell? ⟨w.heap.size, j, none⟩ = some (.int .u8 (bat t j)) := fun j hj => by rw [Lib.bytesWorld_cell w 5 t j hj, bat_getD t j hj]
  obtain ⟨W1, hW1⟩ : ∃ W1, W1 = Lib.bytesWorld w 5 t := ⟨_, rfl⟩
  rw [← hW1] at hcv hB ⊢
  clear hW1
  have hmv : IntKind.u64.wrap (IntKind.u64.wrap 18446744073709551616 - 1) = 18446744073709551615 := by
    rw [IntKind.wrap_u64, IntKind.wrap_u64]
    decide
  obtain ⟨R, hR⟩ : ∃ R : Int, (hvS t 0 t.size : Int) = R := ⟨_, rfl⟩
  rw [hR]
  have HR : Hid ((hvS t 0 t.size : Int) = R) := hR
  clear hR
  go_enter Tryd.func63, Tryd.ntmps63
  go_wp2
  go_loop [12, 13, 101] (fun vu vn vi => ∃ (k : Nat) (a : Int), vu = .bool false ∧ vn = .int .u64 a ∧ vi = .int .i64 k ∧ k ≤ t.size ∧ Hid (a = (hvS t 0 k : Int))) (fun _ _ vi => t.size - (intOf vi).toNat)
  case atStart => exact ⟨0, 0, rfl, rfl, rfl, by omega, rfl⟩
  case round =>
    obtain ⟨k, a, rfl, rfl, rfl, hk, hh⟩ := hrel
    by_cases hkn : k < t.size
    · have hc := hB k hkn
      have hx := (hexB_iff _).1 (hall k hkn)
      have h60 := hvS_60 t 0 k (by omega)
      have a0 : 0 ≤ a := by rw [hh.out]; omega
      have a1 : a < 1152921504606846976 := by rw [hh.out]; omega
      have HN : Hid (∀ d : Int, hexv (bat t k) = d → 0 ≤ d → a * 16 + d = (hvS t 0 (k + 1) : Int)) := fun d hd h0 => by
        show _ = ((hvS t 0 k * 16 + (hexv (bat t (0 + k))).toNat : Nat) : Int)
        rw [Nat.zero_add, hd, hh.out]; omega
      generalize bat t k = c at hc hx HN
      clear hB h60 hh hall
      rcases hx with ⟨x0, x1⟩ | ⟨x0, x1⟩
      · have HS : Hid (a * 16 + (c - 48) = (hvS t 0 (k + 1) : Int)) := HN.out (c - 48) (by unfold hexv; rw [if_pos ⟨x0, x1⟩]) (by omega)
        clear HN
        go_wp2
        refine ⟨⟨k + 1, a * 16 + (c - 48), rfl, (by first | rfl | (congr 1; omega)), (by first | rfl | (congr 1; omega)), by omega, HS⟩, by simp [intOf]; omega⟩
      · have HS : Hid (a * 16 + (c - 87) = (hvS t 0 (k + 1) : Int)) := HN.out (c - 87) (by unfold hexv; rw [if_neg (by omega), if_pos ⟨x0, x1⟩]) (by omega)
        clear HN
        have hl := low_hex c x0 x1
        have kl : ∀ w, Calls Tryd.prog 67 #[.int .u8 c] w fun e w' => e = .returned (.int .u8 c) ∧ w' = w := fun w => by
          have := Tryd.internal_strconv_lower c w
          rw [hl] at this
          exact this
        clear hl
        go_wp2_with (go_at_call 67; refine (kl _).mono ?_; rintro e w' ⟨rfl, rfl⟩)
        refine ⟨⟨k + 1, a * 16 + (c - 87), rfl, (by first | rfl | (congr 1; omega)), (by first | rfl | (congr 1; omega)), by omega, HS⟩, by simp [intOf]; omega⟩
    · obtain rfl : k = t.size := by omega
      have hf : a = R := by rw [← HR.out, hh.out]
      subst hf
      clear hB hh HR
      go_wp2
      go_ret2
      exact ⟨rfl, rfl⟩
end Go.Proofs.YtlmkmihbbnjngaaDoor
