import Derived.Test.YtpllcogpohcbiaaDoorTFok
namespace Go.Proofs.YtpllcogpohcbiaaDoor
open Go.RowKit Go.Maps Go.WideMaps
set_option linter.unusedVariables false

/-- The hexadecimal digit of u at 16^j. -/
def hxd (u : Nat) (j : Nat) : Int := hexd ((u / 16 ^ j % 16 : Nat) : Int)
/-- '0x' and the first r of the sixteen digits of u. -/
def hxO (u : Nat) : Nat → ByteArray
  | 0 => { data := #[48, 120] }
  | r + 1 => hxO u r ++ strI [hxd u (15 - r)]

theorem Nat.pow_mul_two16 (k : Nat) : (2 : Int) ^ (4 * k) = (16 : Int) ^ k := by rw [Int.pow_mul]; rfl
theorem hxO_size (u : Nat) : ∀ r, (hxO u r).size = r + 2
  | 0 => rfl
  | r + 1 => by show (hxO u r ++ strI [hxd u (15 - r)]).size = _; rw [ByteArray.size_append, hxO_size u r]; rfl
theorem DG_run64 (d : Int) (h0 : 0 ≤ d) (h1 : d < 16) (w : World) : (Instr.index 9 (.string { data := #[48, 49, 50, 51, 52, 53, 54, 55, 56, 57, 97, 98, 99, 100, 101, 102] }) (.int .u64 d)).run Tryd.prog w = .ok (.int .u8 (hexd d)) w := by
  have h : d.toNat < DG.size := by simp only [DG]; show d.toNat < 16; omega
  have q := DG_at d h0 h1 h
  go_simp
  exact q
theorem low64 (c : Int) (h0 : 0 ≤ c) (h1 : c < 18446744073709551616) : bits .and .u64 c 15 = c % 16 := by
  have := bits_mask .u64 64 (by decide) (fun n a b => by rw [IntKind.wrap_u64]; omega) 4 (by decide) c h0 h1
  simpa using this

set_option maxRecDepth 100000 in
set_option maxHeartbeats 3200000 in
theorem l1int_neg (n : Int) (h0 : -9223372036854775808 ≤ n) (h1 : n < 0) (w : World) : Calls Tryd.prog 29 #[.int .i64 n] w fun e w' => e = .returned (.string (hxO (n + 18446744073709551616).toNat 16)) ∧ Below w.heap.size w w' := by
  obtain ⟨u, hu⟩ : ∃ u : Nat, (u : Int) = n + 18446744073709551616 := ⟨(n + 18446744073709551616).toNat, by omega⟩
  rw [show (n + 18446744073709551616).toNat = u by omega]
  obtain ⟨U, hU⟩ : ∃ U : Int, U = (u : Int) := ⟨_, rfl⟩
  have hw : IntKind.u64.wrap n = U := by rw [IntKind.wrap_u64]; omega
  have hu0 : 0 ≤ U := by omega
  have hu1 : U < 18446744073709551616 := by omega
  have HU : Hid (U = (u : Int)) := hU
  have hn0 : ¬ 0 ≤ n := by omega
  clear hU hu
  go_enter Tryd.func29, Tryd.ntmps29
  go_wp2_with fail
  go_loopw [4, 5] (fun out k wr => ∃ r : Nat, r ≤ 16 ∧ k = .int .i64 (60 - 4 * (r : Int)) ∧ out = .string (hxO u r) ∧ Below w.heap.size w wr) (fun _ k _ => (intOf k + 4).toNat)
  case atStart => exact ⟨0, by omega, rfl, rfl, Below.refl _ _⟩
  case round =>
    obtain ⟨r, hr, rfl, rfl, hb⟩ := hrel
    by_cases h16 : r < 16
    · obtain ⟨κ, hκ⟩ : ∃ κ : Int, 60 - 4 * (r : Int) = κ := ⟨_, rfl⟩
      have hk0 : 0 ≤ κ := by omega
      have hk1 : κ ≤ 60 := by omega
      obtain ⟨X, hX⟩ : ∃ X : Int, U / 2 ^ κ.toNat = X := ⟨_, rfl⟩
      have hXu : X = ((u / 16 ^ (15 - r) : Nat) : Int) := by
        rw [← hX, HU.out, show κ.toNat = 4 * (15 - r) by omega, Nat.pow_mul_two16, Int.natCast_ediv]
        rfl
      have hX0 : 0 ≤ X := by rw [hXu]; exact Int.natCast_nonneg _
      have hX1 : X < 18446744073709551616 := by
        rw [hXu]
        have := Nat.div_le_self u (16 ^ (15 - r))
        have := HU.out
        omega
      have hD0 : 0 ≤ X % 16 := by omega
      have hD1 : X % 16 < 16 := by omega
      have hbit : bits .and .u64 X 15 = X % 16 := low64 X hX0 hX1
      have hix := fun w => DG_run64 (X % 16) hD0 hD1 w
      have HD : Hid (strI [hexd (X % 16)] = strI [hxd u (15 - r)]) := by
        show _ = _
        unfold hxd
        rw [hXu]
        rfl
      generalize X % 16 = D at hD0 hD1 hbit hix HD
      have hcv' := fun w => conv_own (own_first w (hexd D))
      have hsz1 := hxO_size u r
      have hsz2 : (strI [hexd D]).size = 1 := rfl
      have HR : Hid (60 - 4 * (r : Int) = κ) := hκ
      rw [hκ]
      clear hXu hκ
      go_wp2
      go_roundw
      case rel => exact ⟨r + 1, by omega, by have := HR.out; congr 1; omega, by rw [HD.out]; rfl, hb.alloc hb.size _⟩
      case measure => simp [intOf]; omega
    · obtain rfl : r = 16 := by omega
      go_wp2
      go_ret
      exact ⟨rfl, hb⟩
end Go.Proofs.YtpllcogpohcbiaaDoor
