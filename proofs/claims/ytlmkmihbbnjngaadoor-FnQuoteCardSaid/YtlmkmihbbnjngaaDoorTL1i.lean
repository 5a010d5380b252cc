import Derived.Test.YtlmkmihbbnjngaaDoorTFok
namespace Go.Proofs.YtlmkmihbbnjngaaDoor
open Go.RowKit Go.Maps Go.WideMaps
set_option linter.unusedVariables false

/-- The hexadecimal digit of u at 16^j. -/
def hxd (u : Nat) (j : Nat) : Int := hexd ((u / 16 ^ j % 16 : Nat) : Int)
/-- '0x' and the first r of the sixteen digits of u. -/
def hxO (u : Nat) : Nat → ByteArray
  | 0 => { data := #[48, 120] }
  | r + 1 => hxO u r ++ strI [hxd u (15 - r)]

theorem Nat.pow_mul_two16 (k : Nat) : (2 : Int) ^ (4 * k) = (16 : Int) ^ k := by rw [Int.pow_mul]; rfl
theorem hxO_size (u : Nat) : ∀ r, (hxO u r).size = r + 2
  | 0 => rfl
  | r + 1 => by show (hxO u r ++ strI [hxd u (15 - r)]).size = _; rw [ByteArray.size_append, hxO_size u r]; rfl
theorem DG_run64 (d : Int) (h0 : 0 ≤ d) (h1 : d < 16) (w : World) : (Instr.index 9 (.string { data := #[48, 49, 50, 51, 52, 53, 54, 55, 56, 57, 97, 98, 99, 100, 101, 102] }) (.int .u64 d)).run Tryd.prog w = .ok (.int .u8 (hexd d)) w := by
  have h : d.toNat < DG.size := by simp only [DG]; show d.toNat < 16; omega
  have q := DG_at d h0 h1 h
  go_simp
  exact q
theorem low64 (c : Int) (h0 : 0 ≤ c) (h1 : c < 18446744073709551616) : bits .and .u64 c 15 = c % 16 := by
  have := bits_mask .u64 64 (by decide) (fun n a b => by rw [IntKind.wrap_u64]; omega) 4 (by decide) c h0 h1
  simpa using this

end Go.Proofs.YtlmkmihbbnjngaaDoor
