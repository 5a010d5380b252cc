import Derived.Test.YtlmkmihbbnjngaaDoorQImpl
import Derived.Deep.QuietTactic
import Derived.BigQuiet
import Derived.OneCell
namespace Go.Proofs.YtlmkmihbbnjngaaDoor
open Go.RowKit
set_option linter.unusedVariables false

/-- The bytes that came in can be read, and lie below the call's own blocks. -/
def Code (base : Nat) (w : World) (a0 : Option Addr) (len : Nat) : Prop :=
  len = 0 ∨ ∃ bx ox, a0 = some ⟨bx, ox, none⟩ ∧ bx < base ∧ ∀ i, i < len → ∃ z : Int, 0 ≤ z ∧ z < 256 ∧ w.cell? ⟨bx, ox + i, none⟩ = some (.int .u8 z)
theorem Code.below {base : Nat} {w w' : World} {a0 : Option Addr} {len : Nat} (h : Code base w a0 len) (hb : Below base w w') : Code base w' a0 len := by
  rcases h with h | ⟨bx, ox, e, hlt, hc⟩
  · exact .inl h
  · exact .inr ⟨bx, ox, e, hlt, fun i hi => by obtain ⟨z, z0, z1, hz⟩ := hc i hi; exact ⟨z, z0, z1, (hb.cell (p := ⟨bx, ox + i, none⟩) hlt).trans hz⟩⟩

/-- The drawer's state. -/
def CurAt (b : Nat) (w : World) (a0 : Option Addr) (len cap : Nat) (p q r : Int) : Prop :=
  w.heap[b]? = some (.cells #[.slice a0 len cap, .int .i64 p, .int .u64 q, .int .i64 r] 38 (0, 0))

theorem cur_cells {b : Nat} {w : World} {a0 : Option Addr} {len cap : Nat} {p q r : Int} (h : CurAt b w a0 len cap p q r) :
    w.cell? ⟨b, 0, none⟩ = some (.slice a0 len cap) ∧ w.cell? ⟨b, 1, none⟩ = some (.int .i64 p) ∧ w.cell? ⟨b, 2, none⟩ = some (.int .u64 q) ∧ w.cell? ⟨b, 3, none⟩ = some (.int .i64 r) ∧
    w.frozen? ⟨b, 1, none⟩ = false ∧ w.frozen? ⟨b, 2, none⟩ = false ∧ w.frozen? ⟨b, 3, none⟩ = false := by
  unfold CurAt at h
  refine ⟨by rw [cell_of_row _ _ _ _ _ _ h]; rfl, by rw [cell_of_row _ _ _ _ _ _ h]; rfl, by rw [cell_of_row _ _ _ _ _ _ h]; rfl, by rw [cell_of_row _ _ _ _ _ _ h]; rfl, frozen_of_row _ _ _ _ _ h, frozen_of_row _ _ _ _ _ h, frozen_of_row _ _ _ _ _ h⟩

theorem CurAt.set1 {b : Nat} {w : World} {a0 : Option Addr} {len cap : Nat} {p q r : Int} (h : CurAt b w a0 len cap p q r) (x : Int) : CurAt b (w.setCell ⟨b, 1, none⟩ (.int .i64 x)) a0 len cap x q r := heap_setCell_same w b 1 _ _ _ h
theorem CurAt.set2 {b : Nat} {w : World} {a0 : Option Addr} {len cap : Nat} {p q r : Int} (h : CurAt b w a0 len cap p q r) (x : Int) : CurAt b (w.setCell ⟨b, 2, none⟩ (.int .u64 x)) a0 len cap p x r := heap_setCell_same w b 2 _ _ _ h
theorem CurAt.set3 {b : Nat} {w : World} {a0 : Option Addr} {len cap : Nat} {p q r : Int} (h : CurAt b w a0 len cap p q r) (x : Int) : CurAt b (w.setCell ⟨b, 3, none⟩ (.int .i64 x)) a0 len cap p q x := heap_setCell_same w b 3 _ _ _ h
theorem CurAt.drewN {b : Nat} {w : World} {a0 : Option Addr} {len cap : Nat} {p q r : Int} (h : CurAt b w a0 len cap p q r) (n : Nat) : CurAt b (w.drewN n) a0 len cap p q r := h
theorem CurAt.lt {b : Nat} {w : World} {a0 : Option Addr} {len cap : Nat} {p q r : Int} (h : CurAt b w a0 len cap p q r) : b < w.heap.size := lt_of_block h
/-- Only block b has turned. -/
theorem gr_refl (w : World) (b : Nat) : w.grownBy w (some b) := ⟨rfl, rfl, rfl, Nat.le_refl _, fun _ _ _ => rfl⟩
theorem gr_drewN {w0 w : World} {b : Nat} (h : w0.grownBy w (some b)) (n : Nat) : w0.grownBy (w.drewN n) (some b) := ⟨h.os, h.tape, h.output, h.size, h.block⟩
theorem gr_drew {w0 w : World} {b : Nat} (h : w0.grownBy w (some b)) : w0.grownBy w.drew (some b) := ⟨h.os, h.tape, h.output, h.size, h.block⟩
theorem gr_set {w0 w : World} {b : Nat} (h : w0.grownBy w (some b)) (i : Nat) (v : Value) : w0.grownBy (w.setCell ⟨b, i, none⟩ v) (some b) :=
  ⟨h.os, h.tape, h.output, by simpa [World.setCell] using h.size, fun k hk hne => by rw [heap_setCell_other _ _ _ _ (fun e => hne (by rw [e]))]; exact h.block k hk hne⟩
theorem gr_trans {x y z : World} {b : Nat} (h : x.grownBy y (some b)) (k : y.grownBy z (some b)) : x.grownBy z (some b) :=
  ⟨k.os.trans h.os, k.tape.trans h.tape, k.output.trans h.output, Nat.le_trans h.size k.size, fun i hi hne => (k.block i (Nat.lt_of_lt_of_le hi h.size) hne).trans (h.block i hi hne)⟩
theorem gr_below {x y : World} {b base : Nat} (h : x.grownBy y (some b)) (hb : base ≤ b) (hx : base ≤ x.heap.size) : Below base x y :=
  (Below.refl base x).grown h hx (fun k e => by cases e; exact hb)
theorem bel_drewN (base : Nat) (w : World) (n : Nat) : Below base w (w.drewN n) := ⟨rfl, rfl, rfl, Nat.le_refl _, fun _ _ => rfl⟩

theorem low8 (x : Int) : 0 ≤ wrap64 (bits .and .u64 (IntKind.u64.wrap x / 1099511627776) 255) ∧ wrap64 (bits .and .u64 (IntKind.u64.wrap x / 1099511627776) 255) < 256 := by
  have e : IntKind.u64.wrap x = x % 18446744073709551616 := by simp [IntKind.wrap, IntKind.bits, IntKind.signed]
  have h0 : 0 ≤ IntKind.u64.wrap x / 1099511627776 := by rw [e]; omega
  have h1 : IntKind.u64.wrap x / 1099511627776 < 2 ^ 24 := by rw [e]; omega
  have hk : ∀ n : Int, 0 ≤ n → n < 2 ^ 24 → IntKind.u64.wrap n = n := fun n a b => by
    have e' : IntKind.u64.wrap n = n % 18446744073709551616 := by simp [IntKind.wrap, IntKind.bits, IntKind.signed]
    rw [e']; omega
  have := bits_mask .u64 24 (by decide) hk 8 (by decide) _ h0 h1
  have e2 : ((2 : Int) ^ 8 - 1) = 255 := by decide
  rw [e2] at this
  have e3 : ((2 : Int) ^ 8) = 256 := by decide
  rw [this, e3]
  unfold wrap64
  omega

set_option maxHeartbeats 800000 in
theorem next_in (b base : Nat) (w : World) (bx ox len cap : Nat) (p q r : Int) (hc : CurAt b w (some ⟨bx, ox, none⟩) len cap p q r) (hp : 0 ≤ p) (hl : p < len) (hlen : len ≤ 1048576)
    (z : Int) (z0 : 0 ≤ z) (z1 : z < 256) (hz : w.cell? ⟨bx, ox + p.toNat, none⟩ = some (.int .u8 z)) :
    Calls Tryd.prog 23 #[.pointer (some ⟨b, 0, none⟩)] w fun e w' => e = .returned (.int .i64 z) ∧ ∃ q', CurAt b w' (some ⟨bx, ox, none⟩) len cap (p + 1) q' r ∧ w.grownBy w' (some b) := by
  obtain ⟨c0, c1, c2, c3, f1, f2, f3⟩ := cur_cells hc
  go_enter Tryd.func23, Tryd.ntmps23
  go_wp2
  go_quiet (fail)
  go_wp2
  go_quiet (fail)
  go_wp2
  go_ret
  exact ⟨rfl, _, ((hc.drewN _).set1 _).set2 _, gr_set (gr_set (gr_drewN (gr_refl w b) _) _ _) _ _⟩

set_option maxHeartbeats 800000 in
theorem next_out (b base : Nat) (w : World) (a0 : Option Addr) (len cap : Nat) (p q r : Int) (hc : CurAt b w a0 len cap p q r) (hp : 0 ≤ p) (hp1 : p ≤ 2000000) (hl : ¬ p < len) (hlen : len ≤ 1048576) :
    Calls Tryd.prog 23 #[.pointer (some ⟨b, 0, none⟩)] w fun e w' => ∃ z : Int, 0 ≤ z ∧ z < 256 ∧ e = .returned (.int .i64 z) ∧ ∃ q', CurAt b w' a0 len cap (p + 1) q' r ∧ w.grownBy w' (some b) := by
  obtain ⟨c0, c1, c2, c3, f1, f2, f3⟩ := cur_cells hc
  go_enter Tryd.func23, Tryd.ntmps23
  go_wp2
  go_quiet (fail)
  go_wp2
  go_ret
  have h8 := low8 (IntKind.u64.wrap (q * 6364136223846793005) + 1442695040888963407)
  exact ⟨_, h8.1, h8.2, rfl, _, ((hc.drewN _).set2 _).set1 _, gr_set (gr_set (gr_drewN (gr_refl w b) _) _ _) _ _⟩

theorem next_any (b base : Nat) (w : World) (a0 : Option Addr) (len cap : Nat) (p q r : Int) (hc : CurAt b w a0 len cap p q r) (hcode : Code base w a0 len) (hp : 0 ≤ p) (hp1 : p ≤ 2000000) (hlen : len ≤ 1048576) :
    Calls Tryd.prog 23 #[.pointer (some ⟨b, 0, none⟩)] w fun e w' => ∃ z : Int, 0 ≤ z ∧ z < 256 ∧ e = .returned (.int .i64 z) ∧ ∃ q', CurAt b w' a0 len cap (p + 1) q' r ∧ w.grownBy w' (some b) := by
  by_cases hl : p < len
  · rcases hcode with h | ⟨bx, ox, rfl, hlt, hcs⟩
    · omega
    · obtain ⟨z, z0, z1, hz⟩ := hcs p.toNat (by omega)
      exact (next_in b base w bx ox len cap p q r hc hp hl hlen z z0 z1 hz).mono fun e w' ⟨he, hr⟩ => ⟨z, z0, z1, he, hr⟩
  · exact next_out b base w a0 len cap p q r hc hp hp1 hl hlen
end Go.Proofs.YtlmkmihbbnjngaaDoor
