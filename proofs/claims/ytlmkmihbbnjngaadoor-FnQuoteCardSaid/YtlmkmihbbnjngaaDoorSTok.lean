import Derived.Test.YtlmkmihbbnjngaaDoorSRead
import Derived.BigRegion
namespace Go.Proofs.YtlmkmihbbnjngaaDoor
open Go.RowKit
set_option linter.unusedVariables false

def vTok (k f t l n : Int) (x : ByteArray) : Value := .agg #[.int .i64 k, .int .i64 f, .int .i64 t, .int .i64 l, .int .i64 n, .string x]

theorem gr_new {w x : World} {b : Nat} {a : Addr} (h : w.grownBy x (some b)) (v : Value) (ha : w.heap.size ≤ a.block) : w.grownBy (x.setCell a v) (some b) :=
  ⟨h.os, h.tape, h.output, by simpa [World.setCell] using h.size, fun k hk hne => by rw [heap_setCell_other _ _ _ _ (by omega)]; exact h.block k hk hne⟩
theorem gr_fr2 {w x y : World} {b t : Nat} (h : Below w.heap.size w x) (k : Fr2 b t x y) (ht : w.heap.size ≤ t) : w.grownBy y (some b) :=
  ⟨k.os.trans h.os, k.tape.trans h.tape, k.output.trans h.output, Nat.le_trans h.size k.size, fun i hi hne => (k.block i (Nat.lt_of_lt_of_le hi h.size) (fun e => hne (by rw [e])) (by omega)).trans (h.block i hi)⟩

end Go.Proofs.YtlmkmihbbnjngaaDoor
