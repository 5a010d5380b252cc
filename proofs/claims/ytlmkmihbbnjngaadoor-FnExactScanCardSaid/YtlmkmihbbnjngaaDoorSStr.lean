import Derived.Test.YtlmkmihbbnjngaaDoorSEsd
namespace Go.Proofs.YtlmkmihbbnjngaaDoor
open Go.RowKit
set_option linter.unusedVariables false

/-- The scanner in memory; a token in memory. -/
def ScAt (b : Nat) (w : World) (s : ByteArray) (m : Value) (fr p l : Int) (k : Bool) : Prop :=
  w.heap[b]? = some (.cells #[.string s, m, .int .i64 fr, .int .i64 p, .int .i64 l, .bool k] 46 (0, 0))
def TkAt (b : Nat) (w : World) (k f t l n : Int) (x : ByteArray) : Prop :=
  w.heap[b]? = some (.cells #[.int .i64 k, .int .i64 f, .int .i64 t, .int .i64 l, .int .i64 n, .string x] 30 (0, 0))
theorem sc_cells {b : Nat} {w : World} {s : ByteArray} {m : Value} {fr p l : Int} {k : Bool} (h : ScAt b w s m fr p l k) :
    w.cell? ⟨b, 0, none⟩ = some (.string s) ∧ w.cell? ⟨b, 1, none⟩ = some m ∧ w.cell? ⟨b, 3, none⟩ = some (.int .i64 p) ∧ w.cell? ⟨b, 4, none⟩ = some (.int .i64 l) ∧ w.cell? ⟨b, 5, none⟩ = some (.bool k) ∧
    w.frozen? ⟨b, 3, none⟩ = false ∧ w.frozen? ⟨b, 4, none⟩ = false ∧ w.frozen? ⟨b, 5, none⟩ = false := by
  unfold ScAt at h
  exact ⟨by rw [cell_of_row _ _ _ _ _ _ h]; rfl, by rw [cell_of_row _ _ _ _ _ _ h]; rfl, by rw [cell_of_row _ _ _ _ _ _ h]; rfl, by rw [cell_of_row _ _ _ _ _ _ h]; rfl, by rw [cell_of_row _ _ _ _ _ _ h]; rfl, frozen_of_row _ _ _ _ _ h, frozen_of_row _ _ _ _ _ h, frozen_of_row _ _ _ _ _ h⟩
theorem sc_from {b : Nat} {w : World} {s : ByteArray} {m : Value} {fr p l : Int} {k : Bool} (h : ScAt b w s m fr p l k) : w.cell? ⟨b, 2, none⟩ = some (.int .i64 fr) ∧ w.frozen? ⟨b, 2, none⟩ = false := by
  unfold ScAt at h
  exact ⟨by rw [cell_of_row _ _ _ _ _ _ h]; rfl, frozen_of_row _ _ _ _ _ h⟩
theorem ScAt.setF {b : Nat} {w : World} {s : ByteArray} {m : Value} {fr p l : Int} {k : Bool} (h : ScAt b w s m fr p l k) (x : Int) : ScAt b (w.setCell ⟨b, 2, none⟩ (.int .i64 x)) s m x p l k := heap_setCell_same w b 2 _ _ _ h
theorem tk_cells {b : Nat} {w : World} {k f t l n : Int} {x : ByteArray} (h : TkAt b w k f t l n x) :
    w.cell? ⟨b, 0, none⟩ = some (.int .i64 k) ∧ w.cell? ⟨b, 1, none⟩ = some (.int .i64 f) ∧ w.cell? ⟨b, 2, none⟩ = some (.int .i64 t) ∧ w.cell? ⟨b, 3, none⟩ = some (.int .i64 l) ∧ w.cell? ⟨b, 4, none⟩ = some (.int .i64 n) ∧ w.cell? ⟨b, 5, none⟩ = some (.string x) ∧
    (∀ j, w.frozen? ⟨b, j, none⟩ = false) := by
  unfold TkAt at h
  exact ⟨by rw [cell_of_row _ _ _ _ _ _ h]; rfl, by rw [cell_of_row _ _ _ _ _ _ h]; rfl, by rw [cell_of_row _ _ _ _ _ _ h]; rfl, by rw [cell_of_row _ _ _ _ _ _ h]; rfl, by rw [cell_of_row _ _ _ _ _ _ h]; rfl, by rw [cell_of_row _ _ _ _ _ _ h]; rfl, fun j => frozen_of_row _ _ _ _ _ h⟩
theorem ScAt.setP {b : Nat} {w : World} {s : ByteArray} {m : Value} {fr p l : Int} {k : Bool} (h : ScAt b w s m fr p l k) (x : Int) : ScAt b (w.setCell ⟨b, 3, none⟩ (.int .i64 x)) s m fr x l k := heap_setCell_same w b 3 _ _ _ h
theorem ScAt.setL {b : Nat} {w : World} {s : ByteArray} {m : Value} {fr p l : Int} {k : Bool} (h : ScAt b w s m fr p l k) (x : Int) : ScAt b (w.setCell ⟨b, 4, none⟩ (.int .i64 x)) s m fr p x k := heap_setCell_same w b 4 _ _ _ h
theorem ScAt.setK {b : Nat} {w : World} {s : ByteArray} {m : Value} {fr p l : Int} {k : Bool} (h : ScAt b w s m fr p l k) (x : Bool) : ScAt b (w.setCell ⟨b, 5, none⟩ (.bool x)) s m fr p l x := heap_setCell_same w b 5 _ _ _ h
theorem ScAt.other {b : Nat} {w : World} {s : ByteArray} {m : Value} {fr p l : Int} {k : Bool} (h : ScAt b w s m fr p l k) {a : Addr} (ha : b ≠ a.block) (v : Value) : ScAt b (w.setCell a v) s m fr p l k := (heap_setCell_other w a b v ha).trans h
theorem ScAt.drewN {b : Nat} {w : World} {s : ByteArray} {m : Value} {fr p l : Int} {k : Bool} (h : ScAt b w s m fr p l k) (n : Nat) : ScAt b (w.drewN n) s m fr p l k := h
theorem ScAt.below {B b : Nat} {w w' : World} {s : ByteArray} {m : Value} {fr p l : Int} {k : Bool} (h : ScAt b w s m fr p l k) (hb : Below B w w') (hlt : b < B) : ScAt b w' s m fr p l k := (hb.block b hlt).trans h
theorem TkAt.other {b : Nat} {w : World} {k f t l n : Int} {x : ByteArray} (h : TkAt b w k f t l n x) {a : Addr} (ha : b ≠ a.block) (v : Value) : TkAt b (w.setCell a v) k f t l n x := (heap_setCell_other w a b v ha).trans h
theorem TkAt.drewN {b : Nat} {w : World} {k f t l n : Int} {x : ByteArray} (h : TkAt b w k f t l n x) (q : Nat) : TkAt b (w.drewN q) k f t l n x := h
theorem TkAt.below {B b : Nat} {w w' : World} {k f t l n : Int} {x : ByteArray} (h : TkAt b w k f t l n x) (hb : Below B w w') (hlt : b < B) : TkAt b w' k f t l n x := (hb.block b hlt).trans h
theorem TkAt.setKind {b : Nat} {w : World} {k f t l n : Int} {x : ByteArray} (h : TkAt b w k f t l n x) (y : Int) : TkAt b (w.setCell ⟨b, 0, none⟩ (.int .i64 y)) y f t l n x := heap_setCell_same w b 0 _ _ _ h
theorem TkAt.setTo {b : Nat} {w : World} {k f t l n : Int} {x : ByteArray} (h : TkAt b w k f t l n x) (y : Int) : TkAt b (w.setCell ⟨b, 2, none⟩ (.int .i64 y)) k f y l n x := heap_setCell_same w b 2 _ _ _ h
theorem TkAt.setNum {b : Nat} {w : World} {k f t l n : Int} {x : ByteArray} (h : TkAt b w k f t l n x) (y : Int) : TkAt b (w.setCell ⟨b, 4, none⟩ (.int .i64 y)) k f t l y x := heap_setCell_same w b 4 _ _ _ h
theorem TkAt.setText {b : Nat} {w : World} {k f t l n : Int} {x : ByteArray} (h : TkAt b w k f t l n x) (y : ByteArray) : TkAt b (w.setCell ⟨b, 5, none⟩ (.string y)) k f t l n y := heap_setCell_same w b 5 _ _ _ h

/-- Reading a string: (ended, the place, the bytes meant). -/
def rdStr (s : ByteArray) : Nat → Nat → List Int → Bool × Nat × List Int
  | 0, p, a => (false, p, a)
  | f + 1, p, a => if s.size ≤ p then (false, p, a) else if bat s p = 34 then (true, p + 1, a) else if bat s p = 10 then (false, p, a) else if bat s p = 92 then
      (if (escI s (p + 1)).2.2 = true then rdStr s f (escI s (p + 1)).2.1 (a ++ [(escI s (p + 1)).1]) else (false, (escI s (p + 1)).2.1, a))
    else rdStr s f (p + 1) (a ++ [bat s p])
theorem rdStr_bd (s : ByteArray) : ∀ (f p : Nat) (a : List Int), p ≤ s.size → p ≤ (rdStr s f p a).2.1 ∧ (rdStr s f p a).2.1 ≤ s.size ∧ (rdStr s f p a).2.2.length ≤ a.length + (s.size - p)
  | 0, p, a, h => by simp [rdStr]; omega
  | f + 1, p, a, h => by
    unfold rdStr
    split
    · simp; omega
    split
    · simp; omega
    split
    · simp; omega
    split
    · have e := escI_bd s (p + 1) (by omega)
      split
      · rename_i hk
        have ep := escI_pos s (p + 1) (by omega) hk
        have := rdStr_bd s f (escI s (p + 1)).2.1 (a ++ [(escI s (p + 1)).1]) e.2.1
        simp at this ⊢; omega
      · simp; omega
    · have := rdStr_bd s f (p + 1) (a ++ [bat s p]) (by omega)
      simp at this ⊢; omega
end Go.Proofs.YtlmkmihbbnjngaaDoor
