import Derived.Test.YtlmkmihbbnjngaaDoorRTok
import Derived.RangeFuncBox
import Derived.Shelf.Abstract
namespace Go.Proofs.YtlmkmihbbnjngaaDoor
open Go.RowKit
set_option linter.unusedVariables false

theorem Tryd.info30 : (Tryd.prog.info? 30).map (fun i => (i.zero, i.size, i.bytes)) = some (some (.agg #[.int .i64 0, .int .i64 0, .int .i64 0, .int .i64 0, .int .i64 0, .string ⟨#[]⟩]), 6, 56) := by kernel_rfl

/-- What Scan holds beside the scanner: its result's block, the list of tokens. -/
structure Held (w : World) (t B : Nat) (n : Nat) (xs : List Value) (W : World) : Prop where
  res : W.heap[w.heap.size]? = some (.cells #[.bool false, .int .i64 0, .slice none 0 0] 27 (0, 0))
  below : Below w.heap.size w W
  size : B ≤ W.heap.size
  box : ∃ v, Boxed W t 25 v ∧ W.ownsRow B 30 6 v n xs

theorem Held.grown {w W W' : World} {t B n b : Nat} {xs : List Value} (h : Held w t B n xs W) (hg : W.grownBy W' (some b)) (h1 : w.heap.size < b) (h2 : b ≠ t) (h3 : b < B) : Held w t B n xs W' := by
  obtain ⟨v, hv, hr⟩ := h.box
  refine ⟨(hg.block _ (lt_of_block h.res) (by simp; omega)).trans h.res, h.below.trans (gr_below hg (by omega) h.below.size), Nat.le_trans h.size hg.size, v, hv.kept hg (by simp; omega), hr.kept hg ?_⟩
  right; intro e; have := (hr.lt b e).1; omega

theorem Held.putObj {w W : World} {t B n l : Nat} {xs : List Value} {r : Loop} (h : Held w t B n xs W) (hl : W.heap[l]? = some (.loop r)) (o : Obj) (hlw : w.heap.size < l) (hlB : B ≤ l) (htB : t < B) : Held w t B n xs (W.putObj l o) := by
  obtain ⟨v, hv, hr⟩ := h.box
  have hg := grownBy_putObj' W l o
  refine ⟨(hg.block _ (lt_of_block h.res) (by simp; omega)).trans h.res, h.below.trans (gr_below hg (by omega) h.below.size), by simpa using h.size, v, hv.kept hg (by simp; omega), ownsRow_putObj hr o hl rfl⟩

/-- 'tokens = append(tokens, t)', behind the law. -/
theorem Held.appended {w W w1 : World} {t B n : Nat} {xs news : List Value} {v v' : Value} {tmp : Obj} (h : Held w t B n xs W) (hv : Boxed W t 25 v) (hr : W.ownsRow B 30 6 v n xs) (htw : w.heap.size < t) (htB : t < B)
    (hown : w1.ownsRow B 30 6 v' (n + 1) (xs ++ news)) (hg : (W.alloc tmp).grownBy w1 v.ownBlock) :
    Boxed w1 t 25 v ∧ Held w t B (n + 1) (xs ++ news) (w1.setCell ⟨t, 0, none⟩ v') ∧ KeepsFrom B W (w1.setCell ⟨t, 0, none⟩ v') ∧ (∀ k, k < B → k ≠ t → (w1.setCell ⟨t, 0, none⟩ v').heap[k]? = W.heap[k]?) := by
  have hne : ∀ k, k < B → some k ≠ v.ownBlock := fun k hk e => by have := (hr.lt k e.symm).1; omega
  have hsz := h.size
  have hold : ∀ k, k < B → w1.heap[k]? = W.heap[k]? := fun k hk => (hg.block k (by simp; omega) (hne k hk)).trans (Below.heap_alloc W _ k (by omega))
  have hv1 : Boxed w1 t 25 v := (hold t htB).trans hv
  have hsz1 : W.heap.size ≤ w1.heap.size := by have := hg.size; simp at this; omega
  refine ⟨hv1, ⟨?_, ?_, ?_, v', hv1.set v', ownsRow_setCell_below hown htB v'⟩, ?_, ?_⟩
  · rw [heap_setCell_other _ _ _ _ (by simp; omega), hold _ (by omega)]; exact h.res
  · refine h.below.trans ((((Below.refl w.heap.size W).alloc h.below.size tmp).grown hg (by have := h.below.size; simp; omega) (fun k e => by have := (hr.lt k e).1; omega)).setCell (p := ⟨t, 0, none⟩) (by simp; omega) v')
  · simp [World.setCell]; omega
  · refine ((KeepsOthers.alloc W tmp).trans (KeepsOthers.of_grownBy hg fun j o ej hj => ?_)).trans (KeepsOthers.setCell _ _ _) |>.from B
    rcases (hr.alloc tmp).2 with ⟨rfl, _⟩ | ⟨g, cap, cur, rfl, _, hgb, _⟩
    · simp [Value.ownBlock] at ej
    · obtain rfl : g = j := by simpa [Value.ownBlock] using ej
      rw [hgb] at hj; cases hj; rfl
  · intro k hk hkt
    rw [heap_setCell_other _ _ _ _ (by simpa using hkt)]
    exact hold k hk
end Go.Proofs.YtlmkmihbbnjngaaDoor

namespace Go.Proofs.YtlmkmihbbnjngaaDoor
open Go.RowKit Go.Shelf
set_option linter.unusedVariables false
attribute [local go_sem] Oper.semAt_some

theorem own_base {w : World} {base base' e size : Nat} {v : Value} {n : Nat} {xs : List Value} (h : w.ownsRow base e size v n xs) (hb : base' ≤ base) : w.ownsRow base' e size v n xs := by
  obtain ⟨h1, h2⟩ := h
  refine ⟨h1, ?_⟩
  rcases h2 with h2 | ⟨g, cap, cur, hv, hg, rest⟩
  · exact .inl h2
  · exact .inr ⟨g, cap, cur, hv, Nat.le_trans hb hg, rest⟩

end Go.Proofs.YtlmkmihbbnjngaaDoor
