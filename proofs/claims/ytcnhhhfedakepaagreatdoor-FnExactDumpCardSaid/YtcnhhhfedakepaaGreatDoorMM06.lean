import Derived.Test.YtcnhhhfedakepaaGreatDoorMM05
import Derived.BigQuiet
import Derived.Test.YtcnhhhfedakepaaGreatDoorMM01
namespace Go.Proofs.YtcnhhhfedakepaaGreatDoor
open Go.RowKit
set_option linter.unusedVariables false

/-- A node in a block of its own. -/
def NdBox (b : Nat) (W : World) (t : TypeId) (N : Nd) (vn vk : Value) : Prop :=
  W.heap[b]? = some (.cells #[.int .i64 N.k, .int .i64 N.f, .int .i64 N.t, .int .i64 N.l, .int .i64 N.op, .int .i64 N.n, .string N.x, vn, vk] t (0, 0))
theorem nd_cells {b : Nat} {W : World} {t : TypeId} {N : Nd} {vn vk : Value} (h : NdBox b W t N vn vk) :
    W.cell? ⟨b, 0, none⟩ = some (.int .i64 N.k) ∧ W.cell? ⟨b, 1, none⟩ = some (.int .i64 N.f) ∧ W.cell? ⟨b, 2, none⟩ = some (.int .i64 N.t) ∧ W.cell? ⟨b, 3, none⟩ = some (.int .i64 N.l) ∧ W.cell? ⟨b, 4, none⟩ = some (.int .i64 N.op) ∧ W.cell? ⟨b, 5, none⟩ = some (.int .i64 N.n) ∧ W.cell? ⟨b, 6, none⟩ = some (.string N.x) ∧ W.cell? ⟨b, 7, none⟩ = some vn ∧ W.cell? ⟨b, 8, none⟩ = some vk ∧ (∀ j, W.frozen? ⟨b, j, none⟩ = false) := by
  unfold NdBox at h
  exact ⟨by rw [cell_of_row _ _ _ _ _ _ h]; rfl, by rw [cell_of_row _ _ _ _ _ _ h]; rfl, by rw [cell_of_row _ _ _ _ _ _ h]; rfl, by rw [cell_of_row _ _ _ _ _ _ h]; rfl, by rw [cell_of_row _ _ _ _ _ _ h]; rfl, by rw [cell_of_row _ _ _ _ _ _ h]; rfl, by rw [cell_of_row _ _ _ _ _ _ h]; rfl, by rw [cell_of_row _ _ _ _ _ _ h]; rfl, by rw [cell_of_row _ _ _ _ _ _ h]; rfl, fun j => frozen_of_row _ _ _ _ _ h⟩
def zNd : Nd := ⟨0, 0, 0, 0, 0, 0, { data := #[] }, [], []⟩
theorem NdBox.below {b : Nat} {W W' : World} {t : TypeId} {N : Nd} {vn vk : Value} (h : NdBox b W t N vn vk) (hb : Below W.heap.size W W') : NdBox b W' t N vn vk := (hb.block _ (lt_of_block h)).trans h

def set9 (W : World) (b : Nat) (N : Nd) (vn vk : Value) : World := (((((((((W.setCell ⟨b, 0, none⟩ (.int .i64 N.k)).setCell ⟨b, 1, none⟩ (.int .i64 N.f)).setCell ⟨b, 2, none⟩ (.int .i64 N.t)).setCell ⟨b, 3, none⟩ (.int .i64 N.l)).setCell ⟨b, 4, none⟩ (.int .i64 N.op)).setCell ⟨b, 5, none⟩ (.int .i64 N.n)).setCell ⟨b, 6, none⟩ (.string N.x)).setCell ⟨b, 7, none⟩ (vn)).setCell ⟨b, 8, none⟩ (vk))
theorem nd_set9 {b : Nat} {W : World} {t : TypeId} {M : Nd} {vm vl : Value} (h : NdBox b W t M vm vl) (N : Nd) (vn vk : Value) : NdBox b (set9 W b N vn vk) t N vn vk := by
  unfold set9
  have s0 : (W.setCell ⟨b, 0, none⟩ (.int .i64 N.k)).heap[b]? = some (.cells #[.int .i64 N.k, .int .i64 M.f, .int .i64 M.t, .int .i64 M.l, .int .i64 M.op, .int .i64 M.n, .string M.x, vm, vl] t (0, 0)) := heap_setCell_same _ b 0 _ _ _ h
  have s1 : ((W.setCell ⟨b, 0, none⟩ (.int .i64 N.k)).setCell ⟨b, 1, none⟩ (.int .i64 N.f)).heap[b]? = some (.cells #[.int .i64 N.k, .int .i64 N.f, .int .i64 M.t, .int .i64 M.l, .int .i64 M.op, .int .i64 M.n, .string M.x, vm, vl] t (0, 0)) := heap_setCell_same _ b 1 _ _ _ s0
  have s2 : (((W.setCell ⟨b, 0, none⟩ (.int .i64 N.k)).setCell ⟨b, 1, none⟩ (.int .i64 N.f)).setCell ⟨b, 2, none⟩ (.int .i64 N.t)).heap[b]? = some (.cells #[.int .i64 N.k, .int .i64 N.f, .int .i64 N.t, .int .i64 M.l, .int .i64 M.op, .int .i64 M.n, .string M.x, vm, vl] t (0, 0)) := heap_setCell_same _ b 2 _ _ _ s1
  have s3 : ((((W.setCell ⟨b, 0, none⟩ (.int .i64 N.k)).setCell ⟨b, 1, none⟩ (.int .i64 N.f)).setCell ⟨b, 2, none⟩ (.int .i64 N.t)).setCell ⟨b, 3, none⟩ (.int .i64 N.l)).heap[b]? = some (.cells #[.int .i64 N.k, .int .i64 N.f, .int .i64 N.t, .int .i64 N.l, .int .i64 M.op, .int .i64 M.n, .string M.x, vm, vl] t (0, 0)) := heap_setCell_same _ b 3 _ _ _ s2
  have s4 : (((((W.setCell ⟨b, 0, none⟩ (.int .i64 N.k)).setCell ⟨b, 1, none⟩ (.int .i64 N.f)).setCell ⟨b, 2, none⟩ (.int .i64 N.t)).setCell ⟨b, 3, none⟩ (.int .i64 N.l)).setCell ⟨b, 4, none⟩ (.int .i64 N.op)).heap[b]? = some (.cells #[.int .i64 N.k, .int .i64 N.f, .int .i64 N.t, .int .i64 N.l, .int .i64 N.op, .int .i64 M.n, .string M.x, vm, vl] t (0, 0)) := heap_setCell_same _ b 4 _ _ _ s3
  have s5 : ((((((W.setCell ⟨b, 0, none⟩ (.int .i64 N.k)).setCell ⟨b, 1, none⟩ (.int .i64 N.f)).setCell ⟨b, 2, none⟩ (.int .i64 N.t)).setCell ⟨b, 3, none⟩ (.int .i64 N.l)).setCell ⟨b, 4, none⟩ (.int .i64 N.op)).setCell ⟨b, 5, none⟩ (.int .i64 N.n)).heap[b]? = some (.cells #[.int .i64 N.k, .int .i64 N.f, .int .i64 N.t, .int .i64 N.l, .int .i64 N.op, .int .i64 N.n, .string M.x, vm, vl] t (0, 0)) := heap_setCell_same _ b 5 _ _ _ s4
  have s6 : (((((((W.setCell ⟨b, 0, none⟩ (.int .i64 N.k)).setCell ⟨b, 1, none⟩ (.int .i64 N.f)).setCell ⟨b, 2, none⟩ (.int .i64 N.t)).setCell ⟨b, 3, none⟩ (.int .i64 N.l)).setCell ⟨b, 4, none⟩ (.int .i64 N.op)).setCell ⟨b, 5, none⟩ (.int .i64 N.n)).setCell ⟨b, 6, none⟩ (.string N.x)).heap[b]? = some (.cells #[.int .i64 N.k, .int .i64 N.f, .int .i64 N.t, .int .i64 N.l, .int .i64 N.op, .int .i64 N.n, .string N.x, vm, vl] t (0, 0)) := heap_setCell_same _ b 6 _ _ _ s5
  have s7 : ((((((((W.setCell ⟨b, 0, none⟩ (.int .i64 N.k)).setCell ⟨b, 1, none⟩ (.int .i64 N.f)).setCell ⟨b, 2, none⟩ (.int .i64 N.t)).setCell ⟨b, 3, none⟩ (.int .i64 N.l)).setCell ⟨b, 4, none⟩ (.int .i64 N.op)).setCell ⟨b, 5, none⟩ (.int .i64 N.n)).setCell ⟨b, 6, none⟩ (.string N.x)).setCell ⟨b, 7, none⟩ (vn)).heap[b]? = some (.cells #[.int .i64 N.k, .int .i64 N.f, .int .i64 N.t, .int .i64 N.l, .int .i64 N.op, .int .i64 N.n, .string N.x, vn, vl] t (0, 0)) := heap_setCell_same _ b 7 _ _ _ s6
  have s8 : (((((((((W.setCell ⟨b, 0, none⟩ (.int .i64 N.k)).setCell ⟨b, 1, none⟩ (.int .i64 N.f)).setCell ⟨b, 2, none⟩ (.int .i64 N.t)).setCell ⟨b, 3, none⟩ (.int .i64 N.l)).setCell ⟨b, 4, none⟩ (.int .i64 N.op)).setCell ⟨b, 5, none⟩ (.int .i64 N.n)).setCell ⟨b, 6, none⟩ (.string N.x)).setCell ⟨b, 7, none⟩ (vn)).setCell ⟨b, 8, none⟩ (vk)).heap[b]? = some (.cells #[.int .i64 N.k, .int .i64 N.f, .int .i64 N.t, .int .i64 N.l, .int .i64 N.op, .int .i64 N.n, .string N.x, vn, vk] t (0, 0)) := heap_setCell_same _ b 8 _ _ _ s7
  exact s8
theorem own_set9 {W : World} {base e size : Nat} {v : Value} {n : Nat} {xs : List Value} {b : Nat} (h : W.ownsRow base e size v n xs) (hb : b < base) (N : Nd) (vn vk : Value) : (set9 W b N vn vk).ownsRow base e size v n xs := by
  unfold set9
  iterate 9 refine ownsRow_setCell_below ?_ hb _
  exact h
theorem below_set9 {w W : World} {base b : Nat} (h : Below base w W) (hb : base ≤ b) (N : Nd) (vn vk : Value) : Below base w (set9 W b N vn vk) := by
  unfold set9
  iterate 9 refine Below.setCell ?_ hb _
  exact h

set_option maxRecDepth 100000 in
set_option maxHeartbeats 3200000 in
theorem toNode_any (w : World) (N : Nd) (vn vk : Value) (hn : StrsAt w vn N.nm) (hk : IntsAt w vk N.ks) (h1 : N.nm.length ≤ 1048576) (h2 : N.ks.length ≤ 1048576) :
    Calls Tryz.prog 37 #[vNd N vn vk] w fun e w' => ∃ g1 g2, e = .returned (vNd N (.slice (some ⟨g1, 0, none⟩) N.nm.length N.nm.length) (.slice (some ⟨g2, 0, none⟩) N.ks.length N.ks.length)) ∧
      w'.ownsRow w.heap.size 9 1 (.slice (some ⟨g1, 0, none⟩) N.nm.length N.nm.length) N.nm.length (N.nm.map Value.string) ∧ w'.ownsRow w.heap.size 3 1 (.slice (some ⟨g2, 0, none⟩) N.ks.length N.ks.length) N.ks.length (N.ks.map (Value.int .i64)) ∧ Below w.heap.size w w' := by
  obtain ⟨a1, c1, rfl⟩ := hn.form
  obtain ⟨a2, c2, rfl⟩ := hk.form
  unfold vNd
  have HN : Hid (StrsAt w (.slice a1 N.nm.length c1) N.nm ∧ IntsAt w (.slice a2 N.ks.length c2) N.ks) := ⟨hn, hk⟩
  clear hn hk
  obtain ⟨L1, hL1⟩ : ∃ n, N.nm.length = n := ⟨_, rfl⟩
  obtain ⟨L2, hL2⟩ : ∃ n, N.ks.length = n := ⟨_, rfl⟩
  have HL : Hid (N.nm.length = L1 ∧ N.ks.length = L2) := ⟨hL1, hL2⟩
  rw [hL1] at HN h1 ⊢
  rw [hL2] at HN h2 ⊢
  clear hL1 hL2
  go_enter Tryz.func37, Tryz.ntmps37
  go_wp2_with (go_at_call 58; fail)
  obtain ⟨W9, hW9⟩ : ∃ W9, ((w.alloc (.cells #[.int .i64 N.k, .int .i64 N.f, .int .i64 N.t, .int .i64 N.l, .int .i64 N.op, .int .i64 N.n, .string N.x, .slice a1 L1 c1, .slice a2 L2 c2] 78)).alloc (.cells #[.int .i64 0, .int .i64 0, .int .i64 0, .int .i64 0, .int .i64 0, .int .i64 0, .string { data := #[] }, .slice none 0 0, .slice none 0 0] 67)).alloc (.cells #[.int .i64 N.k, .int .i64 N.f, .int .i64 N.t, .int .i64 N.l, .int .i64 N.op, .int .i64 N.n, .string N.x, .slice none 0 0, .slice none 0 0] 67) = W9 := ⟨_, rfl⟩
  have hs9 : W9.heap.size = w.heap.size + 1 + 1 + 1 := by rw [← hW9]; simp
  have hA : NdBox w.heap.size W9 78 N (.slice a1 L1 c1) (.slice a2 L2 c2) := by
    rw [← hW9]
    exact (Below.heap_alloc _ _ _ (by simp; omega)).trans ((Below.heap_alloc _ _ _ (by simp)).trans (heap_alloc_new w _))
  have hZ : NdBox (w.heap.size + 1) W9 67 zNd (.slice none 0 0) (.slice none 0 0) := by
    rw [← hW9]
    have := heap_alloc_new (w.alloc (.cells #[.int .i64 N.k, .int .i64 N.f, .int .i64 N.t, .int .i64 N.l, .int .i64 N.op, .int .i64 N.n, .string N.x, .slice a1 L1 c1, .slice a2 L2 c2] 78)) (.cells #[.int .i64 0, .int .i64 0, .int .i64 0, .int .i64 0, .int .i64 0, .int .i64 0, .string { data := #[] }, .slice none 0 0, .slice none 0 0] 67)
    rw [World.size_alloc] at this
    exact (Below.heap_alloc _ _ _ (by simp)).trans this
  have hO : NdBox (w.heap.size + 1 + 1) W9 67 N (.slice none 0 0) (.slice none 0 0) := by
    rw [← hW9]
    have := heap_alloc_new ((w.alloc (.cells #[.int .i64 N.k, .int .i64 N.f, .int .i64 N.t, .int .i64 N.l, .int .i64 N.op, .int .i64 N.n, .string N.x, .slice a1 L1 c1, .slice a2 L2 c2] 78)).alloc (.cells #[.int .i64 0, .int .i64 0, .int .i64 0, .int .i64 0, .int .i64 0, .int .i64 0, .string { data := #[] }, .slice none 0 0, .slice none 0 0] 67)) (.cells #[.int .i64 N.k, .int .i64 N.f, .int .i64 N.t, .int .i64 N.l, .int .i64 N.op, .int .i64 N.n, .string N.x, .slice none 0 0, .slice none 0 0] 67)
    rw [World.size_alloc, World.size_alloc] at this
    exact this
  have hB : Below w.heap.size w W9 := by rw [← hW9]; exact (((Below.refl _ w).alloc (Nat.le_refl _) _).alloc (by simp) _).alloc (by simp; omega) _
  rw [hW9]
  clear hW9
  have hBB : Below w.heap.size w W9 := hB
  refine (toStringS_any W9 _ N.nm (by have := HN.out.1.below hB; exact this) (by rw [HL.out.1]; exact h1)).mono ?_
  rintro e w1 ⟨rfl, own1, hb1⟩
  rw [HL.out.1] at own1 ⊢
  have hA1 := hA.below hb1
  have hZ1 := hZ.below hb1
  have hO1 := hO.below hb1
  clear hA hZ hO
  obtain ⟨p0, p1, p2, p3, p4, p5, p6, p7, p8, pf⟩ := nd_cells hA1
  obtain ⟨o0, o1, o2, o3, o4, o5, o6, o7, o8, of⟩ := nd_cells hO1
  have hx1 := hb1.size
  rw [hs9] at own1
  have hs1 : w.heap.size + 1 + 1 + 1 ≤ w1.heap.size := by omega
  clear o0 o1 o2 o3 o4 o5 o6 o8 p0 p1 p2 p3 p4 p5 p6 p7 pf
  go_wp2_with (go_at_call 59; fail)
  have hA2 : NdBox w.heap.size (w1.setCell ⟨w.heap.size + 1 + 1, 7, none⟩ (.slice (some ⟨w.heap.size + 1 + 1 + 1, 0, none⟩) L1 L1)) 78 N (.slice a1 L1 c1) (.slice a2 L2 c2) := (heap_setCell_other _ _ _ _ (by simp; omega)).trans hA1
  have hZ2 : NdBox (w.heap.size + 1) (w1.setCell ⟨w.heap.size + 1 + 1, 7, none⟩ (.slice (some ⟨w.heap.size + 1 + 1 + 1, 0, none⟩) L1 L1)) 67 zNd (.slice none 0 0) (.slice none 0 0) := (heap_setCell_other _ _ _ _ (by simp)).trans hZ1
  have hO2 : NdBox (w.heap.size + 1 + 1) (w1.setCell ⟨w.heap.size + 1 + 1, 7, none⟩ (.slice (some ⟨w.heap.size + 1 + 1 + 1, 0, none⟩) L1 L1)) 67 N (.slice (some ⟨w.heap.size + 1 + 1 + 1, 0, none⟩) L1 L1) (.slice none 0 0) := heap_setCell_same w1 _ 7 _ _ _ hO1
  have own2 := ownsRow_setCell_below (a := ⟨w.heap.size + 1 + 1, 7, none⟩) own1 (by simp) (.slice (some ⟨w.heap.size + 1 + 1 + 1, 0, none⟩) L1 L1)
  have hB2 : Below w.heap.size w (w1.setCell ⟨w.heap.size + 1 + 1, 7, none⟩ (.slice (some ⟨w.heap.size + 1 + 1 + 1, 0, none⟩) L1 L1)) := (hBB.trans (hb1.mono (by omega))).setCell (by simp; omega) _
  have hz2 : w.heap.size + 1 + 1 + 1 ≤ (w1.setCell ⟨w.heap.size + 1 + 1, 7, none⟩ (.slice (some ⟨w.heap.size + 1 + 1 + 1, 0, none⟩) L1 L1)).heap.size := by simpa [World.setCell] using hs1
  generalize w1.setCell ⟨w.heap.size + 1 + 1, 7, none⟩ (.slice (some ⟨w.heap.size + 1 + 1 + 1, 0, none⟩) L1 L1) = W2 at hA2 hZ2 hO2 own2 hB2 hz2 ⊢
  refine (toIntS_any W2 _ N.ks (by have := HN.out.2.below hB2; exact this) (by rw [HL.out.2]; exact h2)).mono ?_
  rintro e w3 ⟨rfl, own3, hb3⟩
  rw [HL.out.2] at own3 ⊢
  have hZ3 := hZ2.below hb3
  have hO3 := hO2.below hb3
  have own23 := own_keep own2 hb3
  have hB3 := hB2.trans (hb3.mono hB2.size)
  have hx3 := hb3.size
  clear hA1 hZ1 hO1 hA2 hZ2 hO2 own1 own2 o7 of p8 hb1
  obtain ⟨g2, hg2⟩ : ∃ g2, W2.heap.size = g2 := ⟨_, rfl⟩
  rw [hg2] at own3 hz2 hx3 ⊢
  obtain ⟨o0, o1, o2, o3, o4, o5, o6, o7, o8, of⟩ := nd_cells hO3
  obtain ⟨z0, z1, z2, z3, z4, z5, z6, z7, z8, zf⟩ := nd_cells hZ3
  have hy1 : w.heap.size + 1 < w3.heap.size := lt_of_block hZ3
  have hy2 : w.heap.size + 1 + 1 < w3.heap.size := lt_of_block hO3
  clear hg2
  go_wp2_with fail
  have hZ4 : NdBox (w.heap.size + 1) (w3.setCell ⟨w.heap.size + 1 + 1, 8, none⟩ (.slice (some ⟨g2, 0, none⟩) L2 L2)) 67 zNd (.slice none 0 0) (.slice none 0 0) := (heap_setCell_other _ _ _ _ (by simp)).trans hZ3
  have hZ5 := nd_set9 hZ4 N (.slice (some ⟨w.heap.size + 1 + 1 + 1, 0, none⟩) L1 L1) (.slice (some ⟨g2, 0, none⟩) L2 L2)
  have oo1 := own_set9 (b := w.heap.size + 1) (ownsRow_setCell_below (a := ⟨w.heap.size + 1 + 1, 8, none⟩) own23 (by simp) (.slice (some ⟨g2, 0, none⟩) L2 L2)) (by omega) N (.slice (some ⟨w.heap.size + 1 + 1 + 1, 0, none⟩) L1 L1) (.slice (some ⟨g2, 0, none⟩) L2 L2)
  have oo2 := own_set9 (b := w.heap.size + 1) (ownsRow_setCell_below (a := ⟨w.heap.size + 1 + 1, 8, none⟩) own3 (by simp; omega) (.slice (some ⟨g2, 0, none⟩) L2 L2)) (by omega) N (.slice (some ⟨w.heap.size + 1 + 1 + 1, 0, none⟩) L1 L1) (.slice (some ⟨g2, 0, none⟩) L2 L2)
  have bb := below_set9 (b := w.heap.size + 1) (hB3.setCell (p := ⟨w.heap.size + 1 + 1, 8, none⟩) (by simp; omega) (.slice (some ⟨g2, 0, none⟩) L2 L2)) (by omega) N (.slice (some ⟨w.heap.size + 1 + 1 + 1, 0, none⟩) L1 L1) (.slice (some ⟨g2, 0, none⟩) L2 L2)
  change bodyPost _ _ _ _ _ (set9 (w3.setCell ⟨w.heap.size + 1 + 1, 8, none⟩ (.slice (some ⟨g2, 0, none⟩) L2 L2)) (w.heap.size + 1) N (.slice (some ⟨w.heap.size + 1 + 1 + 1, 0, none⟩) L1 L1) (.slice (some ⟨g2, 0, none⟩) L2 L2))
  generalize set9 (w3.setCell ⟨w.heap.size + 1 + 1, 8, none⟩ (.slice (some ⟨g2, 0, none⟩) L2 L2)) (w.heap.size + 1) N (.slice (some ⟨w.heap.size + 1 + 1 + 1, 0, none⟩) L1 L1) (.slice (some ⟨g2, 0, none⟩) L2 L2) = W5 at hZ5 oo1 oo2 bb ⊢
  exact bodyPost_ret (results_cell_row rfl _ _ (w.heap.size + 1) _ _ _ _ rfl hZ5 Tryz.underlying67 rfl (by kernel_rfl)) rfl ⟨w.heap.size + 1 + 1 + 1, g2, rfl, own_le oo1 (by omega), own_le oo2 (by omega), bb⟩
end Go.Proofs.YtcnhhhfedakepaaGreatDoor

namespace Go.Proofs.YtcnhhhfedakepaaGreatDoor
open Go.RowKit
set_option linter.unusedVariables false

theorem bel_drew {B : Nat} {a w : World} (h : Below B a w) (n : Nat) : Below B a (w.drewN n) := ⟨h.os, h.tape, h.output, h.size, h.block⟩
theorem bel_drew1 {B : Nat} {a w : World} (h : Below B a w) : Below B a w.drew := ⟨h.os, h.tape, h.output, h.size, h.block⟩

set_option maxRecDepth 100000 in
set_option maxHeartbeats 1600000 in
theorem eqStringS_any (w : World) (v1 v2 : Value) (l : List ByteArray) (h1 : StrsAt w v1 l) (h2 : StrsAt w v2 l) (hl : l.length ≤ 1048576) :
    Calls Tryz.prog 67 #[v1, v2] w fun e w' => e = .returned (.bool true) ∧ Below w.heap.size w w' := by
  obtain ⟨a1, c1, rfl⟩ := h1.form
  obtain ⟨a2, c2, rfl⟩ := h2.form
  obtain ⟨n, hn⟩ : ∃ n, l.length = n := ⟨_, rfl⟩
  have HN : Hid (l.length = n) := hn
  have HA : Hid (StrsAt w (.slice a1 n c1) l ∧ StrsAt w (.slice a2 n c2) l) := by rw [← hn]; exact ⟨h1, h2⟩
  rw [hn] at hl ⊢
  clear h1 h2 hn
  go_enter Tryz.func67, Tryz.ntmps67
  go_wp2_with fail
  go_loopw [5] (fun vi wr => ∃ k : Nat, k ≤ n ∧ vi = .int .i64 k ∧ Below w.heap.size w wr) (fun vi _ => n - (intOf vi).toNat)
  case atStart => exact ⟨0, by omega, rfl, Below.refl _ _⟩
  case round =>
    obtain ⟨k, hk, rfl, hb⟩ := hrel
    by_cases hlt : k < n
    · obtain ⟨s, hsk⟩ := some_at HN.out hlt
      obtain ⟨b1, rfl, d1⟩ := (HA.out.1.below hb).get hsk
      obtain ⟨b2, rfl, d2⟩ := (HA.out.2.below hb).get hsk
      have hki : (k : Int) < (n : Int) := by omega
      have hk0 : (0 : Int) ≤ (k : Int) := by omega
      clear hsk
      go_wp2_with fail
      go_quiet (fail)
      go_wp2_with fail
      exact ⟨⟨k + 1, by omega, by go_num, bel_drew hb _⟩, by simp [intOf]; omega⟩
    · obtain rfl : k = n := by omega
      go_wp2_with fail
      go_ret
      exact ⟨rfl, hb⟩

set_option maxRecDepth 100000 in
set_option maxHeartbeats 1600000 in
theorem eqIntS_any (w : World) (v1 v2 : Value) (l : List Int) (h1 : IntsAt w v1 l) (h2 : IntsAt w v2 l) (hl : l.length ≤ 1048576) :
    Calls Tryz.prog 68 #[v1, v2] w fun e w' => e = .returned (.bool true) ∧ Below w.heap.size w w' := by
  obtain ⟨a1, c1, rfl⟩ := h1.form
  obtain ⟨a2, c2, rfl⟩ := h2.form
  obtain ⟨n, hn⟩ : ∃ n, l.length = n := ⟨_, rfl⟩
  have HN : Hid (l.length = n) := hn
  have HA : Hid (IntsAt w (.slice a1 n c1) l ∧ IntsAt w (.slice a2 n c2) l) := by rw [← hn]; exact ⟨h1, h2⟩
  rw [hn] at hl ⊢
  clear h1 h2 hn
  go_enter Tryz.func68, Tryz.ntmps68
  go_wp2_with fail
  go_loopw [5] (fun vi wr => ∃ k : Nat, k ≤ n ∧ vi = .int .i64 k ∧ Below w.heap.size w wr) (fun vi _ => n - (intOf vi).toNat)
  case atStart => exact ⟨0, by omega, rfl, Below.refl _ _⟩
  case round =>
    obtain ⟨k, hk, rfl, hb⟩ := hrel
    by_cases hlt : k < n
    · obtain ⟨s, hsk⟩ := some_at HN.out hlt
      obtain ⟨b1, rfl, d1⟩ := (HA.out.1.below hb).get hsk
      obtain ⟨b2, rfl, d2⟩ := (HA.out.2.below hb).get hsk
      have hki : (k : Int) < (n : Int) := by omega
      have hk0 : (0 : Int) ≤ (k : Int) := by omega
      clear hsk
      go_wp2_with fail
      go_quiet (fail)
      go_wp2_with fail
      exact ⟨⟨k + 1, by omega, by go_num, bel_drew hb _⟩, by simp [intOf]; omega⟩
    · obtain rfl : k = n := by omega
      go_wp2_with fail
      go_ret
      exact ⟨rfl, hb⟩

set_option maxRecDepth 100000 in
set_option maxHeartbeats 1600000 in
theorem eqNode_any (w : World) (N : Nd) (vn1 vk1 vn2 vk2 : Value) (n1 : StrsAt w vn1 N.nm) (k1 : IntsAt w vk1 N.ks) (n2 : StrsAt w vn2 N.nm) (k2 : IntsAt w vk2 N.ks) (hl1 : N.nm.length ≤ 1048576) (hl2 : N.ks.length ≤ 1048576) :
    Calls Tryz.prog 43 #[vNd N vn1 vk1, vNd N vn2 vk2] w fun e w' => e = .returned (.bool true) ∧ Below w.heap.size w w' := by
  have hb0 : ∀ o1 o2, Below w.heap.size w ((w.alloc o1).alloc o2) := fun o1 o2 => ((Below.refl _ w).alloc (Nat.le_refl _) o1).alloc (by simp) o2
  have ks := fun o1 o2 => eqStringS_any ((w.alloc o1).alloc o2) vn1 vn2 N.nm (n1.below (hb0 o1 o2)) (n2.below (hb0 o1 o2)) hl1
  have ki := fun W (hb : Below w.heap.size w W) => eqIntS_any W vk1 vk2 N.ks (k1.below hb) (k2.below hb) hl2
  obtain ⟨a1, c1, rfl⟩ := n1.form
  obtain ⟨a2, c2, rfl⟩ := n2.form
  obtain ⟨a3, c3, rfl⟩ := k1.form
  obtain ⟨a4, c4, rfl⟩ := k2.form
  unfold vNd
  generalize N.nm.length = L1 at ks ⊢
  generalize N.ks.length = L2 at ki ⊢
  clear n1 k1 n2 k2 hl1 hl2
  obtain ⟨nk, nf, nt, nl, nop, nn, nx, nnm, nks⟩ := N
  simp only
  go_enter Tryz.func43, Tryz.ntmps43
  go_wp2_with (go_at_call 67; fail)
  have e1 : ((w.alloc (.cells #[.int .i64 nk, .int .i64 nf, .int .i64 nt, .int .i64 nl, .int .i64 nop, .int .i64 nn, .string nx, .slice a1 L1 c1, .slice a3 L2 c3] 67)).alloc (.cells #[.int .i64 nk, .int .i64 nf, .int .i64 nt, .int .i64 nl, .int .i64 nop, .int .i64 nn, .string nx, .slice a2 L1 c2, .slice a4 L2 c4] 67)).cell? ⟨w.heap.size, 8, none⟩ = some (.slice a3 L2 c3) := by
    rw [cell_of_row _ _ _ _ _ _ ((Below.heap_alloc _ _ _ (by simp)).trans (heap_alloc_new w _))]; rfl
  have e2 : ((w.alloc (.cells #[.int .i64 nk, .int .i64 nf, .int .i64 nt, .int .i64 nl, .int .i64 nop, .int .i64 nn, .string nx, .slice a1 L1 c1, .slice a3 L2 c3] 67)).alloc (.cells #[.int .i64 nk, .int .i64 nf, .int .i64 nt, .int .i64 nl, .int .i64 nop, .int .i64 nn, .string nx, .slice a2 L1 c2, .slice a4 L2 c4] 67)).cell? ⟨w.heap.size + 1, 8, none⟩ = some (.slice a4 L2 c4) := by
    have := heap_alloc_new (w.alloc (.cells #[.int .i64 nk, .int .i64 nf, .int .i64 nt, .int .i64 nl, .int .i64 nop, .int .i64 nn, .string nx, .slice a1 L1 c1, .slice a3 L2 c3] 67)) (.cells #[.int .i64 nk, .int .i64 nf, .int .i64 nt, .int .i64 nl, .int .i64 nop, .int .i64 nn, .string nx, .slice a2 L1 c2, .slice a4 L2 c4] 67)
    rw [World.size_alloc] at this
    rw [cell_of_row _ _ _ _ _ _ this]; rfl
  have hbB := hb0 (.cells #[.int .i64 nk, .int .i64 nf, .int .i64 nt, .int .i64 nl, .int .i64 nop, .int .i64 nn, .string nx, .slice a1 L1 c1, .slice a3 L2 c3] 67) (.cells #[.int .i64 nk, .int .i64 nf, .int .i64 nt, .int .i64 nl, .int .i64 nop, .int .i64 nn, .string nx, .slice a2 L1 c2, .slice a4 L2 c4] 67)
  have k9 := ks (.cells #[.int .i64 nk, .int .i64 nf, .int .i64 nt, .int .i64 nl, .int .i64 nop, .int .i64 nn, .string nx, .slice a1 L1 c1, .slice a3 L2 c3] 67) (.cells #[.int .i64 nk, .int .i64 nf, .int .i64 nt, .int .i64 nl, .int .i64 nop, .int .i64 nn, .string nx, .slice a2 L1 c2, .slice a4 L2 c4] 67)
  generalize (w.alloc (.cells #[.int .i64 nk, .int .i64 nf, .int .i64 nt, .int .i64 nl, .int .i64 nop, .int .i64 nn, .string nx, .slice a1 L1 c1, .slice a3 L2 c3] 67)).alloc (.cells #[.int .i64 nk, .int .i64 nf, .int .i64 nt, .int .i64 nl, .int .i64 nop, .int .i64 nn, .string nx, .slice a2 L1 c2, .slice a4 L2 c4] 67) = W2 at e1 e2 hbB k9 ⊢
  refine k9.mono ?_
  rintro e w1 ⟨rfl, hb1⟩
  have f1 := cell_kept hb1 e1
  have f2 := cell_kept hb1 e2
  have hb2 := hbB.trans (hb1.mono hbB.size)
  have kz := ki w1 hb2
  clear e1 e2 k9 ks ki hb1 hbB hb0
  go_wp2_with (go_at_call 68; refine kz.mono ?_; rintro e w3 ⟨rfl, hb3⟩)
  go_ret
  exact ⟨rfl, hb2.trans (hb3.mono hb2.size)⟩

set_option maxRecDepth 100000 in
set_option maxHeartbeats 3200000 in
theorem eqNodeS_any (w : World) (v1 v2 : Value) (l : List Nd) (h1 : NdsAt w v1 l) (h2 : NdsAt w v2 l) (hl : l.length ≤ 1048576) (hN : ∀ N ∈ l, N.nm.length ≤ 1048576 ∧ N.ks.length ≤ 1048576) :
    Calls Tryz.prog 26 #[v1, v2] w fun e w' => e = .returned (.bool true) ∧ Below w.heap.size w w' := by
  obtain ⟨a1, c1, rfl⟩ := h1.form
  obtain ⟨a2, c2, rfl⟩ := h2.form
  obtain ⟨n, hn⟩ : ∃ n, l.length = n := ⟨_, rfl⟩
  have HN : Hid (l.length = n) := hn
  have HA : Hid (NdsAt w (.slice a1 n c1) l ∧ NdsAt w (.slice a2 n c2) l) := by rw [← hn]; exact ⟨h1, h2⟩
  have HS : Hid (∀ N ∈ l, N.nm.length ≤ 1048576 ∧ N.ks.length ≤ 1048576) := hN
  rw [hn] at hl ⊢
  clear h1 h2 hn hN
  go_enter Tryz.func26, Tryz.ntmps26
  go_wp2_with fail
  go_loopw [5] (fun vi wr => ∃ k : Nat, k ≤ n ∧ vi = .int .i64 k ∧ Below w.heap.size w wr) (fun vi _ => n - (intOf vi).toNat)
  case atStart => exact ⟨0, by omega, rfl, Below.refl _ _⟩
  case round =>
    obtain ⟨k, hk, rfl, hb⟩ := hrel
    by_cases hlt : k < n
    · obtain ⟨N, hsk⟩ := some_at HN.out hlt
      obtain ⟨hs1, hs2⟩ := HS.out N (List.mem_of_getElem? hsk)
      obtain ⟨b1, rfl, vn1, vk1, g1⟩ := (HA.out.1.below hb).get hsk
      obtain ⟨b2, rfl, vn2, vk2, g2⟩ := (HA.out.2.below hb).get hsk
      have hki : (k : Int) < (n : Int) := by omega
      have hk0 : (0 : Int) ≤ (k : Int) := by omega
      obtain ⟨p0, p1, p2, p3, p4, p5, p6, p7, p8, n1, k1⟩ := g1
      obtain ⟨q0, q1, q2, q3, q4, q5, q6, q7, q8, n2, k2⟩ := g2
      have ke := eqNode_any wr.drew N vn1 vk1 vn2 vk2 n1 k1 n2 k2 hs1 hs2
      obtain ⟨x1, y1, rfl⟩ := n1.form
      obtain ⟨x2, y2, rfl⟩ := n2.form
      obtain ⟨x3, y3, rfl⟩ := k1.form
      obtain ⟨x4, y4, rfl⟩ := k2.form
      unfold vNd at ke
      clear hsk n1 k1 n2 k2 hs1 hs2
      generalize N.nm.length = L1 at p7 q7 ke
      generalize N.ks.length = L2 at p8 q8 ke
      obtain ⟨nk, nf, nt, nl, nop, nn, nx, nnm, nks⟩ := N
      simp only at p0 p1 p2 p3 p4 p5 p6 q0 q1 q2 q3 q4 q5 q6 ke
      go_wp2_with fail
      go_region_held3 (fun w' => w'.cell? (b1.add (k * 9)) = some (.int .i64 nk) ∧ w'.cell? ⟨(b1.add (k * 9)).block, (b1.add (k * 9)).off + 1, none⟩ = some (.int .i64 nf) ∧ w'.cell? ⟨(b1.add (k * 9)).block, (b1.add (k * 9)).off + 2, none⟩ = some (.int .i64 nt) ∧ w'.cell? ⟨(b1.add (k * 9)).block, (b1.add (k * 9)).off + 3, none⟩ = some (.int .i64 nl) ∧ w'.cell? ⟨(b1.add (k * 9)).block, (b1.add (k * 9)).off + 4, none⟩ = some (.int .i64 nop) ∧ w'.cell? ⟨(b1.add (k * 9)).block, (b1.add (k * 9)).off + 5, none⟩ = some (.int .i64 nn) ∧ w'.cell? ⟨(b1.add (k * 9)).block, (b1.add (k * 9)).off + 6, none⟩ = some (.string nx) ∧ w'.cell? ⟨(b1.add (k * 9)).block, (b1.add (k * 9)).off + 7, none⟩ = some (.slice x1 L1 y1) ∧ w'.cell? ⟨(b1.add (k * 9)).block, (b1.add (k * 9)).off + 8, none⟩ = some (.slice x3 L2 y3) ∧ w'.cell? (b2.add (k * 9)) = some (.int .i64 nk) ∧ w'.cell? ⟨(b2.add (k * 9)).block, (b2.add (k * 9)).off + 1, none⟩ = some (.int .i64 nf) ∧ w'.cell? ⟨(b2.add (k * 9)).block, (b2.add (k * 9)).off + 2, none⟩ = some (.int .i64 nt) ∧ w'.cell? ⟨(b2.add (k * 9)).block, (b2.add (k * 9)).off + 3, none⟩ = some (.int .i64 nl) ∧ w'.cell? ⟨(b2.add (k * 9)).block, (b2.add (k * 9)).off + 4, none⟩ = some (.int .i64 nop) ∧ w'.cell? ⟨(b2.add (k * 9)).block, (b2.add (k * 9)).off + 5, none⟩ = some (.int .i64 nn) ∧ w'.cell? ⟨(b2.add (k * 9)).block, (b2.add (k * 9)).off + 6, none⟩ = some (.string nx) ∧ w'.cell? ⟨(b2.add (k * 9)).block, (b2.add (k * 9)).off + 7, none⟩ = some (.slice x2 L1 y2) ∧ w'.cell? ⟨(b2.add (k * 9)).block, (b2.add (k * 9)).off + 8, none⟩ = some (.slice x4 L2 y4)) (first | go_keep | exact ⟨cell_kept hb4 p0, cell_kept hb4 p1, cell_kept hb4 p2, cell_kept hb4 p3, cell_kept hb4 p4, cell_kept hb4 p5, cell_kept hb4 p6, cell_kept hb4 p7, cell_kept hb4 p8, cell_kept hb4 q0, cell_kept hb4 q1, cell_kept hb4 q2, cell_kept hb4 q3, cell_kept hb4 q4, cell_kept hb4 q5, cell_kept hb4 q6, cell_kept hb4 q7, cell_kept hb4 q8⟩) ((go_at_call 43; refine ke.mono ?_; rintro e w4 ⟨rfl, hb4⟩))
      go_wp2_with fail
      exact ⟨⟨k + 1, by omega, by go_num, (bel_drew1 hb).trans (hb4.mono hb.size)⟩, by simp [intOf]; omega⟩
    · obtain rfl : k = n := by omega
      go_wp2_with fail
      go_ret
      exact ⟨rfl, hb⟩
set_option maxHeartbeats 800000 in
theorem eqTree_any (w : World) (v1 v2 : Value) (l : List Nd) (h1 : NdsAt w v1 l) (h2 : NdsAt w v2 l) (hl : l.length ≤ 1048576) (hN : ∀ N ∈ l, N.nm.length ≤ 1048576 ∧ N.ks.length ≤ 1048576) :
    Calls Tryz.prog 10 #[.agg #[v1], .agg #[v2]] w fun e w' => e = .returned (.bool true) ∧ Below w.heap.size w w' := by
  have hb0 : ∀ o1 o2, Below w.heap.size w ((w.alloc o1).alloc o2) := fun o1 o2 => ((Below.refl _ w).alloc (Nat.le_refl _) o1).alloc (by simp) o2
  have ks := fun o1 o2 => eqNodeS_any ((w.alloc o1).alloc o2) v1 v2 l (h1.below (hb0 o1 o2)) (h2.below (hb0 o1 o2)) hl hN
  obtain ⟨a1, c1, rfl⟩ := h1.form
  obtain ⟨a2, c2, rfl⟩ := h2.form
  generalize l.length = n at ks
  clear h1 h2 hl hN
  go_enter Tryz.func10, Tryz.ntmps10
  go_wp2_with (go_at_call 26; refine (ks _ _).mono ?_; rintro e w3 ⟨rfl, hb3⟩)
  go_ret
  exact ⟨rfl, (hb0 _ _).trans (hb3.mono (by simp; omega))⟩
end Go.Proofs.YtcnhhhfedakepaaGreatDoor

namespace Go.Proofs.YtcnhhhfedakepaaGreatDoor
open Go.RowKit
set_option linter.unusedVariables false

def mkT : Nat → Nat → ByteArray → ByteArray
  | 0, _, o => o
  | f + 1, c, o => if c = 0 then o else mkT f (c / 10) (strI [48 + ((c % 10 : Nat) : Int)] ++ o)
def mtI (k : Nat) : ByteArray := { data := #[109] } ++ mkT k k { data := #[] }
structure MkIs (f c : Nat) (o R : ByteArray) : Prop where
  out : mkT f c o = R

set_option maxRecDepth 100000 in
set_option maxHeartbeats 1600000 in
theorem markText_any (N : Nat) (h0 : 0 < N) (h1 : N ≤ 100000000) (w : World) : Calls Tryz.prog 28 #[.int .i64 (N : Int)] w fun e w' => e = .returned (.string (mtI N)) ∧ Below w.heap.size w w' := by
  unfold mtI
  obtain ⟨R, hR⟩ : ∃ R, mkT N N { data := #[] } = R := ⟨_, rfl⟩
  rw [hR]
  have HR : MkIs N N { data := #[] } R := ⟨hR⟩
  clear hR
  have hN : ¬ (N : Int) ≤ 0 := by omega
  go_enter Tryz.func28, Tryz.ntmps28
  go_wp2_with fail
  go_loopw [0, 3] (fun vk vo wr => ∃ (c f : Nat) (o : ByteArray), vk = .int .i64 c ∧ vo = .string o ∧ c ≤ f ∧ o.size + c ≤ N ∧ MkIs f c o R ∧ Below w.heap.size w wr) (fun vk _ _ => (intOf vk).toNat)
  case atStart => exact ⟨N, N, { data := #[] }, rfl, rfl, Nat.le_refl _, by simp [ByteArray.size], HR, Below.refl _ _⟩
  case round =>
    obtain ⟨c, f, o, rfl, rfl, hcf, ho, HK, hb⟩ := hrel
    have hst := HK.out
    clear HK
    by_cases hc : c = 0
    · subst hc
      have HS : Hid (o = R) := by
        cases f with
        | zero => exact hst
        | succ f => rw [mkT, if_pos rfl] at hst; exact hst
      have hs1 : (({ data := #[109] } : ByteArray)).size = 1 := rfl
      clear hst
      go_wp2
      go_ret
      exact ⟨by rw [← HS.out]; rfl, hb⟩
    · obtain ⟨f, rfl⟩ : ∃ g, f = g + 1 := ⟨f - 1, by omega⟩
      rw [mkT, if_neg hc] at hst
      have hci : (0 : Int) < (c : Int) := by omega
      have e1 : ((c % 10 : Nat) : Int) = (c : Int) % 10 := by omega
      rw [e1] at hst
      obtain ⟨C, hC⟩ : ∃ C : Int, (c : Int) = C := ⟨_, rfl⟩
      have q1 : (c / 10 : Nat) = (C / 10).toNat := by omega
      have HS : MkIs f (c / 10) (strI [48 + C % 10] ++ o) R := ⟨by rw [← hC]; exact hst⟩
      rw [hC] at hci ⊢
      have hcv := fun w => conv_own (own_first w (48 + C % 10))
      have hs2 : (strI [48 + C % 10]).size = 1 := rfl
      have hC1 : C ≤ 100000000 := by omega
      have HC : Hid ((c : Int) = C) := hC
      clear hst e1 hC
      go_wp2_with fail
      have := HC.out
      exact ⟨⟨c / 10, f, _, by congr 1; omega, rfl, by omega, by rw [ByteArray.size_append, hs2]; omega, HS, hb.alloc hb.size _⟩, by simp [intOf]; omega⟩
theorem markText_q (a : Int) (N : Nat) (ha : a = (N : Int)) (h0 : 0 < N) (h1 : N ≤ 100000000) (w : World) : Calls Tryz.prog 28 #[.int .i64 a] w fun e w' => e = .returned (.string (mtI N)) ∧ Below w.heap.size w w' := by
  subst ha; exact markText_any N h0 h1 w

theorem own_form {W : World} {base e size n : Nat} {v : Value} {xs : List Value} (h : W.ownsRow base e size v n xs) : ∃ a cap, v = .slice a n cap := by
  rcases h.2 with ⟨rfl, hn⟩ | ⟨g, cap, cur, rfl, _⟩
  · exact ⟨none, 0, by rw [hn]⟩
  · exact ⟨_, _, rfl⟩
theorem grw_refl (w : World) (b : Option Nat) : w.grownBy w b := ⟨rfl, rfl, rfl, Nat.le_refl _, fun _ _ _ => rfl⟩
theorem grw_set {w0 w : World} {b : Nat} (h : w0.grownBy w (some b)) (i : Nat) (v : Value) : w0.grownBy (w.setCell ⟨b, i, none⟩ v) (some b) :=
  ⟨h.os, h.tape, h.output, by simpa [World.setCell] using h.size, fun k hk hne => by rw [heap_setCell_other _ _ _ _ (fun e => hne (by rw [e]))]; exact h.block k hk hne⟩
theorem grw_trans {x y z : World} {b : Option Nat} (h : x.grownBy y b) (k : y.grownBy z b) : x.grownBy z b :=
  ⟨k.os.trans h.os, k.tape.trans h.tape, k.output.trans h.output, Nat.le_trans h.size k.size, fun i hi hne => (k.block i (Nat.lt_of_lt_of_le hi h.size) hne).trans (h.block i hi hne)⟩
theorem grw_below {x y : World} (b : Option Nat) (h : Below x.heap.size x y) : x.grownBy y b := ⟨h.os, h.tape, h.output, h.size, fun k hk _ => h.block k hk⟩
theorem set_split {α : Type} (A l : List α) (k : Nat) (x : α) (hA : A.length = k) (hk : k < l.length) : (A ++ l.drop k).set k x = A ++ x :: l.drop (k + 1) := by
  rw [List.set_append_right _ _ (by omega), hA, Nat.sub_self, List.drop_eq_getElem_cons hk, List.set_cons_zero]

/-- What the law writes: texts, ints from K on. -/
def mks (K n : Nat) : List ByteArray := (List.range n).map fun j => mtI (K + j)
def mki (K n : Nat) : List Int := (List.range n).map fun j => ((K + j : Nat) : Int)
theorem mks_len (K n : Nat) : (mks K n).length = n := by simp [mks]
theorem mki_len (K n : Nat) : (mki K n).length = n := by simp [mki]
theorem mks_succ (K n : Nat) : mks K (n + 1) = mks K n ++ [mtI (K + n)] := by simp [mks, List.range_succ]
theorem mki_succ (K n : Nat) : mki K (n + 1) = mki K n ++ [((K + n : Nat) : Int)] := by simp [mki, List.range_succ]
theorem mks_at (K n i : Nat) (h : i < n) : (mks K n)[i]? = some (mtI (K + i)) := by simp [mks, h]
theorem mki_at (K n i : Nat) (h : i < n) : (mki K n)[i]? = some ((K + i : Nat) : Int) := by simp [mki, h]

set_option maxRecDepth 100000 in
set_option maxHeartbeats 3200000 in
theorem markStringS_some (w : World) (l : List ByteArray) (K : Nat) (n base g cap : Nat) (hK0 : 0 < K) (hK : K + n ≤ 50000000) (hl : l.length = n) (o : w.ownsRow base 9 1 (.slice (some ⟨g, 0, none⟩) n cap) n (l.map Value.string)) :
    Calls Tryz.prog 44 #[.slice (some ⟨g, 0, none⟩) n cap, .int .i64 K] w fun e w' => e = .returned (.int .i64 (K + n : Nat)) ∧ w'.ownsRow base 9 1 (.slice (some ⟨g, 0, none⟩) n cap) n ((mks K n).map Value.string) ∧ w.grownBy w' (some g) := by
  go_enter Tryz.func44, Tryz.ntmps44
  go_wp2_with fail
  go_loopw [1, 5] (fun vk vi wr => ∃ k : Nat, k ≤ n ∧ vi = .int .i64 k ∧ vk = .int .i64 (K + k : Nat) ∧ wr.ownsRow base 9 1 (.slice (some ⟨g, 0, none⟩) n cap) n ((mks K k ++ l.drop k).map Value.string) ∧ w.grownBy wr (some g)) (fun _ vi _ => n - (intOf vi).toNat)
  case atStart => exact ⟨0, Nat.zero_le _, rfl, rfl, o, grw_refl _ _⟩
  case round =>
    obtain ⟨k, hk, rfl, rfl, ho, hg⟩ := hrel
    clear o
    by_cases hlt : k < n
    · have hki : (k : Int) < (n : Int) := by omega
      have hk0 : (0 : Int) ≤ (k : Int) := by omega
      have km := fun w => markText_any (K + k) (by omega) (by omega) w
      have e7 := set_split (mks K k) l k (mtI (K + k)) (mks_len _ _) (by omega)
      obtain ⟨s, hs⟩ : ∃ s, (mks K k ++ l.drop k)[k]? = some s := ⟨(mks K k ++ l.drop k)[k]'(by simp [mks_len]; omega), List.getElem?_eq_getElem _⟩
      obtain ⟨M, hM⟩ : ∃ M, mtI (K + k) = M := ⟨_, rfl⟩
      rw [hM] at km e7
      have HM : Hid (mtI (K + k) = M) := hM
      clear hM
      have hcl : ((mks K k ++ l.drop k).map Value.string)[k]? = some (.string s) := by rw [List.getElem?_map, hs]; rfl
      obtain ⟨Z, hZ⟩ : ∃ Z : Int, ((K + k : Nat) : Int) = Z := ⟨_, rfl⟩
      have hZ1 : 0 ≤ Z := by omega
      have hZ2 : Z ≤ 50000000 := by omega
      have HZ : Hid (((K + k : Nat) : Int) = Z) := hZ
      rw [hZ] at km ⊢
      clear hZ hs
      go_wp2_with (go_at_call 28; refine (km _).mono ?_; rintro e w4 ⟨rfl, hb4⟩; have o6 := own_keep ho hb4; have f6 := o6.frozenAt k; have c6 : w4.cell? ⟨g, k, none⟩ = some (.string s) := (o6.cellAt k (by omega)).trans hcl)
      have o7 := (o6.stored k (.string M)).1
      rw [show ((mks K k ++ l.drop k).map Value.string).set k (.string M) = ((mks K k ++ l.drop k).set k M).map Value.string by rw [List.map_set], e7] at o7
      have hz := HZ.out
      refine ⟨⟨k + 1, by omega, by go_num, by congr 1; omega, ?_, ?_⟩, by simp [intOf]; omega⟩
      · rw [mks_succ, HM.out, List.append_assoc]; exact o7
      · exact grw_set (grw_trans hg (grw_below _ hb4)) _ _
    · obtain rfl : k = n := by omega
      go_wp2_with fail
      go_ret
      exact ⟨rfl, by rw [List.drop_of_length_le (by omega), List.append_nil] at ho; exact ho, hg⟩

set_option maxRecDepth 100000 in
set_option maxHeartbeats 3200000 in
theorem markIntS_some (w : World) (l : List Int) (K : Nat) (n base g cap : Nat) (hK0 : 0 < K) (hK : K + n ≤ 50000000) (hl : l.length = n) (o : w.ownsRow base 3 1 (.slice (some ⟨g, 0, none⟩) n cap) n (l.map (Value.int .i64))) :
    Calls Tryz.prog 45 #[.slice (some ⟨g, 0, none⟩) n cap, .int .i64 K] w fun e w' => e = .returned (.int .i64 (K + n : Nat)) ∧ w'.ownsRow base 3 1 (.slice (some ⟨g, 0, none⟩) n cap) n ((mki K n).map (Value.int .i64)) ∧ w.grownBy w' (some g) := by
  go_enter Tryz.func45, Tryz.ntmps45
  go_wp2_with fail
  go_loopw [1, 5] (fun vk vi wr => ∃ k : Nat, k ≤ n ∧ vi = .int .i64 k ∧ vk = .int .i64 (K + k : Nat) ∧ wr.ownsRow base 3 1 (.slice (some ⟨g, 0, none⟩) n cap) n ((mki K k ++ l.drop k).map (Value.int .i64)) ∧ w.grownBy wr (some g)) (fun _ vi _ => n - (intOf vi).toNat)
  case atStart => exact ⟨0, Nat.zero_le _, rfl, rfl, o, grw_refl _ _⟩
  case round =>
    obtain ⟨k, hk, rfl, rfl, ho, hg⟩ := hrel
    clear o
    by_cases hlt : k < n
    · have hki : (k : Int) < (n : Int) := by omega
      have hk0 : (0 : Int) ≤ (k : Int) := by omega
      have e7 := set_split (mki K k) l k (((K + k : Nat) : Int)) (mki_len _ _) (by omega)
      obtain ⟨s, hs⟩ : ∃ s, (mki K k ++ l.drop k)[k]? = some s := ⟨(mki K k ++ l.drop k)[k]'(by simp [mki_len]; omega), List.getElem?_eq_getElem _⟩
      have hcl : ((mki K k ++ l.drop k).map (Value.int .i64))[k]? = some (.int .i64 s) := by rw [List.getElem?_map, hs]; rfl
      obtain ⟨Z, hZ⟩ : ∃ Z : Int, ((K + k : Nat) : Int) = Z := ⟨_, rfl⟩
      have hZ1 : 0 ≤ Z := by omega
      have hZ2 : Z ≤ 50000000 := by omega
      have HZ : Hid (((K + k : Nat) : Int) = Z) := hZ
      rw [hZ] at e7 ⊢
      have f6 := ho.frozenAt k
      have c6 : wr.cell? ⟨g, k, none⟩ = some (.int .i64 s) := (ho.cellAt k (by omega)).trans hcl
      have o7 := (ho.stored k (.int .i64 Z)).1
      rw [show ((mki K k ++ l.drop k).map (Value.int .i64)).set k (.int .i64 Z) = ((mki K k ++ l.drop k).set k Z).map (Value.int .i64) by rw [List.map_set], e7] at o7
      clear hZ hs hcl
      go_wp2_with fail
      have hz := HZ.out
      refine ⟨⟨k + 1, by omega, by go_num, by congr 1; omega, ?_, ?_⟩, by simp [intOf]; omega⟩
      · rw [mki_succ, hz, List.append_assoc]; exact o7
      · exact grw_set hg _ _
    · obtain rfl : k = n := by omega
      go_wp2_with fail
      go_ret
      exact ⟨rfl, by rw [List.drop_of_length_le (by omega), List.append_nil] at ho; exact ho, hg⟩

set_option maxHeartbeats 800000 in
theorem markStringS_none (w : World) (K : Nat) (a1 : Option Addr) (c1 : Nat) :
    Calls Tryz.prog 44 #[.slice a1 0 c1, .int .i64 K] w fun e w' => e = .returned (.int .i64 K) ∧ w' = w := by
  go_enter Tryz.func44, Tryz.ntmps44
  go_wp2_with fail
  refine wp_loop_rounds 1 ?_
  rw [rounds_succ]
  go_wp2
  go_ret
  exact ⟨rfl, rfl⟩
set_option maxHeartbeats 800000 in
theorem markIntS_none (w : World) (K : Nat) (a1 : Option Addr) (c1 : Nat) :
    Calls Tryz.prog 45 #[.slice a1 0 c1, .int .i64 K] w fun e w' => e = .returned (.int .i64 K) ∧ w' = w := by
  go_enter Tryz.func45, Tryz.ntmps45
  go_wp2_with fail
  refine wp_loop_rounds 1 ?_
  rw [rounds_succ]
  go_wp2
  go_ret
  exact ⟨rfl, rfl⟩
theorem own_zero_or {W : World} {base e size n : Nat} {v : Value} {xs : List Value} (h : W.ownsRow base e size v n xs) : (n = 0 ∧ v = .slice none 0 0) ∨ ∃ g cap, v = .slice (some ⟨g, 0, none⟩) n cap := by
  rcases h.2 with ⟨rfl, hn⟩ | ⟨g, cap, cur, rfl, _⟩
  · exact .inl ⟨hn, rfl⟩
  · exact .inr ⟨_, _, rfl⟩
theorem markStringS_any (w : World) (l : List ByteArray) (K : Nat) (base : Nat) (v : Value) (hK0 : 0 < K) (hK : K + l.length ≤ 50000000) (o : w.ownsRow base 9 1 v l.length (l.map Value.string)) :
    Calls Tryz.prog 44 #[v, .int .i64 K] w fun e w' => e = .returned (.int .i64 (K + l.length : Nat)) ∧ w'.ownsRow base 9 1 v l.length ((mks K l.length).map Value.string) ∧ w.grownBy w' v.ownBlock := by
  rcases own_zero_or o with ⟨hn, rfl⟩ | ⟨g, cap, rfl⟩
  · refine (markStringS_none w K none 0).mono ?_
    rintro e w' ⟨rfl, rfl⟩
    obtain rfl : l = [] := List.eq_nil_of_length_eq_zero hn
    exact ⟨rfl, o, grw_refl _ _⟩
  · exact markStringS_some w l K _ base g cap hK0 hK rfl o
theorem markIntS_any (w : World) (l : List Int) (K : Nat) (base : Nat) (v : Value) (hK0 : 0 < K) (hK : K + l.length ≤ 50000000) (o : w.ownsRow base 3 1 v l.length (l.map (Value.int .i64))) :
    Calls Tryz.prog 45 #[v, .int .i64 K] w fun e w' => e = .returned (.int .i64 (K + l.length : Nat)) ∧ w'.ownsRow base 3 1 v l.length ((mki K l.length).map (Value.int .i64)) ∧ w.grownBy w' v.ownBlock := by
  rcases own_zero_or o with ⟨hn, rfl⟩ | ⟨g, cap, rfl⟩
  · refine (markIntS_none w K none 0).mono ?_
    rintro e w' ⟨rfl, rfl⟩
    obtain rfl : l = [] := List.eq_nil_of_length_eq_zero hn
    exact ⟨rfl, o, grw_refl _ _⟩
  · exact markIntS_some w l K _ base g cap hK0 hK rfl o

end Go.Proofs.YtcnhhhfedakepaaGreatDoor
