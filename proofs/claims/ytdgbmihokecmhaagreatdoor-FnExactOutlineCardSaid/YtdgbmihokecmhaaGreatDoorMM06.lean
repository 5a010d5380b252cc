import Derived.Test.YtdgbmihokecmhaaGreatDoorMM05
namespace Go.Proofs.YtdgbmihokecmhaaGreatDoor
open Go.RowKit
set_option linter.unusedVariables false

/-- A node in a block of its own. -/
def NdBox (b : Nat) (W : World) (t : TypeId) (N : Nd) (vn vk : Value) : Prop :=
  W.heap[b]? = some (.cells #[.int .i64 N.k, .int .i64 N.f, .int .i64 N.t, .int .i64 N.l, .int .i64 N.op, .int .i64 N.n, .string N.x, vn, vk] t (0, 0))
theorem nd_cells {b : Nat} {W : World} {t : TypeId} {N : Nd} {vn vk : Value} (h : NdBox b W t N vn vk) :
    W.cell? ⟨b, 0, none⟩ = some (.int .i64 N.k) ∧ W.cell? ⟨b, 1, none⟩ = some (.int .i64 N.f) ∧ W.cell? ⟨b, 2, none⟩ = some (.int .i64 N.t) ∧ W.cell? ⟨b, 3, none⟩ = some (.int .i64 N.l) ∧ W.cell? ⟨b, 4, none⟩ = some (.int .i64 N.op) ∧ W.cell? ⟨b, 5, none⟩ = some (.int .i64 N.n) ∧ W.cell? ⟨b, 6, none⟩ = some (.string N.x) ∧ W.cell? ⟨b, 7, none⟩ = some vn ∧ W.cell? ⟨b, 8, none⟩ = some vk ∧ (∀ j, W.frozen? ⟨b, j, none⟩ = false) := by
  unfold NdBox at h
  exact ⟨by rw [cell_of_row _ _ _ _ _ _ h]; rfl, by rw [cell_of_row _ _ _ _ _ _ h]; rfl, by rw [cell_of_row _ _ _ _ _ _ h]; rfl, by rw [cell_of_row _ _ _ _ _ _ h]; rfl, by rw [cell_of_row _ _ _ _ _ _ h]; rfl, by rw [cell_of_row _ _ _ _ _ _ h]; rfl, by rw [cell_of_row _ _ _ _ _ _ h]; rfl, by rw [cell_of_row _ _ _ _ _ _ h]; rfl, by rw [cell_of_row _ _ _ _ _ _ h]; rfl, fun j => frozen_of_row _ _ _ _ _ h⟩
def zNd : Nd := ⟨0, 0, 0, 0, 0, 0, { data := #[] }, [], []⟩
theorem NdBox.below {b : Nat} {W W' : World} {t : TypeId} {N : Nd} {vn vk : Value} (h : NdBox b W t N vn vk) (hb : Below W.heap.size W W') : NdBox b W' t N vn vk := (hb.block _ (lt_of_block h)).trans h

def set9 (W : World) (b : Nat) (N : Nd) (vn vk : Value) : World := (((((((((W.setCell ⟨b, 0, none⟩ (.int .i64 N.k)).setCell ⟨b, 1, none⟩ (.int .i64 N.f)).setCell ⟨b, 2, none⟩ (.int .i64 N.t)).setCell ⟨b, 3, none⟩ (.int .i64 N.l)).setCell ⟨b, 4, none⟩ (.int .i64 N.op)).setCell ⟨b, 5, none⟩ (.int .i64 N.n)).setCell ⟨b, 6, none⟩ (.string N.x)).setCell ⟨b, 7, none⟩ (vn)).setCell ⟨b, 8, none⟩ (vk))
theorem nd_set9 {b : Nat} {W : World} {t : TypeId} {M : Nd} {vm vl : Value} (h : NdBox b W t M vm vl) (N : Nd) (vn vk : Value) : NdBox b (set9 W b N vn vk) t N vn vk := by
  unfold set9
  have s0 : (W.setCell ⟨b, 0, none⟩ (.int .i64 N.k)).heap[b]? = some (.cells #[.int .i64 N.k, .int .i64 M.f, .int .i64 M.t, .int .i64 M.l, .int .i64 M.op, .int .i64 M.n, .string M.x, vm, vl] t (0, 0)) := heap_setCell_same _ b 0 _ _ _ h
  have s1 : ((W.setCell ⟨b, 0, none⟩ (.int .i64 N.k)).setCell ⟨b, 1, none⟩ (.int .i64 N.f)).heap[b]? = some (.cells #[.int .i64 N.k, .int .i64 N.f, .int .i64 M.t, .int .i64 M.l, .int .i64 M.op, .int .i64 M.n, .string M.x, vm, vl] t (0, 0)) := heap_setCell_same _ b 1 _ _ _ s0
  have s2 : (((W.setCell ⟨b, 0, none⟩ (.int .i64 N.k)).setCell ⟨b, 1, none⟩ (.int .i64 N.f)).setCell ⟨b, 2, none⟩ (.int .i64 N.t)).heap[b]? = some (.cells #[.int .i64 N.k, .int .i64 N.f, .int .i64 N.t, .int .i64 M.l, .int .i64 M.op, .int .i64 M.n, .string M.x, vm, vl] t (0, 0)) := heap_setCell_same _ b 2 _ _ _ s1
  have s3 : ((((W.setCell ⟨b, 0, none⟩ (.int .i64 N.k)).setCell ⟨b, 1, none⟩ (.int .i64 N.f)).setCell ⟨b, 2, none⟩ (.int .i64 N.t)).setCell ⟨b, 3, none⟩ (.int .i64 N.l)).heap[b]? = some (.cells #[.int .i64 N.k, .int .i64 N.f, .int .i64 N.t, .int .i64 N.l, .int .i64 M.op, .int .i64 M.n, .string M.x, vm, vl] t (0, 0)) := heap_setCell_same _ b 3 _ _ _ s2
  have s4 : (((((W.setCell ⟨b, 0, none⟩ (.int .i64 N.k)).setCell ⟨b, 1, none⟩ (.int .i64 N.f)).setCell ⟨b, 2, none⟩ (.int .i64 N.t)).setCell ⟨b, 3, none⟩ (.int .i64 N.l)).setCell ⟨b, 4, none⟩ (.int .i64 N.op)).heap[b]? = some (.cells #[.int .i64 N.k, .int .i64 N.f, .int .i64 N.t, .int .i64 N.l, .int .i64 N.op, .int .i64 M.n, .string M.x, vm, vl] t (0, 0)) := heap_setCell_same _ b 4 _ _ _ s3
  have s5 : ((((((W.setCell ⟨b, 0, none⟩ (.int .i64 N.k)).setCell ⟨b, 1, none⟩ (.int .i64 N.f)).setCell ⟨b, 2, none⟩ (.int .i64 N.t)).setCell ⟨b, 3, none⟩ (.int .i64 N.l)).setCell ⟨b, 4, none⟩ (.int .i64 N.op)).setCell ⟨b, 5, none⟩ (.int .i64 N.n)).heap[b]? = some (.cells #[.int .i64 N.k, .int .i64 N.f, .int .i64 N.t, .int .i64 N.l, .int .i64 N.op, .int .i64 N.n, .string M.x, vm, vl] t (0, 0)) := heap_setCell_same _ b 5 _ _ _ s4
  have s6 : (((((((W.setCell ⟨b, 0, none⟩ (.int .i64 N.k)).setCell ⟨b, 1, none⟩ (.int .i64 N.f)).setCell ⟨b, 2, none⟩ (.int .i64 N.t)).setCell ⟨b, 3, none⟩ (.int .i64 N.l)).setCell ⟨b, 4, none⟩ (.int .i64 N.op)).setCell ⟨b, 5, none⟩ (.int .i64 N.n)).setCell ⟨b, 6, none⟩ (.string N.x)).heap[b]? = some (.cells #[.int .i64 N.k, .int .i64 N.f, .int .i64 N.t, .int .i64 N.l, .int .i64 N.op, .int .i64 N.n, .string N.x, vm, vl] t (0, 0)) := heap_setCell_same _ b 6 _ _ _ s5
  have s7 : ((((((((W.setCell ⟨b, 0, none⟩ (.int .i64 N.k)).setCell ⟨b, 1, none⟩ (.int .i64 N.f)).setCell ⟨b, 2, none⟩ (.int .i64 N.t)).setCell ⟨b, 3, none⟩ (.int .i64 N.l)).setCell ⟨b, 4, none⟩ (.int .i64 N.op)).setCell ⟨b, 5, none⟩ (.int .i64 N.n)).setCell ⟨b, 6, none⟩ (.string N.x)).setCell ⟨b, 7, none⟩ (vn)).heap[b]? = some (.cells #[.int .i64 N.k, .int .i64 N.f, .int .i64 N.t, .int .i64 N.l, .int .i64 N.op, .int .i64 N.n, .string N.x, vn, vl] t (0, 0)) := heap_setCell_same _ b 7 _ _ _ s6
  have s8 : (((((((((W.setCell ⟨b, 0, none⟩ (.int .i64 N.k)).setCell ⟨b, 1, none⟩ (.int .i64 N.f)).setCell ⟨b, 2, none⟩ (.int .i64 N.t)).setCell ⟨b, 3, none⟩ (.int .i64 N.l)).setCell ⟨b, 4, none⟩ (.int .i64 N.op)).setCell ⟨b, 5, none⟩ (.int .i64 N.n)).setCell ⟨b, 6, none⟩ (.string N.x)).setCell ⟨b, 7, none⟩ (vn)).setCell ⟨b, 8, none⟩ (vk)).heap[b]? = some (.cells #[.int .i64 N.k, .int .i64 N.f, .int .i64 N.t, .int .i64 N.l, .int .i64 N.op, .int .i64 N.n, .string N.x, vn, vk] t (0, 0)) := heap_setCell_same _ b 8 _ _ _ s7
  exact s8
theorem own_set9 {W : World} {base e size : Nat} {v : Value} {n : Nat} {xs : List Value} {b : Nat} (h : W.ownsRow base e size v n xs) (hb : b < base) (N : Nd) (vn vk : Value) : (set9 W b N vn vk).ownsRow base e size v n xs := by
  unfold set9
  iterate 9 refine ownsRow_setCell_below ?_ hb _
  exact h
theorem below_set9 {w W : World} {base b : Nat} (h : Below base w W) (hb : base ≤ b) (N : Nd) (vn vk : Value) : Below base w (set9 W b N vn vk) := by
  unfold set9
  iterate 9 refine Below.setCell ?_ hb _
  exact h

set_option maxRecDepth 100000 in
set_option maxHeartbeats 3200000 in
theorem toNode_any (w : World) (N : Nd) (vn vk : Value) (hn : StrsAt w vn N.nm) (hk : IntsAt w vk N.ks) (h1 : N.nm.length ≤ 1048576) (h2 : N.ks.length ≤ 1048576) :
    Calls Tryz.prog 29 #[vNd N vn vk] w fun e w' => ∃ g1 g2, e = .returned (vNd N (.slice (some ⟨g1, 0, none⟩) N.nm.length N.nm.length) (.slice (some ⟨g2, 0, none⟩) N.ks.length N.ks.length)) ∧
      w'.ownsRow w.heap.size 9 1 (.slice (some ⟨g1, 0, none⟩) N.nm.length N.nm.length) N.nm.length (N.nm.map Value.string) ∧ w'.ownsRow w.heap.size 3 1 (.slice (some ⟨g2, 0, none⟩) N.ks.length N.ks.length) N.ks.length (N.ks.map (Value.int .i64)) ∧ Below w.heap.size w w' := by
  obtain ⟨a1, c1, rfl⟩ := hn.form
  obtain ⟨a2, c2, rfl⟩ := hk.form
  unfold vNd
  have HN : Hid (StrsAt w (.slice a1 N.nm.length c1) N.nm ∧ IntsAt w (.slice a2 N.ks.length c2) N.ks) := ⟨hn, hk⟩
  clear hn hk
  obtain ⟨L1, hL1⟩ : ∃ n, N.nm.length = n := ⟨_, rfl⟩
  obtain ⟨L2, hL2⟩ : ∃ n, N.ks.length = n := ⟨_, rfl⟩
  have HL : Hid (N.nm.length = L1 ∧ N.ks.length = L2) := ⟨hL1, hL2⟩
  rw [hL1] at HN h1 ⊢
  rw [hL2] at HN h2 ⊢
  clear hL1 hL2
  go_enter Tryz.func29, Tryz.ntmps29
  go_wp2_with (go_at_call 43; fail)
  obtain ⟨W9, hW9⟩ : ∃ W9, ((w.alloc (.cells #[.int .i64 N.k, .int .i64 N.f, .int .i64 N.t, .int .i64 N.l, .int .i64 N.op, .int .i64 N.n, .string N.x, .slice a1 L1 c1, .slice a2 L2 c2] 66)).alloc (.cells #[.int .i64 0, .int .i64 0, .int .i64 0, .int .i64 0, .int .i64 0, .int .i64 0, .string { data := #[] }, .slice none 0 0, .slice none 0 0] 67)).alloc (.cells #[.int .i64 N.k, .int .i64 N.f, .int .i64 N.t, .int .i64 N.l, .int .i64 N.op, .int .i64 N.n, .string N.x, .slice none 0 0, .slice none 0 0] 67) = W9 := ⟨_, rfl⟩
  have hs9 : W9.heap.size = w.heap.size + 1 + 1 + 1 := by rw [← hW9]; simp
  have hA : NdBox w.heap.size W9 66 N (.slice a1 L1 c1) (.slice a2 L2 c2) := by
    rw [← hW9]
    exact (Below.heap_alloc _ _ _ (by simp; omega)).trans ((Below.heap_alloc _ _ _ (by simp)).trans (heap_alloc_new w _))
  have hZ : NdBox (w.heap.size + 1) W9 67 zNd (.slice none 0 0) (.slice none 0 0) := by
    rw [← hW9]
    have := heap_alloc_new (w.alloc (.cells #[.int .i64 N.k, .int .i64 N.f, .int .i64 N.t, .int .i64 N.l, .int .i64 N.op, .int .i64 N.n, .string N.x, .slice a1 L1 c1, .slice a2 L2 c2] 66)) (.cells #[.int .i64 0, .int .i64 0, .int .i64 0, .int .i64 0, .int .i64 0, .int .i64 0, .string { data := #[] }, .slice none 0 0, .slice none 0 0] 67)
    rw [World.size_alloc] at this
    exact (Below.heap_alloc _ _ _ (by simp)).trans this
  have hO : NdBox (w.heap.size + 1 + 1) W9 67 N (.slice none 0 0) (.slice none 0 0) := by
    rw [← hW9]
    have := heap_alloc_new ((w.alloc (.cells #[.int .i64 N.k, .int .i64 N.f, .int .i64 N.t, .int .i64 N.l, .int .i64 N.op, .int .i64 N.n, .string N.x, .slice a1 L1 c1, .slice a2 L2 c2] 66)).alloc (.cells #[.int .i64 0, .int .i64 0, .int .i64 0, .int .i64 0, .int .i64 0, .int .i64 0, .string { data := #[] }, .slice none 0 0, .slice none 0 0] 67)) (.cells #[.int .i64 N.k, .int .i64 N.f, .int .i64 N.t, .int .i64 N.l, .int .i64 N.op, .int .i64 N.n, .string N.x, .slice none 0 0, .slice none 0 0] 67)
    rw [World.size_alloc, World.size_alloc] at this
    exact this
  have hB : Below w.heap.size w W9 := by rw [← hW9]; exact (((Below.refl _ w).alloc (Nat.le_refl _) _).alloc (by simp) _).alloc (by simp; omega) _
  rw [hW9]
  clear hW9
  have hBB : Below w.heap.size w W9 := hB
  refine (toStringS_any W9 _ N.nm (by have := HN.out.1.below hB; exact this) (by rw [HL.out.1]; exact h1)).mono ?_
  rintro e w1 ⟨rfl, own1, hb1⟩
  rw [HL.out.1] at own1 ⊢
  have hA1 := hA.below hb1
  have hZ1 := hZ.below hb1
  have hO1 := hO.below hb1
  clear hA hZ hO
  obtain ⟨p0, p1, p2, p3, p4, p5, p6, p7, p8, pf⟩ := nd_cells hA1
  obtain ⟨o0, o1, o2, o3, o4, o5, o6, o7, o8, of⟩ := nd_cells hO1
  have hx1 := hb1.size
  rw [hs9] at own1
  have hs1 : w.heap.size + 1 + 1 + 1 ≤ w1.heap.size := by omega
  clear o0 o1 o2 o3 o4 o5 o6 o8 p0 p1 p2 p3 p4 p5 p6 p7 pf
  go_wp2_with (go_at_call 44; fail)
  have hA2 : NdBox w.heap.size (w1.setCell ⟨w.heap.size + 1 + 1, 7, none⟩ (.slice (some ⟨w.heap.size + 1 + 1 + 1, 0, none⟩) L1 L1)) 66 N (.slice a1 L1 c1) (.slice a2 L2 c2) := (heap_setCell_other _ _ _ _ (by simp; omega)).trans hA1
  have hZ2 : NdBox (w.heap.size + 1) (w1.setCell ⟨w.heap.size + 1 + 1, 7, none⟩ (.slice (some ⟨w.heap.size + 1 + 1 + 1, 0, none⟩) L1 L1)) 67 zNd (.slice none 0 0) (.slice none 0 0) := (heap_setCell_other _ _ _ _ (by simp)).trans hZ1
  have hO2 : NdBox (w.heap.size + 1 + 1) (w1.setCell ⟨w.heap.size + 1 + 1, 7, none⟩ (.slice (some ⟨w.heap.size + 1 + 1 + 1, 0, none⟩) L1 L1)) 67 N (.slice (some ⟨w.heap.size + 1 + 1 + 1, 0, none⟩) L1 L1) (.slice none 0 0) := heap_setCell_same w1 _ 7 _ _ _ hO1
  have own2 := ownsRow_setCell_below (a := ⟨w.heap.size + 1 + 1, 7, none⟩) own1 (by simp) (.slice (some ⟨w.heap.size + 1 + 1 + 1, 0, none⟩) L1 L1)
  have hB2 : Below w.heap.size w (w1.setCell ⟨w.heap.size + 1 + 1, 7, none⟩ (.slice (some ⟨w.heap.size + 1 + 1 + 1, 0, none⟩) L1 L1)) := (hBB.trans (hb1.mono (by omega))).setCell (by simp; omega) _
  have hz2 : w.heap.size + 1 + 1 + 1 ≤ (w1.setCell ⟨w.heap.size + 1 + 1, 7, none⟩ (.slice (some ⟨w.heap.size + 1 + 1 + 1, 0, none⟩) L1 L1)).heap.size := by simpa [World.setCell] using hs1
  generalize w1.setCell ⟨w.heap.size + 1 + 1, 7, none⟩ (.slice (some ⟨w.heap.size + 1 + 1 + 1, 0, none⟩) L1 L1) = W2 at hA2 hZ2 hO2 own2 hB2 hz2 ⊢
  refine (toIntS_any W2 _ N.ks (by have := HN.out.2.below hB2; exact this) (by rw [HL.out.2]; exact h2)).mono ?_
  rintro e w3 ⟨rfl, own3, hb3⟩
  rw [HL.out.2] at own3 ⊢
  have hZ3 := hZ2.below hb3
  have hO3 := hO2.below hb3
  have own23 := own_keep own2 hb3
  have hB3 := hB2.trans (hb3.mono hB2.size)
  have hx3 := hb3.size
  clear hA1 hZ1 hO1 hA2 hZ2 hO2 own1 own2 o7 of p8 hb1
  obtain ⟨g2, hg2⟩ : ∃ g2, W2.heap.size = g2 := ⟨_, rfl⟩
  rw [hg2] at own3 hz2 hx3 ⊢
  obtain ⟨o0, o1, o2, o3, o4, o5, o6, o7, o8, of⟩ := nd_cells hO3
  obtain ⟨z0, z1, z2, z3, z4, z5, z6, z7, z8, zf⟩ := nd_cells hZ3
  have hy1 : w.heap.size + 1 < w3.heap.size := lt_of_block hZ3
  have hy2 : w.heap.size + 1 + 1 < w3.heap.size := lt_of_block hO3
  clear hg2
  go_wp2_with fail
  have hZ4 : NdBox (w.heap.size + 1) (w3.setCell ⟨w.heap.size + 1 + 1, 8, none⟩ (.slice (some ⟨g2, 0, none⟩) L2 L2)) 67 zNd (.slice none 0 0) (.slice none 0 0) := (heap_setCell_other _ _ _ _ (by simp)).trans hZ3
  have hZ5 := nd_set9 hZ4 N (.slice (some ⟨w.heap.size + 1 + 1 + 1, 0, none⟩) L1 L1) (.slice (some ⟨g2, 0, none⟩) L2 L2)
  have oo1 := own_set9 (b := w.heap.size + 1) (ownsRow_setCell_below (a := ⟨w.heap.size + 1 + 1, 8, none⟩) own23 (by simp) (.slice (some ⟨g2, 0, none⟩) L2 L2)) (by omega) N (.slice (some ⟨w.heap.size + 1 + 1 + 1, 0, none⟩) L1 L1) (.slice (some ⟨g2, 0, none⟩) L2 L2)
  have oo2 := own_set9 (b := w.heap.size + 1) (ownsRow_setCell_below (a := ⟨w.heap.size + 1 + 1, 8, none⟩) own3 (by simp; omega) (.slice (some ⟨g2, 0, none⟩) L2 L2)) (by omega) N (.slice (some ⟨w.heap.size + 1 + 1 + 1, 0, none⟩) L1 L1) (.slice (some ⟨g2, 0, none⟩) L2 L2)
  have bb := below_set9 (b := w.heap.size + 1) (hB3.setCell (p := ⟨w.heap.size + 1 + 1, 8, none⟩) (by simp; omega) (.slice (some ⟨g2, 0, none⟩) L2 L2)) (by omega) N (.slice (some ⟨w.heap.size + 1 + 1 + 1, 0, none⟩) L1 L1) (.slice (some ⟨g2, 0, none⟩) L2 L2)
  change bodyPost _ _ _ _ _ (set9 (w3.setCell ⟨w.heap.size + 1 + 1, 8, none⟩ (.slice (some ⟨g2, 0, none⟩) L2 L2)) (w.heap.size + 1) N (.slice (some ⟨w.heap.size + 1 + 1 + 1, 0, none⟩) L1 L1) (.slice (some ⟨g2, 0, none⟩) L2 L2))
  generalize set9 (w3.setCell ⟨w.heap.size + 1 + 1, 8, none⟩ (.slice (some ⟨g2, 0, none⟩) L2 L2)) (w.heap.size + 1) N (.slice (some ⟨w.heap.size + 1 + 1 + 1, 0, none⟩) L1 L1) (.slice (some ⟨g2, 0, none⟩) L2 L2) = W5 at hZ5 oo1 oo2 bb ⊢
  exact bodyPost_ret (results_cell_row rfl _ _ (w.heap.size + 1) _ _ _ _ rfl hZ5 Tryz.underlying67 rfl (by kernel_rfl)) rfl ⟨w.heap.size + 1 + 1 + 1, g2, rfl, own_le oo1 (by omega), own_le oo2 (by omega), bb⟩
end Go.Proofs.YtdgbmihokecmhaaGreatDoor

namespace Go.Proofs.YtdgbmihokecmhaaGreatDoor
open Go.RowKit
set_option linter.unusedVariables false

theorem infoNode : (Tryz.prog.info? 67).map (fun i => (i.zero, i.size, i.bytes)) = some (some (.agg #[.int .i64 0, .int .i64 0, .int .i64 0, .int .i64 0, .int .i64 0, .int .i64 0, .string ⟨#[]⟩, .slice none 0 0, .slice none 0 0]), 9, 112) := by kernel_rfl
/-- A node that the law has made: the blocks of its names and of its kids beside it. -/
structure Nb where
  N : Nd
  g : Nat
  h : Nat
def Nb.vn (x : Nb) : Value := .slice (some ⟨x.g, 0, none⟩) x.N.nm.length x.N.nm.length
def Nb.vk (x : Nb) : Value := .slice (some ⟨x.h, 0, none⟩) x.N.ks.length x.N.ks.length
def cNb (x : Nb) : List Value := [.int .i64 x.N.k, .int .i64 x.N.f, .int .i64 x.N.t, .int .i64 x.N.l, .int .i64 x.N.op, .int .i64 x.N.n, .string x.N.x, x.vn, x.vk]
def cNbs (l : List Nb) : List Value := l.flatMap cNb
def zc : List Value := [.int .i64 0, .int .i64 0, .int .i64 0, .int .i64 0, .int .i64 0, .int .i64 0, .string ⟨#[]⟩, .slice none 0 0, .slice none 0 0]
def zcs : Nat → List Value
  | 0 => []
  | n + 1 => zc ++ zcs n
theorem cNbs_app (a : List Nb) (x : Nb) : cNbs (a ++ [x]) = cNbs a ++ cNb x := by simp [cNbs]
theorem cNbs_len (l : List Nb) : (cNbs l).length = l.length * 9 := by
  induction l with
  | nil => rfl
  | cons a r ih =>
    have e : cNbs (a :: r) = cNb a ++ cNbs r := by simp [cNbs]
    have la : (cNb a).length = 9 := rfl
    rw [e, List.length_append, ih, la, List.length_cons]; omega
theorem zcs_len (n : Nat) : (zcs n).length = n * 9 := by
  induction n with
  | zero => rfl
  | succ n ih => rw [zcs, List.length_append, ih]; show 9 + n * 9 = _; omega
theorem zcs_at : ∀ (n j : Nat), j < n * 9 → (zcs n)[j]? = zc[j % 9]?
  | 0, j, h => by omega
  | n + 1, j, h => by
    have lz : zc.length = 9 := rfl
    rw [zcs]
    rcases Nat.lt_or_ge j 9 with g | g
    · rw [List.getElem?_append_left (by omega), Nat.mod_eq_of_lt g]
    · rw [List.getElem?_append_right (by omega), lz, zcs_at n (j - 9) (by omega)]
      congr 1
      omega
theorem made9 (n : Nat) : (madeCells (Value.agg #[.int .i64 0, .int .i64 0, .int .i64 0, .int .i64 0, .int .i64 0, .int .i64 0, .string ⟨#[]⟩, .slice none 0 0, .slice none 0 0]).cells (n * 9)).toList = zcs n := by
  apply List.ext_getElem?
  intro j
  by_cases hj : j < n * 9
  · rw [zcs_at n j hj]
    have hr : j % 9 < 9 := Nat.mod_lt _ (by omega)
    have e : (madeCells (Value.agg #[.int .i64 0, .int .i64 0, .int .i64 0, .int .i64 0, .int .i64 0, .int .i64 0, .string ⟨#[]⟩, .slice none 0 0, .slice none 0 0]).cells (n * 9)).toList[j]? = some ((#[.int .i64 0, .int .i64 0, .int .i64 0, .int .i64 0, .int .i64 0, .int .i64 0, .string ⟨#[]⟩, .slice none 0 0, .slice none 0 0] : Array Value)[j % 9]!) := by
      unfold madeCells
      rw [Array.getElem?_toList, Array.getElem?_map, Array.getElem?_range, if_pos hj]
      rfl
    rw [e]
    generalize j % 9 = r at hr
    rcases (show r = 0 ∨ r = 1 ∨ r = 2 ∨ r = 3 ∨ r = 4 ∨ r = 5 ∨ r = 6 ∨ r = 7 ∨ r = 8 by omega) with rfl | rfl | rfl | rfl | rfl | rfl | rfl | rfl | rfl
    all_goals rfl
  · rw [List.getElem?_eq_none (l := zcs n) (by rw [zcs_len]; omega), List.getElem?_eq_none]
    rw [Array.length_toList, size_madeCells]
    omega
theorem set_fill (A R : List Value) (m : Nat) (hA : A.length = m) (a0 a1 a2 a3 a4 a5 a6 a7 a8 : Value) :
    (((((((((A ++ (zc ++ R)).set m a0).set (m + 1) a1).set (m + 2) a2).set (m + 3) a3).set (m + 4) a4).set (m + 5) a5).set (m + 6) a6).set (m + 7) a7).set (m + 8) a8 = A ++ ([a0, a1, a2, a3, a4, a5, a6, a7, a8] ++ R) := by
  subst hA
  have st : ∀ (xs : List Value) (j : Nat) (u : Value), (A ++ xs).set (A.length + j) u = A ++ xs.set j u := fun xs j u => by
    rw [List.set_append_right _ _ (by omega)]; congr 2; omega
  have s0 := fun xs u => st xs 0 u
  simp only [Nat.add_zero] at s0
  rw [s0, st, st, st, st, st, st, st, st]
  rfl

/-- The names and the kids of a made node are its own. -/
structure NbOwn (W : World) (base : Nat) (x : Nb) : Prop where
  on : W.ownsRow base 9 1 x.vn x.N.nm.length (x.N.nm.map Value.string)
  ok : W.ownsRow base 3 1 x.vk x.N.ks.length (x.N.ks.map (Value.int .i64))
theorem NbOwn.below {W W' : World} {base : Nat} {x : Nb} (h : NbOwn W base x) (hb : Below W.heap.size W W') : NbOwn W' base x := ⟨own_keep h.on hb, own_keep h.ok hb⟩
theorem own_apart {W : World} {b1 b2 e1 e2 s1 s2 g1 g2 n1 n2 c1 c2 : Nat} {x1 x2 : List Value} (h1 : W.ownsRow b1 e1 s1 (.slice (some ⟨g1, 0, none⟩) n1 c1) n1 x1) (h2 : W.ownsRow b2 e2 s2 (.slice (some ⟨g2, 0, none⟩) n2 c2) n2 x2) (he : e1 ≠ e2) : g1 ≠ g2 := by
  rintro rfl
  rcases h1.2 with ⟨h, _⟩ | ⟨g, cap, cur, h, _, hg, _⟩
  · cases h
  · cases h
    rcases h2.2 with ⟨h, _⟩ | ⟨g', cap', cur', h', _, hg', _⟩
    · cases h
    · cases h'
      have e := hg.symm.trans hg'
      simp only [Option.some.injEq, Obj.cells.injEq] at e
      exact he e.2.1
theorem NbOwn.set {W : World} {base : Nat} {x : Nb} (h : NbOwn W base x) {a : Addr} (h1 : x.g ≠ a.block) (h2 : x.h ≠ a.block) (u : Value) : NbOwn (W.setCell a u) base x :=
  ⟨ownsRow_setCell_other h.on (by unfold Nb.vn Value.ownBlock; simp; exact h1) u, ownsRow_setCell_other h.ok (by unfold Nb.vk Value.ownBlock; simp; exact h2) u⟩
/-- A list of nodes that the law has made, in the block g; the block of each list is its own. -/
structure NbsOwn (W : World) (base g n : Nat) (L : List Nb) (rest : List Value) : Prop where
  row : W.ownsRow base 67 9 (.slice (some ⟨g, 0, none⟩) n n) n (cNbs L ++ rest)
  each : ∀ x ∈ L, NbOwn W base x
  dn : (L.map Nb.g).Nodup
  dk : (L.map Nb.h).Nodup
theorem NbsOwn.below {W W' : World} {base g n : Nat} {L : List Nb} {rest : List Value} (h : NbsOwn W base g n L rest) (hb : Below W.heap.size W W') : NbsOwn W' base g n L rest :=
  ⟨own_keep h.row hb, fun x hx => (h.each x hx).below hb, h.dn, h.dk⟩

set_option maxRecDepth 100000 in
set_option maxHeartbeats 3200000 in
theorem toNodeS_any (w : World) (v : Value) (l : List Nd) (h : NdsAt w v l) (hl : l.length ≤ 1048576) (hN : ∀ N ∈ l, N.nm.length ≤ 1048576 ∧ N.ks.length ≤ 1048576) :
    Calls Tryz.prog 16 #[v] w fun e w' => e = .returned (.slice (some ⟨w.heap.size, 0, none⟩) l.length l.length) ∧ (∃ L, L.map Nb.N = l ∧ NbsOwn w' w.heap.size w.heap.size l.length L []) ∧ Below w.heap.size w w' := by
  obtain ⟨a, c, rfl⟩ := h.form
  obtain ⟨n, hn⟩ : ∃ n, l.length = n := ⟨_, rfl⟩
  have HN : Hid (l.length = n) := hn
  have HA : Hid (NdsAt w (.slice a n c) l) := by rw [← hn]; exact h
  have HS : Hid (∀ N ∈ l, N.nm.length ≤ 1048576 ∧ N.ks.length ≤ 1048576) := hN
  rw [hn] at hl ⊢
  clear h hn hN
  obtain ⟨i0, hi, hz0, hz1, hz2⟩ := info_parts infoNode
  go_enter Tryz.func16, Tryz.ntmps16
  go_wp2_with (at_make; refine wpList_make_full _ rfl _ _ 28 rfl w.heap.size 67 i0 (.agg #[.int .i64 0, .int .i64 0, .int .i64 0, .int .i64 0, .int .i64 0, .int .i64 0, .string ⟨#[]⟩, .slice none 0 0, .slice none 0 0]) 9 Tryz.underlying28 hi hz0 hz1 .i64 .i64 _ _ n rfl rfl rfl rfl (by rw [hz2]; omega) (by unfold maxLen; omega) (Nat.le_refl _) ?_; intro w0 hown0 hgrow0)
  have hb0 : Below w.heap.size w w0 := ⟨hgrow0.os, hgrow0.tape, hgrow0.output, hgrow0.size, fun k hk => hgrow0.block k hk (by simp)⟩
  go_loopw [4] (fun vi wr => ∃ (k : Nat) (L : List Nb), k ≤ n ∧ vi = .int .i64 k ∧ L.map Nb.N = l.take k ∧ NbsOwn wr w.heap.size w.heap.size n L (zcs (n - k)) ∧ Below w.heap.size w wr) (fun vi _ => n - (intOf vi).toNat)
  case atStart =>
    refine ⟨0, [], by omega, rfl, rfl, ⟨?_, fun x hx => by simp at hx, List.nodup_nil, List.nodup_nil⟩, hb0⟩
    rw [made9] at hown0
    exact hown0
  case round =>
    obtain ⟨k, L, hk, rfl, hL, ho, hb⟩ := hrel
    clear hown0 hgrow0 hb0
    have hLl : L.length = k := by have := congrArg List.length hL; rw [List.length_map, List.length_take, HN.out] at this; omega
    by_cases hlt : k < n
    · obtain ⟨N, hsk⟩ := some_at HN.out hlt
      obtain ⟨hs1, hs2⟩ := HS.out N (List.mem_of_getElem? hsk)
      obtain ⟨a', rfl, vn, vk, hNd⟩ := (HA.out.below hb).get hsk
      have hki : (k : Int) < (n : Int) := by omega
      have hk0 : (0 : Int) ≤ (k : Int) := by omega
      obtain ⟨c0, c1, c2, c3, c4, c5, c6, c7, c8, hn, hkk⟩ := hNd
      have kt := toNode_any wr N vn vk hn hkk hs1 hs2
      obtain ⟨av, cv, rfl⟩ := hn.form
      obtain ⟨ak, ck, rfl⟩ := hkk.form
      unfold vNd at kt
      have HSK : Hid (l[k]? = some N) := hsk
      clear hn hkk hsk hs1 hs2
      go_wp2_with (go_at_call 29; fail)
      refine kt.mono ?_
      rintro e w3 ⟨g1, g2, rfl, own1, own2, hb3⟩
      have ho3 := ho.below hb3
      have hlen := cNbs_len L
      rw [hLl] at hlen
      have hrow := ho3.row
      rw [show n - k = (n - (k + 1)) + 1 by omega, zcs] at hrow
      have dc : ∀ j, j < 9 → w3.cell? ⟨w.heap.size, k * 9 + j, none⟩ = zc[j]? := fun j hj => by
        rw [hrow.cellAt (k * 9 + j) (by omega), List.getElem?_append_right (by omega), hlen, Nat.add_sub_cancel_left, List.getElem?_append_left (by show j < 9; exact hj)]
      have d0 := dc 0 (by omega)
      have d1 := dc 1 (by omega)
      have d2 := dc 2 (by omega)
      have d3 := dc 3 (by omega)
      have d4 := dc 4 (by omega)
      have d5 := dc 5 (by omega)
      have d6 := dc 6 (by omega)
      have d7 := dc 7 (by omega)
      have d8 := dc 8 (by omega)
      simp only [zc, Nat.add_zero, List.getElem?_cons_zero, List.getElem?_cons_succ] at d0 d1 d2 d3 d4 d5 d6 d7 d8
      have fz := fun j => hrow.frozenAt j
      clear dc c0 c1 c2 c3 c4 c5 c6 c7 c8 kt
      go_wp2_with fail
      have o9 := (((((((((hrow.stored (k * 9) (.int .i64 N.k)).1.stored (k * 9 + 1) (.int .i64 N.f)).1.stored (k * 9 + 2) (.int .i64 N.t)).1.stored (k * 9 + 3) (.int .i64 N.l)).1.stored (k * 9 + 4) (.int .i64 N.op)).1.stored (k * 9 + 5) (.int .i64 N.n)).1.stored (k * 9 + 6) (.string N.x)).1.stored (k * 9 + 7) (.slice (some ⟨g1, 0, none⟩) N.nm.length N.nm.length)).1.stored (k * 9 + 8) (.slice (some ⟨g2, 0, none⟩) N.ks.length N.ks.length)).1
      rw [set_fill (cNbs L) (zcs (n - (k + 1))) (k * 9) hlen] at o9
      have hng : ∀ x ∈ L, x.g ≠ w.heap.size ∧ x.h ≠ w.heap.size := fun x hx => ⟨own_apart (ho3.each x hx).on hrow (by decide), own_apart (ho3.each x hx).ok hrow (by decide)⟩
      have hn1 : g1 ≠ w.heap.size := own_apart own1 hrow (by decide)
      have hn2 : g2 ≠ w.heap.size := own_apart own2 hrow (by decide)
      have hold : ∀ x ∈ L, x.g < wr.heap.size ∧ x.h < wr.heap.size := fun x hx => ⟨((ho.each x hx).on.lt x.g rfl).2, ((ho.each x hx).ok.lt x.h rfl).2⟩
      have hw1 := (own1.lt g1 rfl).1
      have hw2 := (own2.lt g2 rfl).1
      have hnew : NbOwn w3 w.heap.size ⟨N, g1, g2⟩ := ⟨own_le own1 hb.size, own_le own2 hb.size⟩
      refine ⟨⟨k + 1, L ++ [⟨N, g1, g2⟩], by omega, by go_num, ?_, ⟨?_, ?_, ?_, ?_⟩, ?_⟩, by simp [intOf]; omega⟩
      · rw [List.map_append, hL, List.take_add_one, HSK.out]; rfl
      · rw [cNbs_app, List.append_assoc]; exact o9
      · intro x hx
        rcases List.mem_append.1 hx with hx | hx
        · obtain ⟨e1, e2⟩ := hng x hx
          exact (((((((((ho3.each x hx).set e1 e2 _).set e1 e2 _).set e1 e2 _).set e1 e2 _).set e1 e2 _).set e1 e2 _).set e1 e2 _).set e1 e2 _).set e1 e2 _
        · obtain rfl := List.mem_singleton.1 hx
          exact ((((((((hnew.set hn1 hn2 _).set hn1 hn2 _).set hn1 hn2 _).set hn1 hn2 _).set hn1 hn2 _).set hn1 hn2 _).set hn1 hn2 _).set hn1 hn2 _).set hn1 hn2 _
      · rw [List.map_append, List.nodup_append]
        refine ⟨ho.dn, by simp, fun a ha b hb' => ?_⟩
        obtain ⟨x, hx, rfl⟩ := List.mem_map.1 ha
        simp at hb'
        have := (hold x hx).1
        omega
      · rw [List.map_append, List.nodup_append]
        refine ⟨ho.dk, by simp, fun a ha b hb' => ?_⟩
        obtain ⟨x, hx, rfl⟩ := List.mem_map.1 ha
        simp at hb'
        have := (hold x hx).2
        omega
      · have hbb := hb.trans (hb3.mono hb.size)
        iterate 9 refine Below.setCell ?_ (by simp) _
        exact hbb
    · obtain rfl : k = n := by omega
      go_wp2_with fail
      go_ret
      refine ⟨rfl, ⟨L, ?_, ?_⟩, hb⟩
      · rw [hL, List.take_of_length_le (by have := HN.out; omega)]
      · rw [Nat.sub_self] at ho; exact ho

theorem NbsOwn.setb {W : World} {base g n : Nat} {L : List Nb} {rest : List Value} (h : NbsOwn W base g n L rest) {a : Addr} (ha : a.block < base) (u : Value) : NbsOwn (W.setCell a u) base g n L rest :=
  ⟨ownsRow_setCell_below h.row ha u, fun x hx => ⟨ownsRow_setCell_below (h.each x hx).on ha u, ownsRow_setCell_below (h.each x hx).ok ha u⟩, h.dn, h.dk⟩
theorem NbsOwn.le {W : World} {base base' g n : Nat} {L : List Nb} {rest : List Value} (h : NbsOwn W base g n L rest) (hb : base' ≤ base) : NbsOwn W base' g n L rest :=
  ⟨own_le h.row hb, fun x hx => ⟨own_le (h.each x hx).on hb, own_le (h.each x hx).ok hb⟩, h.dn, h.dk⟩
theorem cNbs_at (ts : List Nb) (i j : Nat) (T : Nb) (hT : ts[i]? = some T) (hj : j < 9) : (cNbs ts)[i * 9 + j]? = (cNb T)[j]? := by
  induction ts generalizing i with
  | nil => simp at hT
  | cons a r ih =>
    have e : cNbs (a :: r) = cNb a ++ cNbs r := by simp [cNbs]
    have la : (cNb a).length = 9 := rfl
    rw [e]
    cases i with
    | zero => simp at hT; subst hT; rw [List.getElem?_append_left (by omega)]; congr 1; omega
    | succ i =>
      rw [List.getElem?_append_right (by omega), la, show (i + 1) * 9 + j - 9 = i * 9 + j by omega]
      exact ih i (by simpa using hT)
theorem add_zero9 (g m : Nat) : (⟨g, 0, none⟩ : Addr).add m = ⟨g, m, none⟩ := by unfold Addr.add; split <;> simp_all
theorem NbsOwn.nd {W : World} {base g n : Nat} {L : List Nb} (h : NbsOwn W base g n L []) {i : Nat} {x : Nb} (hx : L[i]? = some x) : NdAt W ⟨g, i * 9, none⟩ x.N x.vn x.vk := by
  have hlen : n * 9 = L.length * 9 := by have := h.row.1; rw [List.append_nil, cNbs_len] at this; omega
  have hi : i < L.length := by rcases Nat.lt_or_ge i L.length with g | g; exact g; rw [List.getElem?_eq_none g] at hx; cases hx
  have c : ∀ j, j < 9 → W.cell? ⟨g, i * 9 + j, none⟩ = (cNb x)[j]? := fun j hj => by
    rw [h.row.cellAt (i * 9 + j) (by omega), List.append_nil, cNbs_at L i j x hx hj]
  have hm := List.mem_of_getElem? hx
  exact ⟨c 0 (by omega), c 1 (by omega), c 2 (by omega), c 3 (by omega), c 4 (by omega), c 5 (by omega), c 6 (by omega), c 7 (by omega), c 8 (by omega), own_strs (h.each x hm).on rfl, own_ints (h.each x hm).ok rfl⟩
theorem NbsOwn.nds {W : World} {base g n : Nat} {L : List Nb} (h : NbsOwn W base g n L []) : NdsAt W (.slice (some ⟨g, 0, none⟩) n n) (L.map Nb.N) := by
  have hlen : n = (L.map Nb.N).length := by have := h.row.1; rw [List.append_nil, cNbs_len] at this; rw [List.length_map]; omega
  refine .inr ⟨⟨g, 0, none⟩, n, by rw [← hlen], fun i N hN => ?_⟩
  rw [List.getElem?_map] at hN
  cases hx : L[i]? with
  | none => rw [hx] at hN; cases hN
  | some x =>
    rw [hx] at hN
    obtain rfl := Option.some.inj hN
    rw [add_zero9]
    exact ⟨_, _, h.nd hx⟩

set_option maxHeartbeats 1600000 in
theorem toTree_any (w : World) (v : Value) (l : List Nd) (h : NdsAt w v l) (hl : l.length ≤ 1048576) (hN : ∀ N ∈ l, N.nm.length ≤ 1048576 ∧ N.ks.length ≤ 1048576) :
    Calls Tryz.prog 6 #[.agg #[v]] w fun e w' => ∃ g, e = .returned (.agg #[.slice (some ⟨g, 0, none⟩) l.length l.length]) ∧ (∃ L, L.map Nb.N = l ∧ NbsOwn w' w.heap.size g l.length L []) ∧ Below w.heap.size w w' := by
  obtain ⟨a, c, rfl⟩ := h.form
  have kt := fun W hb => toNodeS_any W (.slice a l.length c) l (h.below hb) hl hN
  have HKT : Hid (∀ W (hb : Below w.heap.size w W), Calls Tryz.prog 16 #[.slice a l.length c] W fun e w' => e = .returned (.slice (some ⟨W.heap.size, 0, none⟩) l.length l.length) ∧ (∃ L, L.map Nb.N = l ∧ NbsOwn w' W.heap.size W.heap.size l.length L []) ∧ Below W.heap.size W w') := kt
  clear kt h hN
  generalize l.length = n at HKT hl ⊢
  go_enter Tryz.func6, Tryz.ntmps6
  go_wp2_with (go_at_call 16; fail)
  obtain ⟨W9, hW9⟩ : ∃ W9, ((w.alloc (.cells #[.slice a n c] 24)).alloc (.cells #[.slice none 0 0] 30)).alloc (.cells #[.slice none 0 0] 30) = W9 := ⟨_, rfl⟩
  have hs9 : W9.heap.size = w.heap.size + 1 + 1 + 1 := by rw [← hW9]; simp
  have hZ : W9.heap[w.heap.size + 1]? = some (.cells #[.slice none 0 0] 30 (0, 0)) := by
    rw [← hW9]
    have := heap_alloc_new (w.alloc (.cells #[.slice a n c] 24)) (.cells #[.slice none 0 0] 30)
    rw [World.size_alloc] at this
    exact (Below.heap_alloc _ _ _ (by simp)).trans this
  have hO : W9.heap[w.heap.size + 1 + 1]? = some (.cells #[.slice none 0 0] 30 (0, 0)) := by
    rw [← hW9]
    have := heap_alloc_new ((w.alloc (.cells #[.slice a n c] 24)).alloc (.cells #[.slice none 0 0] 30)) (.cells #[.slice none 0 0] 30)
    rw [World.size_alloc, World.size_alloc] at this
    exact this
  have hB : Below w.heap.size w W9 := by rw [← hW9]; exact (((Below.refl _ w).alloc (Nat.le_refl _) _).alloc (by simp) _).alloc (by simp; omega) _
  rw [hW9]
  clear hW9
  refine (HKT.out W9 hB).mono ?_
  rintro e w1 ⟨rfl, ⟨L, hL, hown⟩, hb1⟩
  obtain ⟨g, hg⟩ : ∃ g, W9.heap.size = g := ⟨_, rfl⟩
  have hBB := hB.trans (hb1.mono hB.size)
  have hZ1 := (hb1.block _ (lt_of_block hZ)).trans hZ
  have hO1 := (hb1.block _ (lt_of_block hO)).trans hO
  rw [hg] at hown hs9 ⊢
  clear hb1 hB hg hZ hO HKT
  have z0 : w1.cell? ⟨w.heap.size + 1, 0, none⟩ = some (.slice none 0 0) := by rw [cell_of_row _ _ _ _ _ _ hZ1]; rfl
  have zf : w1.frozen? ⟨w.heap.size + 1, 0, none⟩ = false := frozen_of_row _ _ _ _ _ hZ1
  have o0 : w1.cell? ⟨w.heap.size + 1 + 1, 0, none⟩ = some (.slice none 0 0) := by rw [cell_of_row _ _ _ _ _ _ hO1]; rfl
  have of : w1.frozen? ⟨w.heap.size + 1 + 1, 0, none⟩ = false := frozen_of_row _ _ _ _ _ hO1
  have HG : Hid (g = w.heap.size + 1 + 1 + 1) := hs9
  clear hs9
  go_wp2_with fail
  have hs9 := HG.out
  refine bodyPost_ret (results_cell_row rfl _ _ (w.heap.size + 1) _ _ _ _ rfl (heap_setCell_same _ _ 0 _ _ _ ((heap_setCell_other _ _ _ _ (by simp)).trans hZ1)) Tryz.underlying30 rfl (by kernel_rfl)) rfl ⟨g, rfl, ⟨L, hL, ((hown.setb (by simp; omega) _).setb (by simp; omega) _).le (by omega)⟩, (hBB.setCell (by simp; omega) _).setCell (by simp) _⟩
end Go.Proofs.YtdgbmihokecmhaaGreatDoor
