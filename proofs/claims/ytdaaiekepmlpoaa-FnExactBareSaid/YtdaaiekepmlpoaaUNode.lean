import Derived.Test.YtdaaiekepmlpoaaUTo
import Derived.Test.YtdaaiekepmlpoaaUSz
namespace Go.Proofs.Ytdaaiekepmlpoaa
open Go.RowKit
set_option linter.unusedVariables false

/-- A node in a block of its own. -/
def NdBox (b : Nat) (W : World) (t : TypeId) (N : Nd) (vn vk : Value) : Prop :=
  W.heap[b]? = some (.cells #[.int .i64 N.k, .int .i64 N.f, .int .i64 N.t, .int .i64 N.l, .int .i64 N.op, .int .i64 N.n, .string N.x, vn, vk] t (0, 0))
theorem nd_cells {b : Nat} {W : World} {t : TypeId} {N : Nd} {vn vk : Value} (h : NdBox b W t N vn vk) :
    W.cell? ⟨b, 0, none⟩ = some (.int .i64 N.k) ∧ W.cell? ⟨b, 1, none⟩ = some (.int .i64 N.f) ∧ W.cell? ⟨b, 2, none⟩ = some (.int .i64 N.t) ∧ W.cell? ⟨b, 3, none⟩ = some (.int .i64 N.l) ∧ W.cell? ⟨b, 4, none⟩ = some (.int .i64 N.op) ∧ W.cell? ⟨b, 5, none⟩ = some (.int .i64 N.n) ∧ W.cell? ⟨b, 6, none⟩ = some (.string N.x) ∧ W.cell? ⟨b, 7, none⟩ = some vn ∧ W.cell? ⟨b, 8, none⟩ = some vk ∧ (∀ j, W.frozen? ⟨b, j, none⟩ = false) := by
  unfold NdBox at h
  exact ⟨by rw [cell_of_row _ _ _ _ _ _ h]; rfl, by rw [cell_of_row _ _ _ _ _ _ h]; rfl, by rw [cell_of_row _ _ _ _ _ _ h]; rfl, by rw [cell_of_row _ _ _ _ _ _ h]; rfl, by rw [cell_of_row _ _ _ _ _ _ h]; rfl, by rw [cell_of_row _ _ _ _ _ _ h]; rfl, by rw [cell_of_row _ _ _ _ _ _ h]; rfl, by rw [cell_of_row _ _ _ _ _ _ h]; rfl, by rw [cell_of_row _ _ _ _ _ _ h]; rfl, fun j => frozen_of_row _ _ _ _ _ h⟩
def zNd : Nd := ⟨0, 0, 0, 0, 0, 0, { data := #[] }, [], []⟩
theorem NdBox.below {b : Nat} {W W' : World} {t : TypeId} {N : Nd} {vn vk : Value} (h : NdBox b W t N vn vk) (hb : Below W.heap.size W W') : NdBox b W' t N vn vk := (hb.block _ (lt_of_block h)).trans h

def set9 (W : World) (b : Nat) (N : Nd) (vn vk : Value) : World := (((((((((W.setCell ⟨b, 0, none⟩ (.int .i64 N.k)).setCell ⟨b, 1, none⟩ (.int .i64 N.f)).setCell ⟨b, 2, none⟩ (.int .i64 N.t)).setCell ⟨b, 3, none⟩ (.int .i64 N.l)).setCell ⟨b, 4, none⟩ (.int .i64 N.op)).setCell ⟨b, 5, none⟩ (.int .i64 N.n)).setCell ⟨b, 6, none⟩ (.string N.x)).setCell ⟨b, 7, none⟩ (vn)).setCell ⟨b, 8, none⟩ (vk))
theorem nd_set9 {b : Nat} {W : World} {t : TypeId} {M : Nd} {vm vl : Value} (h : NdBox b W t M vm vl) (N : Nd) (vn vk : Value) : NdBox b (set9 W b N vn vk) t N vn vk := by
  unfold set9
  have s0 : (W.setCell ⟨b, 0, none⟩ (.int .i64 N.k)).heap[b]? = some (.cells #[.int .i64 N.k, .int .i64 M.f, .int .i64 M.t, .int .i64 M.l, .int .i64 M.op, .int .i64 M.n, .string M.x, vm, vl] t (0, 0)) := heap_setCell_same _ b 0 _ _ _ h
  have s1 : ((W.setCell ⟨b, 0, none⟩ (.int .i64 N.k)).setCell ⟨b, 1, none⟩ (.int .i64 N.f)).heap[b]? = some (.cells #[.int .i64 N.k, .int .i64 N.f, .int .i64 M.t, .int .i64 M.l, .int .i64 M.op, .int .i64 M.n, .string M.x, vm, vl] t (0, 0)) := heap_setCell_same _ b 1 _ _ _ s0
  have s2 : (((W.setCell ⟨b, 0, none⟩ (.int .i64 N.k)).setCell ⟨b, 1, none⟩ (.int .i64 N.f)).setCell ⟨b, 2, none⟩ (.int .i64 N.t)).heap[b]? = some (.cells #[.int .i64 N.k, .int .i64 N.f, .int .i64 N.t, .int .i64 M.l, .int .i64 M.op, .int .i64 M.n, .string M.x, vm, vl] t (0, 0)) := heap_setCell_same _ b 2 _ _ _ s1
  have s3 : ((((W.setCell ⟨b, 0, none⟩ (.int .i64 N.k)).setCell ⟨b, 1, none⟩ (.int .i64 N.f)).setCell ⟨b, 2, none⟩ (.int .i64 N.t)).setCell ⟨b, 3, none⟩ (.int .i64 N.l)).heap[b]? = some (.cells #[.int .i64 N.k, .int .i64 N.f, .int .i64 N.t, .int .i64 N.l, .int .i64 M.op, .int .i64 M.n, .string M.x, vm, vl] t (0, 0)) := heap_setCell_same _ b 3 _ _ _ s2
  have s4 : (((((W.setCell ⟨b, 0, none⟩ (.int .i64 N.k)).setCell ⟨b, 1, none⟩ (.int .i64 N.f)).setCell ⟨b, 2, none⟩ (.int .i64 N.t)).setCell ⟨b, 3, none⟩ (.int .i64 N.l)).setCell ⟨b, 4, none⟩ (.int .i64 N.op)).heap[b]? = some (.cells #[.int .i64 N.k, .int .i64 N.f, .int .i64 N.t, .int .i64 N.l, .int .i64 N.op, .int .i64 M.n, .string M.x, vm, vl] t (0, 0)) := heap_setCell_same _ b 4 _ _ _ s3
  have s5 : ((((((W.setCell ⟨b, 0, none⟩ (.int .i64 N.k)).setCell ⟨b, 1, none⟩ (.int .i64 N.f)).setCell ⟨b, 2, none⟩ (.int .i64 N.t)).setCell ⟨b, 3, none⟩ (.int .i64 N.l)).setCell ⟨b, 4, none⟩ (.int .i64 N.op)).setCell ⟨b, 5, none⟩ (.int .i64 N.n)).heap[b]? = some (.cells #[.int .i64 N.k, .int .i64 N.f, .int .i64 N.t, .int .i64 N.l, .int .i64 N.op, .int .i64 N.n, .string M.x, vm, vl] t (0, 0)) := heap_setCell_same _ b 5 _ _ _ s4
  have s6 : (((((((W.setCell ⟨b, 0, none⟩ (.int .i64 N.k)).setCell ⟨b, 1, none⟩ (.int .i64 N.f)).setCell ⟨b, 2, none⟩ (.int .i64 N.t)).setCell ⟨b, 3, none⟩ (.int .i64 N.l)).setCell ⟨b, 4, none⟩ (.int .i64 N.op)).setCell ⟨b, 5, none⟩ (.int .i64 N.n)).setCell ⟨b, 6, none⟩ (.string N.x)).heap[b]? = some (.cells #[.int .i64 N.k, .int .i64 N.f, .int .i64 N.t, .int .i64 N.l, .int .i64 N.op, .int .i64 N.n, .string N.x, vm, vl] t (0, 0)) := heap_setCell_same _ b 6 _ _ _ s5
  have s7 : ((((((((W.setCell ⟨b, 0, none⟩ (.int .i64 N.k)).setCell ⟨b, 1, none⟩ (.int .i64 N.f)).setCell ⟨b, 2, none⟩ (.int .i64 N.t)).setCell ⟨b, 3, none⟩ (.int .i64 N.l)).setCell ⟨b, 4, none⟩ (.int .i64 N.op)).setCell ⟨b, 5, none⟩ (.int .i64 N.n)).setCell ⟨b, 6, none⟩ (.string N.x)).setCell ⟨b, 7, none⟩ (vn)).heap[b]? = some (.cells #[.int .i64 N.k, .int .i64 N.f, .int .i64 N.t, .int .i64 N.l, .int .i64 N.op, .int .i64 N.n, .string N.x, vn, vl] t (0, 0)) := heap_setCell_same _ b 7 _ _ _ s6
  have s8 : (((((((((W.setCell ⟨b, 0, none⟩ (.int .i64 N.k)).setCell ⟨b, 1, none⟩ (.int .i64 N.f)).setCell ⟨b, 2, none⟩ (.int .i64 N.t)).setCell ⟨b, 3, none⟩ (.int .i64 N.l)).setCell ⟨b, 4, none⟩ (.int .i64 N.op)).setCell ⟨b, 5, none⟩ (.int .i64 N.n)).setCell ⟨b, 6, none⟩ (.string N.x)).setCell ⟨b, 7, none⟩ (vn)).setCell ⟨b, 8, none⟩ (vk)).heap[b]? = some (.cells #[.int .i64 N.k, .int .i64 N.f, .int .i64 N.t, .int .i64 N.l, .int .i64 N.op, .int .i64 N.n, .string N.x, vn, vk] t (0, 0)) := heap_setCell_same _ b 8 _ _ _ s7
  exact s8
theorem own_set9 {W : World} {base e size : Nat} {v : Value} {n : Nat} {xs : List Value} {b : Nat} (h : W.ownsRow base e size v n xs) (hb : b < base) (N : Nd) (vn vk : Value) : (set9 W b N vn vk).ownsRow base e size v n xs := by
  unfold set9
  iterate 9 refine ownsRow_setCell_below ?_ hb _
  exact h
theorem below_set9 {w W : World} {base b : Nat} (h : Below base w W) (hb : base ≤ b) (N : Nd) (vn vk : Value) : Below base w (set9 W b N vn vk) := by
  unfold set9
  iterate 9 refine Below.setCell ?_ hb _
  exact h

set_option maxRecDepth 100000 in
set_option maxHeartbeats 3200000 in
theorem toNode_any (w : World) (N : Nd) (vn vk : Value) (hn : StrsAt w vn N.nm) (hk : IntsAt w vk N.ks) (h1 : N.nm.length ≤ 1048576) (h2 : N.ks.length ≤ 1048576) :
    Calls Try.prog 27 #[vNd N vn vk] w fun e w' => ∃ g1 g2, e = .returned (vNd N (.slice (some ⟨g1, 0, none⟩) N.nm.length N.nm.length) (.slice (some ⟨g2, 0, none⟩) N.ks.length N.ks.length)) ∧
      w'.ownsRow w.heap.size 9 1 (.slice (some ⟨g1, 0, none⟩) N.nm.length N.nm.length) N.nm.length (N.nm.map Value.string) ∧ w'.ownsRow w.heap.size 3 1 (.slice (some ⟨g2, 0, none⟩) N.ks.length N.ks.length) N.ks.length (N.ks.map (Value.int .i64)) ∧ Below w.heap.size w w' := by
  obtain ⟨a1, c1, rfl⟩ := hn.form
  obtain ⟨a2, c2, rfl⟩ := hk.form
  unfold vNd
  have HN : Hid (StrsAt w (.slice a1 N.nm.length c1) N.nm ∧ IntsAt w (.slice a2 N.ks.length c2) N.ks) := ⟨hn, hk⟩
  clear hn hk
  obtain ⟨L1, hL1⟩ : ∃ n, N.nm.length = n := ⟨_, rfl⟩
  obtain ⟨L2, hL2⟩ : ∃ n, N.ks.length = n := ⟨_, rfl⟩
  have HL : Hid (N.nm.length = L1 ∧ N.ks.length = L2) := ⟨hL1, hL2⟩
  rw [hL1] at HN h1 ⊢
  rw [hL2] at HN h2 ⊢
  clear hL1 hL2
  go_enter Try.func27, Try.ntmps27
  go_wp2_with (go_at_call 38; fail)
  obtain ⟨W9, hW9⟩ : ∃ W9, ((w.alloc (.cells #[.int .i64 N.k, .int .i64 N.f, .int .i64 N.t, .int .i64 N.l, .int .i64 N.op, .int .i64 N.n, .string N.x, .slice a1 L1 c1, .slice a2 L2 c2] 53)).alloc (.cells #[.int .i64 0, .int .i64 0, .int .i64 0, .int .i64 0, .int .i64 0, .int .i64 0, .string { data := #[] }, .slice none 0 0, .slice none 0 0] 42)).alloc (.cells #[.int .i64 N.k, .int .i64 N.f, .int .i64 N.t, .int .i64 N.l, .int .i64 N.op, .int .i64 N.n, .string N.x, .slice none 0 0, .slice none 0 0] 42) = W9 := ⟨_, rfl⟩
  have hs9 : W9.heap.size = w.heap.size + 1 + 1 + 1 := by rw [← hW9]; simp
  have hA : NdBox w.heap.size W9 53 N (.slice a1 L1 c1) (.slice a2 L2 c2) := by
    rw [← hW9]
    exact (Below.heap_alloc _ _ _ (by simp; omega)).trans ((Below.heap_alloc _ _ _ (by simp)).trans (heap_alloc_new w _))
  have hZ : NdBox (w.heap.size + 1) W9 42 zNd (.slice none 0 0) (.slice none 0 0) := by
    rw [← hW9]
    have := heap_alloc_new (w.alloc (.cells #[.int .i64 N.k, .int .i64 N.f, .int .i64 N.t, .int .i64 N.l, .int .i64 N.op, .int .i64 N.n, .string N.x, .slice a1 L1 c1, .slice a2 L2 c2] 53)) (.cells #[.int .i64 0, .int .i64 0, .int .i64 0, .int .i64 0, .int .i64 0, .int .i64 0, .string { data := #[] }, .slice none 0 0, .slice none 0 0] 42)
    rw [World.size_alloc] at this
    exact (Below.heap_alloc _ _ _ (by simp)).trans this
  have hO : NdBox (w.heap.size + 1 + 1) W9 42 N (.slice none 0 0) (.slice none 0 0) := by
    rw [← hW9]
    have := heap_alloc_new ((w.alloc (.cells #[.int .i64 N.k, .int .i64 N.f, .int .i64 N.t, .int .i64 N.l, .int .i64 N.op, .int .i64 N.n, .string N.x, .slice a1 L1 c1, .slice a2 L2 c2] 53)).alloc (.cells #[.int .i64 0, .int .i64 0, .int .i64 0, .int .i64 0, .int .i64 0, .int .i64 0, .string { data := #[] }, .slice none 0 0, .slice none 0 0] 42)) (.cells #[.int .i64 N.k, .int .i64 N.f, .int .i64 N.t, .int .i64 N.l, .int .i64 N.op, .int .i64 N.n, .string N.x, .slice none 0 0, .slice none 0 0] 42)
    rw [World.size_alloc, World.size_alloc] at this
    exact this
  have hB : Below w.heap.size w W9 := by rw [← hW9]; exact (((Below.refl _ w).alloc (Nat.le_refl _) _).alloc (by simp) _).alloc (by simp; omega) _
  rw [hW9]
  clear hW9
  have hBB : Below w.heap.size w W9 := hB
  refine (toStringS_any W9 _ N.nm (by have := HN.out.1.below hB; exact this) (by rw [HL.out.1]; exact h1)).mono ?_
  rintro e w1 ⟨rfl, own1, hb1⟩
  rw [HL.out.1] at own1 ⊢
  have hA1 := hA.below hb1
  have hZ1 := hZ.below hb1
  have hO1 := hO.below hb1
  clear hA hZ hO
  obtain ⟨p0, p1, p2, p3, p4, p5, p6, p7, p8, pf⟩ := nd_cells hA1
  obtain ⟨o0, o1, o2, o3, o4, o5, o6, o7, o8, of⟩ := nd_cells hO1
  have hx1 := hb1.size
  rw [hs9] at own1
  have hs1 : w.heap.size + 1 + 1 + 1 ≤ w1.heap.size := by omega
  clear o0 o1 o2 o3 o4 o5 o6 o8 p0 p1 p2 p3 p4 p5 p6 p7 pf
  go_wp2_with (go_at_call 39; fail)
  have hA2 : NdBox w.heap.size (w1.setCell ⟨w.heap.size + 1 + 1, 7, none⟩ (.slice (some ⟨w.heap.size + 1 + 1 + 1, 0, none⟩) L1 L1)) 53 N (.slice a1 L1 c1) (.slice a2 L2 c2) := (heap_setCell_other _ _ _ _ (by simp; omega)).trans hA1
  have hZ2 : NdBox (w.heap.size + 1) (w1.setCell ⟨w.heap.size + 1 + 1, 7, none⟩ (.slice (some ⟨w.heap.size + 1 + 1 + 1, 0, none⟩) L1 L1)) 42 zNd (.slice none 0 0) (.slice none 0 0) := (heap_setCell_other _ _ _ _ (by simp)).trans hZ1
  have hO2 : NdBox (w.heap.size + 1 + 1) (w1.setCell ⟨w.heap.size + 1 + 1, 7, none⟩ (.slice (some ⟨w.heap.size + 1 + 1 + 1, 0, none⟩) L1 L1)) 42 N (.slice (some ⟨w.heap.size + 1 + 1 + 1, 0, none⟩) L1 L1) (.slice none 0 0) := heap_setCell_same w1 _ 7 _ _ _ hO1
  have own2 := ownsRow_setCell_below (a := ⟨w.heap.size + 1 + 1, 7, none⟩) own1 (by simp) (.slice (some ⟨w.heap.size + 1 + 1 + 1, 0, none⟩) L1 L1)
  have hB2 : Below w.heap.size w (w1.setCell ⟨w.heap.size + 1 + 1, 7, none⟩ (.slice (some ⟨w.heap.size + 1 + 1 + 1, 0, none⟩) L1 L1)) := (hBB.trans (hb1.mono (by omega))).setCell (by simp; omega) _
  have hz2 : w.heap.size + 1 + 1 + 1 ≤ (w1.setCell ⟨w.heap.size + 1 + 1, 7, none⟩ (.slice (some ⟨w.heap.size + 1 + 1 + 1, 0, none⟩) L1 L1)).heap.size := by simpa [World.setCell] using hs1
  generalize w1.setCell ⟨w.heap.size + 1 + 1, 7, none⟩ (.slice (some ⟨w.heap.size + 1 + 1 + 1, 0, none⟩) L1 L1) = W2 at hA2 hZ2 hO2 own2 hB2 hz2 ⊢
  refine (toIntS_any W2 _ N.ks (by have := HN.out.2.below hB2; exact this) (by rw [HL.out.2]; exact h2)).mono ?_
  rintro e w3 ⟨rfl, own3, hb3⟩
  rw [HL.out.2] at own3 ⊢
  have hZ3 := hZ2.below hb3
  have hO3 := hO2.below hb3
  have own23 := own_keep own2 hb3
  have hB3 := hB2.trans (hb3.mono hB2.size)
  have hx3 := hb3.size
  clear hA1 hZ1 hO1 hA2 hZ2 hO2 own1 own2 o7 of p8 hb1
  obtain ⟨g2, hg2⟩ : ∃ g2, W2.heap.size = g2 := ⟨_, rfl⟩
  rw [hg2] at own3 hz2 hx3 ⊢
  obtain ⟨o0, o1, o2, o3, o4, o5, o6, o7, o8, of⟩ := nd_cells hO3
  obtain ⟨z0, z1, z2, z3, z4, z5, z6, z7, z8, zf⟩ := nd_cells hZ3
  have hy1 : w.heap.size + 1 < w3.heap.size := lt_of_block hZ3
  have hy2 : w.heap.size + 1 + 1 < w3.heap.size := lt_of_block hO3
  clear hg2
  go_wp2_with fail
  have hZ4 : NdBox (w.heap.size + 1) (w3.setCell ⟨w.heap.size + 1 + 1, 8, none⟩ (.slice (some ⟨g2, 0, none⟩) L2 L2)) 42 zNd (.slice none 0 0) (.slice none 0 0) := (heap_setCell_other _ _ _ _ (by simp)).trans hZ3
  have hZ5 := nd_set9 hZ4 N (.slice (some ⟨w.heap.size + 1 + 1 + 1, 0, none⟩) L1 L1) (.slice (some ⟨g2, 0, none⟩) L2 L2)
  have oo1 := own_set9 (b := w.heap.size + 1) (ownsRow_setCell_below (a := ⟨w.heap.size + 1 + 1, 8, none⟩) own23 (by simp) (.slice (some ⟨g2, 0, none⟩) L2 L2)) (by omega) N (.slice (some ⟨w.heap.size + 1 + 1 + 1, 0, none⟩) L1 L1) (.slice (some ⟨g2, 0, none⟩) L2 L2)
  have oo2 := own_set9 (b := w.heap.size + 1) (ownsRow_setCell_below (a := ⟨w.heap.size + 1 + 1, 8, none⟩) own3 (by simp; omega) (.slice (some ⟨g2, 0, none⟩) L2 L2)) (by omega) N (.slice (some ⟨w.heap.size + 1 + 1 + 1, 0, none⟩) L1 L1) (.slice (some ⟨g2, 0, none⟩) L2 L2)
  have bb := below_set9 (b := w.heap.size + 1) (hB3.setCell (p := ⟨w.heap.size + 1 + 1, 8, none⟩) (by simp; omega) (.slice (some ⟨g2, 0, none⟩) L2 L2)) (by omega) N (.slice (some ⟨w.heap.size + 1 + 1 + 1, 0, none⟩) L1 L1) (.slice (some ⟨g2, 0, none⟩) L2 L2)
  change bodyPost _ _ _ _ _ (set9 (w3.setCell ⟨w.heap.size + 1 + 1, 8, none⟩ (.slice (some ⟨g2, 0, none⟩) L2 L2)) (w.heap.size + 1) N (.slice (some ⟨w.heap.size + 1 + 1 + 1, 0, none⟩) L1 L1) (.slice (some ⟨g2, 0, none⟩) L2 L2))
  generalize set9 (w3.setCell ⟨w.heap.size + 1 + 1, 8, none⟩ (.slice (some ⟨g2, 0, none⟩) L2 L2)) (w.heap.size + 1) N (.slice (some ⟨w.heap.size + 1 + 1 + 1, 0, none⟩) L1 L1) (.slice (some ⟨g2, 0, none⟩) L2 L2) = W5 at hZ5 oo1 oo2 bb ⊢
  exact bodyPost_ret (results_cell_row rfl _ _ (w.heap.size + 1) _ _ _ _ rfl hZ5 Try.underlying42 rfl (by kernel_rfl)) rfl ⟨w.heap.size + 1 + 1 + 1, g2, rfl, own_le oo1 (by omega), own_le oo2 (by omega), bb⟩
end Go.Proofs.Ytdaaiekepmlpoaa
