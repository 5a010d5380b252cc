import Derived.Test.YtdaaiekepmlpoaaUBi
import Derived.OwnWalk
namespace Go.Proofs.Ytdaaiekepmlpoaa
open Go.RowKit
set_option linter.unusedVariables false

/-- The three boxes of l2copy. -/
structure CpSt (w : World) (N : Nd) (vn vk v7 v8 : Value) (W : World) : Prop where
  b1 : NdBox w.heap.size W 42 N vn vk
  b2 : NdBox (w.heap.size + 1) W 42 zNd (.slice none 0 0) (.slice none 0 0)
  b3 : NdBox (w.heap.size + 1 + 1) W 42 N v7 v8
  bl : Below w.heap.size w W
theorem CpSt.below {w : World} {N : Nd} {vn vk v7 v8 : Value} {W W' : World} (h : CpSt w N vn vk v7 v8 W) (hb : Below W.heap.size W W') : CpSt w N vn vk v7 v8 W' :=
  ⟨h.b1.below hb, h.b2.below hb, h.b3.below hb, h.bl.trans (hb.mono h.bl.size)⟩
theorem CpSt.grown {w : World} {N : Nd} {vn vk v7 v8 : Value} {W W' : World} {row : Option Nat} (h : CpSt w N vn vk v7 v8 W) (hg : W.grownBy W' row) (hr : ∀ g, row = some g → w.heap.size + 1 + 1 + 1 ≤ g) : CpSt w N vn vk v7 v8 W' :=
  ⟨(hg.block _ (lt_of_block h.b1) (fun e => by have := hr _ e.symm; omega)).trans h.b1, (hg.block _ (lt_of_block h.b2) (fun e => by have := hr _ e.symm; omega)).trans h.b2, (hg.block _ (lt_of_block h.b3) (fun e => by have := hr _ e.symm; omega)).trans h.b3, h.bl.grown hg h.bl.size (fun g hg => by have := hr g hg; omega)⟩
theorem CpSt.put7 {w : World} {N : Nd} {vn vk v7 v8 : Value} {W : World} (h : CpSt w N vn vk v7 v8 W) (u : Value) : CpSt w N vn vk u v8 (W.setCell ⟨w.heap.size + 1 + 1, 7, none⟩ u) :=
  ⟨(heap_setCell_other _ _ _ _ (by simp; omega)).trans h.b1, (heap_setCell_other _ _ _ _ (by simp)).trans h.b2, heap_setCell_same W _ 7 _ _ _ h.b3, h.bl.setCell (by simp; omega) _⟩
theorem CpSt.put8 {w : World} {N : Nd} {vn vk v7 v8 : Value} {W : World} (h : CpSt w N vn vk v7 v8 W) (u : Value) : CpSt w N vn vk v7 u (W.setCell ⟨w.heap.size + 1 + 1, 8, none⟩ u) :=
  ⟨(heap_setCell_other _ _ _ _ (by simp; omega)).trans h.b1, (heap_setCell_other _ _ _ _ (by simp)).trans h.b2, heap_setCell_same W _ 8 _ _ _ h.b3, h.bl.setCell (by simp; omega) _⟩

set_option maxRecDepth 100000 in
set_option maxHeartbeats 6400000 in
theorem l2copy_any (w : World) (N : Nd) (vn vk : Value) (hn : StrsAt w vn N.nm) (hk : IntsAt w vk N.ks) (h1 : N.nm.length ≤ 1048576) (h2 : N.ks.length ≤ 1048576) :
    Calls Try.prog 17 #[vNd N vn vk] w fun e w' => ∃ v7 v8, e = .returned (vNd N v7 v8) ∧
      w'.ownsRow w.heap.size 9 1 v7 N.nm.length (N.nm.map Value.string) ∧ w'.ownsRow w.heap.size 3 1 v8 N.ks.length (N.ks.map (Value.int .i64)) ∧ Below w.heap.size w w' := by
  obtain ⟨a1, c1, rfl⟩ := hn.form
  obtain ⟨a2, c2, rfl⟩ := hk.form
  unfold vNd
  have HN : Hid (StrsAt w (.slice a1 N.nm.length c1) N.nm ∧ IntsAt w (.slice a2 N.ks.length c2) N.ks) := ⟨hn, hk⟩
  clear hn hk
  obtain ⟨L1, hL1⟩ : ∃ n, N.nm.length = n := ⟨_, rfl⟩
  obtain ⟨L2, hL2⟩ : ∃ n, N.ks.length = n := ⟨_, rfl⟩
  have HL : Hid (N.nm.length = L1 ∧ N.ks.length = L2) := ⟨hL1, hL2⟩
  rw [hL1] at HN h1 ⊢
  rw [hL2] at HN h2 ⊢
  clear hL1 hL2
  go_enter Try.func17, Try.ntmps17
  go_wp2_with fail
  obtain ⟨W9, hW9⟩ : ∃ W9, ((w.alloc (.cells #[.int .i64 N.k, .int .i64 N.f, .int .i64 N.t, .int .i64 N.l, .int .i64 N.op, .int .i64 N.n, .string N.x, .slice a1 L1 c1, .slice a2 L2 c2] 42)).alloc (.cells #[.int .i64 0, .int .i64 0, .int .i64 0, .int .i64 0, .int .i64 0, .int .i64 0, .string { data := #[] }, .slice none 0 0, .slice none 0 0] 42)).alloc (.cells #[.int .i64 N.k, .int .i64 N.f, .int .i64 N.t, .int .i64 N.l, .int .i64 N.op, .int .i64 N.n, .string N.x, .slice none 0 0, .slice a2 L2 c2] 42) = W9 := ⟨_, rfl⟩
  have hs9 : W9.heap.size = w.heap.size + 1 + 1 + 1 := by rw [← hW9]; simp
  have hC9 : CpSt w N (.slice a1 L1 c1) (.slice a2 L2 c2) (.slice none 0 0) (.slice a2 L2 c2) W9 := by
    rw [← hW9]
    refine ⟨(Below.heap_alloc _ _ _ (by simp; omega)).trans ((Below.heap_alloc _ _ _ (by simp)).trans (heap_alloc_new w _)), ?_, ?_, (((Below.refl _ w).alloc (Nat.le_refl _) _).alloc (by simp) _).alloc (by simp; omega) _⟩
    · have := heap_alloc_new (w.alloc (.cells #[.int .i64 N.k, .int .i64 N.f, .int .i64 N.t, .int .i64 N.l, .int .i64 N.op, .int .i64 N.n, .string N.x, .slice a1 L1 c1, .slice a2 L2 c2] 42)) (.cells #[.int .i64 0, .int .i64 0, .int .i64 0, .int .i64 0, .int .i64 0, .int .i64 0, .string { data := #[] }, .slice none 0 0, .slice none 0 0] 42)
      rw [World.size_alloc] at this
      exact (Below.heap_alloc _ _ _ (by simp)).trans this
    · have := heap_alloc_new ((w.alloc (.cells #[.int .i64 N.k, .int .i64 N.f, .int .i64 N.t, .int .i64 N.l, .int .i64 N.op, .int .i64 N.n, .string N.x, .slice a1 L1 c1, .slice a2 L2 c2] 42)).alloc (.cells #[.int .i64 0, .int .i64 0, .int .i64 0, .int .i64 0, .int .i64 0, .int .i64 0, .string { data := #[] }, .slice none 0 0, .slice none 0 0] 42)) (.cells #[.int .i64 N.k, .int .i64 N.f, .int .i64 N.t, .int .i64 N.l, .int .i64 N.op, .int .i64 N.n, .string N.x, .slice none 0 0, .slice a2 L2 c2] 42)
      rw [World.size_alloc, World.size_alloc] at this
      exact this
  rw [hW9]
  clear hW9
  obtain ⟨i0, hi, hz0, hz1, hz2⟩ := info_parts infoStr
  obtain ⟨j0, ji, jz0, jz1, jz2⟩ := info_parts infoInt
  have HNs : Hid (StrsAt w (.slice a1 L1 c1) N.nm ∧ IntsAt w (.slice a2 L2 c2) N.ks) := HN
  go_loopw [13] (fun vi wr => ∃ (k : Nat) (v : Value), k ≤ L1 ∧ vi = .int .i64 k ∧ CpSt w N (.slice a1 L1 c1) (.slice a2 L2 c2) v (.slice a2 L2 c2) wr ∧ wr.ownsRow (w.heap.size + 1 + 1 + 1) 9 1 v k ((N.nm.take k).map Value.string) ∧ w.heap.size + 1 + 1 + 1 ≤ wr.heap.size) (fun vi _ => L1 - (intOf vi).toNat)
  case atStart => exact ⟨0, _, Nat.zero_le _, rfl, hC9, World.ownsRow_nil _ _ _ _, by omega⟩
  case round =>
    obtain ⟨k, v, hk, rfl, hC, ho, hsz⟩ := hrel
    clear hC9 hs9
    by_cases hlt : k < L1
    · have hki : (k : Int) < (L1 : Int) := by omega
      have hk0 : (0 : Int) ≤ (k : Int) := by omega
      obtain ⟨s, hsk⟩ := some_at HL.out.1 hlt
      obtain ⟨a', rfl, hck⟩ := (HNs.out.1.below hC.bl).get hsk
      obtain ⟨av, cv, rfl⟩ := own_form ho
      have hov : ∀ g, (Value.slice av k cv).ownBlock = some g → w.heap.size + 1 + 1 + 1 ≤ g := fun g hg => (ho.lt g hg).1
      have d7 := (nd_cells hC.b3).2.2.2.2.2.2.2.1
      have dx1 : w.heap.size + 1 + 1 < wr.heap.size := by omega
      have HT : Hid ((N.nm.take (k + 1)).map Value.string = (N.nm.take k).map Value.string ++ [.string s]) := by
        show _ = _
        rw [take_at hsk, List.map_append]; rfl
      have HCC : Hid (CpSt w N (.slice (some a') L1 c1) (.slice a2 L2 c2) (.slice av k cv) (.slice a2 L2 c2) wr) := hC
      have HO : Hid (wr.ownsRow (w.heap.size + 1 + 1 + 1) 9 1 (.slice av k cv) k ((N.nm.take k).map Value.string)) := ho
      clear hsk hC ho
      go_wp2_with (at_builtin; refine wpList_append_own _ rfl _ _ 39 rfl (w.heap.size + 1 + 1 + 1) 9 i0 _ 1 16 Try.underlying39 hi hz0 hz1 hz2 rfl (by decide) _ _ _ rfl (HO.out.alloc _) ⟨wr.heap.size, 0, none⟩ 1 1 [.string s] rfl rfl (World.news_of_block (cs := #[.string s]) (fr := (0, 0)) (heap_alloc_new wr _)) (by intro u hu; simp at hu; subst hu; rfl) (by unfold maxLen; omega) (by omega) (by simp; omega) ?_; intro v' w5 ho5 hg5 hn5; obtain ⟨g', cap', rfl⟩ := ownsRow_succ ho5; have hC5 := (HCC.out.below ((Below.refl _ wr).alloc (Nat.le_refl _) _)).grown hg5 hov; have z7 := (nd_cells hC5.b3).2.2.2.2.2.2.2.1; have zf := (nd_cells hC5.b3).2.2.2.2.2.2.2.2.2)
      have hsz5 := hg5.size
      rw [World.size_alloc] at hsz5
      have hsz6 : (w5.setCell ⟨w.heap.size + 1 + 1, 7, none⟩ (.slice (some ⟨g', 0, none⟩) (k + 1) cap')).heap.size = w5.heap.size := by simp [World.setCell]
      refine ⟨⟨k + 1, _, by omega, by go_num, hC5.put7 _, ?_, by omega⟩, by simp [intOf]; omega⟩
      rw [HT.out]
      exact ownsRow_setCell_below ho5 (by simp) _
    · obtain rfl : k = L1 := by omega
      obtain ⟨a7, e7, rfl⟩ := own_form ho
      have HO7 : Hid (wr.ownsRow (w.heap.size + 1 + 1 + 1) 9 1 (.slice a7 k e7) k (N.nm.map Value.string)) := by rw [List.take_of_length_le (by rw [HL.out.1]; exact Nat.le_refl _)] at ho; exact ho
      have HC7 : Hid (CpSt w N (.slice a1 k c1) (.slice a2 L2 c2) (.slice a7 k e7) (.slice a2 L2 c2) wr) := hC
      have d8 := (nd_cells hC.b1).2.2.2.2.2.2.2.2.1
      have e8 := (nd_cells hC.b3).2.2.2.2.2.2.2.2.1
      have ef := (nd_cells hC.b3).2.2.2.2.2.2.2.2.2
      have dx1 : w.heap.size + 1 + 1 < wr.heap.size := by omega
      clear hC ho
      go_wp2_with fail
      have hC8 := HC7.out.put8 (.slice none 0 0)
      have o78 := ownsRow_setCell_below (a := ⟨w.heap.size + 1 + 1, 8, none⟩) HO7.out (by simp) (.slice none 0 0)
      have hsz8 : (wr.setCell ⟨w.heap.size + 1 + 1, 8, none⟩ (.slice none 0 0)).heap.size = wr.heap.size := by simp [World.setCell]
      rw [← hsz8] at hsz
      clear d8 e8 ef dx1 HO7 HC7 hsz8
      generalize wr.setCell ⟨w.heap.size + 1 + 1, 8, none⟩ (.slice none 0 0) = W8 at hC8 o78 hsz ⊢
      go_loopw [28] (fun vi wr => ∃ (m : Nat) (v : Value), m ≤ L2 ∧ vi = .int .i64 m ∧ CpSt w N (.slice a1 k c1) (.slice a2 L2 c2) (.slice a7 k e7) v wr ∧ wr.ownsRow (w.heap.size + 1 + 1 + 1) 9 1 (.slice a7 k e7) k (N.nm.map Value.string) ∧ wr.ownsRow (w.heap.size + 1 + 1 + 1) 3 1 v m ((N.ks.take m).map (Value.int .i64)) ∧ w.heap.size + 1 + 1 + 1 ≤ wr.heap.size) (fun vi _ => L2 - (intOf vi).toNat)
      case atStart => exact ⟨0, _, Nat.zero_le _, rfl, hC8, o78, World.ownsRow_nil _ _ _ _, hsz⟩
      case round =>
        obtain ⟨m, v, hm, rfl, hC, ho7, ho, hsz⟩ := hrel
        clear hC8 o78
        by_cases hlt : m < L2
        · have hki : (m : Int) < (L2 : Int) := by omega
          have hk0 : (0 : Int) ≤ (m : Int) := by omega
          obtain ⟨s, hsk⟩ := some_at HL.out.2 hlt
          obtain ⟨a', rfl, hck⟩ := (HNs.out.2.below hC.bl).get hsk
          obtain ⟨av, cv, rfl⟩ := own_form ho
          have hov : ∀ g, (Value.slice av m cv).ownBlock = some g → w.heap.size + 1 + 1 + 1 ≤ g := fun g hg => (ho.lt g hg).1
          have d8 := (nd_cells hC.b3).2.2.2.2.2.2.2.2.1
          have dx1 : w.heap.size + 1 + 1 < wr.heap.size := by omega
          have HT : Hid ((N.ks.take (m + 1)).map (Value.int .i64) = (N.ks.take m).map (Value.int .i64) ++ [.int .i64 s]) := by
            show _ = _
            rw [take_at hsk, List.map_append]; rfl
          have hap := own_apart2 ho7 ho (by decide)
          have HCC : Hid (CpSt w N (.slice a1 k c1) (.slice (some a') L2 c2) (.slice a7 k e7) (.slice av m cv) wr) := hC
          have HO : Hid (wr.ownsRow (w.heap.size + 1 + 1 + 1) 3 1 (.slice av m cv) m ((N.ks.take m).map (Value.int .i64))) := ho
          clear hsk hC ho
          go_wp2_with (at_builtin; refine wpList_append_own _ rfl _ _ 40 rfl (w.heap.size + 1 + 1 + 1) 3 j0 _ 1 8 Try.underlying40 ji jz0 jz1 jz2 rfl (by decide) _ _ _ rfl (HO.out.alloc _) ⟨wr.heap.size, 0, none⟩ 1 1 [.int .i64 s] rfl rfl (World.news_of_block (cs := #[.int .i64 s]) (fr := (0, 0)) (heap_alloc_new wr _)) (by intro u hu; simp at hu; subst hu; rfl) (by unfold maxLen; omega) (by omega) (by simp; omega) ?_; intro v' w5 ho5 hg5 hn5; obtain ⟨g', cap', rfl⟩ := ownsRow_succ ho5; have hC5 := (HCC.out.below ((Below.refl _ wr).alloc (Nat.le_refl _) _)).grown hg5 hov; have z7 := (nd_cells hC5.b3).2.2.2.2.2.2.2.2.1; have zf := (nd_cells hC5.b3).2.2.2.2.2.2.2.2.2)
          have hsz5 := hg5.size
          rw [World.size_alloc] at hsz5
          have hsz6 : (w5.setCell ⟨w.heap.size + 1 + 1, 8, none⟩ (.slice (some ⟨g', 0, none⟩) (m + 1) cap')).heap.size = w5.heap.size := by simp [World.setCell]
          refine ⟨⟨m + 1, _, by omega, by go_num, hC5.put8 _, ownsRow_setCell_below ((ho7.alloc _).kept hg5 hap) (by simp) _, ?_, by omega⟩, by simp [intOf]; omega⟩
          rw [HT.out]
          exact ownsRow_setCell_below ho5 (by simp) _
        · obtain rfl : m = L2 := by omega
          obtain ⟨a8, e8, rfl⟩ := own_form ho
          rw [List.take_of_length_le (by rw [HL.out.2]; exact Nat.le_refl _)] at ho
          have HCC : Hid (CpSt w N (.slice a1 k c1) (.slice a2 m c2) (.slice a7 k e7) (.slice a8 m e8) wr) := hC
          have HO : Hid (wr.ownsRow (w.heap.size + 1 + 1 + 1) 9 1 (.slice a7 k e7) k (N.nm.map Value.string) ∧ wr.ownsRow (w.heap.size + 1 + 1 + 1) 3 1 (.slice a8 m e8) m (N.ks.map (Value.int .i64))) := ⟨ho7, ho⟩
          obtain ⟨o0, o1, o2, o3, o4, o5, o6, o7, o8, of⟩ := nd_cells hC.b3
          obtain ⟨z0, z1, z2, z3, z4, z5, z6, z7, z8, zf⟩ := nd_cells hC.b2
          have hy1 : w.heap.size + 1 < wr.heap.size := by omega
          have hy2 : w.heap.size + 1 + 1 < wr.heap.size := by omega
          clear hC ho ho7
          go_wp2_with fail
          have hC := HCC.out
          have hZ5 := nd_set9 hC.b2 N (.slice a7 k e7) (.slice a8 m e8)
          have oo1 := own_set9 (b := w.heap.size + 1) HO.out.1 (by omega) N (.slice a7 k e7) (.slice a8 m e8)
          have oo2 := own_set9 (b := w.heap.size + 1) HO.out.2 (by omega) N (.slice a7 k e7) (.slice a8 m e8)
          have bb := below_set9 (b := w.heap.size + 1) hC.bl (by omega) N (.slice a7 k e7) (.slice a8 m e8)
          change bodyPost _ _ _ _ _ (set9 wr (w.heap.size + 1) N (.slice a7 k e7) (.slice a8 m e8))
          generalize set9 wr (w.heap.size + 1) N (.slice a7 k e7) (.slice a8 m e8) = W5 at hZ5 oo1 oo2 bb ⊢
          exact bodyPost_ret (results_cell_row rfl _ _ (w.heap.size + 1) _ _ _ _ rfl hZ5 Try.underlying42 rfl (by kernel_rfl)) rfl ⟨_, _, rfl, own_le oo1 (by omega), own_le oo2 (by omega), bb⟩
end Go.Proofs.Ytdaaiekepmlpoaa
