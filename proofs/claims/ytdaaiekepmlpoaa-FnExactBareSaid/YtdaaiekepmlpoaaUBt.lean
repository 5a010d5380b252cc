import Derived.Test.YtdaaiekepmlpoaaUBs
namespace Go.Proofs.Ytdaaiekepmlpoaa
open Go.RowKit
set_option linter.unusedVariables false

structure BsSt (w : World) (v : Value) (Q : List Mb) (W : World) : Prop where
  b2 : W.heap[w.heap.size + 1]? = some (.cells #[.slice none 0 0] 30 (0, 0))
  b3 : W.heap[w.heap.size + 1 + 1]? = some (.cells #[v] 30 (0, 0))
  row : W.ownsRow (w.heap.size + 1 + 1 + 1) 42 9 v Q.length (cMbs Q)
  each : ∀ x ∈ Q, W.ownsRow (w.heap.size + 1 + 1 + 1) 9 1 x.vn x.N.nm.length (x.N.nm.map Value.string) ∧ W.ownsRow (w.heap.size + 1 + 1 + 1) 3 1 x.vk x.N.ks.length (x.N.ks.map (Value.int .i64))
  bl : Below w.heap.size w W
theorem BsSt.below {w : World} {v : Value} {Q : List Mb} {W W' : World} (h : BsSt w v Q W) (hb : Below W.heap.size W W') : BsSt w v Q W' :=
  ⟨(hb.block _ (lt_of_block h.b2)).trans h.b2, (hb.block _ (lt_of_block h.b3)).trans h.b3, own_keep h.row hb, fun x hx => ⟨own_keep (h.each x hx).1 hb, own_keep (h.each x hx).2 hb⟩, h.bl.trans (hb.mono h.bl.size)⟩
/-- A node more in the list. -/
theorem BsSt.appended {w : World} {v v' : Value} {Q : List Mb} {x : Mb} {W W' : World} {k : Nat} (hk : Q.length = k) (h : BsSt w v Q W) (hx : W.ownsRow (w.heap.size + 1 + 1 + 1) 9 1 x.vn x.N.nm.length (x.N.nm.map Value.string) ∧ W.ownsRow (w.heap.size + 1 + 1 + 1) 3 1 x.vk x.N.ks.length (x.N.ks.map (Value.int .i64)))
    (ho : W'.ownsRow (w.heap.size + 1 + 1 + 1) 42 9 v' (k + 1) (cMbs Q ++ cMb x)) (hg : W.grownBy W' v.ownBlock) : W'.heap[w.heap.size + 1 + 1]? = some (.cells #[v] 30 (0, 0)) ∧ BsSt w v' (Q ++ [x]) (W'.setCell ⟨w.heap.size + 1 + 1, 0, none⟩ v') := by
  subst hk
  have hr : ∀ g, v.ownBlock = some g → w.heap.size + 1 + 1 + 1 ≤ g := fun g hg => (h.row.lt g hg).1
  have k2 := (hg.block _ (lt_of_block h.b2) (fun e => by have := hr _ e.symm; omega)).trans h.b2
  have k3 := (hg.block _ (lt_of_block h.b3) (fun e => by have := hr _ e.symm; omega)).trans h.b3
  have kk : ∀ {y : Mb}, (W.ownsRow (w.heap.size + 1 + 1 + 1) 9 1 y.vn y.N.nm.length (y.N.nm.map Value.string) ∧ W.ownsRow (w.heap.size + 1 + 1 + 1) 3 1 y.vk y.N.ks.length (y.N.ks.map (Value.int .i64))) → ((W'.setCell ⟨w.heap.size + 1 + 1, 0, none⟩ v').ownsRow (w.heap.size + 1 + 1 + 1) 9 1 y.vn y.N.nm.length (y.N.nm.map Value.string) ∧ (W'.setCell ⟨w.heap.size + 1 + 1, 0, none⟩ v').ownsRow (w.heap.size + 1 + 1 + 1) 3 1 y.vk y.N.ks.length (y.N.ks.map (Value.int .i64))) := fun hy =>
    ⟨ownsRow_setCell_below (hy.1.kept hg (own_apart2 hy.1 h.row (by decide))) (by simp) _, ownsRow_setCell_below (hy.2.kept hg (own_apart2 hy.2 h.row (by decide))) (by simp) _⟩
  refine ⟨k3, (heap_setCell_other _ _ _ _ (by simp)).trans k2, heap_setCell_same W' _ 0 _ _ _ k3, ?_, ?_, (h.bl.grown hg h.bl.size (fun g hg => by have := hr g hg; omega)).setCell (by simp; omega) _⟩
  · rw [List.length_append, cMbs_app, cMbs_cons]
    simp only [List.length_cons, List.length_nil]
    rw [show cMb x ++ cMbs [] = cMb x by simp [cMbs]]
    exact ownsRow_setCell_below ho (by simp) _
  · intro y hy
    rcases List.mem_append.1 hy with hy | hy
    · exact kk (h.each y hy)
    · obtain rfl := List.mem_singleton.1 hy; exact kk hx

theorem rows_nds {W : World} {lo : Nat} {v : Value} {L : List Mb} (h : W.ownsRow lo 42 9 v L.length (cMbs L)) (he : ∀ x ∈ L, W.ownsRow lo 9 1 x.vn x.N.nm.length (x.N.nm.map Value.string) ∧ W.ownsRow lo 3 1 x.vk x.N.ks.length (x.N.ks.map (Value.int .i64))) : NdsAt W v (L.map Mb.N) := by
  rcases own_zero_or h with ⟨hn, rfl⟩ | ⟨g, cap, rfl⟩
  · exact .inl ⟨by rw [List.eq_nil_of_length_eq_zero hn]; rfl, _, _, rfl⟩
  · refine .inr ⟨⟨g, 0, none⟩, cap, by rw [List.length_map], fun i N hN => ?_⟩
    rw [List.getElem?_map] at hN
    cases hx : L[i]? with
    | none => rw [hx] at hN; cases hN
    | some x =>
      rw [hx] at hN
      obtain rfl := Option.some.inj hN
      rw [add_zero9]
      obtain ⟨c0, c1, c2, c3, c4, c5, c6, c7, c8⟩ := row_cells h hx
      have hm := he x (List.mem_of_getElem? hx)
      exact ⟨x.vn, x.vk, c0, c1, c2, c3, c4, c5, c6, c7, c8, own_strs2 hm.1, own_ints2 hm.2⟩

set_option maxRecDepth 100000 in
set_option maxHeartbeats 6400000 in
theorem specBare_any (w : World) (v : Value) (ns : List Nd) (h : NdsAt w v ns) (hl : ns.length ≤ 1048576) (hN : ∀ N ∈ ns, N.nm.length ≤ 1048576 ∧ N.ks.length ≤ 1048576) :
    Calls Try.prog 8 #[.agg #[v]] w fun e w' => ∃ v', e = .returned (.agg #[v']) ∧ NdsAt w' v' (ns.map bareN) ∧ Below w.heap.size w w' := by
  obtain ⟨a, c, rfl⟩ := h.form
  have HS : Hid (∀ N ∈ ns, N.nm.length ≤ 1048576 ∧ N.ks.length ≤ 1048576) := hN
  obtain ⟨n, hn⟩ : ∃ n, ns.length = n := ⟨_, rfl⟩
  have HN : Hid (ns.length = n) := hn
  have HA : Hid (NdsAt w (.slice a n c) ns) := by rw [← hn]; exact h
  rw [hn] at hl ⊢
  clear h hN hn
  obtain ⟨i0, hi, hz0, hz1, hz2⟩ := info_parts infoNode
  go_enter Try.func8, Try.ntmps8
  go_wp2_with fail
  obtain ⟨W9, hW9⟩ : ∃ W9, ((w.alloc (.cells #[.slice a n c] 30)).alloc (.cells #[.slice none 0 0] 30)).alloc (.cells #[.slice none 0 0] 30) = W9 := ⟨_, rfl⟩
  have hs9 : W9.heap.size = w.heap.size + 1 + 1 + 1 := by rw [← hW9]; simp
  have st9 : BsSt w (.slice none 0 0) [] W9 := by
    rw [← hW9]
    refine ⟨?_, ?_, World.ownsRow_nil _ _ _ _, fun x hx => by simp at hx, (((Below.refl _ w).alloc (Nat.le_refl _) _).alloc (by simp) _).alloc (by simp; omega) _⟩
    · have := heap_alloc_new (w.alloc (.cells #[.slice a n c] 30)) (.cells #[.slice none 0 0] 30)
      rw [World.size_alloc] at this
      exact (Below.heap_alloc _ _ _ (by simp)).trans this
    · have := heap_alloc_new ((w.alloc (.cells #[.slice a n c] 30)).alloc (.cells #[.slice none 0 0] 30)) (.cells #[.slice none 0 0] 30)
      rw [World.size_alloc, World.size_alloc] at this
      exact this
  rw [hW9]
  clear hW9
  go_loopw [10] (fun vi wr => ∃ (k : Nat) (v : Value) (Q : List Mb), k ≤ n ∧ vi = .int .i64 k ∧ Q.length = k ∧ Hid (Q.map Mb.N = (ns.take k).map bareN) ∧ BsSt w v Q wr ∧ w.heap.size + 1 + 1 + 1 ≤ wr.heap.size) (fun vi _ => n - (intOf vi).toNat)
  case atStart => exact ⟨0, _, [], Nat.zero_le _, rfl, rfl, rfl, st9, by omega⟩
  case round =>
    obtain ⟨k, v, Q, hk, rfl, hQl, HQ, st, hsz⟩ := hrel
    clear st9 hs9
    by_cases hlt : k < n
    · obtain ⟨N, hsk⟩ := some_at HN.out hlt
      obtain ⟨hs1, hs2⟩ := HS.out N (List.mem_of_getElem? hsk)
      obtain ⟨a', rfl, vn, vk, hNd⟩ := (HA.out.below st.bl).get hsk
      have hki : (k : Int) < (n : Int) := by omega
      have hk0 : (0 : Int) ≤ (k : Int) := by omega
      obtain ⟨c0, c1, c2, c3, c4, c5, c6, c7, c8, hn, hkk⟩ := hNd
      obtain ⟨av, cv, rfl⟩ := hn.form
      obtain ⟨ak, ck, rfl⟩ := hkk.form
      have HSK : Hid ((ns.take (k + 1)).map bareN = (ns.take k).map bareN ++ [bareN N]) := by
        show _ = _
        rw [take_at hsk, List.map_append]; rfl
      have HNK : Hid (StrsAt wr (.slice av N.nm.length cv) N.nm ∧ IntsAt wr (.slice ak N.ks.length ck) N.ks) := ⟨hn, hkk⟩
      have HST : Hid (BsSt w v Q wr) := st
      clear hsk hn hkk st
      go_wp2_with (go_at_call 17; fail)
      obtain ⟨W2, hW2⟩ : ∃ W2, wr.alloc (.cells #[.int .i64 N.k, .int .i64 N.f, .int .i64 N.t, .int .i64 N.l, .int .i64 N.op, .int .i64 N.n, .string N.x, .slice av N.nm.length cv, .slice ak N.ks.length ck] 42) = W2 := ⟨_, rfl⟩
      have hb2 : Below wr.heap.size wr W2 := by rw [← hW2]; exact (Below.refl _ wr).alloc (Nat.le_refl _) _
      rw [hW2]
      clear hW2
      have kc := l2copy_any W2 N (.slice av N.nm.length cv) (.slice ak N.ks.length ck) (HNK.out.1.below hb2) (HNK.out.2.below hb2) hs1 hs2
      unfold vNd at kc
      refine kc.mono ?_
      rintro e w3 ⟨v7, v8, rfl, o7, o8, hb3⟩
      obtain ⟨a7, e7, rfl⟩ := own_form o7
      obtain ⟨a8, e8, rfl⟩ := own_form o8
      have hs3 : BsSt w v Q w3 := (HST.out.below hb2).below hb3
      have hsz2 := hb2.size
      have hsz3 := hb3.size
      have HO : Hid (w3.ownsRow (w.heap.size + 1 + 1 + 1) 9 1 (.slice a7 N.nm.length e7) N.nm.length (N.nm.map Value.string) ∧ w3.ownsRow (w.heap.size + 1 + 1 + 1) 3 1 (.slice a8 N.ks.length e8) N.ks.length (N.ks.map (Value.int .i64))) := ⟨own_le o7 (by omega), own_le o8 (by omega)⟩
      have HS3 : Hid (BsSt w v Q w3) := hs3
      have dx : w.heap.size + 1 + 1 < w3.heap.size := by omega
      have d3 : w3.cell? ⟨w.heap.size + 1 + 1, 0, none⟩ = some v := by rw [cell_of_row _ _ _ _ _ _ hs3.b3]; rfl
      obtain ⟨ax, cx, rfl⟩ := own_form hs3.row
      have HR3 : Hid (w3.ownsRow (w.heap.size + 1 + 1 + 1) 42 9 (.slice ax k cx) k (cMbs Q)) := by have := HS3.out.row; rw [hQl] at this; exact this
      rw [hQl] at d3 HS3
      have hb44 : ∀ o1 o2, Below w3.heap.size w3 ((w3.alloc o1).alloc o2) := fun o1 o2 => ((Below.refl _ w3).alloc (Nat.le_refl _) o1).alloc (by simp) o2
      clear c0 c1 c2 c3 c4 c5 c6 c7 c8 kc o7 o8 hs3
      go_wp2_with (at_builtin; refine wpList_append_own _ rfl _ _ 28 rfl (w.heap.size + 1 + 1 + 1) 42 i0 _ 9 112 Try.underlying28 hi hz0 hz1 hz2 rfl (by decide) _ _ _ rfl ((HR3.out.alloc _).alloc _) ⟨w3.heap.size + 1, 0, none⟩ 1 1 [.int .i64 N.k, .int .i64 0, .int .i64 0, .int .i64 0, .int .i64 N.op, .int .i64 N.n, .string N.x, .slice a7 N.nm.length e7, .slice a8 N.ks.length e8] rfl rfl (World.news_of_block (cs := #[.int .i64 N.k, .int .i64 0, .int .i64 0, .int .i64 0, .int .i64 N.op, .int .i64 N.n, .string N.x, .slice a7 N.nm.length e7, .slice a8 N.ks.length e8]) (fr := (0, 0)) (by have := heap_alloc_new (w3.alloc (.cells #[.int .i64 N.k, .int .i64 0, .int .i64 0, .int .i64 0, .int .i64 N.op, .int .i64 N.n, .string N.x, .slice a7 N.nm.length e7, .slice a8 N.ks.length e8] 42)) (.cells #[.int .i64 N.k, .int .i64 0, .int .i64 0, .int .i64 0, .int .i64 N.op, .int .i64 N.n, .string N.x, .slice a7 N.nm.length e7, .slice a8 N.ks.length e8] 42); rw [World.size_alloc] at this; exact this)) (by intro u hu; simp at hu; rcases hu with rfl | rfl | rfl | rfl | rfl | rfl | rfl | rfl | rfl <;> rfl) (by unfold maxLen; omega) (by omega) (by simp; omega) ?_; intro v' w5 ho5 hg5 hn5; obtain ⟨g', cap', rfl⟩ := ownsRow_succ ho5; obtain ⟨kb3, hst5⟩ := BsSt.appended (x := ⟨bareN N, .slice a7 N.nm.length e7, .slice a8 N.ks.length e8⟩) hQl (HS3.out.below (hb44 _ _)) ⟨own_keep HO.out.1 (hb44 _ _), own_keep HO.out.2 (hb44 _ _)⟩ ho5 hg5; have z7 : w5.cell? ⟨w.heap.size + 1 + 1, 0, none⟩ = some (.slice ax k cx) := by { rw [cell_of_row _ _ _ _ _ _ kb3]; rfl }; have zf : w5.frozen? ⟨w.heap.size + 1 + 1, 0, none⟩ = false := frozen_of_row _ _ _ _ _ kb3)
      have hsz5 := hg5.size
      rw [World.size_alloc, World.size_alloc] at hsz5
      have hsz6 : (w5.setCell ⟨w.heap.size + 1 + 1, 0, none⟩ (.slice (some ⟨g', 0, none⟩) (k + 1) cap')).heap.size = w5.heap.size := by simp [World.setCell]
      refine ⟨⟨k + 1, _, Q ++ [⟨bareN N, .slice a7 N.nm.length e7, .slice a8 N.ks.length e8⟩], by omega, by go_num, by simp [hQl], ?_, hst5, by omega⟩, by simp [intOf]; omega⟩
      show _ = _
      rw [HSK.out, List.map_append, HQ.out]; rfl
    · obtain rfl : k = n := by omega
      have HST : Hid (BsSt w v Q wr) := st
      have z0 : wr.cell? ⟨w.heap.size + 1, 0, none⟩ = some (.slice none 0 0) := by rw [cell_of_row _ _ _ _ _ _ st.b2]; rfl
      have zf : wr.frozen? ⟨w.heap.size + 1, 0, none⟩ = false := frozen_of_row _ _ _ _ _ st.b2
      have o0 : wr.cell? ⟨w.heap.size + 1 + 1, 0, none⟩ = some v := by rw [cell_of_row _ _ _ _ _ _ st.b3]; rfl
      have of : wr.frozen? ⟨w.heap.size + 1 + 1, 0, none⟩ = false := frozen_of_row _ _ _ _ _ st.b3
      obtain ⟨ax, cx, rfl⟩ := own_form st.row
      clear st
      go_wp2_with fail
      have st := HST.out
      have hq : Q.map Mb.N = ns.map bareN := by rw [HQ.out, List.take_of_length_le (by rw [HN.out]; exact Nat.le_refl _)]
      have hM : NdsAt (wr.setCell ⟨w.heap.size + 1, 0, none⟩ (.slice ax Q.length cx)) (.slice ax Q.length cx) (ns.map bareN) := by
        rw [← hq]
        exact rows_nds (ownsRow_setCell_below (a := ⟨w.heap.size + 1, 0, none⟩) st.row (by simp) _) fun x hx => ⟨ownsRow_setCell_below (a := ⟨w.heap.size + 1, 0, none⟩) (st.each x hx).1 (by simp) _, ownsRow_setCell_below (a := ⟨w.heap.size + 1, 0, none⟩) (st.each x hx).2 (by simp) _⟩
      rw [hQl] at hM
      exact bodyPost_ret (results_cell_row rfl _ _ (w.heap.size + 1) _ _ _ _ rfl (heap_setCell_same _ _ 0 _ _ _ st.b2) Try.underlying30 rfl (by kernel_rfl)) rfl ⟨_, rfl, hM, st.bl.setCell (by simp) _⟩
end Go.Proofs.Ytdaaiekepmlpoaa
