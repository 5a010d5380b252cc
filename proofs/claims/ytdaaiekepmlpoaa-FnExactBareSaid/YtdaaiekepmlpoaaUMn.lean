import Derived.Test.YtdaaiekepmlpoaaUMk
namespace Go.Proofs.Ytdaaiekepmlpoaa
open Go.RowKit
set_option linter.unusedVariables false

theorem markStringS_q (a : Int) (w : World) (l : List ByteArray) (K : Nat) (base : Nat) (v : Value) (ha : a = (K : Int)) (hK0 : 0 < K) (hK : K + l.length ≤ 50000000) (o : w.ownsRow base 9 1 v l.length (l.map Value.string)) :
    Calls Try.prog 32 #[v, .int .i64 a] w fun e w' => e = .returned (.int .i64 (K + l.length : Nat)) ∧ w'.ownsRow base 9 1 v l.length ((mks K l.length).map Value.string) ∧ w.grownBy w' v.ownBlock := by
  subst ha; exact markStringS_any w l K base v hK0 hK o
theorem markIntS_q (a : Int) (w : World) (l : List Int) (K : Nat) (base : Nat) (v : Value) (ha : a = (K : Int)) (hK0 : 0 < K) (hK : K + l.length ≤ 50000000) (o : w.ownsRow base 3 1 v l.length (l.map (Value.int .i64))) :
    Calls Try.prog 33 #[v, .int .i64 a] w fun e w' => e = .returned (.int .i64 (K + l.length : Nat)) ∧ w'.ownsRow base 3 1 v l.length ((mki K l.length).map (Value.int .i64)) ∧ w.grownBy w' v.ownBlock := by
  subst ha; exact markIntS_any w l K base v hK0 hK o
theorem heldStringS_q (a : Int) (w : World) (v : Value) (K n : Nat) (ha : a = (K : Int)) (hK0 : 0 < K) (hK : K + n ≤ 50000000) (h : StrsAt w v (mks K n)) :
    Calls Try.prog 34 #[v, .int .i64 a] w fun e w' => e = .returned (.int .i64 (K + n : Nat)) ∧ Below w.heap.size w w' := by
  subst ha; exact heldStringS_any w v K n hK0 hK h
theorem heldIntS_q (a : Int) (w : World) (v : Value) (K n : Nat) (ha : a = (K : Int)) (hK0 : 0 < K) (hK : K + n ≤ 50000000) (h : IntsAt w v (mki K n)) :
    Calls Try.prog 35 #[v, .int .i64 a] w fun e w' => e = .returned (.int .i64 (K + n : Nat)) ∧ w' = w := by
  subst ha; exact heldIntS_any w v K n hK0 hK h

theorem drop_at {α : Type} {L : List α} {k : Nat} {x : α} (h : L[k]? = some x) : L.drop k = x :: L.drop (k + 1) := by
  have hk := (List.getElem?_eq_some_iff.1 h)
  rw [List.drop_eq_getElem_cons hk.1, hk.2]
theorem take_at {α : Type} {L : List α} {k : Nat} {x : α} (h : L[k]? = some x) : L.take (k + 1) = L.take k ++ [x] := by
  rw [List.take_add_one, h]; rfl
theorem get6 (X : List Value) (m : Nat) (u0 u1 u2 u3 u4 u5 : Value) (j : Nat) (hj : 6 ≤ j) : ((((((X.set m u0).set (m + 1) u1).set (m + 2) u2).set (m + 3) u3).set (m + 4) u4).set (m + 5) u5)[m + j]? = X[m + j]? := by
  rw [List.getElem?_set_ne (by omega), List.getElem?_set_ne (by omega), List.getElem?_set_ne (by omega), List.getElem?_set_ne (by omega), List.getElem?_set_ne (by omega), List.getElem?_set_ne (by omega)]

/-- A tree where one node, with its lists, is turned. -/
theorem MbsOwn.put {w w4 : World} {lo hi g n cap : Nat} {A B : List Mb} {x y : Mb} {k : Nat} (hA : A.length = k) (h : MbsOwn w lo hi (.slice (some ⟨g, 0, none⟩) n cap) (A ++ x :: B)) (hr : w4.ownsRow lo 42 9 (.slice (some ⟨g, 0, none⟩) n cap) n (cMbs (A ++ y :: B)))
    (hn : n = (A ++ x :: B).length) (hy : MbOwn w4 lo hi y) (hvn : y.vn = x.vn) (hvk : y.vk = x.vk) (ho : ∀ z, z ∈ A ∨ z ∈ B → MbOwn w4 lo hi z) : MbsOwn w4 lo hi (.slice (some ⟨g, 0, none⟩) n cap) (A ++ y :: B) := by
  refine ⟨?_, h.hh, ?_, ?_, ?_⟩
  · rw [show (A ++ y :: B).length = n by rw [hn]; simp]; exact hr
  · intro z hz
    rcases List.mem_append.1 hz with hz | hz
    · exact ho z (.inl hz)
    · rcases List.mem_cons.1 hz with rfl | hz
      · exact hy
      · exact ho z (.inr hz)
  · have := h.dn; rw [List.map_append, List.map_cons] at this ⊢; rw [hvn]; exact this
  · have := h.dk; rw [List.map_append, List.map_cons] at this ⊢; rw [hvk]; exact this
theorem Apart.mid {A B : List Value} {v : Value} (h : Apart (A ++ v :: B)) : ∀ z, z ∈ A ∨ z ∈ B → z.ownBlock = none ∨ z.ownBlock ≠ v.ownBlock := by
  intro z hz
  have hv : (A ++ v :: B)[A.length]? = some v := by simp
  rcases hz with hz | hz
  · obtain ⟨i, hi, e⟩ := List.getElem_of_mem hz
    exact h i A.length z v (by omega) (by rw [List.getElem?_append_left hi, List.getElem?_eq_getElem hi, e]) hv
  · obtain ⟨i, hi, e⟩ := List.getElem_of_mem hz
    exact h (A.length + 1 + i) A.length z v (by omega) (by rw [List.getElem?_append_right (by omega), show A.length + 1 + i - A.length = i + 1 by omega, List.getElem?_cons_succ, List.getElem?_eq_getElem hi, e]) hv
/-- Nodes beside the one that is turned keep their lists. -/
theorem MbOwn.past {w w3 w4 w5 : World} {lo hi g : Nat} {z x : Mb} {b s n : Nat} {xs : List Value} {vr : Value} (h : MbOwn w lo hi z) (hx : MbOwn w lo hi x) (hrow : w.ownsRow b 42 s vr n xs) (hvr : vr.ownBlock = some g)
    (h1 : z.vn.ownBlock = none ∨ z.vn.ownBlock ≠ x.vn.ownBlock) (h2 : z.vk.ownBlock = none ∨ z.vk.ownBlock ≠ x.vk.ownBlock) (g3 : w.grownBy w3 (some g)) (g4 : w3.grownBy w4 x.vn.ownBlock) (g5 : w4.grownBy w5 x.vk.ownBlock) : MbOwn w5 lo hi z := by
  have a1 : z.vn.ownBlock = none ∨ z.vn.ownBlock ≠ some g := by rw [← hvr]; exact own_apart2 h.on hrow (by decide)
  have a2 : z.vk.ownBlock = none ∨ z.vk.ownBlock ≠ some g := by rw [← hvr]; exact own_apart2 h.ok hrow (by decide)
  exact ⟨((h.on.kept g3 a1).kept g4 h1).kept g5 (own_apart2 h.on hx.ok (by decide)), ((h.ok.kept g3 a2).kept g4 (own_apart2 h.ok hx.on (by decide))).kept g5 h2, h.hn, h.hk⟩

set_option maxRecDepth 100000 in
set_option maxHeartbeats 6400000 in
theorem markNodeS_some (w : World) (L : List Mb) (K lo hi n g cap : Nat) (hK0 : 0 < K) (hK : cnt K (L.map Mb.N) ≤ 40000000) (hl : L.length = n) (hn : n ≤ 1048576) (o : MbsOwn w lo hi (.slice (some ⟨g, 0, none⟩) n cap) L) :
    Calls Try.prog 24 #[.slice (some ⟨g, 0, none⟩) n cap, .int .i64 K] w fun e w' => e = .returned (.int .i64 (cnt K (L.map Mb.N) : Nat)) ∧ MbsOwn w' lo hi (.slice (some ⟨g, 0, none⟩) n cap) (mkMs K L) ∧ Mid lo hi w w' := by
  have HK : Hid (cnt K (L.map Mb.N) ≤ 40000000) := hK
  clear hK
  go_enter Try.func24, Try.ntmps24
  go_wp2_with fail
  go_loopw [1, 5] (fun vk vi wr => ∃ k C : Nat, k ≤ n ∧ vi = .int .i64 k ∧ vk = .int .i64 C ∧ 0 < C ∧ Hid (cnt K ((L.take k).map Mb.N) = C) ∧ MbsOwn wr lo hi (.slice (some ⟨g, 0, none⟩) n cap) (mkMs K (L.take k) ++ L.drop k) ∧ Mid lo hi w wr) (fun _ vi _ => n - (intOf vi).toNat)
  case atStart => exact ⟨0, K, Nat.zero_le _, rfl, rfl, hK0, rfl, o, Mid.refl _ _ _⟩
  case round =>
    obtain ⟨k, C, hk, rfl, rfl, hC0, HC, ho, hm⟩ := hrel
    clear o
    by_cases hlt : k < n
    · have hki : (k : Int) < (n : Int) := by omega
      have hk0 : (0 : Int) ≤ (k : Int) := by omega
      obtain ⟨x, hx⟩ := some_at hl hlt
      have htk := take_at hx
      have hcn : cnt K ((L.take (k + 1)).map Mb.N) = nxt C x.N := by rw [htk, List.map_append, List.map_cons, List.map_nil, cnt_app, HC.out]
      have hnx : nxt C x.N ≤ 40000000 := by
        have h1 := cnt_take (L.map Mb.N) K (k + 1)
        rw [← List.map_take, hcn] at h1
        have := HK.out; omega
      have hA : (mkMs K (L.take k)).length = k := by rw [mkMs_len, List.length_take]; omega
      have hmk : mkMs K (L.take (k + 1)) = mkMs K (L.take k) ++ [⟨mkNd C x.N, x.vn, x.vk⟩] := by rw [htk, mkMs_app, HC.out]
      rw [drop_at hx] at ho
      have hln : n = (mkMs K (L.take k) ++ x :: L.drop (k + 1)).length := by rw [List.length_append, hA, List.length_cons, List.length_drop]; omega
      have hr : wr.ownsRow lo 42 9 (.slice (some ⟨g, 0, none⟩) n cap) n (cMbs (mkMs K (L.take k) ++ x :: L.drop (k + 1))) := by have := ho.row; rw [← hln] at this; exact this
      have hxx : (mkMs K (L.take k) ++ x :: L.drop (k + 1))[k]? = some x := by rw [List.getElem?_append_right (by omega), hA, Nat.sub_self]; rfl
      obtain ⟨c0, c1, c2, c3, c4, c5, c6, c7, c8⟩ := row_cells hr hxx
      have hm8 := cMbs_at _ k 8 x hxx (by omega)
      have hm7 := cMbs_at _ k 7 x hxx (by omega)
      have hm6 := cMbs_at _ k 6 x hxx (by omega)
      have hxo := ho.each x (by simp)
      have fz := fun j => hr.frozenAt j
      have hP : cMbs (mkMs K (L.take k) ++ x :: L.drop (k + 1)) = cMbs (mkMs K (L.take k)) ++ (cMb x ++ cMbs (L.drop (k + 1))) := by rw [cMbs_app, cMbs_cons]
      have hPl : (cMbs (mkMs K (L.take k))).length = k * 9 := by rw [cMbs_len, hA]
      have HX : Hid (mkMs K (L.take (k + 1)) = mkMs K (L.take k) ++ [⟨mkNd C x.N, x.vn, x.vk⟩] ∧ cnt K ((L.take (k + 1)).map Mb.N) = nxt C x.N ∧ (mkMs K (L.take k)).length = k ∧ cMbs (mkMs K (L.take k) ++ x :: L.drop (k + 1)) = cMbs (mkMs K (L.take k)) ++ (cMb x ++ cMbs (L.drop (k + 1))) ∧ n = (mkMs K (L.take k) ++ x :: L.drop (k + 1)).length) := ⟨hmk, hcn, hA, hP, hln⟩
      have HC2 : Hid (C + 7 + x.N.nm.length + x.N.ks.length ≤ 40000000) := hnx
      have hCb : C + 7 ≤ 40000000 := by unfold nxt at hnx; omega
      have o6 := ((((((hr.stored (k * 9) (.int .i64 (C : Int))).1.stored (k * 9 + 1) (.int .i64 ((C : Int) + 1))).1.stored (k * 9 + 2) (.int .i64 ((C : Int) + 1 + 1))).1.stored (k * 9 + 3) (.int .i64 ((C : Int) + 1 + 1 + 1))).1.stored (k * 9 + 4) (.int .i64 ((C : Int) + 1 + 1 + 1 + 1))).1.stored (k * 9 + 5) (.int .i64 ((C : Int) + 1 + 1 + 1 + 1 + 1))).1
      have km := fun w => markText_q ((C : Int) + 1 + 1 + 1 + 1 + 1 + 1) (C + 6) (by omega) (by omega) (by omega) w
      obtain ⟨N, vn, vk⟩ := x
      simp only at c0 c1 c2 c3 c4 c5 c6 c7 c8 hxo HC2
      obtain ⟨an, en, hvn⟩ := own_form hxo.on
      obtain ⟨ak, ek, hvk⟩ := own_form hxo.ok
      simp only at hvn hvk
      subst hvn hvk
      have HR : Hid (wr.ownsRow lo 42 9 (.slice (some ⟨g, 0, none⟩) n cap) n (cMbs (mkMs K (L.take k) ++ ⟨N, .slice an N.nm.length en, .slice ak N.ks.length ek⟩ :: L.drop (k + 1)))) := hr
      have HO : Hid (MbsOwn wr lo hi (.slice (some ⟨g, 0, none⟩) n cap) (mkMs K (L.take k) ++ ⟨N, .slice an N.nm.length en, .slice ak N.ks.length ek⟩ :: L.drop (k + 1))) := ho
      have HXO : Hid (MbOwn wr lo hi ⟨N, .slice an N.nm.length en, .slice ak N.ks.length ek⟩) := hxo
      obtain ⟨L1, hL1⟩ : ∃ m, N.nm.length = m := ⟨_, rfl⟩
      obtain ⟨L2, hL2⟩ : ∃ m, N.ks.length = m := ⟨_, rfl⟩
      have HLL : Hid (N.nm.length = L1 ∧ N.ks.length = L2) := ⟨hL1, hL2⟩
      rw [hL1] at c7
      rw [hL2] at c8
      have hm6' : (cMbs (mkMs K (L.take k) ++ ⟨N, .slice an N.nm.length en, .slice ak N.ks.length ek⟩ :: L.drop (k + 1)))[k * 9 + 6]? = some (.string N.x) := hm6
      have hm7' : (cMbs (mkMs K (L.take k) ++ ⟨N, .slice an N.nm.length en, .slice ak N.ks.length ek⟩ :: L.drop (k + 1)))[k * 9 + 7]? = some (.slice an L1 en) := by rw [← hL1]; exact hm7
      have hm8' : (cMbs (mkMs K (L.take k) ++ ⟨N, .slice an N.nm.length en, .slice ak N.ks.length ek⟩ :: L.drop (k + 1)))[k * 9 + 8]? = some (.slice ak L2 ek) := by rw [← hL2]; exact hm8
      clear hm6 hm7 hm8 hxo hr ho hL1 hL2 hmk hcn hA hP hln htk hnx hx hxx
      generalize cMbs (mkMs K (L.take k) ++ ⟨N, .slice an N.nm.length en, .slice ak N.ks.length ek⟩ :: L.drop (k + 1)) = X at o6 hm6' hm7' hm8' HR HX
      go_wp2_with (first | (go_at_call 31; refine (km _).mono ?_; rintro e w4 ⟨rfl, hb4⟩; have o7 := own_keep o6 hb4; have f7 := fun j => o7.frozenAt j; have d6 : w4.cell? ⟨g, k * 9 + 6, none⟩ = some (.string N.x) := (o7.cellAt _ (by omega)).trans ((get6 _ _ _ _ _ _ _ _ 6 (by omega)).trans hm6'); have d7 : w4.cell? ⟨g, k * 9 + 7, none⟩ = some (.slice an L1 en) := (o7.cellAt _ (by omega)).trans ((get6 _ _ _ _ _ _ _ _ 7 (by omega)).trans hm7')) | (go_at_call 32; fail))
      have o8 := (o7.stored (k * 9 + 6) (.string (mtI (C + 6)))).1
      have gW3 := grw_set (grw_trans (grw_set (grw_set (grw_set (grw_set (grw_set (grw_set (grw_refl wr (some g)) (k * 9) (.int .i64 (C : Int))) (k * 9 + 1) (.int .i64 ((C : Int) + 1))) (k * 9 + 2) (.int .i64 ((C : Int) + 1 + 1))) (k * 9 + 3) (.int .i64 ((C : Int) + 1 + 1 + 1))) (k * 9 + 4) (.int .i64 ((C : Int) + 1 + 1 + 1 + 1))) (k * 9 + 5) (.int .i64 ((C : Int) + 1 + 1 + 1 + 1 + 1))) (grw_below _ hb4)) (k * 9 + 6) (.string (mtI (C + 6)))
      clear o7 f7 d6 d7 hb4 c0 c1 c2 c3 c4 c5 c6 c7 c8 o6 fz km
      have hd8 : (((((((X.set (k * 9) (.int .i64 (C : Int))).set (k * 9 + 1) (.int .i64 ((C : Int) + 1))).set (k * 9 + 2) (.int .i64 ((C : Int) + 1 + 1))).set (k * 9 + 3) (.int .i64 ((C : Int) + 1 + 1 + 1))).set (k * 9 + 4) (.int .i64 ((C : Int) + 1 + 1 + 1 + 1))).set (k * 9 + 5) (.int .i64 ((C : Int) + 1 + 1 + 1 + 1 + 1))).set (k * 9 + 6) (.string (mtI (C + 6))))[k * 9 + 8]? = some (.slice ak L2 ek) := by
        rw [List.getElem?_set_ne (by omega)]; exact (get6 _ _ _ _ _ _ _ _ 8 (by omega)).trans hm8'
      generalize (w4.setCell ⟨g, k * 9 + 6, none⟩ (.string (mtI (C + 6)))) = W3 at o8 gW3 ⊢
      have hxo := HXO.out
      have on3 := hxo.on.kept gW3 (own_apart2 hxo.on HR.out (by decide))
      have ok3 := hxo.ok.kept gW3 (own_apart2 hxo.ok HR.out (by decide))
      obtain ⟨hL1, hL2⟩ := HLL.out
      have hC2 := HC2.out
      have ks := markStringS_q ((C : Int) + 1 + 1 + 1 + 1 + 1 + 1 + 1) W3 N.nm (C + 7) lo _ (by omega) (by omega) (by omega) on3
      simp only [hL1] at ks
      refine ks.mono ?_
      rintro e w5 ⟨rfl, on5, g5⟩
      have row5 := o8.kept g5 (by have := own_apart2 o8 on3 (by decide); simp only [hL1] at this; exact this)
      have ok5 := ok3.kept g5 (by have := own_apart2 ok3 on3 (by decide); simp only [hL1] at this; exact this)
      have d8 : w5.cell? ⟨g, k * 9 + 8, none⟩ = some (.slice ak L2 ek) := (row5.cellAt _ (by omega)).trans hd8
      obtain ⟨Z, hZ⟩ : ∃ Z : Int, ((C + 7 + L1 : Nat) : Int) = Z := ⟨_, rfl⟩
      have ki := markIntS_q Z w5 N.ks (C + 7 + L1) lo _ hZ.symm (by omega) (by omega) ok5
      simp only [hL2] at ki
      rw [hL1, hL2] at hC2
      have hZ1 : 0 ≤ Z := by omega
      have hZ2 : Z ≤ 40000000 := by omega
      rw [hZ]
      clear hL1 hL2 hZ
      go_wp2_with (go_at_call 33; fail)
      refine ki.mono ?_
      rintro e w6 ⟨rfl, ok6, g6⟩
      obtain ⟨Z6, hZ6⟩ : ∃ Z : Int, ((C + 7 + L1 + L2 : Nat) : Int) = Z := ⟨_, rfl⟩
      have hZ61 : 0 ≤ Z6 := by omega
      have hZ62 : Z6 ≤ 40000000 := by omega
      rw [hZ6]
      have HZ6 : Hid (((C + 7 + L1 + L2 : Nat) : Int) = Z6) := hZ6
      clear hZ6
      go_wp2_with fail
      obtain ⟨hmk, hcn, hA, hP, hln⟩ := HX.out
      obtain ⟨hL1, hL2⟩ := HLL.out
      have hho := HO.out
      have hPl : (cMbs (mkMs K (L.take k))).length = k * 9 := by rw [cMbs_len, hA]
      have row6 := row5.kept g6 (by have := own_apart2 row5 ok5 (by decide); rw [hL2] at this; exact this)
      have on6 := on5.kept g6 (by have := own_apart2 on5 ok5 (by decide); rw [hL2] at this; exact this)
      have hcz := HZ6.out
      have q1 : ((C + 1 : Nat) : Int) = (C : Int) + 1 := by omega
      have q2 : ((C + 2 : Nat) : Int) = (C : Int) + 1 + 1 := by omega
      have q3 : ((C + 3 : Nat) : Int) = (C : Int) + 1 + 1 + 1 := by omega
      have q4 : ((C + 4 : Nat) : Int) = (C : Int) + 1 + 1 + 1 + 1 := by omega
      have q5 : ((C + 5 : Nat) : Int) = (C : Int) + 1 + 1 + 1 + 1 + 1 := by omega
      rw [hP] at row6
      simp only [cMb] at row6
      rw [set7 _ _ _ hPl] at row6
      have ey : cMb ⟨mkNd C N, .slice an N.nm.length en, .slice ak N.ks.length ek⟩ = [.int .i64 (C : Int), .int .i64 ((C : Int) + 1), .int .i64 ((C : Int) + 1 + 1), .int .i64 ((C : Int) + 1 + 1 + 1), .int .i64 ((C : Int) + 1 + 1 + 1 + 1), .int .i64 ((C : Int) + 1 + 1 + 1 + 1 + 1), .string (mtI (C + 6)), .slice an N.nm.length en, .slice ak N.ks.length ek] := by
        simp only [cMb, mkNd, q1, q2, q3, q4, q5]
      rw [← ey, ← cMbs_cons, ← cMbs_app] at row6
      have hxo := HXO.out
      refine ⟨⟨k + 1, C + 7 + L1 + L2, by omega, by go_num, by rw [hcz], by omega, ?_, ?_, ?_⟩, by simp [intOf]; omega⟩
      · show _ = _; rw [hcn]; unfold nxt; simp only [hL1, hL2]
      · rw [hmk, List.append_assoc]
        refine MbsOwn.put hA hho row6 hln ⟨?_, ?_, hxo.hn, hxo.hk⟩ rfl rfl ?_
        · have h := on6
          show w6.ownsRow lo 9 1 (.slice an N.nm.length en) (mks (C + 7) N.nm.length).length ((mks (C + 7) N.nm.length).map Value.string)
          rw [mks_len, hL1]; exact h
        · have h := ok6
          show w6.ownsRow lo 3 1 (.slice ak N.ks.length ek) (mki (C + 7 + N.nm.length) N.ks.length).length ((mki (C + 7 + N.nm.length) N.ks.length).map (Value.int .i64))
          rw [mki_len, hL1, hL2]; exact h
        · intro z hz
          have hdn := hho.dn
          have hdk := hho.dk
          rw [List.map_append, List.map_cons] at hdn hdk
          have hzm : z ∈ mkMs K (L.take k) ++ ⟨N, .slice an N.nm.length en, .slice ak N.ks.length ek⟩ :: L.drop (k + 1) := by
            rcases hz with hz | hz
            · exact List.mem_append.2 (.inl hz)
            · exact List.mem_append.2 (.inr (List.mem_cons_of_mem _ hz))
          exact (hho.each z hzm).past (g := g) hxo HR.out rfl (Apart.mid hdn z.vn (hz.imp (fun h => List.mem_map_of_mem h) (fun h => List.mem_map_of_mem h))) (Apart.mid hdk z.vk (hz.imp (fun h => List.mem_map_of_mem h) (fun h => List.mem_map_of_mem h))) gW3 (by simp only [hL1]; exact g5) (by simp only [hL2]; exact g6)
      · refine ((hm.trans (Mid.of_grown gW3 ?_)).trans (Mid.of_grown g5 ?_)).trans (Mid.of_grown g6 ?_)
        · intro b hb; obtain rfl := Option.some.inj hb; exact ⟨(HR.out.lt g rfl).1, hho.hh g rfl⟩
        · intro b hb; exact ⟨(hxo.on.lt b (by rw [hL1]; exact hb)).1, hxo.hn b (by rw [hL1]; exact hb)⟩
        · intro b hb; exact ⟨(hxo.ok.lt b (by rw [hL2]; exact hb)).1, hxo.hk b (by rw [hL2]; exact hb)⟩
    · obtain rfl : k = n := by omega
      go_wp2_with fail
      go_ret
      refine ⟨by rw [List.take_of_length_le (by omega)] at HC; rw [HC.out]; rfl, ?_, hm⟩
      rw [List.drop_of_length_le (by omega), List.append_nil, List.take_of_length_le (by omega)] at ho
      exact ho
end Go.Proofs.Ytdaaiekepmlpoaa
