import Derived.Test.YtdgbmihokecmhaaGreatDoorMM31
import Derived.Test.YtdgbmihokecmhaaGreatDoorMM05
import Derived.Deep.Strs
import Derived.Deep.Slices
import Derived.ChangeSlices
import Derived.WideShapes
import Derived.OpenShut
import Derived.Test.YtdgbmihokecmhaaGreatDoorMM07
namespace Go.Proofs.YtdgbmihokecmhaaGreatDoor
open Go.RowKit
set_option linter.unusedVariables false

theorem markStringS_q (a : Int) (w : World) (l : List ByteArray) (K : Nat) (base : Nat) (v : Value) (ha : a = (K : Int)) (hK0 : 0 < K) (hK : K + l.length ≤ 50000000) (o : w.ownsRow base 9 1 v l.length (l.map Value.string)) :
    Calls Tryz.prog 36 #[v, .int .i64 a] w fun e w' => e = .returned (.int .i64 (K + l.length : Nat)) ∧ w'.ownsRow base 9 1 v l.length ((mks K l.length).map Value.string) ∧ w.grownBy w' v.ownBlock := by
  subst ha; exact markStringS_any w l K base v hK0 hK o
theorem markIntS_q (a : Int) (w : World) (l : List Int) (K : Nat) (base : Nat) (v : Value) (ha : a = (K : Int)) (hK0 : 0 < K) (hK : K + l.length ≤ 50000000) (o : w.ownsRow base 3 1 v l.length (l.map (Value.int .i64))) :
    Calls Tryz.prog 37 #[v, .int .i64 a] w fun e w' => e = .returned (.int .i64 (K + l.length : Nat)) ∧ w'.ownsRow base 3 1 v l.length ((mki K l.length).map (Value.int .i64)) ∧ w.grownBy w' v.ownBlock := by
  subst ha; exact markIntS_any w l K base v hK0 hK o
theorem drop_at {α : Type} {L : List α} {k : Nat} {x : α} (h : L[k]? = some x) : L.drop k = x :: L.drop (k + 1) := by
  have hk := (List.getElem?_eq_some_iff.1 h)
  rw [List.drop_eq_getElem_cons hk.1, hk.2]
theorem take_at {α : Type} {L : List α} {k : Nat} {x : α} (h : L[k]? = some x) : L.take (k + 1) = L.take k ++ [x] := by
  rw [List.take_add_one, h]; rfl
theorem get6 (X : List Value) (m : Nat) (u0 u1 u2 u3 u4 u5 : Value) (j : Nat) (hj : 6 ≤ j) : ((((((X.set m u0).set (m + 1) u1).set (m + 2) u2).set (m + 3) u3).set (m + 4) u4).set (m + 5) u5)[m + j]? = X[m + j]? := by
  rw [List.getElem?_set_ne (by omega), List.getElem?_set_ne (by omega), List.getElem?_set_ne (by omega), List.getElem?_set_ne (by omega), List.getElem?_set_ne (by omega), List.getElem?_set_ne (by omega)]

/-- A tree where one node, with its lists, is turned. -/
theorem MbsOwn.put {w w4 : World} {lo hi g n cap : Nat} {A B : List Mb} {x y : Mb} {k : Nat} (hA : A.length = k) (h : MbsOwn w lo hi (.slice (some ⟨g, 0, none⟩) n cap) (A ++ x :: B)) (hr : w4.ownsRow lo 67 9 (.slice (some ⟨g, 0, none⟩) n cap) n (cMbs (A ++ y :: B)))
    (hn : n = (A ++ x :: B).length) (hy : MbOwn w4 lo hi y) (hvn : y.vn = x.vn) (hvk : y.vk = x.vk) (ho : ∀ z, z ∈ A ∨ z ∈ B → MbOwn w4 lo hi z) : MbsOwn w4 lo hi (.slice (some ⟨g, 0, none⟩) n cap) (A ++ y :: B) := by
  refine ⟨?_, h.hh, ?_, ?_, ?_⟩
  · rw [show (A ++ y :: B).length = n by rw [hn]; simp]; exact hr
  · intro z hz
    rcases List.mem_append.1 hz with hz | hz
    · exact ho z (.inl hz)
    · rcases List.mem_cons.1 hz with rfl | hz
      · exact hy
      · exact ho z (.inr hz)
  · have := h.dn; rw [List.map_append, List.map_cons] at this ⊢; rw [hvn]; exact this
  · have := h.dk; rw [List.map_append, List.map_cons] at this ⊢; rw [hvk]; exact this
theorem Apart.mid {A B : List Value} {v : Value} (h : Apart (A ++ v :: B)) : ∀ z, z ∈ A ∨ z ∈ B → z.ownBlock = none ∨ z.ownBlock ≠ v.ownBlock := by
  intro z hz
  have hv : (A ++ v :: B)[A.length]? = some v := by simp
  rcases hz with hz | hz
  · obtain ⟨i, hi, e⟩ := List.getElem_of_mem hz
    exact h i A.length z v (by omega) (by rw [List.getElem?_append_left hi, List.getElem?_eq_getElem hi, e]) hv
  · obtain ⟨i, hi, e⟩ := List.getElem_of_mem hz
    exact h (A.length + 1 + i) A.length z v (by omega) (by rw [List.getElem?_append_right (by omega), show A.length + 1 + i - A.length = i + 1 by omega, List.getElem?_cons_succ, List.getElem?_eq_getElem hi, e]) hv
/-- Nodes beside the one that is turned keep their lists. -/
theorem MbOwn.past {w w3 w4 w5 : World} {lo hi g : Nat} {z x : Mb} {b s n : Nat} {xs : List Value} {vr : Value} (h : MbOwn w lo hi z) (hx : MbOwn w lo hi x) (hrow : w.ownsRow b 67 s vr n xs) (hvr : vr.ownBlock = some g)
    (h1 : z.vn.ownBlock = none ∨ z.vn.ownBlock ≠ x.vn.ownBlock) (h2 : z.vk.ownBlock = none ∨ z.vk.ownBlock ≠ x.vk.ownBlock) (g3 : w.grownBy w3 (some g)) (g4 : w3.grownBy w4 x.vn.ownBlock) (g5 : w4.grownBy w5 x.vk.ownBlock) : MbOwn w5 lo hi z := by
  have a1 : z.vn.ownBlock = none ∨ z.vn.ownBlock ≠ some g := by rw [← hvr]; exact own_apart2 h.on hrow (by decide)
  have a2 : z.vk.ownBlock = none ∨ z.vk.ownBlock ≠ some g := by rw [← hvr]; exact own_apart2 h.ok hrow (by decide)
  exact ⟨((h.on.kept g3 a1).kept g4 h1).kept g5 (own_apart2 h.on hx.ok (by decide)), ((h.ok.kept g3 a2).kept g4 (own_apart2 h.ok hx.on (by decide))).kept g5 h2, h.hn, h.hk⟩

set_option maxRecDepth 100000 in
set_option maxHeartbeats 6400000 in
theorem markNodeS_some (w : World) (L : List Mb) (K lo hi n g cap : Nat) (hK0 : 0 < K) (hK : cnt K (L.map Mb.N) ≤ 40000000) (hl : L.length = n) (hn : n ≤ 1048576) (o : MbsOwn w lo hi (.slice (some ⟨g, 0, none⟩) n cap) L) :
    Calls Tryz.prog 24 #[.slice (some ⟨g, 0, none⟩) n cap, .int .i64 K] w fun e w' => e = .returned (.int .i64 (cnt K (L.map Mb.N) : Nat)) ∧ MbsOwn w' lo hi (.slice (some ⟨g, 0, none⟩) n cap) (mkMs K L) ∧ Mid lo hi w w' := by
  have HK : Hid (cnt K (L.map Mb.N) ≤ 40000000) := hK
  clear hK
  go_enter Tryz.func24, Tryz.ntmps24
  go_wp2_with fail
  go_loopw [1, 5] (fun vk vi wr => ∃ k C : Nat, k ≤ n ∧ vi = .int .i64 k ∧ vk = .int .i64 C ∧ 0 < C ∧ Hid (cnt K ((L.take k).map Mb.N) = C) ∧ MbsOwn wr lo hi (.slice (some ⟨g, 0, none⟩) n cap) (mkMs K (L.take k) ++ L.drop k) ∧ Mid lo hi w wr) (fun _ vi _ => n - (intOf vi).toNat)
  case atStart => exact ⟨0, K, Nat.zero_le _, rfl, rfl, hK0, rfl, o, Mid.refl _ _ _⟩
  case round =>
    obtain ⟨k, C, hk, rfl, rfl, hC0, HC, ho, hm⟩ := hrel
    clear o
    by_cases hlt : k < n
    · have hki : (k : Int) < (n : Int) := by omega
      have hk0 : (0 : Int) ≤ (k : Int) := by omega
      obtain ⟨x, hx⟩ := some_at hl hlt
      have htk := take_at hx
      have hcn : cnt K ((L.take (k + 1)).map Mb.N) = nxt C x.N := by rw [htk, List.map_append, List.map_cons, List.map_nil, cnt_app, HC.out]
      have hnx : nxt C x.N ≤ 40000000 := by
        have h1 := cnt_take (L.map Mb.N) K (k + 1)
        rw [← List.map_take, hcn] at h1
        have := HK.out; omega
      have hA : (mkMs K (L.take k)).length = k := by rw [mkMs_len, List.length_take]; omega
      have hmk : mkMs K (L.take (k + 1)) = mkMs K (L.take k) ++ [⟨mkNd C x.N, x.vn, x.vk⟩] := by rw [htk, mkMs_app, HC.out]
      rw [drop_at hx] at ho
      have hln : n = (mkMs K (L.take k) ++ x :: L.drop (k + 1)).length := by rw [List.length_append, hA, List.length_cons, List.length_drop]; omega
      have hr : wr.ownsRow lo 67 9 (.slice (some ⟨g, 0, none⟩) n cap) n (cMbs (mkMs K (L.take k) ++ x :: L.drop (k + 1))) := by have := ho.row; rw [← hln] at this; exact this
      have hxx : (mkMs K (L.take k) ++ x :: L.drop (k + 1))[k]? = some x := by rw [List.getElem?_append_right (by omega), hA, Nat.sub_self]; rfl
      obtain ⟨c0, c1, c2, c3, c4, c5, c6, c7, c8⟩ := row_cells hr hxx
      have hm8 := cMbs_at _ k 8 x hxx (by omega)
      have hm7 := cMbs_at _ k 7 x hxx (by omega)
      have hm6 := cMbs_at _ k 6 x hxx (by omega)
      have hxo := ho.each x (by simp)
      have fz := fun j => hr.frozenAt j
      have hP : cMbs (mkMs K (L.take k) ++ x :: L.drop (k + 1)) = cMbs (mkMs K (L.take k)) ++ (cMb x ++ cMbs (L.drop (k + 1))) := by rw [cMbs_app, cMbs_cons]
      have hPl : (cMbs (mkMs K (L.take k))).length = k * 9 := by rw [cMbs_len, hA]
      have HX : Hid (mkMs K (L.take (k + 1)) = mkMs K (L.take k) ++ [⟨mkNd C x.N, x.vn, x.vk⟩] ∧ cnt K ((L.take (k + 1)).map Mb.N) = nxt C x.N ∧ (mkMs K (L.take k)).length = k ∧ cMbs (mkMs K (L.take k) ++ x :: L.drop (k + 1)) = cMbs (mkMs K (L.take k)) ++ (cMb x ++ cMbs (L.drop (k + 1))) ∧ n = (mkMs K (L.take k) ++ x :: L.drop (k + 1)).length) := ⟨hmk, hcn, hA, hP, hln⟩
      have HC2 : Hid (C + 7 + x.N.nm.length + x.N.ks.length ≤ 40000000) := hnx
      have hCb : C + 7 ≤ 40000000 := by unfold nxt at hnx; omega
      have o6 := ((((((hr.stored (k * 9) (.int .i64 (C : Int))).1.stored (k * 9 + 1) (.int .i64 ((C : Int) + 1))).1.stored (k * 9 + 2) (.int .i64 ((C : Int) + 1 + 1))).1.stored (k * 9 + 3) (.int .i64 ((C : Int) + 1 + 1 + 1))).1.stored (k * 9 + 4) (.int .i64 ((C : Int) + 1 + 1 + 1 + 1))).1.stored (k * 9 + 5) (.int .i64 ((C : Int) + 1 + 1 + 1 + 1 + 1))).1
      have km := fun w => markText_q ((C : Int) + 1 + 1 + 1 + 1 + 1 + 1) (C + 6) (by omega) (by omega) (by omega) w
      obtain ⟨N, vn, vk⟩ := x
      simp only at c0 c1 c2 c3 c4 c5 c6 c7 c8 hxo HC2
      obtain ⟨an, en, hvn⟩ := own_form hxo.on
      obtain ⟨ak, ek, hvk⟩ := own_form hxo.ok
      simp only at hvn hvk
      subst hvn hvk
      have HR : Hid (wr.ownsRow lo 67 9 (.slice (some ⟨g, 0, none⟩) n cap) n (cMbs (mkMs K (L.take k) ++ ⟨N, .slice an N.nm.length en, .slice ak N.ks.length ek⟩ :: L.drop (k + 1)))) := hr
      have HO : Hid (MbsOwn wr lo hi (.slice (some ⟨g, 0, none⟩) n cap) (mkMs K (L.take k) ++ ⟨N, .slice an N.nm.length en, .slice ak N.ks.length ek⟩ :: L.drop (k + 1))) := ho
      have HXO : Hid (MbOwn wr lo hi ⟨N, .slice an N.nm.length en, .slice ak N.ks.length ek⟩) := hxo
      obtain ⟨L1, hL1⟩ : ∃ m, N.nm.length = m := ⟨_, rfl⟩
      obtain ⟨L2, hL2⟩ : ∃ m, N.ks.length = m := ⟨_, rfl⟩
      have HLL : Hid (N.nm.length = L1 ∧ N.ks.length = L2) := ⟨hL1, hL2⟩
      rw [hL1] at c7
      rw [hL2] at c8
      have hm6' : (cMbs (mkMs K (L.take k) ++ ⟨N, .slice an N.nm.length en, .slice ak N.ks.length ek⟩ :: L.drop (k + 1)))[k * 9 + 6]? = some (.string N.x) := hm6
      have hm7' : (cMbs (mkMs K (L.take k) ++ ⟨N, .slice an N.nm.length en, .slice ak N.ks.length ek⟩ :: L.drop (k + 1)))[k * 9 + 7]? = some (.slice an L1 en) := by rw [← hL1]; exact hm7
      have hm8' : (cMbs (mkMs K (L.take k) ++ ⟨N, .slice an N.nm.length en, .slice ak N.ks.length ek⟩ :: L.drop (k + 1)))[k * 9 + 8]? = some (.slice ak L2 ek) := by rw [← hL2]; exact hm8
      clear hm6 hm7 hm8 hxo hr ho hL1 hL2 hmk hcn hA hP hln htk hnx hx hxx
      generalize cMbs (mkMs K (L.take k) ++ ⟨N, .slice an N.nm.length en, .slice ak N.ks.length ek⟩ :: L.drop (k + 1)) = X at o6 hm6' hm7' hm8' HR HX
      go_wp2_with (first | (go_at_call 25; refine (km _).mono ?_; rintro e w4 ⟨rfl, hb4⟩; have o7 := own_keep o6 hb4; have f7 := fun j => o7.frozenAt j; have d6 : w4.cell? ⟨g, k * 9 + 6, none⟩ = some (.string N.x) := (o7.cellAt _ (by omega)).trans ((get6 _ _ _ _ _ _ _ _ 6 (by omega)).trans hm6'); have d7 : w4.cell? ⟨g, k * 9 + 7, none⟩ = some (.slice an L1 en) := (o7.cellAt _ (by omega)).trans ((get6 _ _ _ _ _ _ _ _ 7 (by omega)).trans hm7')) | (go_at_call 36; fail))
      have o8 := (o7.stored (k * 9 + 6) (.string (mtI (C + 6)))).1
      have gW3 := grw_set (grw_trans (grw_set (grw_set (grw_set (grw_set (grw_set (grw_set (grw_refl wr (some g)) (k * 9) (.int .i64 (C : Int))) (k * 9 + 1) (.int .i64 ((C : Int) + 1))) (k * 9 + 2) (.int .i64 ((C : Int) + 1 + 1))) (k * 9 + 3) (.int .i64 ((C : Int) + 1 + 1 + 1))) (k * 9 + 4) (.int .i64 ((C : Int) + 1 + 1 + 1 + 1))) (k * 9 + 5) (.int .i64 ((C : Int) + 1 + 1 + 1 + 1 + 1))) (grw_below _ hb4)) (k * 9 + 6) (.string (mtI (C + 6)))
      clear o7 f7 d6 d7 hb4 c0 c1 c2 c3 c4 c5 c6 c7 c8 o6 fz km
      have hd8 : (((((((X.set (k * 9) (.int .i64 (C : Int))).set (k * 9 + 1) (.int .i64 ((C : Int) + 1))).set (k * 9 + 2) (.int .i64 ((C : Int) + 1 + 1))).set (k * 9 + 3) (.int .i64 ((C : Int) + 1 + 1 + 1))).set (k * 9 + 4) (.int .i64 ((C : Int) + 1 + 1 + 1 + 1))).set (k * 9 + 5) (.int .i64 ((C : Int) + 1 + 1 + 1 + 1 + 1))).set (k * 9 + 6) (.string (mtI (C + 6))))[k * 9 + 8]? = some (.slice ak L2 ek) := by
        rw [List.getElem?_set_ne (by omega)]; exact (get6 _ _ _ _ _ _ _ _ 8 (by omega)).trans hm8'
      generalize (w4.setCell ⟨g, k * 9 + 6, none⟩ (.string (mtI (C + 6)))) = W3 at o8 gW3 ⊢
      have hxo := HXO.out
      have on3 := hxo.on.kept gW3 (own_apart2 hxo.on HR.out (by decide))
      have ok3 := hxo.ok.kept gW3 (own_apart2 hxo.ok HR.out (by decide))
      obtain ⟨hL1, hL2⟩ := HLL.out
      have hC2 := HC2.out
      have ks := markStringS_q ((C : Int) + 1 + 1 + 1 + 1 + 1 + 1 + 1) W3 N.nm (C + 7) lo _ (by omega) (by omega) (by omega) on3
      simp only [hL1] at ks
      refine ks.mono ?_
      rintro e w5 ⟨rfl, on5, g5⟩
      have row5 := o8.kept g5 (by have := own_apart2 o8 on3 (by decide); simp only [hL1] at this; exact this)
      have ok5 := ok3.kept g5 (by have := own_apart2 ok3 on3 (by decide); simp only [hL1] at this; exact this)
      have d8 : w5.cell? ⟨g, k * 9 + 8, none⟩ = some (.slice ak L2 ek) := (row5.cellAt _ (by omega)).trans hd8
      obtain ⟨Z, hZ⟩ : ∃ Z : Int, ((C + 7 + L1 : Nat) : Int) = Z := ⟨_, rfl⟩
      have ki := markIntS_q Z w5 N.ks (C + 7 + L1) lo _ hZ.symm (by omega) (by omega) ok5
      simp only [hL2] at ki
      rw [hL1, hL2] at hC2
      have hZ1 : 0 ≤ Z := by omega
      have hZ2 : Z ≤ 40000000 := by omega
      rw [hZ]
      clear hL1 hL2 hZ
      go_wp2_with (go_at_call 37; fail)
      refine ki.mono ?_
      rintro e w6 ⟨rfl, ok6, g6⟩
      obtain ⟨Z6, hZ6⟩ : ∃ Z : Int, ((C + 7 + L1 + L2 : Nat) : Int) = Z := ⟨_, rfl⟩
      have hZ61 : 0 ≤ Z6 := by omega
      have hZ62 : Z6 ≤ 40000000 := by omega
      rw [hZ6]
      have HZ6 : Hid (((C + 7 + L1 + L2 : Nat) : Int) = Z6) := hZ6
      clear hZ6
      go_wp2_with fail
      obtain ⟨hmk, hcn, hA, hP, hln⟩ := HX.out
      obtain ⟨hL1, hL2⟩ := HLL.out
      have hho := HO.out
      have hPl : (cMbs (mkMs K (L.take k))).length = k * 9 := by rw [cMbs_len, hA]
      have row6 := row5.kept g6 (by have := own_apart2 row5 ok5 (by decide); rw [hL2] at this; exact this)
      have on6 := on5.kept g6 (by have := own_apart2 on5 ok5 (by decide); rw [hL2] at this; exact this)
      have hcz := HZ6.out
      have q1 : ((C + 1 : Nat) : Int) = (C : Int) + 1 := by omega
      have q2 : ((C + 2 : Nat) : Int) = (C : Int) + 1 + 1 := by omega
      have q3 : ((C + 3 : Nat) : Int) = (C : Int) + 1 + 1 + 1 := by omega
      have q4 : ((C + 4 : Nat) : Int) = (C : Int) + 1 + 1 + 1 + 1 := by omega
      have q5 : ((C + 5 : Nat) : Int) = (C : Int) + 1 + 1 + 1 + 1 + 1 := by omega
      rw [hP] at row6
      simp only [cMb] at row6
      rw [set7 _ _ _ hPl] at row6
      have ey : cMb ⟨mkNd C N, .slice an N.nm.length en, .slice ak N.ks.length ek⟩ = [.int .i64 (C : Int), .int .i64 ((C : Int) + 1), .int .i64 ((C : Int) + 1 + 1), .int .i64 ((C : Int) + 1 + 1 + 1), .int .i64 ((C : Int) + 1 + 1 + 1 + 1), .int .i64 ((C : Int) + 1 + 1 + 1 + 1 + 1), .string (mtI (C + 6)), .slice an N.nm.length en, .slice ak N.ks.length ek] := by
        simp only [cMb, mkNd, q1, q2, q3, q4, q5]
      rw [← ey, ← cMbs_cons, ← cMbs_app] at row6
      have hxo := HXO.out
      refine ⟨⟨k + 1, C + 7 + L1 + L2, by omega, by go_num, by rw [hcz], by omega, ?_, ?_, ?_⟩, by simp [intOf]; omega⟩
      · show _ = _; rw [hcn]; unfold nxt; simp only [hL1, hL2]
      · rw [hmk, List.append_assoc]
        refine MbsOwn.put hA hho row6 hln ⟨?_, ?_, hxo.hn, hxo.hk⟩ rfl rfl ?_
        · have h := on6
          show w6.ownsRow lo 9 1 (.slice an N.nm.length en) (mks (C + 7) N.nm.length).length ((mks (C + 7) N.nm.length).map Value.string)
          rw [mks_len, hL1]; exact h
        · have h := ok6
          show w6.ownsRow lo 3 1 (.slice ak N.ks.length ek) (mki (C + 7 + N.nm.length) N.ks.length).length ((mki (C + 7 + N.nm.length) N.ks.length).map (Value.int .i64))
          rw [mki_len, hL1, hL2]; exact h
        · intro z hz
          have hdn := hho.dn
          have hdk := hho.dk
          rw [List.map_append, List.map_cons] at hdn hdk
          have hzm : z ∈ mkMs K (L.take k) ++ ⟨N, .slice an N.nm.length en, .slice ak N.ks.length ek⟩ :: L.drop (k + 1) := by
            rcases hz with hz | hz
            · exact List.mem_append.2 (.inl hz)
            · exact List.mem_append.2 (.inr (List.mem_cons_of_mem _ hz))
          exact (hho.each z hzm).past (g := g) hxo HR.out rfl (Apart.mid hdn z.vn (hz.imp (fun h => List.mem_map_of_mem h) (fun h => List.mem_map_of_mem h))) (Apart.mid hdk z.vk (hz.imp (fun h => List.mem_map_of_mem h) (fun h => List.mem_map_of_mem h))) gW3 (by simp only [hL1]; exact g5) (by simp only [hL2]; exact g6)
      · refine ((hm.trans (Mid.of_grown gW3 ?_)).trans (Mid.of_grown g5 ?_)).trans (Mid.of_grown g6 ?_)
        · intro b hb; obtain rfl := Option.some.inj hb; exact ⟨(HR.out.lt g rfl).1, hho.hh g rfl⟩
        · intro b hb; exact ⟨(hxo.on.lt b (by rw [hL1]; exact hb)).1, hxo.hn b (by rw [hL1]; exact hb)⟩
        · intro b hb; exact ⟨(hxo.ok.lt b (by rw [hL2]; exact hb)).1, hxo.hk b (by rw [hL2]; exact hb)⟩
    · obtain rfl : k = n := by omega
      go_wp2_with fail
      go_ret
      refine ⟨by rw [List.take_of_length_le (by omega)] at HC; rw [HC.out]; rfl, ?_, hm⟩
      rw [List.drop_of_length_le (by omega), List.append_nil, List.take_of_length_le (by omega)] at ho
      exact ho
end Go.Proofs.YtdgbmihokecmhaaGreatDoor

namespace Go.Proofs.YtdgbmihokecmhaaGreatDoor
open Go.RowKit
set_option linter.unusedVariables false

def sumN : List Nd → Nat
  | [] => 0
  | N :: l => bulkN N + sumN l
theorem sumN_app (a b : List Nd) : sumN (a ++ b) = sumN a + sumN b := by
  induction a with
  | nil => simp [sumN]
  | cons x r ih => simp [sumN, ih]; omega
theorem sumN_take (l : List Nd) (k : Nat) (s : Nd) (h : l[k]? = some s) : sumN (l.take (k + 1)) = sumN (l.take k) + bulkN s := by
  rw [List.take_add_one, h, sumN_app]; simp [sumN]
theorem sumN_le (l : List Nd) (k : Nat) : sumN (l.take k) ≤ sumN l := by
  have h := sumN_app (l.take k) (l.drop k)
  rw [List.take_append_drop] at h
  omega
def bulkT (l : List Nd) : Nat := l.length + sumN l

set_option maxRecDepth 100000 in
set_option maxHeartbeats 1600000 in
theorem szNodeS_any (w : World) (v : Value) (l : List Nd) (left : Int) (h : NdsAt w v l) (hs : ∀ N ∈ l, NdLen N) (hl : l.length ≤ 9223372036854775807) (h0 : 0 ≤ left) (h1 : left ≤ 1048576) :
    Calls Tryz.prog 13 #[v, .int .i64 left] w fun e w' => e = .returned (.int .i64 (lessI left (bulkT l))) ∧ Below w.heap.size w w' := by
  obtain ⟨a, c, rfl⟩ := h.form
  obtain ⟨n, hn⟩ : ∃ n, l.length = n := ⟨_, rfl⟩
  have HN : Hid (l.length = n) := hn
  rw [hn] at hl ⊢
  by_cases g1 : left < (n : Int)
  · have hneg : left - (n : Int) < 0 := by omega
    have hb : ¬ ((bulkT l : Nat) : Int) ≤ left := by unfold bulkT; omega
    rw [lessI_no hb]
    clear hn HN
    go_enter Tryz.func13, Tryz.ntmps13
    go_wp2
    go_ret
    exact ⟨rfl, Below.refl _ _⟩
  · have hneg : ¬ left - (n : Int) < 0 := by omega
    have HS : Hid (∀ N ∈ l, NdLen N) := hs
    have HA : Hid (NdsAt w (.slice a n c) l) := by rw [← hn]; exact h
    clear hs h hn
    go_enter Tryz.func13, Tryz.ntmps13
    go_wp2_with fail
    go_loopw [1, 5] (fun vl vi wr => ∃ (k : Nat) (z : Int), k ≤ n ∧ vi = .int .i64 k ∧ vl = .int .i64 z ∧ 0 ≤ z ∧ z ≤ 1048576 ∧ Hid (z = left - (n : Int) - (sumN (l.take k) : Int)) ∧ Below w.heap.size w wr) (fun _ vi _ => n - (intOf vi).toNat)
    case atStart => exact ⟨0, left - n, by omega, rfl, rfl, by omega, by omega, by show _ = _; simp [sumN], Below.refl _ _⟩
    case round =>
      obtain ⟨k, z, hk, rfl, rfl, z0, z1, HZ, hb⟩ := hrel
      by_cases hlt : k < n
      · obtain ⟨N, hsk⟩ := some_at HN.out hlt
        have hss := HS.out N (List.mem_of_getElem? hsk)
        have hst := sumN_take l k N hsk
        have hle := sumN_le l (k + 1)
        obtain ⟨a', rfl, vn, vk, hNd⟩ := (HA.out.below hb).get hsk
        have hki : (k : Int) < (n : Int) := by omega
        have hk0 : (0 : Int) ≤ (k : Int) := by omega
        obtain ⟨c0, c1, c2, c3, c4, c5, c6, c7, c8, hn, hkk⟩ := hNd
        have kz := fun w hn hkk => szNode_any w N vn vk z hn hkk hss z0 z1
        obtain ⟨b, hB⟩ : ∃ b, bulkN N = b := ⟨_, rfl⟩
        rw [hB] at hst kz
        have HB : Hid (bulkN N = b) := hB
        obtain ⟨av, cv, rfl⟩ := hn.form
        obtain ⟨ak, ck, rfl⟩ := hkk.form
        unfold vNd at kz
        by_cases hfit : (b : Int) ≤ z
        · rw [lessI_yes hfit] at kz
          have hng : ¬ z - (b : Int) < 0 := by omega
          have HR : Hid (z - (b : Int) = left - (n : Int) - (sumN (l.take (k + 1)) : Int)) := by show _ = _; have := HZ.out; omega
          have kz' := kz wr hn hkk
          clear hst hle HZ hsk kz hB hn hkk hss
          go_wp2_with (go_at_call 26; refine kz'.mono ?_; rintro e w3 ⟨rfl, hb3⟩)
          exact ⟨⟨k + 1, z - b, by omega, by go_num, by go_num, by omega, by omega, HR, hb.trans (hb3.mono hb.size)⟩, by simp [intOf]; omega⟩
        · rw [lessI_no hfit] at kz
          have HR : Hid (lessI left (bulkT l) = -1) := by show _ = _; have := HZ.out; have := HN.out; exact lessI_no (by unfold bulkT; omega)
          have kz' := kz wr hn hkk
          clear hst hle HZ hsk kz hB hn hkk hss
          go_wp2_with (go_at_call 26; refine kz'.mono ?_; rintro e w3 ⟨rfl, hb3⟩)
          go_ret
          exact ⟨by rw [HR.out]; rfl, hb.trans (hb3.mono hb.size)⟩
      · obtain rfl : k = n := by omega
        have hz : z = lessI left (bulkT l) := by
          have := HZ.out
          have hn := HN.out
          rw [List.take_of_length_le (by omega)] at this
          rw [lessI_yes (by unfold bulkT; omega)]
          unfold bulkT; omega
        have HF : Hid (z = lessI left (bulkT l)) := hz
        clear hz
        go_wp2_with fail
        go_ret
        exact ⟨by rw [← HF.out]; rfl, hb⟩

set_option maxHeartbeats 800000 in
theorem szTree_any (w : World) (v : Value) (l : List Nd) (left : Int) (h : NdsAt w v l) (hs : ∀ N ∈ l, NdLen N) (hl : l.length ≤ 9223372036854775807) (h0 : 0 ≤ left) (h1 : left ≤ 1048576) :
    Calls Tryz.prog 4 #[.agg #[v], .int .i64 left] w fun e w' => e = .returned (.int .i64 (lessI left (bulkT l))) ∧ Below w.heap.size w w' := by
  have hb0 : ∀ o, Below w.heap.size w (w.alloc o) := fun o => (Below.refl _ w).alloc (Nat.le_refl _) o
  have kz := fun o => szNodeS_any (w.alloc o) v l left (h.below (hb0 o)) hs hl h0 h1
  obtain ⟨a, c, rfl⟩ := h.form
  generalize l.length = n at kz
  have f3 : ∃ R, lessI left (bulkT l) = R ∧ -1 ≤ R := ⟨_, rfl, by unfold lessI; split <;> omega⟩
  obtain ⟨R, hR, hR1⟩ := f3
  rw [hR] at kz ⊢
  clear hR h hs hl
  by_cases f4 : R < 0
  · obtain rfl : R = -1 := by omega
    go_enter Tryz.func4, Tryz.ntmps4
    go_wp2_with (go_at_call 13; refine (kz _).mono ?_; rintro e w3 ⟨rfl, hb3⟩)
    go_ret
    exact ⟨rfl, (hb0 _).trans (hb3.mono (by simp))⟩
  · go_enter Tryz.func4, Tryz.ntmps4
    go_wp2_with (go_at_call 13; refine (kz _).mono ?_; rintro e w3 ⟨rfl, hb3⟩)
    go_ret
    exact ⟨rfl, (hb0 _).trans (hb3.mono (by simp))⟩
end Go.Proofs.YtdgbmihokecmhaaGreatDoor

namespace Go.Proofs.YtdgbmihokecmhaaGreatDoor
open Go.ChangeShapes Go.WideShapes Go.ChangeAt Go.WideMaps Go.WideElems Go.RowKit Go.Deep
set_option linter.unusedVariables false

theorem int_wf {n : Int} (h : (Lit.int .i64 n).wf = true) : -9223372036854775808 ≤ n ∧ n ≤ 9223372036854775807 := bounds_i64 h
/-- A node's numbers are numbers of 64 bits. -/
structure NdInt (N : Nd) : Prop where
  k : -9223372036854775808 ≤ N.k ∧ N.k ≤ 9223372036854775807
  f : -9223372036854775808 ≤ N.f ∧ N.f ≤ 9223372036854775807
  t : -9223372036854775808 ≤ N.t ∧ N.t ≤ 9223372036854775807
  l : -9223372036854775808 ≤ N.l ∧ N.l ≤ 9223372036854775807
  op : -9223372036854775808 ≤ N.op ∧ N.op ≤ 9223372036854775807
  n : -9223372036854775808 ≤ N.n ∧ N.n ≤ 9223372036854775807
  ks : ∀ z ∈ N.ks, -9223372036854775808 ≤ z ∧ z ≤ 9223372036854775807
theorem strs_of_trod {H : Type} {enc : TypeId × Value → H} {W : World} {base fuel : Nat} {sp : Nat → Bool} {held : Bool} {v : Value} {y : DataW H × List MemPlace} (h : DataW.trod enc Tryz.prog W base sp held fuel 63 [v] = some y) :
    ∃ l, StrsAt W v l ∧ l.length ≤ 9223372036854775807 ∧ ∀ s ∈ l, s.size ≤ 9223372036854775807 := by
  rcases open_strs Tryz.underlying63 Tryz.underlying9 (by kernel_rfl) h with ⟨e, _⟩ | ⟨a, len, cap, m, Sx, e, hb, hl, hm, hmm, hx, hall⟩
  · simp only [List.cons.injEq, and_true] at e; subst e; exact ⟨[], .inl ⟨rfl, _, _, rfl⟩, by simp, by simp⟩
  · simp only [List.cons.injEq, and_true] at e; subst e
    have hlm : len ≤ m := by rw [hmm]; split <;> omega
    refine ⟨(List.range len).map Sx, .inr ⟨a, cap, by simp, fun j s hs => ?_⟩, by simp; unfold maxLen at hm; omega, fun s hs => ?_⟩
    · have hj : j < len := by have := (List.getElem?_eq_some_iff.1 hs).1; simpa using this
      have e : Sx j = s := by rw [List.getElem?_map, List.getElem?_range hj] at hs; exact Option.some.inj hs
      rw [← e]; exact (hall j (by omega)).1
    · obtain ⟨j, hj, rfl⟩ := List.mem_map.1 hs
      have := (hall j (by have := List.mem_range.1 hj; omega)).2
      unfold maxLen at this; omega
theorem ints_of_trod {H : Type} {enc : TypeId × Value → H} {W : World} {base fuel : Nat} {sp : Nat → Bool} {held : Bool} {v : Value} {y : DataW H × List MemPlace} (h : DataW.trod enc Tryz.prog W base sp held fuel 64 [v] = some y) :
    ∃ l, IntsAt W v l ∧ l.length ≤ 9223372036854775807 ∧ ∀ z ∈ l, -9223372036854775808 ≤ z ∧ z ≤ 9223372036854775807 := by
  rcases open_ints Tryz.underlying64 Tryz.underlying3 (by kernel_rfl) h with ⟨e, _⟩ | ⟨a, len, cap, zs, e, hb, hl, hm, hmm, hx, hall, hwf⟩
  · simp only [List.cons.injEq, and_true] at e; subst e; exact ⟨[], .inl ⟨rfl, _, _, rfl⟩, by simp, by simp⟩
  · simp only [List.cons.injEq, and_true] at e; subst e
    have hlm : len ≤ zs.length := by rw [hmm]; split <;> omega
    have hlt : (zs.take len).length = len := by rw [List.length_take]; omega
    refine ⟨zs.take len, .inr ⟨a, cap, by rw [hlt], fun j s hs => ?_⟩, by rw [hlt]; unfold maxLen at hm; omega, fun s hs => int_wf (hwf s (List.mem_of_mem_take hs))⟩
    have hj : j < len := by have := (List.getElem?_eq_some_iff.1 hs).1; omega
    rw [List.getElem?_take, if_pos hj] at hs
    rw [hall j (by omega)]
    simp [List.getD, hs]
theorem list9 {α : Type} {l : List α} (h : l.length = 9) : ∃ c0 c1 c2 c3 c4 c5 c6 c7 c8, l = [c0, c1, c2, c3, c4, c5, c6, c7, c8] := by
  match l, h with
  | [c0, c1, c2, c3, c4, c5, c6, c7, c8], _ => exact ⟨c0, c1, c2, c3, c4, c5, c6, c7, c8, rfl⟩
theorem add_pos (a : Addr) (j : Nat) (h : j ≠ 0) : a.add j = ⟨a.block, a.off + j, none⟩ := by unfold Addr.add; rw [if_neg h]

set_option maxRecDepth 100000 in
theorem nd_of_trod {H : Type} {enc : TypeId × Value → H} {W : World} {base b2 fuel : Nat} {sp : Nat → Bool} {held : Bool} {a : Addr} {cs : List Value} {y : DataW H × List MemPlace} (hc : W.cells? b2 a 9 = some cs) (h : DataW.trod enc Tryz.prog W base sp held fuel 66 cs = some y) :
    ∃ N vn vk, NdAt W a N vn vk ∧ NdLen N ∧ NdInt N := by
  obtain ⟨_, hlen, hcell⟩ := World.cells?_some hc
  obtain ⟨xs, m, _, hx, hl, hxl, hfl⟩ := DataW.trod_struct Tryz.underlying66 h
  obtain ⟨v0, v1, v2, v3, v4, v5, v6, v7, v8, rfl⟩ := list9 hlen
  have cI : Tryz.prog.cellsOf 3 = 1 := by kernel_rfl
  have cJ : Tryz.prog.cellsOf 2 = 1 := by kernel_rfl
  have cS : Tryz.prog.cellsOf 9 = 1 := by kernel_rfl
  have cN : Tryz.prog.cellsOf 63 = 1 := by kernel_rfl
  have cK : Tryz.prog.cellsOf 64 = 1 := by kernel_rfl
  obtain ⟨y0, y1, y2, y3, y4, y5, y6, y7, y8, rfl⟩ := list9 (hxl.trans (by kernel_rfl))
  have g0 := hfl 0 _ rfl
  have g1 := hfl 1 _ rfl
  have g2 := hfl 2 _ rfl
  have g3 := hfl 3 _ rfl
  have g4 := hfl 4 _ rfl
  have g5 := hfl 5 _ rfl
  have g6 := hfl 6 _ rfl
  have g7 := hfl 7 _ rfl
  have g8 := hfl 8 _ rfl
  simp [cI, cJ, cS, cN, cK] at g0 g1 g2 g3 g4 g5 g6 g7 g8
  obtain ⟨k, e0, _, w0⟩ := DataW.trod_int Tryz.underlying3 g0
  obtain ⟨f, e1, _, w1⟩ := DataW.trod_int Tryz.underlying3 g1
  obtain ⟨t, e2, _, w2⟩ := DataW.trod_int Tryz.underlying3 g2
  obtain ⟨l, e3, _, w3⟩ := DataW.trod_int Tryz.underlying3 g3
  obtain ⟨op, e4, _, w4⟩ := DataW.trod_int Tryz.underlying3 g4
  obtain ⟨n, e5, _, w5⟩ := DataW.trod_int Tryz.underlying2 g5
  obtain ⟨x, e6, _, w6⟩ := DataW.trod_string Tryz.underlying9 g6
  obtain ⟨nm, hnm, ln, sn⟩ := strs_of_trod g7
  obtain ⟨ks, hks, lk, sk⟩ := ints_of_trod g8
  simp only [List.cons.injEq, and_true] at e0 e1 e2 e3 e4 e5 e6
  subst e0 e1 e2 e3 e4 e5 e6
  have c0 := hcell 0 (by omega)
  have c1 := hcell 1 (by omega)
  have c2 := hcell 2 (by omega)
  have c3 := hcell 3 (by omega)
  have c4 := hcell 4 (by omega)
  have c5 := hcell 5 (by omega)
  have c6 := hcell 6 (by omega)
  have c7 := hcell 7 (by omega)
  have c8 := hcell 8 (by omega)
  rw [add_pos a _ (by omega)] at c1 c2 c3 c4 c5 c6 c7 c8
  refine ⟨⟨k, f, t, l, op, n, x, nm, ks⟩, v7, v8, ⟨?_, c1, c2, c3, c4, c5, c6, c7, c8, hnm, hks⟩, ⟨by unfold maxLen at w6; exact (by omega : x.size ≤ 9223372036854775807), sn, ln, lk⟩, ⟨int_wf w0, int_wf w1, int_wf w2, int_wf w3, int_wf w4, int_wf w5, sk⟩⟩
  have e : a.add 0 = a := by unfold Addr.add; rw [if_pos rfl]
  rw [e] at c0
  exact c0

theorem choose_list {α : Type} {p : Nat → α → Prop} : ∀ n, (∀ i, i < n → ∃ x, p i x) → ∃ l : List α, l.length = n ∧ ∀ i x, l[i]? = some x → p i x
  | 0, _ => ⟨[], rfl, fun i x h => by simp at h⟩
  | n + 1, h => by
    obtain ⟨l, hl, hp⟩ := choose_list n fun i hi => h i (by omega)
    obtain ⟨x, hx⟩ := h n (by omega)
    refine ⟨l ++ [x], by simp [hl], fun i y hy => ?_⟩
    rcases Nat.lt_or_ge i n with g | g
    · rw [List.getElem?_append_left (by omega)] at hy; exact hp i y hy
    · rw [List.getElem?_append_right (by omega), hl] at hy
      rcases Nat.eq_or_lt_of_le g with rfl | g
      · simp at hy; subst hy; exact hx
      · rw [List.getElem?_eq_none (by simp; omega)] at hy; cases hy

set_option maxRecDepth 100000 in
theorem nds_of_trod {H : Type} {enc : TypeId × Value → H} {W : World} {base fuel : Nat} {sp : Nat → Bool} {held : Bool} {v : Value} {y : DataW H × List MemPlace} (h : DataW.trod enc Tryz.prog W base sp held fuel 22 [v] = some y) :
    ∃ ns, NdsAt W v ns ∧ ns.length ≤ 9223372036854775807 ∧ (∀ N ∈ ns, NdLen N) ∧ ∀ N ∈ ns, NdInt N := by
  have cN : Tryz.prog.cellsOf 66 = 9 := by kernel_rfl
  rcases open_slice Tryz.underlying22 h with ⟨e, _⟩ | ⟨a, len, cap, m, n, D, Pl, e, hb, hl, hm, hmm, hx, hall⟩
  · simp only [List.cons.injEq, and_true] at e; subst e; exact ⟨[], .inl ⟨rfl, _, _, rfl⟩, by simp, by simp, by simp⟩
  · simp only [List.cons.injEq, and_true] at e; subst e
    have hlm : len ≤ m := by rw [hmm]; split <;> omega
    obtain ⟨ns, hns, hp⟩ := choose_list (p := fun i N => (∃ vn vk, NdAt W (a.add (i * 9)) N vn vk) ∧ NdLen N ∧ NdInt N) len fun i hi => by
      obtain ⟨cs', h1, h2⟩ := hall i (by omega)
      rw [cN] at h1
      obtain ⟨N, vn, vk, h3, h4, h5⟩ := nd_of_trod h1 h2
      exact ⟨N, ⟨vn, vk, h3⟩, h4, h5⟩
    refine ⟨ns, .inr ⟨a, cap, by rw [hns], fun i N hN => (hp i N hN).1⟩, by rw [hns]; unfold maxLen at hm; omega, fun N hN => ?_, fun N hN => ?_⟩
    · obtain ⟨i, hi, e⟩ := List.getElem_of_mem hN
      exact (hp i N (by rw [List.getElem?_eq_getElem hi, e])).2.1
    · obtain ⟨i, hi, e⟩ := List.getElem_of_mem hN
      exact (hp i N (by rw [List.getElem?_eq_getElem hi, e])).2.2

set_option maxRecDepth 100000 in
theorem tree_of {H : Type} {enc : TypeId × Value → H} {W : World} {b0 base : Nat} {sp : Nat → Bool} {held : Bool} {v : Value} {d : DataW H} {p : List MemPlace} (hv : Value.okWide Tryz.prog W .any b0 24 v) (h : DataW.Trod enc Tryz.prog W base sp held 24 v d p) :
    ∃ u ns, v = .agg #[u] ∧ NdsAt W u ns ∧ ns.length ≤ 9223372036854775807 ∧ (∀ N ∈ ns, NdLen N) ∧ ∀ N ∈ ns, NdInt N := by
  obtain ⟨cs, rfl, hsz⟩ := okWide_struct Tryz.underlying24 hv
  obtain ⟨l⟩ := cs
  have hl1 : l.length = 1 := hsz.trans (by kernel_rfl)
  match l, hl1 with
  | [u], _ =>
    obtain ⟨fuel, hf⟩ := h
    obtain ⟨xs, m, _, hx, hl, hlen, hfl⟩ := DataW.trod_struct Tryz.underlying24 hf
    have cN : Tryz.prog.cellsOf 22 = 1 := by kernel_rfl
    match xs, hlen with
    | [y0], _ =>
      have g0 := hfl 0 _ rfl
      simp [Value.cells, cN] at g0
      obtain ⟨ns, h1, h2, h3, h4⟩ := nds_of_trod g0
      exact ⟨u, ns, rfl, h1, h2, h3, h4⟩
end Go.Proofs.YtdgbmihokecmhaaGreatDoor

namespace Go.Proofs.YtdgbmihokecmhaaGreatDoor
open Go.RowKit
set_option linter.unusedVariables false

theorem toTree_m (w : World) (v : Value) (l : List Nd) (h : NdsAt w v l) (hl : l.length ≤ 1048576) (hN : ∀ N ∈ l, N.nm.length ≤ 1048576 ∧ N.ks.length ≤ 1048576) :
    Calls Tryz.prog 6 #[.agg #[v]] w fun e w' => ∃ v' L, e = .returned (.agg #[v']) ∧ L.map Mb.N = l ∧ MbsOwn w' w.heap.size w'.heap.size v' L ∧ Below w.heap.size w w' := by
  refine (toTree_any w v l h hl hN).mono ?_
  rintro e w' ⟨g, rfl, ⟨L, hL, ho⟩, hb⟩
  exact ⟨_, _, rfl, by rw [List.map_map]; exact hL, ho.mbs, hb⟩
theorem mem_sumS {l : List ByteArray} {s : ByteArray} (h : s ∈ l) : s.size ≤ sumS l := by
  induction l with
  | nil => simp at h
  | cons a r ih =>
    rcases List.mem_cons.1 h with rfl | h
    · simp [sumS]
    · have := ih h; simp [sumS]; omega
theorem mem_sumN {l : List Nd} {N : Nd} (h : N ∈ l) : bulkN N ≤ sumN l := by
  induction l with
  | nil => simp at h
  | cons a r ih =>
    rcases List.mem_cons.1 h with rfl | h
    · simp [sumN]
    · have := ih h; simp [sumN]; omega
theorem cnt_le (l : List Nd) : ∀ K, cnt K l ≤ K + 7 * l.length + sumN l := by
  induction l with
  | nil => intro K; simp [cnt]
  | cons N r ih =>
    intro K
    have := ih (nxt K N)
    simp only [cnt, sumN, List.length_cons]
    unfold nxt bulkN bulkS at *
    omega
/-- What the law lets by: all is short. -/
structure Short (ns : List Nd) : Prop where
  l : ns.length ≤ 1048576
  n : ∀ N ∈ ns, N.nm.length ≤ 1048576 ∧ N.ks.length ≤ 1048576
  a : ∀ N ∈ ns, N.nm.length ≤ 1048576 ∧ N.ks.length ≤ 1048576 ∧ N.x.size ≤ 1048576 ∧ ∀ s ∈ N.nm, s.size ≤ 1048576
  c : cnt 1 ns ≤ 40000000
theorem short_of {ns : List Nd} (h : bulkT ns ≤ 1048576) : Short ns := by
  unfold bulkT at h
  have ha : ∀ N ∈ ns, N.nm.length ≤ 1048576 ∧ N.ks.length ≤ 1048576 ∧ N.x.size ≤ 1048576 ∧ ∀ s ∈ N.nm, s.size ≤ 1048576 := fun N hN => by
    have h1 := mem_sumN hN
    unfold bulkN bulkS at h1
    refine ⟨by omega, by omega, by omega, fun s hs => ?_⟩
    have := mem_sumS hs
    omega
  refine ⟨by omega, fun N hN => ⟨(ha N hN).1, (ha N hN).2.1⟩, ha, ?_⟩
  have := cnt_le ns 1
  omega
end Go.Proofs.YtdgbmihokecmhaaGreatDoor

namespace Go.Proofs.YtdgbmihokecmhaaGreatDoor
open Go.RowKit
set_option linter.unusedVariables false

set_option maxHeartbeats 800000 in
theorem markNodeS_none (w : World) (K : Nat) (a1 : Option Addr) (c1 : Nat) :
    Calls Tryz.prog 24 #[.slice a1 0 c1, .int .i64 K] w fun e w' => e = .returned (.int .i64 K) ∧ w' = w := by
  go_enter Tryz.func24, Tryz.ntmps24
  go_wp2_with fail
  refine wp_loop_rounds 1 ?_
  rw [rounds_succ]
  go_wp2
  go_ret
  exact ⟨rfl, rfl⟩
theorem markNodeS_any (w : World) (L : List Mb) (K lo hi : Nat) (v : Value) (hK0 : 0 < K) (hK : cnt K (L.map Mb.N) ≤ 40000000) (hn : L.length ≤ 1048576) (o : MbsOwn w lo hi v L) :
    Calls Tryz.prog 24 #[v, .int .i64 K] w fun e w' => e = .returned (.int .i64 (cnt K (L.map Mb.N) : Nat)) ∧ MbsOwn w' lo hi v (mkMs K L) ∧ Mid lo hi w w' := by
  rcases own_zero_or o.row with ⟨h0, rfl⟩ | ⟨g, cap, rfl⟩
  · obtain rfl : L = [] := List.eq_nil_of_length_eq_zero h0
    refine (markNodeS_none w K none 0).mono ?_
    rintro e w' ⟨rfl, rfl⟩
    exact ⟨rfl, o, Mid.refl _ _ _⟩
  · exact markNodeS_some w L K lo hi _ g cap hK0 hK rfl hn o
set_option maxHeartbeats 800000 in
theorem markTree_any (w : World) (L : List Mb) (lo hi : Nat) (v : Value) (hK : cnt 1 (L.map Mb.N) ≤ 40000000) (hn : L.length ≤ 1048576) (hhi : hi ≤ w.heap.size) (o : MbsOwn w lo hi v L) :
    Calls Tryz.prog 10 #[.agg #[v], .int .i64 1] w fun e w' => e = .returned (.int .i64 (cnt 1 (L.map Mb.N) : Nat)) ∧ MbsOwn w' lo hi v (mkMs 1 L) ∧ Mid lo hi w w' := by
  have hb0 : ∀ o, Below w.heap.size w (w.alloc o) := fun o => (Below.refl _ w).alloc (Nat.le_refl _) o
  have km := fun ob => markNodeS_any (w.alloc ob) L 1 lo hi v (by omega) hK hn (o.below (hb0 ob))
  obtain ⟨a, c, rfl⟩ := own_form o.row
  generalize cnt 1 (L.map Mb.N) = R at km hK
  generalize L.length = n at km
  go_enter Tryz.func10, Tryz.ntmps10
  go_wp2_with (go_at_call 24; refine (km _).mono ?_; rintro e w4 ⟨rfl, o4, hg4⟩)
  go_ret
  refine ⟨rfl, o4, hg4.os, hg4.tape, hg4.output, Nat.le_trans (by simp) hg4.size, fun k hk hne => (hg4.block k (by simp; omega) hne).trans (Below.heap_alloc w _ k hk)⟩

end Go.Proofs.YtdgbmihokecmhaaGreatDoor
