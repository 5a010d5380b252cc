import Derived.Test.YtcnhhhfedakepaaGreatDoorMM32
import Derived.Test.YtcnhhhfedakepaaGreatDoorMM09
import Derived.Test.YtcnhhhfedakepaaGreatDoorMM06
import Derived.Test.YtcnhhhfedakepaaGreatDoorMM10
import Derived.Test.YtcnhhhfedakepaaGreatDoorMM21
import Derived.Test.YtcnhhhfedakepaaGreatDoorMM05
import Derived.Test.YtcnhhhfedakepaaGreatDoorTie
import Derived.Test.YtcnhhhfedakepaaGreatDoorCards
import Derived.SevenTiedAt
import Derived.Lib.SmallJoins
namespace Go.Proofs.YtcnhhhfedakepaaGreatDoor
open Go.RowKit
set_option linter.unusedVariables false

theorem markStringS_q (a : Int) (w : World) (l : List ByteArray) (K : Nat) (base : Nat) (v : Value) (ha : a = (K : Int)) (hK0 : 0 < K) (hK : K + l.length ≤ 50000000) (o : w.ownsRow base 9 1 v l.length (l.map Value.string)) :
    Calls Tryz.prog 44 #[v, .int .i64 a] w fun e w' => e = .returned (.int .i64 (K + l.length : Nat)) ∧ w'.ownsRow base 9 1 v l.length ((mks K l.length).map Value.string) ∧ w.grownBy w' v.ownBlock := by
  subst ha; exact markStringS_any w l K base v hK0 hK o
theorem markIntS_q (a : Int) (w : World) (l : List Int) (K : Nat) (base : Nat) (v : Value) (ha : a = (K : Int)) (hK0 : 0 < K) (hK : K + l.length ≤ 50000000) (o : w.ownsRow base 3 1 v l.length (l.map (Value.int .i64))) :
    Calls Tryz.prog 45 #[v, .int .i64 a] w fun e w' => e = .returned (.int .i64 (K + l.length : Nat)) ∧ w'.ownsRow base 3 1 v l.length ((mki K l.length).map (Value.int .i64)) ∧ w.grownBy w' v.ownBlock := by
  subst ha; exact markIntS_any w l K base v hK0 hK o
theorem drop_at {α : Type} {L : List α} {k : Nat} {x : α} (h : L[k]? = some x) : L.drop k = x :: L.drop (k + 1) := by
  have hk := (List.getElem?_eq_some_iff.1 h)
  rw [List.drop_eq_getElem_cons hk.1, hk.2]
theorem take_at {α : Type} {L : List α} {k : Nat} {x : α} (h : L[k]? = some x) : L.take (k + 1) = L.take k ++ [x] := by
  rw [List.take_add_one, h]; rfl
theorem get6 (X : List Value) (m : Nat) (u0 u1 u2 u3 u4 u5 : Value) (j : Nat) (hj : 6 ≤ j) : ((((((X.set m u0).set (m + 1) u1).set (m + 2) u2).set (m + 3) u3).set (m + 4) u4).set (m + 5) u5)[m + j]? = X[m + j]? := by
  rw [List.getElem?_set_ne (by omega), List.getElem?_set_ne (by omega), List.getElem?_set_ne (by omega), List.getElem?_set_ne (by omega), List.getElem?_set_ne (by omega), List.getElem?_set_ne (by omega)]

/-- A tree where one node, with its lists, is turned. -/
theorem MbsOwn.put {w w4 : World} {lo hi g n cap : Nat} {A B : List Mb} {x y : Mb} {k : Nat} (hA : A.length = k) (h : MbsOwn w lo hi (.slice (some ⟨g, 0, none⟩) n cap) (A ++ x :: B)) (hr : w4.ownsRow lo 67 9 (.slice (some ⟨g, 0, none⟩) n cap) n (cMbs (A ++ y :: B)))
    (hn : n = (A ++ x :: B).length) (hy : MbOwn w4 lo hi y) (hvn : y.vn = x.vn) (hvk : y.vk = x.vk) (ho : ∀ z, z ∈ A ∨ z ∈ B → MbOwn w4 lo hi z) : MbsOwn w4 lo hi (.slice (some ⟨g, 0, none⟩) n cap) (A ++ y :: B) := by
  refine ⟨?_, h.hh, ?_, ?_, ?_⟩
  · rw [show (A ++ y :: B).length = n by rw [hn]; simp]; exact hr
  · intro z hz
    rcases List.mem_append.1 hz with hz | hz
    · exact ho z (.inl hz)
    · rcases List.mem_cons.1 hz with rfl | hz
      · exact hy
      · exact ho z (.inr hz)
  · have := h.dn; rw [List.map_append, List.map_cons] at this ⊢; rw [hvn]; exact this
  · have := h.dk; rw [List.map_append, List.map_cons] at this ⊢; rw [hvk]; exact this
theorem Apart.mid {A B : List Value} {v : Value} (h : Apart (A ++ v :: B)) : ∀ z, z ∈ A ∨ z ∈ B → z.ownBlock = none ∨ z.ownBlock ≠ v.ownBlock := by
  intro z hz
  have hv : (A ++ v :: B)[A.length]? = some v := by simp
  rcases hz with hz | hz
  · obtain ⟨i, hi, e⟩ := List.getElem_of_mem hz
    exact h i A.length z v (by omega) (by rw [List.getElem?_append_left hi, List.getElem?_eq_getElem hi, e]) hv
  · obtain ⟨i, hi, e⟩ := List.getElem_of_mem hz
    exact h (A.length + 1 + i) A.length z v (by omega) (by rw [List.getElem?_append_right (by omega), show A.length + 1 + i - A.length = i + 1 by omega, List.getElem?_cons_succ, List.getElem?_eq_getElem hi, e]) hv
/-- Nodes beside the one that is turned keep their lists. -/
theorem MbOwn.past {w w3 w4 w5 : World} {lo hi g : Nat} {z x : Mb} {b s n : Nat} {xs : List Value} {vr : Value} (h : MbOwn w lo hi z) (hx : MbOwn w lo hi x) (hrow : w.ownsRow b 67 s vr n xs) (hvr : vr.ownBlock = some g)
    (h1 : z.vn.ownBlock = none ∨ z.vn.ownBlock ≠ x.vn.ownBlock) (h2 : z.vk.ownBlock = none ∨ z.vk.ownBlock ≠ x.vk.ownBlock) (g3 : w.grownBy w3 (some g)) (g4 : w3.grownBy w4 x.vn.ownBlock) (g5 : w4.grownBy w5 x.vk.ownBlock) : MbOwn w5 lo hi z := by
  have a1 : z.vn.ownBlock = none ∨ z.vn.ownBlock ≠ some g := by rw [← hvr]; exact own_apart2 h.on hrow (by decide)
  have a2 : z.vk.ownBlock = none ∨ z.vk.ownBlock ≠ some g := by rw [← hvr]; exact own_apart2 h.ok hrow (by decide)
  exact ⟨((h.on.kept g3 a1).kept g4 h1).kept g5 (own_apart2 h.on hx.ok (by decide)), ((h.ok.kept g3 a2).kept g4 (own_apart2 h.ok hx.on (by decide))).kept g5 h2, h.hn, h.hk⟩

set_option maxRecDepth 100000 in
set_option maxHeartbeats 6400000 in
theorem markNodeS_some (w : World) (L : List Mb) (K lo hi n g cap : Nat) (hK0 : 0 < K) (hK : cnt K (L.map Mb.N) ≤ 40000000) (hl : L.length = n) (hn : n ≤ 1048576) (o : MbsOwn w lo hi (.slice (some ⟨g, 0, none⟩) n cap) L) :
    Calls Tryz.prog 27 #[.slice (some ⟨g, 0, none⟩) n cap, .int .i64 K] w fun e w' => e = .returned (.int .i64 (cnt K (L.map Mb.N) : Nat)) ∧ MbsOwn w' lo hi (.slice (some ⟨g, 0, none⟩) n cap) (mkMs K L) ∧ Mid lo hi w w' := by
  have HK : Hid (cnt K (L.map Mb.N) ≤ 40000000) := hK
  clear hK
  go_enter Tryz.func27, Tryz.ntmps27
  go_wp2_with fail
  go_loopw [1, 5] (fun vk vi wr => ∃ k C : Nat, k ≤ n ∧ vi = .int .i64 k ∧ vk = .int .i64 C ∧ 0 < C ∧ Hid (cnt K ((L.take k).map Mb.N) = C) ∧ MbsOwn wr lo hi (.slice (some ⟨g, 0, none⟩) n cap) (mkMs K (L.take k) ++ L.drop k) ∧ Mid lo hi w wr) (fun _ vi _ => n - (intOf vi).toNat)
  case atStart => exact ⟨0, K, Nat.zero_le _, rfl, rfl, hK0, rfl, o, Mid.refl _ _ _⟩
  case round =>
    obtain ⟨k, C, hk, rfl, rfl, hC0, HC, ho, hm⟩ := hrel
    clear o
    by_cases hlt : k < n
    · have hki : (k : Int) < (n : Int) := by omega
      have hk0 : (0 : Int) ≤ (k : Int) := by omega
      obtain ⟨x, hx⟩ := some_at hl hlt
      have htk := take_at hx
      have hcn : cnt K ((L.take (k + 1)).map Mb.N) = nxt C x.N := by rw [htk, List.map_append, List.map_cons, List.map_nil, cnt_app, HC.out]
      have hnx : nxt C x.N ≤ 40000000 := by
        have h1 := cnt_take (L.map Mb.N) K (k + 1)
        rw [← List.map_take, hcn] at h1
        have := HK.out; omega
      have hA : (mkMs K (L.take k)).length = k := by rw [mkMs_len, List.length_take]; omega
      have hmk : mkMs K (L.take (k + 1)) = mkMs K (L.take k) ++ [⟨mkNd C x.N, x.vn, x.vk⟩] := by rw [htk, mkMs_app, HC.out]
      rw [drop_at hx] at ho
      have hln : n = (mkMs K (L.take k) ++ x :: L.drop (k + 1)).length := by rw [List.length_append, hA, List.length_cons, List.length_drop]; omega
      have hr : wr.ownsRow lo 67 9 (.slice (some ⟨g, 0, none⟩) n cap) n (cMbs (mkMs K (L.take k) ++ x :: L.drop (k + 1))) := by have := ho.row; rw [← hln] at this; exact this
      have hxx : (mkMs K (L.take k) ++ x :: L.drop (k + 1))[k]? = some x := by rw [List.getElem?_append_right (by omega), hA, Nat.sub_self]; rfl
      obtain ⟨c0, c1, c2, c3, c4, c5, c6, c7, c8⟩ := row_cells hr hxx
      have hm8 := cMbs_at _ k 8 x hxx (by omega)
      have hm7 := cMbs_at _ k 7 x hxx (by omega)
      have hm6 := cMbs_at _ k 6 x hxx (by omega)
      have hxo := ho.each x (by simp)
      have fz := fun j => hr.frozenAt j
      have hP : cMbs (mkMs K (L.take k) ++ x :: L.drop (k + 1)) = cMbs (mkMs K (L.take k)) ++ (cMb x ++ cMbs (L.drop (k + 1))) := by rw [cMbs_app, cMbs_cons]
      have hPl : (cMbs (mkMs K (L.take k))).length = k * 9 := by rw [cMbs_len, hA]
      have HX : Hid (mkMs K (L.take (k + 1)) = mkMs K (L.take k) ++ [⟨mkNd C x.N, x.vn, x.vk⟩] ∧ cnt K ((L.take (k + 1)).map Mb.N) = nxt C x.N ∧ (mkMs K (L.take k)).length = k ∧ cMbs (mkMs K (L.take k) ++ x :: L.drop (k + 1)) = cMbs (mkMs K (L.take k)) ++ (cMb x ++ cMbs (L.drop (k + 1))) ∧ n = (mkMs K (L.take k) ++ x :: L.drop (k + 1)).length) := ⟨hmk, hcn, hA, hP, hln⟩
      have HC2 : Hid (C + 7 + x.N.nm.length + x.N.ks.length ≤ 40000000) := hnx
      have hCb : C + 7 ≤ 40000000 := by unfold nxt at hnx; omega
      have o6 := ((((((hr.stored (k * 9) (.int .i64 (C : Int))).1.stored (k * 9 + 1) (.int .i64 ((C : Int) + 1))).1.stored (k * 9 + 2) (.int .i64 ((C : Int) + 1 + 1))).1.stored (k * 9 + 3) (.int .i64 ((C : Int) + 1 + 1 + 1))).1.stored (k * 9 + 4) (.int .i64 ((C : Int) + 1 + 1 + 1 + 1))).1.stored (k * 9 + 5) (.int .i64 ((C : Int) + 1 + 1 + 1 + 1 + 1))).1
      have km := fun w => markText_q ((C : Int) + 1 + 1 + 1 + 1 + 1 + 1) (C + 6) (by omega) (by omega) (by omega) w
      obtain ⟨N, vn, vk⟩ := x
      simp only at c0 c1 c2 c3 c4 c5 c6 c7 c8 hxo HC2
      obtain ⟨an, en, hvn⟩ := own_form hxo.on
      obtain ⟨ak, ek, hvk⟩ := own_form hxo.ok
      simp only at hvn hvk
      subst hvn hvk
      have HR : Hid (wr.ownsRow lo 67 9 (.slice (some ⟨g, 0, none⟩) n cap) n (cMbs (mkMs K (L.take k) ++ ⟨N, .slice an N.nm.length en, .slice ak N.ks.length ek⟩ :: L.drop (k + 1)))) := hr
      have HO : Hid (MbsOwn wr lo hi (.slice (some ⟨g, 0, none⟩) n cap) (mkMs K (L.take k) ++ ⟨N, .slice an N.nm.length en, .slice ak N.ks.length ek⟩ :: L.drop (k + 1))) := ho
      have HXO : Hid (MbOwn wr lo hi ⟨N, .slice an N.nm.length en, .slice ak N.ks.length ek⟩) := hxo
      obtain ⟨L1, hL1⟩ : ∃ m, N.nm.length = m := ⟨_, rfl⟩
      obtain ⟨L2, hL2⟩ : ∃ m, N.ks.length = m := ⟨_, rfl⟩
      have HLL : Hid (N.nm.length = L1 ∧ N.ks.length = L2) := ⟨hL1, hL2⟩
      rw [hL1] at c7
      rw [hL2] at c8
      have hm6' : (cMbs (mkMs K (L.take k) ++ ⟨N, .slice an N.nm.length en, .slice ak N.ks.length ek⟩ :: L.drop (k + 1)))[k * 9 + 6]? = some (.string N.x) := hm6
      have hm7' : (cMbs (mkMs K (L.take k) ++ ⟨N, .slice an N.nm.length en, .slice ak N.ks.length ek⟩ :: L.drop (k + 1)))[k * 9 + 7]? = some (.slice an L1 en) := by rw [← hL1]; exact hm7
      have hm8' : (cMbs (mkMs K (L.take k) ++ ⟨N, .slice an N.nm.length en, .slice ak N.ks.length ek⟩ :: L.drop (k + 1)))[k * 9 + 8]? = some (.slice ak L2 ek) := by rw [← hL2]; exact hm8
      clear hm6 hm7 hm8 hxo hr ho hL1 hL2 hmk hcn hA hP hln htk hnx hx hxx
      generalize cMbs (mkMs K (L.take k) ++ ⟨N, .slice an N.nm.length en, .slice ak N.ks.length ek⟩ :: L.drop (k + 1)) = X at o6 hm6' hm7' hm8' HR HX
      go_wp2_with (first | (go_at_call 28; refine (km _).mono ?_; rintro e w4 ⟨rfl, hb4⟩; have o7 := own_keep o6 hb4; have f7 := fun j => o7.frozenAt j; have d6 : w4.cell? ⟨g, k * 9 + 6, none⟩ = some (.string N.x) := (o7.cellAt _ (by omega)).trans ((get6 _ _ _ _ _ _ _ _ 6 (by omega)).trans hm6'); have d7 : w4.cell? ⟨g, k * 9 + 7, none⟩ = some (.slice an L1 en) := (o7.cellAt _ (by omega)).trans ((get6 _ _ _ _ _ _ _ _ 7 (by omega)).trans hm7')) | (go_at_call 44; fail))
      have o8 := (o7.stored (k * 9 + 6) (.string (mtI (C + 6)))).1
      have gW3 := grw_set (grw_trans (grw_set (grw_set (grw_set (grw_set (grw_set (grw_set (grw_refl wr (some g)) (k * 9) (.int .i64 (C : Int))) (k * 9 + 1) (.int .i64 ((C : Int) + 1))) (k * 9 + 2) (.int .i64 ((C : Int) + 1 + 1))) (k * 9 + 3) (.int .i64 ((C : Int) + 1 + 1 + 1))) (k * 9 + 4) (.int .i64 ((C : Int) + 1 + 1 + 1 + 1))) (k * 9 + 5) (.int .i64 ((C : Int) + 1 + 1 + 1 + 1 + 1))) (grw_below _ hb4)) (k * 9 + 6) (.string (mtI (C + 6)))
      clear o7 f7 d6 d7 hb4 c0 c1 c2 c3 c4 c5 c6 c7 c8 o6 fz km
      have hd8 : (((((((X.set (k * 9) (.int .i64 (C : Int))).set (k * 9 + 1) (.int .i64 ((C : Int) + 1))).set (k * 9 + 2) (.int .i64 ((C : Int) + 1 + 1))).set (k * 9 + 3) (.int .i64 ((C : Int) + 1 + 1 + 1))).set (k * 9 + 4) (.int .i64 ((C : Int) + 1 + 1 + 1 + 1))).set (k * 9 + 5) (.int .i64 ((C : Int) + 1 + 1 + 1 + 1 + 1))).set (k * 9 + 6) (.string (mtI (C + 6))))[k * 9 + 8]? = some (.slice ak L2 ek) := by
        rw [List.getElem?_set_ne (by omega)]; exact (get6 _ _ _ _ _ _ _ _ 8 (by omega)).trans hm8'
      generalize (w4.setCell ⟨g, k * 9 + 6, none⟩ (.string (mtI (C + 6)))) = W3 at o8 gW3 ⊢
      have hxo := HXO.out
      have on3 := hxo.on.kept gW3 (own_apart2 hxo.on HR.out (by decide))
      have ok3 := hxo.ok.kept gW3 (own_apart2 hxo.ok HR.out (by decide))
      obtain ⟨hL1, hL2⟩ := HLL.out
      have hC2 := HC2.out
      have ks := markStringS_q ((C : Int) + 1 + 1 + 1 + 1 + 1 + 1 + 1) W3 N.nm (C + 7) lo _ (by omega) (by omega) (by omega) on3
      simp only [hL1] at ks
      refine ks.mono ?_
      rintro e w5 ⟨rfl, on5, g5⟩
      have row5 := o8.kept g5 (by have := own_apart2 o8 on3 (by decide); simp only [hL1] at this; exact this)
      have ok5 := ok3.kept g5 (by have := own_apart2 ok3 on3 (by decide); simp only [hL1] at this; exact this)
      have d8 : w5.cell? ⟨g, k * 9 + 8, none⟩ = some (.slice ak L2 ek) := (row5.cellAt _ (by omega)).trans hd8
      obtain ⟨Z, hZ⟩ : ∃ Z : Int, ((C + 7 + L1 : Nat) : Int) = Z := ⟨_, rfl⟩
      have ki := markIntS_q Z w5 N.ks (C + 7 + L1) lo _ hZ.symm (by omega) (by omega) ok5
      simp only [hL2] at ki
      rw [hL1, hL2] at hC2
      have hZ1 : 0 ≤ Z := by omega
      have hZ2 : Z ≤ 40000000 := by omega
      rw [hZ]
      clear hL1 hL2 hZ
      go_wp2_with (go_at_call 45; fail)
      refine ki.mono ?_
      rintro e w6 ⟨rfl, ok6, g6⟩
      obtain ⟨Z6, hZ6⟩ : ∃ Z : Int, ((C + 7 + L1 + L2 : Nat) : Int) = Z := ⟨_, rfl⟩
      have hZ61 : 0 ≤ Z6 := by omega
      have hZ62 : Z6 ≤ 40000000 := by omega
      rw [hZ6]
      have HZ6 : Hid (((C + 7 + L1 + L2 : Nat) : Int) = Z6) := hZ6
      clear hZ6
      go_wp2_with fail
      obtain ⟨hmk, hcn, hA, hP, hln⟩ := HX.out
      obtain ⟨hL1, hL2⟩ := HLL.out
      have hho := HO.out
      have hPl : (cMbs (mkMs K (L.take k))).length = k * 9 := by rw [cMbs_len, hA]
      have row6 := row5.kept g6 (by have := own_apart2 row5 ok5 (by decide); rw [hL2] at this; exact this)
      have on6 := on5.kept g6 (by have := own_apart2 on5 ok5 (by decide); rw [hL2] at this; exact this)
      have hcz := HZ6.out
      have q1 : ((C + 1 : Nat) : Int) = (C : Int) + 1 := by omega
      have q2 : ((C + 2 : Nat) : Int) = (C : Int) + 1 + 1 := by omega
      have q3 : ((C + 3 : Nat) : Int) = (C : Int) + 1 + 1 + 1 := by omega
      have q4 : ((C + 4 : Nat) : Int) = (C : Int) + 1 + 1 + 1 + 1 := by omega
      have q5 : ((C + 5 : Nat) : Int) = (C : Int) + 1 + 1 + 1 + 1 + 1 := by omega
      rw [hP] at row6
      simp only [cMb] at row6
      rw [set7 _ _ _ hPl] at row6
      have ey : cMb ⟨mkNd C N, .slice an N.nm.length en, .slice ak N.ks.length ek⟩ = [.int .i64 (C : Int), .int .i64 ((C : Int) + 1), .int .i64 ((C : Int) + 1 + 1), .int .i64 ((C : Int) + 1 + 1 + 1), .int .i64 ((C : Int) + 1 + 1 + 1 + 1), .int .i64 ((C : Int) + 1 + 1 + 1 + 1 + 1), .string (mtI (C + 6)), .slice an N.nm.length en, .slice ak N.ks.length ek] := by
        simp only [cMb, mkNd, q1, q2, q3, q4, q5]
      rw [← ey, ← cMbs_cons, ← cMbs_app] at row6
      have hxo := HXO.out
      refine ⟨⟨k + 1, C + 7 + L1 + L2, by omega, by go_num, by rw [hcz], by omega, ?_, ?_, ?_⟩, by simp [intOf]; omega⟩
      · show _ = _; rw [hcn]; unfold nxt; simp only [hL1, hL2]
      · rw [hmk, List.append_assoc]
        refine MbsOwn.put hA hho row6 hln ⟨?_, ?_, hxo.hn, hxo.hk⟩ rfl rfl ?_
        · have h := on6
          show w6.ownsRow lo 9 1 (.slice an N.nm.length en) (mks (C + 7) N.nm.length).length ((mks (C + 7) N.nm.length).map Value.string)
          rw [mks_len, hL1]; exact h
        · have h := ok6
          show w6.ownsRow lo 3 1 (.slice ak N.ks.length ek) (mki (C + 7 + N.nm.length) N.ks.length).length ((mki (C + 7 + N.nm.length) N.ks.length).map (Value.int .i64))
          rw [mki_len, hL1, hL2]; exact h
        · intro z hz
          have hdn := hho.dn
          have hdk := hho.dk
          rw [List.map_append, List.map_cons] at hdn hdk
          have hzm : z ∈ mkMs K (L.take k) ++ ⟨N, .slice an N.nm.length en, .slice ak N.ks.length ek⟩ :: L.drop (k + 1) := by
            rcases hz with hz | hz
            · exact List.mem_append.2 (.inl hz)
            · exact List.mem_append.2 (.inr (List.mem_cons_of_mem _ hz))
          exact (hho.each z hzm).past (g := g) hxo HR.out rfl (Apart.mid hdn z.vn (hz.imp (fun h => List.mem_map_of_mem h) (fun h => List.mem_map_of_mem h))) (Apart.mid hdk z.vk (hz.imp (fun h => List.mem_map_of_mem h) (fun h => List.mem_map_of_mem h))) gW3 (by simp only [hL1]; exact g5) (by simp only [hL2]; exact g6)
      · refine ((hm.trans (Mid.of_grown gW3 ?_)).trans (Mid.of_grown g5 ?_)).trans (Mid.of_grown g6 ?_)
        · intro b hb; obtain rfl := Option.some.inj hb; exact ⟨(HR.out.lt g rfl).1, hho.hh g rfl⟩
        · intro b hb; exact ⟨(hxo.on.lt b (by rw [hL1]; exact hb)).1, hxo.hn b (by rw [hL1]; exact hb)⟩
        · intro b hb; exact ⟨(hxo.ok.lt b (by rw [hL2]; exact hb)).1, hxo.hk b (by rw [hL2]; exact hb)⟩
    · obtain rfl : k = n := by omega
      go_wp2_with fail
      go_ret
      refine ⟨by rw [List.take_of_length_le (by omega)] at HC; rw [HC.out]; rfl, ?_, hm⟩
      rw [List.drop_of_length_le (by omega), List.append_nil, List.take_of_length_le (by omega)] at ho
      exact ho
end Go.Proofs.YtcnhhhfedakepaaGreatDoor

namespace Go.Proofs.YtcnhhhfedakepaaGreatDoor
open Go.RowKit
set_option linter.unusedVariables false

theorem toTree_m (w : World) (v : Value) (l : List Nd) (h : NdsAt w v l) (hl : l.length ≤ 1048576) (hN : ∀ N ∈ l, N.nm.length ≤ 1048576 ∧ N.ks.length ≤ 1048576) :
    Calls Tryz.prog 7 #[.agg #[v]] w fun e w' => ∃ v' L, e = .returned (.agg #[v']) ∧ L.map Mb.N = l ∧ MbsOwn w' w.heap.size w'.heap.size v' L ∧ Below w.heap.size w w' := by
  refine (toTree_any w v l h hl hN).mono ?_
  rintro e w' ⟨g, rfl, ⟨L, hL, ho⟩, hb⟩
  exact ⟨_, _, rfl, by rw [List.map_map]; exact hL, ho.mbs, hb⟩
theorem mem_sumS {l : List ByteArray} {s : ByteArray} (h : s ∈ l) : s.size ≤ sumS l := by
  induction l with
  | nil => simp at h
  | cons a r ih =>
    rcases List.mem_cons.1 h with rfl | h
    · simp [sumS]
    · have := ih h; simp [sumS]; omega
theorem mem_sumN {l : List Nd} {N : Nd} (h : N ∈ l) : bulkN N ≤ sumN l := by
  induction l with
  | nil => simp at h
  | cons a r ih =>
    rcases List.mem_cons.1 h with rfl | h
    · simp [sumN]
    · have := ih h; simp [sumN]; omega
theorem cnt_le (l : List Nd) : ∀ K, cnt K l ≤ K + 7 * l.length + sumN l := by
  induction l with
  | nil => intro K; simp [cnt]
  | cons N r ih =>
    intro K
    have := ih (nxt K N)
    simp only [cnt, sumN, List.length_cons]
    unfold nxt bulkN bulkS at *
    omega
/-- What the law lets by: all is short. -/
structure Short (ns : List Nd) : Prop where
  l : ns.length ≤ 1048576
  n : ∀ N ∈ ns, N.nm.length ≤ 1048576 ∧ N.ks.length ≤ 1048576
  a : ∀ N ∈ ns, N.nm.length ≤ 1048576 ∧ N.ks.length ≤ 1048576 ∧ N.x.size ≤ 1048576 ∧ ∀ s ∈ N.nm, s.size ≤ 1048576
  c : cnt 1 ns ≤ 40000000
theorem short_of {ns : List Nd} (h : bulkT ns ≤ 1048576) : Short ns := by
  unfold bulkT at h
  have ha : ∀ N ∈ ns, N.nm.length ≤ 1048576 ∧ N.ks.length ≤ 1048576 ∧ N.x.size ≤ 1048576 ∧ ∀ s ∈ N.nm, s.size ≤ 1048576 := fun N hN => by
    have h1 := mem_sumN hN
    unfold bulkN bulkS at h1
    refine ⟨by omega, by omega, by omega, fun s hs => ?_⟩
    have := mem_sumS hs
    omega
  refine ⟨by omega, fun N hN => ⟨(ha N hN).1, (ha N hN).2.1⟩, ha, ?_⟩
  have := cnt_le ns 1
  omega
end Go.Proofs.YtcnhhhfedakepaaGreatDoor

namespace Go.Proofs.YtcnhhhfedakepaaGreatDoor
open Go.RowKit Go.Maps Go.WideMaps
set_option linter.unusedVariables false

theorem NdsAt.formD {W : World} {v : Value} {l : List Nd} {n : Nat} (h : NdsAt W v l) (hn : l.length = n) : ∃ a c, v = .slice a n c := by subst hn; exact h.form
theorem MbsOwn.formD {W : World} {lo hi n : Nat} {v : Value} {L : List Mb} (h : MbsOwn W lo hi v L) (hn : L.length = n) : ∃ a c, v = .slice a n c := by subst hn; exact own_form h.row
theorem Short.smallD {ns : List Nd} (h : Short ns) : ∀ N ∈ ns, NdSmall N := fun N hN => by
  obtain ⟨h1, h2, h3, h4⟩ := h.a N hN
  exact ⟨h1, h2, h3, h4⟩
theorem dump_bound {ns : List Nd} (hi : ∀ N ∈ ns, NdInt N) (sh : Short ns) (hb : bulkT ns ≤ 1048576) : (dumpB ns).size ≤ 274877906944 := by
  have h1 := dumpB_size ns hi sh.n
  unfold bulkT at hb
  omega

set_option maxRecDepth 100000 in
set_option maxHeartbeats 12800000 in
theorem dump_walk (w : World) (u : Value) (ns : List Nd) (h : NdsAt w u ns) (hs : ∀ N ∈ ns, NdLen N) (hi : ∀ N ∈ ns, NdInt N) (hl : ns.length ≤ 9223372036854775807) (he : Errs w) (tt : TypeId) (fr : Nat × Nat) (hG : w.heap[0]? = some (.cells wordV tt fr))
    (htab : ∀ W, Below w.heap.size w W → Lib.TabIs Tryz.prog W "strings.asciiSpace" .u8 Lib.asciiSpaceTab) (hp : PowAt w) :
    Calls Tryz.prog 4 #[.agg #[u]] w fun e w' => e = .returned (.bool true) ∧ Below w.heap.size w w' := by
  have hb0 : ∀ o, Below w.heap.size w (w.alloc o) := fun o => (Below.refl _ w).alloc (Nat.le_refl _) o
  have kz := fun o => szTree_any (w.alloc o) u ns 1048576 (h.below (hb0 o)) hs hl (by omega) (by omega)
  obtain ⟨n, hn⟩ : ∃ n, ns.length = n := ⟨_, rfl⟩
  have HN : Hid (ns.length = n) := hn
  obtain ⟨a, c, rfl⟩ := h.formD hn
  have HA : Hid (NdsAt w (.slice a n c) ns) := h
  have HE : Hid (∀ W v, Below w.heap.size w W → NdsAt W v ns → Short ns → Calls Tryz.prog 30 #[.agg #[v]] W fun e w' => e = .returned (.agg #[.int .i64 (treeF ns).1, .int .i64 (treeF ns).2]) ∧ Below W.heap.size W w') := fun W v hW hv sh =>
    treeOkI_any W v ns hv sh.l sh.smallD (he.below hW (Nat.le_refl _)) tt fr ((hW.block _ (lt_of_block hG)).trans hG) (fun W2 h2 => htab W2 (hW.trans (h2.mono hW.size)))
  by_cases hbk : bulkT ns ≤ 1048576
  · have sh := short_of hbk
    have hdz := dump_bound hi sh hbk
    rw [lessI_yes (by omega)] at kz
    obtain ⟨R, hR⟩ : ∃ R : Int, 1048576 - (bulkT ns : Int) = R := ⟨_, rfl⟩
    have hR0 : ¬ R < 0 := by omega
    rw [hR] at kz
    have hln := sh.l
    rw [hn] at hln
    have HSH : Hid (Short ns ∧ (∀ N ∈ ns, NdInt N) ∧ (dumpB ns).size ≤ 274877906944 ∧ PowAt w) := ⟨sh, hi, hdz, hp⟩
    obtain ⟨D, hD⟩ : ∃ D, dumpF ns = D := ⟨_, rfl⟩
    have HD : Hid (dumpF ns = D) := hD
    clear hR hbk h hs hl hn sh he hG htab hi hdz hp hD
    go_enter Tryz.func4, Tryz.ntmps4
    go_wp2_with (go_at_call 5; fail)
    have B0 := heap_alloc_new w (.cells #[.slice a n c] 24)
    have hs0 : (w.alloc (.cells #[.slice a n c] 24)).heap.size = w.heap.size + 1 := World.size_alloc _ _
    refine (kz _).mono ?_
    rintro e w1 ⟨rfl, hb1⟩
    have B1 := (hb1.block _ (by omega)).trans B0
    have hbw1 : Below w.heap.size w w1 := (hb0 _).trans (hb1.mono (by omega))
    have c1 := one_cell1 B1
    clear B0 hb1 kz
    go_wp2_with (go_at_call 7; fail)
    refine (toTree_m w1 _ ns (HA.out.below hbw1) HSH.out.1.l HSH.out.1.n).mono ?_
    rintro e w2 ⟨va, La, rfl, hLa, oa, hb2⟩
    obtain ⟨aa, ea, rfl⟩ := oa.formD (n := n) (by rw [← HN.out, ← hLa, List.length_map])
    go_wp2_with (go_at_call 14; fail)
    refine (specDump_any w2 _ ns (by rw [← hLa]; exact oa.nds) HSH.out.1.l HSH.out.1.smallD HSH.out.2.1 HSH.out.2.2.1).mono ?_
    rintro e w3 ⟨rfl, hb3⟩
    rw [HD.out]
    have hbw2 : Below w.heap.size w w2 := hbw1.trans (hb2.mono hbw1.size)
    have hbw3 : Below w.heap.size w w3 := hbw2.trans (hb3.mono hbw2.size)
    have B3 := (hb3.block _ (lt_of_block ((hb2.block _ (lt_of_block B1)).trans B1))).trans ((hb2.block _ (lt_of_block B1)).trans B1)
    have c3 := one_cell1 B3
    have hw3 : w.heap.size < w3.heap.size := lt_of_block B3
    clear c1 B1 hb2 hb3 oa hLa
    go_wp2_with (go_at_call 7; fail)
    refine (toTree_m w3 _ ns (HA.out.below hbw3) HSH.out.1.l HSH.out.1.n).mono ?_
    rintro e w5 ⟨vx, LX, rfl, hLX, ox, hb5⟩
    obtain ⟨ax, ex, rfl⟩ := ox.formD (n := n) (by rw [← HN.out, ← hLX, List.length_map])
    clear c3
    go_wp2_with (go_at_call 15; fail)
    have B5 := heap_alloc_new w5 (.cells #[.slice ax n ex] 30)
    have hb56 : Below w5.heap.size w5 (w5.alloc (.cells #[.slice ax n ex] 30)) := (Below.refl _ w5).alloc (Nat.le_refl _) _
    have hs6 : (w5.alloc (.cells #[.slice ax n ex] 30)).heap.size = w5.heap.size + 1 := World.size_alloc _ _
    generalize w5.alloc (.cells #[.slice ax n ex] 30) = W6 at B5 hb56 hs6 ⊢
    have nx6 : NdsAt W6 (.slice ax n ex) ns := by have := (ox.below hb56).nds; rw [hLX] at this; exact this
    have hbw5 : Below w.heap.size w w5 := hbw3.trans (hb5.mono hbw3.size)
    have hbw6 : Below w.heap.size w W6 := hbw5.trans (hb56.mono hbw5.size)
    refine (implDump_any W6 _ ns nx6 HSH.out.1.l HSH.out.1.smallD HSH.out.2.1 HSH.out.2.2.1 (HSH.out.2.2.2.below hbw6) (fun W hW => HE.out W _ (hbw6.trans (hW.mono hbw6.size)) (nx6.below hW) HSH.out.1)).mono ?_
    rintro e w7 ⟨rfl, hb7⟩
    rw [HD.out]
    have hz5 := hb5.size
    have hz7 := hb7.size
    have hbw7 : Below w.heap.size w w7 := hbw6.trans (hb7.mono hbw6.size)
    have nx7 := nx6.below hb7
    have b1k := (hb7.block _ (by omega)).trans ((hb56.block _ (by omega)).trans ((hb5.block _ hw3).trans B3))
    have b5k := (hb7.block _ (by omega)).trans B5
    have e1 := one_cell1 b1k
    have e5 := one_cell1 b5k
    have bD : ∀ (W : World), Below W.heap.size W W.drew := fun W => bel_drew1 (Below.refl _ W)
    have kt := toTree_m w7.drew (.slice a n c) ns ((HA.out.below hbw7).below (bD _)) HSH.out.1.l HSH.out.1.n
    have kq := fun (W : World) v (h1 : NdsAt W v ns) (h2 : NdsAt W (.slice ax n ex) ns) => eqTree_any W (.slice ax n ex) v ns h2 h1 HSH.out.1.l HSH.out.1.n
    have nx9 : NdsAt w7.drew (.slice ax n ex) ns := nx7.below (bD _)
    clear hb7 hb56 hb5 B3 B5 hbw1 hbw2 hbw3 hbw5 hbw6 nx6 ox hLX hz5 hz7 hs6 hw3 hs0 nx7 b1k b5k
    go_wp2_with fail
    go_region_held3 (fun w' => w'.cell? ⟨w.heap.size, 0, none⟩ = some (.slice a n c) ∧ w'.cell? ⟨w5.heap.size, 0, none⟩ = some (.slice ax n ex)) (first | go_keep | exact ⟨cell_kept hb11 (cell_kept hb10 e1), cell_kept hb11 (cell_kept hb10 e5)⟩ | exact ⟨cell_kept hb10 e1, cell_kept hb10 e5⟩) (first | (go_at_call 7; refine kt.mono ?_; rintro e w10 ⟨vt, LT, rfl, hLT, ot, hb10⟩; obtain ⟨at_, et, rfl⟩ := ot.formD (n := n) (by rw [← HN.out, ← hLT, List.length_map])) | (go_at_call 10; refine (kq _ _ (by have := ot.nds; rw [hLT] at this; exact this) (nx9.below hb10)).mono ?_; rintro e w11 ⟨rfl, hb11⟩))
    have b911 : Below w7.heap.size w7 w11 := ((bD w7).trans hb10).trans (hb11.mono hb10.size)
    go_wp2_with fail
    go_ret
    exact ⟨rfl, hbw7.trans (b911.mono hbw7.size)⟩
  · rw [lessI_no (by omega)] at kz
    clear hbk h hs hl hn
    go_enter Tryz.func4, Tryz.ntmps4
    go_wp2_with (go_at_call 5; refine (kz _).mono ?_; rintro e w1 ⟨rfl, hb1⟩)
    go_ret
    exact ⟨rfl, (hb0 _).trans (hb1.mono (by simp))⟩
end Go.Proofs.YtcnhhhfedakepaaGreatDoor

namespace Go.Proofs.YtcnhhhfedakepaaGreatDoor
open Go.ChangeShapes Go.WideShapes Go.ChangeAt Go.WideMaps Go.WideElems Go.RowKit
set_option linter.unusedVariables false

theorem gPow2 : Tryz.prog.globalNamed "internal/strconv.uint64pow10" = some 1 := by kernel_rfl
set_option maxRecDepth 100000 in
theorem pow_of {W : World} (h : laidMetH Tryz.prog [("math/bits.deBruijn32tab", Rows.laid_math_bits_deBruijn32tab), ("math/bits.deBruijn64tab", Rows.laid_math_bits_deBruijn64tab), ("internal/strconv.uint64pow10", Rows.laid_internal_strconv_uint64pow10), ("strconv.ErrRange", Rows.laid_strconv_ErrRange), ("strconv.ErrSyntax", Rows.laid_strconv_ErrSyntax), ("unicode.White_Space", Rows.laid_unicode_White_Space), ("strings.asciiSpace", Rows.laid_strings_asciiSpace), ("loop.example/warp/impl.wordTexts", Rows.laid_loop_example_warp_impl_wordTexts)] W) : Lib.TabIs Tryz.prog W "internal/strconv.uint64pow10" .u64 Lib.pow10Tab := by
  have h6 : laidMetH Tryz.prog [("internal/strconv.uint64pow10", Rows.laid_internal_strconv_uint64pow10)] W := h.filter fun x => x.1 == "internal/strconv.uint64pow10"
  rw [MakeChecks.laidMetH_plain _ _ _ (by kernel_rfl)] at h6
  have h8 : laidMet Tryz.prog [("internal/strconv.uint64pow10", Lib.tabData .u64 Lib.pow10Tab)] W := h6
  exact Lib.tabIs_of_head gPow2 (t := 173) (by kernel_rfl) Tryz.underlying173 Tryz.underlying154 (by kernel_rfl) (by kernel_rfl) h8

theorem door_met_dump (os : Os) (args : Array Value) : laidMetH Tryz.prog Rows.fnExactDumpRow.laid ((World.doorLaid Tryz.prog 91 os).forCall (fun _ _ => 0) ⟨#[], args, []⟩).memory :=
  laidMetH_of_parts3 (fuel := 8) (laidMet_of_run' 8 (by kernel_rfl) (by kernel_rfl)) (by kernel_rfl) (by kernel_rfl)

set_option maxRecDepth 100000 in
theorem lifted_dump (os : Os) (started : os.Started) (H : Type) (enc : TypeId × Value → H) :
    ReturnsInHanded {} Tryz.checked os 4 .any (fun w args => (Rows.fnExactDumpSpec.pre enc Tryz.prog Tryz.f4 [] false w args ∧ laidMetH Tryz.prog Rows.fnExactDumpRow.laid w) ∧ sizedMet enc Tryz.prog Tryz.f4 (OpenSpec.ofChange Rows.fnExactDumpSpec) false w args)
      (Rows.fnExactDumpSpec.post enc Tryz.prog Tryz.f4 false true false false) := by
  refine returnsInHanded_of_change_and (C := Tryz.checked) (X := fun w _ => laidMetH Tryz.prog Rows.fnExactDumpRow.laid w) (fun _ _ _ hh h => h.of_heap hh) own started (by kernel_rfl) Tryz.func4
    (ChangeSpec.witness_shaped (enc := enc) (C := Tryz.checked) (os := os) (X := fun w _ => laidMetH Tryz.prog Rows.fnExactDumpRow.laid w) false (World.doorLaid Tryz.prog 91 os) #[.agg #[.slice none 0 0]] 8 rfl (World.shaped_of_RefB (by kernel_rfl) (by kernel_rfl)) (by kernel_rfl) (by kernel_rfl) (by kernel_rfl) (door_met_dump os _)) ?_
  intro W base args ds gs before hval0 hW _ _ hL _
  have hval : ∀ (j : Nat) t v, Tryz.f4.params[j]? = some t → args[j]? = some v → Value.okWide Tryz.prog W .any base t v := hval0
  have hW' := hW
  obtain ⟨p, q, hA0, hV, rfl, hfz, hnd⟩ := hW
  have hA : DataW.TrodAll enc Tryz.prog W 0 (fun _ => true) true Tryz.f4.params.toList args.toList ds p := hA0
  rw [Tryz.params4] at hA hval
  obtain ⟨v0, vs0, d0, ds0, p0, q0, hargs, rfl, rfl, h0, r0⟩ := trodAll_cons hA
  obtain ⟨rfl, rfl, rfl⟩ := trodAll_nil r0
  obtain rfl : args = #[v0] := by cases args; simp_all
  obtain ⟨_, _, _, _, g1, _, rfl, _⟩ := trodVars_one hV
  have k0 := h0
  have lt0 : ∀ x ∈ p0, x.block < W.heap.size := by obtain ⟨m, hm⟩ := k0; exact DataW.trod_lt m _ _ _ hm
  obtain ⟨u, ns, rfl, h1, h2, h3, h4⟩ := tree_of (hval 0 24 v0 rfl rfl) h0
  have hLay := treeLay_of hL
  obtain ⟨tt, fr, hG⟩ := hLay.wrd
  clear hA0 hval0
  refine (dump_walk W u ns h1 h3 h4 h2 hLay.errs tt fr hG (fun W2 hb => tab_keep gAsc hLay.asc hb) (fun W2 hb => tab_keep gPow2 (pow_of hL) hb)).mono fun e W' ⟨he, bel⟩ => ?_
  subst he
  exact ⟨_, rfl, _, _, _, [], _, q, hW', trodAll_mk1 (shut_bool Tryz.underlying4 _), (trodAll_cons_mk (Below.trod laidOut (by kernel_rfl) (of_decide_eq_true (by kernel_rfl)) k0 bel lt0) trodAll_mk0), Below.trodVars laidOut bel (by kernel_rfl) hV, bel.frame _, fun h => by cases h⟩

theorem fnExactDump_row : Rows.FnExactDumpSaid :=
  OpenClaim.holds_of_wide 4 Tryz.f4 rfl rfl rfl rfl rfl rfl rfl ⟨rfl, rfl, rfl, rfl, rfl⟩ rfl rfl rfl rfl rfl (by kernel_rfl) Tryz.func4 (by kernel_rfl)
    (of_decide_eq_true (by kernel_rfl)) (by unfold Func.isWrapper; first | (rw [if_pos (by decide +kernel)]; kernel_rfl) | (rw [if_neg (by decide +kernel)]; exact ⟨rfl, rfl⟩))
    (fun os started H enc _ => lifted_dump os started H enc)

theorem fnExactDump_holds : Rows.FnExactDumpCardSaid :=
  Claim7.holds_tied_plain_at .later [] Rows.fnExactDumpCard.laidKinds true Rows.fnExactDumpCard.stood.harness true
    fnExactDump_row (fun _ h => by cases h) (by kernel_rfl) (fun _ h => by cases h) fnExactDump_row_tie rfl ⟨rfl, rfl⟩ (by kernel_rfl) rfl
    (fun f fn hf hfn => by
      obtain rfl : f = 4 := Option.some.inj ((show Tryz.prog.funcNamed Rows.fnExactDumpRow.func = some 4 by kernel_rfl).symm.trans hf) |>.symm
      obtain rfl : fn = Tryz.f4 := (Option.some.inj (Tryz.func4.symm.trans hfn)).symm
      exact ⟨by kernel_rfl, fun j t ht => by
        rw [Tryz.params4] at ht
        have hm : t ∈ [24] := by simpa using Array.mem_of_getElem? ht
        have hall : ([24].all fun u => !Tryz.prog.wantsStandIn u) = true := by kernel_rfl
        exact (show Tryz.prog.wantsStandIn t = false by simpa using List.all_eq_true.1 hall t hm)⟩)
    (by kernel_rfl)
#print axioms fnExactDump_holds
end Go.Proofs.YtcnhhhfedakepaaGreatDoor
