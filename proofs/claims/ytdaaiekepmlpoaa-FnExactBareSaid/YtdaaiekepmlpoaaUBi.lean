import Derived.Test.YtdaaiekepmlpoaaUCl
import Derived.Test.YtdaaiekepmlpoaaUMn
namespace Go.Proofs.Ytdaaiekepmlpoaa
open Go.RowKit
set_option linter.unusedVariables false

/-- A node without its places. -/
def bareN (N : Nd) : Nd := { N with f := 0, t := 0, l := 0 }
theorem set3 (A R : List Value) (m : Nat) (hA : A.length = m) (c0 c1 c2 c3 c4 c5 c6 c7 c8 a1 a2 a3 a6 a7 a8 : Value) :
    ((((((A ++ ([c0, c1, c2, c3, c4, c5, c6, c7, c8] ++ R)).set (m + 1) a1).set (m + 2) a2).set (m + 3) a3).set (m + 6) a6).set (m + 7) a7).set (m + 8) a8 = A ++ ([c0, a1, a2, a3, c4, c5, a6, a7, a8] ++ R) := by
  subst hA
  have st : ∀ (xs : List Value) (j : Nat) (u : Value), (A ++ xs).set (A.length + j) u = A ++ xs.set j u := fun xs j u => by
    rw [List.set_append_right _ _ (by omega)]; congr 2; omega
  rw [st, st, st, st, st, st]
  rfl
theorem MbOwn.up {W : World} {lo hi hi2 : Nat} {x : Mb} (h : MbOwn W lo hi x) (hh : hi ≤ hi2) : MbOwn W lo hi2 x :=
  ⟨h.on, h.ok, fun g hg => Nat.lt_of_lt_of_le (h.hn g hg) hh, fun g hg => Nat.lt_of_lt_of_le (h.hk g hg) hh⟩
/-- What Bare has made of the first nodes; the others as they were copied. -/
structure BrSt (W1 : World) (g n cap : Nat) (ns : List Nd) (L : List Mb) (k : Nat) (W : World) (Q : List Mb) : Prop where
  row : W.ownsRow W1.heap.size 42 9 (.slice (some ⟨g, 0, none⟩) n cap) n (cMbs (Q ++ L.drop k))
  len : Q.length = k
  nds : Q.map Mb.N = (ns.take k).map bareN
  each : ∀ x ∈ Q, MbOwn W W1.heap.size W.heap.size x
  dn : Apart (Q.map Mb.vn)
  dk : Apart (Q.map Mb.vk)
  bel : Below W1.heap.size W1 W
theorem apart_add {vs : List Value} {v : Value} (h : Apart vs) (hv : ∀ u ∈ vs, (u.ownBlock = none ∨ u.ownBlock ≠ v.ownBlock) ∧ (v.ownBlock = none ∨ v.ownBlock ≠ u.ownBlock)) : Apart (vs ++ [v]) := by
  intro i j a b hij ha hb
  rcases Nat.lt_or_ge i vs.length with gi | gi
  · rw [List.getElem?_append_left gi] at ha
    rcases Nat.lt_or_ge j vs.length with gj | gj
    · rw [List.getElem?_append_left gj] at hb; exact h i j a b hij ha hb
    · rw [List.getElem?_append_right gj] at hb
      obtain ⟨hb1, hb2⟩ := List.getElem?_eq_some_iff.1 hb
      simp at hb1 hb2
      subst hb2
      exact (hv a (List.mem_of_getElem? ha)).1
  · rw [List.getElem?_append_right gi] at ha
    obtain ⟨ha1, ha2⟩ := List.getElem?_eq_some_iff.1 ha
    simp at ha1 ha2
    subst ha2
    rcases Nat.lt_or_ge j vs.length with gj | gj
    · rw [List.getElem?_append_left gj] at hb; exact (hv b (List.mem_of_getElem? hb)).2
    · exfalso
      rw [List.getElem?_append_right gj] at hb
      obtain ⟨hb1, hb2⟩ := List.getElem?_eq_some_iff.1 hb
      simp at hb1
      omega
/-- A row that lies below a bound, and one that lies from it on, part. -/
theorem own_old {W W2 : World} {b1 b2 e1 e2 s1 s2 n1 n2 : Nat} {v1 v2 : Value} {x1 x2 : List Value} (h1 : W.ownsRow b1 e1 s1 v1 n1 x1) (h2 : W2.ownsRow b2 e2 s2 v2 n2 x2) (hb : W.heap.size ≤ b2) : (v1.ownBlock = none ∨ v1.ownBlock ≠ v2.ownBlock) ∧ (v2.ownBlock = none ∨ v2.ownBlock ≠ v1.ownBlock) := by
  cases hv1 : v1.ownBlock with
  | none =>
    refine ⟨.inl rfl, ?_⟩
    cases hv2 : v2.ownBlock with
    | none => exact .inl rfl
    | some g2 => exact .inr (by simp)
  | some g1 =>
    have l1 := (h1.lt g1 hv1).2
    cases hv2 : v2.ownBlock with
    | none => exact ⟨.inr (by simp), .inl rfl⟩
    | some g2 =>
      have l2 := (h2.lt g2 hv2).1
      refine ⟨.inr ?_, .inr ?_⟩
      · simp only [ne_eq, Option.some.injEq]; omega
      · simp only [ne_eq, Option.some.injEq]; omega

set_option maxRecDepth 100000 in
set_option maxHeartbeats 6400000 in
theorem bare_any (w : World) (v : Value) (ns : List Nd) (h : NdsAt w v ns) (hl : ns.length ≤ 1048576) (hN : ∀ N ∈ ns, N.nm.length ≤ 1048576 ∧ N.ks.length ≤ 1048576 ∧ N.x.size ≤ 1100000 ∧ ∀ s ∈ N.nm, s.size ≤ 1100000) :
    Calls Try.prog 10 #[.agg #[v]] w fun e w' => ∃ v' L, e = .returned (.agg #[v']) ∧ L.map Mb.N = ns.map bareN ∧ MbsOwn w' w.heap.size w'.heap.size v' L ∧ Below w.heap.size w w' := by
  obtain ⟨a, c, rfl⟩ := h.form
  have HA : Hid (NdsAt w (.slice a ns.length c) ns) := h
  have HS : Hid (∀ N ∈ ns, N.nm.length ≤ 1048576 ∧ N.ks.length ≤ 1048576 ∧ N.x.size ≤ 1100000 ∧ ∀ s ∈ N.nm, s.size ≤ 1100000) := hN
  obtain ⟨n, hn⟩ : ∃ n, ns.length = n := ⟨_, rfl⟩
  have HN : Hid (ns.length = n) := hn
  rw [hn] at HA hl ⊢
  clear h hN hn
  go_enter Try.func10, Try.ntmps10
  go_wp2_with (go_at_call 19; fail)
  obtain ⟨W1, hW1⟩ : ∃ W1, (w.alloc (.cells #[.slice a n c] 30)).alloc (.cells #[.slice none 0 0] 30) = W1 := ⟨_, rfl⟩
  have hs1 : W1.heap.size = w.heap.size + 1 + 1 := by rw [← hW1]; simp
  have hZ : W1.heap[w.heap.size + 1]? = some (.cells #[.slice none 0 0] 30 (0, 0)) := by
    rw [← hW1]
    have := heap_alloc_new (w.alloc (.cells #[.slice a n c] 30)) (.cells #[.slice none 0 0] 30)
    rw [World.size_alloc] at this
    exact this
  have hB : Below w.heap.size w W1 := by rw [← hW1]; exact ((Below.refl _ w).alloc (Nat.le_refl _) _).alloc (by simp) _
  rw [hW1]
  clear hW1
  have HA1 : NdsAt W1 (.slice a n c) ns := HA.out.below hB
  have kc := cloneNds_any W1 (.slice a n c) ns HA1 (by rw [HN.out]; exact hl)
  rw [HN.out] at kc
  refine kc.mono ?_
  rintro e w2 ⟨v', L, rfl, hLn, ho2, hLs, hb2⟩
  have HLn : Hid (L.map Mb.N = ns) := hLn
  have HLs : Hid (∀ x ∈ L, StrsAt W1 x.vn x.N.nm ∧ IntsAt W1 x.vk x.N.ks) := hLs
  have HZ : Hid (W1.heap[w.heap.size + 1]? = some (.cells #[.slice none 0 0] 30 (0, 0))) := hZ
  have HB : Hid (Below w.heap.size w W1) := hB
  have HS1 : Hid (W1.heap.size = w.heap.size + 1 + 1) := hs1
  clear kc HA1 hLn hLs hZ hB
  rcases own_zero_or ho2 with ⟨hz, rfl⟩ | ⟨g, cap, rfl⟩
  · subst hz
    have hz2 := (hb2.block _ (by omega)).trans HZ.out
    have z0 : w2.cell? ⟨w.heap.size + 1, 0, none⟩ = some (.slice none 0 0) := by rw [cell_of_row _ _ _ _ _ _ hz2]; rfl
    have zf : w2.frozen? ⟨w.heap.size + 1, 0, none⟩ = false := frozen_of_row _ _ _ _ _ hz2
    go_wp2_with fail
    refine wp_loop_rounds 1 ?_
    rw [rounds_succ]
    go_wp2
    have hnil : ns = [] := List.eq_nil_of_length_eq_zero HN.out
    have hLnil : L = [] := by have := HLn.out; rw [hnil] at this; simpa using this
    have hB := HB.out
    subst hLnil hnil
    refine bodyPost_ret (results_cell_row rfl _ _ (w.heap.size + 1) _ _ _ _ rfl (heap_setCell_same _ _ 0 _ _ _ hz2) Try.underlying30 rfl (by kernel_rfl)) rfl ⟨_, [], rfl, rfl, ⟨World.ownsRow_nil _ _ _ _, fun k hk => by simp [Value.ownBlock] at hk, fun x hx => by simp at hx, fun i j a b _ ha => by simp at ha, fun i j a b _ ha => by simp at ha⟩, (hB.trans (hb2.mono hB.size)).setCell (by simp) _⟩
  · have hgw := (ho2.lt g rfl).1
    go_wp2_with fail
    go_loopw [11] (fun vi wr => ∃ (k : Nat) (Q : List Mb), k ≤ n ∧ vi = .int .i64 k ∧ BrSt W1 g n cap ns L k wr Q) (fun vi _ => n - (intOf vi).toNat)
    case atStart => exact ⟨0, [], Nat.zero_le _, rfl, ⟨ho2, rfl, rfl, fun x hx => by simp at hx, fun i j a b _ ha => by simp at ha, fun i j a b _ ha => by simp at ha, hb2⟩⟩
    case round =>
      obtain ⟨k, Q, hk, rfl, st⟩ := hrel
      clear ho2 hb2
      have hLl : L.length = n := by rw [← HN.out, ← HLn.out, List.length_map]
      by_cases hlt : k < n
      · have hki : (k : Int) < (n : Int) := by omega
        have hk0 : (0 : Int) ≤ (k : Int) := by omega
        obtain ⟨x, hx⟩ := some_at hLl hlt
        have hNk : ns[k]? = some x.N := by rw [← HLn.out, List.getElem?_map, hx]; rfl
        obtain ⟨hs1', hs2, hs3, hs4⟩ := HS.out x.N (List.mem_of_getElem? hNk)
        obtain ⟨hxs, hxk⟩ := HLs.out x (List.mem_of_getElem? hx)
        have hr := st.row
        have hd := drop_at hx
        rw [hd] at hr
        have hxx : (Q ++ x :: L.drop (k + 1))[k]? = some x := by rw [List.getElem?_append_right (by rw [st.len]; omega), st.len, Nat.sub_self]; rfl
        obtain ⟨c0, c1, c2, c3, c4, c5, c6, c7, c8⟩ := row_cells hr hxx
        have hm6 := cMbs_at _ k 6 x hxx (by omega)
        have hm7 := cMbs_at _ k 7 x hxx (by omega)
        have hm8 := cMbs_at _ k 8 x hxx (by omega)
        have fz := fun j => hr.frozenAt j
        have hP : cMbs (Q ++ x :: L.drop (k + 1)) = cMbs Q ++ (cMb x ++ cMbs (L.drop (k + 1))) := by rw [cMbs_app, cMbs_cons]
        have hPl : (cMbs Q).length = k * 9 := by rw [cMbs_len, st.len]
        have HP : Hid (cMbs (Q ++ x :: L.drop (k + 1)) = cMbs Q ++ (cMb x ++ cMbs (L.drop (k + 1))) ∧ (cMbs Q).length = k * 9 ∧ ns[k]? = some x.N) := ⟨hP, hPl, hNk⟩
        have o3 := (((hr.stored (k * 9 + 1) (.int .i64 0)).1.stored (k * 9 + 2) (.int .i64 0)).1.stored (k * 9 + 3) (.int .i64 0)).1
        have km := fun w => clone_any x.N.x hs3 w
        obtain ⟨N, vn, vk⟩ := x
        simp only at c0 c1 c2 c3 c4 c5 c6 c7 c8 hs1' hs2 hs3 hs4 hxs hxk km
        obtain ⟨an, en, rfl⟩ := hxs.form
        obtain ⟨ak, ek, rfl⟩ := hxk.form
        have HXS : Hid (StrsAt W1 (.slice an N.nm.length en) N.nm ∧ IntsAt W1 (.slice ak N.ks.length ek) N.ks) := ⟨hxs, hxk⟩
        have HST : Hid (BrSt W1 g n cap ns L k wr Q) := st
        have HR : Hid (wr.ownsRow W1.heap.size 42 9 (.slice (some ⟨g, 0, none⟩) n cap) n (cMbs (Q ++ ⟨N, .slice an N.nm.length en, .slice ak N.ks.length ek⟩ :: L.drop (k + 1)))) := hr
        have hm6' : (cMbs (Q ++ ⟨N, .slice an N.nm.length en, .slice ak N.ks.length ek⟩ :: L.drop (k + 1)))[k * 9 + 6]? = some (.string N.x) := hm6
        have hm7' : (cMbs (Q ++ ⟨N, .slice an N.nm.length en, .slice ak N.ks.length ek⟩ :: L.drop (k + 1)))[k * 9 + 7]? = some (.slice an N.nm.length en) := hm7
        have hm8' : (cMbs (Q ++ ⟨N, .slice an N.nm.length en, .slice ak N.ks.length ek⟩ :: L.drop (k + 1)))[k * 9 + 8]? = some (.slice ak N.ks.length ek) := hm8
        clear hm6 hm7 hm8 hr hx hNk hxs hxk hxx hd hP hPl st
        generalize cMbs (Q ++ ⟨N, .slice an N.nm.length en, .slice ak N.ks.length ek⟩ :: L.drop (k + 1)) = X at o3 hm6' hm7' hm8' HR HP
        go_wp2_with (first | (go_at_call 20; fail))
        have g3 := grw_set (grw_set (grw_set (grw_refl wr (some g)) (k * 9 + 1) (.int .i64 0)) (k * 9 + 2) (.int .i64 0)) (k * 9 + 3) (.int .i64 0)
        have y6 : (((X.set (k * 9 + 1) (.int .i64 0)).set (k * 9 + 2) (.int .i64 0)).set (k * 9 + 3) (.int .i64 0))[k * 9 + 6]? = some (.string N.x) := by
          rw [List.getElem?_set_ne (by omega), List.getElem?_set_ne (by omega), List.getElem?_set_ne (by omega)]; exact hm6'
        have y7 : (((X.set (k * 9 + 1) (.int .i64 0)).set (k * 9 + 2) (.int .i64 0)).set (k * 9 + 3) (.int .i64 0))[k * 9 + 7]? = some (.slice an N.nm.length en) := by
          rw [List.getElem?_set_ne (by omega), List.getElem?_set_ne (by omega), List.getElem?_set_ne (by omega)]; exact hm7'
        have y8 : (((X.set (k * 9 + 1) (.int .i64 0)).set (k * 9 + 2) (.int .i64 0)).set (k * 9 + 3) (.int .i64 0))[k * 9 + 8]? = some (.slice ak N.ks.length ek) := by
          rw [List.getElem?_set_ne (by omega), List.getElem?_set_ne (by omega), List.getElem?_set_ne (by omega)]; exact hm8'
        clear c0 c1 c2 c3 c4 c5 c6 c7 c8 fz hm6' hm7' hm8'
        generalize (((wr.setCell ⟨g, k * 9 + 1, none⟩ (.int .i64 0)).setCell ⟨g, k * 9 + 2, none⟩ (.int .i64 0)).setCell ⟨g, k * 9 + 3, none⟩ (.int .i64 0)) = W3 at o3 g3 ⊢
        refine (km W3).mono ?_
        rintro e w4 ⟨rfl, hb4⟩
        have o4 := own_keep o3 hb4
        have g4 := grw_trans g3 (grw_below _ hb4)
        have f4 := fun j => o4.frozenAt j
        have d6 := (o4.cellAt (k * 9 + 6) (by omega)).trans y6
        have d7 := (o4.cellAt (k * 9 + 7) (by omega)).trans y7
        clear o3 g3 hb4 km
        go_wp2_with (first | (go_at_call 21; fail))
        have o5 := (o4.stored (k * 9 + 6) (.string N.x)).1
        have g5 := grw_set g4 (k * 9 + 6) (.string N.x)
        rw [← List.getElem?_set_ne (show k * 9 + 6 ≠ k * 9 + 7 by omega) (a := .string N.x)] at y7
        rw [← List.getElem?_set_ne (show k * 9 + 6 ≠ k * 9 + 8 by omega) (a := .string N.x)] at y8
        clear o4 g4 f4 d6 d7 y6
        generalize w4.setCell ⟨g, k * 9 + 6, none⟩ (.string N.x) = W5 at o5 g5 ⊢
        have hbr := HST.out.bel
        have bel5 : Below W1.heap.size W1 W5 := hbr.grown g5 hbr.size (by intro b hb; obtain rfl := Option.some.inj hb; exact hgw)
        have kn := clonedNames_any W5 (.slice an N.nm.length en) N.nm (HXS.out.1.below bel5) hs1' hs4
        refine kn.mono ?_
        rintro e w6 ⟨v7, rfl, on6, hb6⟩
        obtain ⟨a7, e7, rfl⟩ := own_form on6
        have o6 := own_keep o5 hb6
        have g6 := grw_trans g5 (grw_below _ hb6)
        have f6 := fun j => o6.frozenAt j
        have d7 := (o6.cellAt (k * 9 + 7) (by omega)).trans y7
        have d8 := (o6.cellAt (k * 9 + 8) (by omega)).trans y8
        clear kn
        go_wp2_with (first | (go_at_call 22; fail))
        have o7 := (o6.stored (k * 9 + 7) (.slice a7 N.nm.length e7)).1
        have g7 := grw_set g6 (k * 9 + 7) (.slice a7 N.nm.length e7)
        have on7 := on6.kept (grw_set (grw_refl w6 (some g)) (k * 9 + 7) (.slice a7 N.nm.length e7)) (own_apart2 on6 o6 (by decide))
        rw [← List.getElem?_set_ne (show k * 9 + 7 ≠ k * 9 + 8 by omega) (a := .slice a7 N.nm.length e7)] at y8
        have h56 : W5.heap.size ≤ (w6.setCell ⟨g, k * 9 + 7, none⟩ (.slice a7 N.nm.length e7)).heap.size := by have := hb6.size; simpa [World.setCell] using this
        clear f6 d7 d8 y7
        generalize w6.setCell ⟨g, k * 9 + 7, none⟩ (.slice a7 N.nm.length e7) = W7 at o7 g7 on7 h56 ⊢
        have bel7 : Below W1.heap.size W1 W7 := hbr.grown g7 hbr.size (by intro b hb; obtain rfl := Option.some.inj hb; exact hgw)
        have ki := cloneInts_any W7 (.slice ak N.ks.length ek) N.ks (HXS.out.2.below bel7) hs2
        refine ki.mono ?_
        rintro e w8 ⟨v8, rfl, ok8, hb8⟩
        obtain ⟨a8, e8, rfl⟩ := own_form ok8
        have o8 := own_keep o7 hb8
        have g8 := grw_trans g7 (grw_below _ hb8)
        have on8 := own_keep on7 hb8
        have f8 := fun j => o8.frozenAt j
        have d8 := (o8.cellAt (k * 9 + 8) (by omega)).trans y8
        clear ki
        go_wp2_with fail
        have o9 := (o8.stored (k * 9 + 8) (.slice a8 N.ks.length e8)).1
        have g9 := grw_set g8 (k * 9 + 8) (.slice a8 N.ks.length e8)
        have g89 := grw_set (grw_refl w8 (some g)) (k * 9 + 8) (.slice a8 N.ks.length e8)
        have on9 := on8.kept g89 (own_apart2 on8 o8 (by decide))
        have ok9 := ok8.kept g89 (own_apart2 ok8 o8 (by decide))
        obtain ⟨hP, hPl, hNk⟩ := HP.out
        have st := HST.out
        rw [hP] at o9
        simp only [cMb] at o9
        rw [set3 _ _ _ hPl] at o9
        have ey : cMb ⟨bareN N, .slice a7 N.nm.length e7, .slice a8 N.ks.length e8⟩ = [.int .i64 N.k, .int .i64 0, .int .i64 0, .int .i64 0, .int .i64 N.op, .int .i64 N.n, .string N.x, .slice a7 N.nm.length e7, .slice a8 N.ks.length e8] := rfl
        rw [← ey, ← cMbs_cons, show ∀ (A B : List Mb) (y : Mb), cMbs A ++ cMbs (y :: B) = cMbs ((A ++ [y]) ++ B) by intro A B y; rw [← cMbs_app, List.append_assoc]; rfl] at o9
        have hst : W5.heap.size ≤ w8.heap.size := Nat.le_trans h56 hb8.size
        have hw5 : wr.heap.size ≤ W5.heap.size := g5.size
        have q1 : ∀ x ∈ Q, MbOwn (w8.setCell ⟨g, k * 9 + 8, none⟩ (.slice a8 N.ks.length e8)) W1.heap.size (w8.setCell ⟨g, k * 9 + 8, none⟩ (.slice a8 N.ks.length e8)).heap.size x := fun x hx => by
          have h := (st.each x hx).up (hi2 := (w8.setCell ⟨g, k * 9 + 8, none⟩ (.slice a8 N.ks.length e8)).heap.size) (by have := g9.size; exact this)
          exact ⟨h.on.kept g9 (own_apart2 h.on HR.out (by decide)), h.ok.kept g9 (own_apart2 h.ok HR.out (by decide)), h.hn, h.hk⟩
        have q2 : MbOwn (w8.setCell ⟨g, k * 9 + 8, none⟩ (.slice a8 N.ks.length e8)) W1.heap.size (w8.setCell ⟨g, k * 9 + 8, none⟩ (.slice a8 N.ks.length e8)).heap.size ⟨bareN N, .slice a7 N.nm.length e7, .slice a8 N.ks.length e8⟩ :=
          ⟨own_le on9 bel5.size, own_le ok9 bel7.size, fun b hb => (on9.lt b hb).2, fun b hb => (ok9.lt b hb).2⟩
        refine ⟨⟨k + 1, Q ++ [⟨bareN N, .slice a7 N.nm.length e7, .slice a8 N.ks.length e8⟩], by omega, by go_num, ⟨o9, by simp [st.len], ?_, ?_, ?_, ?_, ?_⟩⟩, by simp [intOf]; omega⟩
        · rw [List.map_append, st.nds, take_at hNk, List.map_append]; rfl
        · intro x hx
          rcases List.mem_append.1 hx with hx | hx
          · exact q1 x hx
          · obtain rfl := List.mem_singleton.1 hx; exact q2
        · rw [List.map_append]
          refine apart_add st.dn fun u hu => ?_
          obtain ⟨x, hx, rfl⟩ := List.mem_map.1 hu
          exact own_old (st.each x hx).on on6 hw5
        · rw [List.map_append]
          refine apart_add st.dk fun u hu => ?_
          obtain ⟨x, hx, rfl⟩ := List.mem_map.1 hu
          exact own_old (st.each x hx).ok ok8 (Nat.le_trans hw5 h56)
        · exact hbr.grown g9 hbr.size (by intro b hb; obtain rfl := Option.some.inj hb; exact hgw)
      · obtain rfl : k = n := by omega
        have hz2 := (st.bel.block _ (by omega)).trans HZ.out
        have z0 : wr.cell? ⟨w.heap.size + 1, 0, none⟩ = some (.slice none 0 0) := by rw [cell_of_row _ _ _ _ _ _ hz2]; rfl
        have zf : wr.frozen? ⟨w.heap.size + 1, 0, none⟩ = false := frozen_of_row _ _ _ _ _ hz2
        have HST : Hid (BrSt W1 g k cap ns L k wr Q) := st
        clear st
        go_wp2_with fail
        have st := HST.out
        have hB := HB.out
        have hrow := st.row
        rw [List.drop_of_length_le (by omega), List.append_nil] at hrow
        have hbb : w.heap.size + 1 < W1.heap.size := by rw [HS1.out]; omega
        have keep : ∀ {e size nn : Nat} {vv : Value} {xs : List Value}, wr.ownsRow W1.heap.size e size vv nn xs → (wr.setCell ⟨w.heap.size + 1, 0, none⟩ (.slice (some ⟨g, 0, none⟩) k cap)).ownsRow w.heap.size e size vv nn xs := fun ho => own_le (ownsRow_setCell_below (a := ⟨w.heap.size + 1, 0, none⟩) ho hbb _) hB.size
        refine bodyPost_ret (results_cell_row rfl _ _ (w.heap.size + 1) _ _ _ _ rfl (heap_setCell_same _ _ 0 _ _ _ hz2) Try.underlying30 rfl (by kernel_rfl)) rfl ⟨_, Q, rfl, ?_, ⟨?_, ?_, ?_, st.dn, st.dk⟩, (hB.trans (st.bel.mono hB.size)).setCell (by simp) _⟩
        · rw [st.nds, List.take_of_length_le (by rw [HN.out]; omega)]
        · rw [st.len]; exact keep hrow
        · intro b hb; have := (hrow.lt b hb).2; simpa [World.setCell] using this
        · intro x hx
          have h := st.each x hx
          exact ⟨keep h.on, keep h.ok, fun b hb => by simpa [World.setCell] using h.hn b hb, fun b hb => by simpa [World.setCell] using h.hk b hb⟩
end Go.Proofs.Ytdaaiekepmlpoaa
