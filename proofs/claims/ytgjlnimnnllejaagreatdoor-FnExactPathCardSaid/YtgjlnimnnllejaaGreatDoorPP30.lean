import Derived.Test.YtgjlnimnnllejaaGreatDoorPP29
import Derived.Test.YtgjlnimnnllejaaGreatDoorPP28
import Derived.Test.YtgjlnimnnllejaaGreatDoorPP05
import Derived.Test.YtgjlnimnnllejaaGreatDoorTie
import Derived.Test.YtgjlnimnnllejaaGreatDoorCards
import Derived.SevenTiedAt
import Derived.Lib.SmallJoins
namespace Go.Proofs.YtgjlnimnnllejaaGreatDoor
open Go.RowKit Go.Maps Go.WideMaps
set_option linter.unusedVariables false

theorem NdsAt.formn {W : World} {v : Value} {l : List Nd} {n : Nat} (h : NdsAt W v l) (hn : l.length = n) : ∃ a c, v = .slice a n c := by subst hn; exact h.form
theorem MbsOwn.formn {W : World} {lo hi n : Nat} {v : Value} {L : List Mb} (h : MbsOwn W lo hi v L) (hn : L.length = n) : ∃ a c, v = .slice a n c := by subst hn; exact own_form h.row
theorem Short.small {ns : List Nd} (h : Short ns) : ∀ N ∈ ns, NdSmall N := fun N hN => by
  obtain ⟨h1, h2, h3, h4⟩ := h.a N hN
  exact ⟨h1, h2, h3, h4⟩

set_option maxRecDepth 100000 in
set_option maxHeartbeats 12800000 in
theorem treeok_walk (w : World) (u : Value) (ns : List Nd) (h : NdsAt w u ns) (hs : ∀ N ∈ ns, NdLen N) (hl : ns.length ≤ 9223372036854775807) (he : Errs w) (tt : TypeId) (fr : Nat × Nat) (hG : w.heap[0]? = some (.cells wordV tt fr))
    (htab : ∀ W, Below w.heap.size w W → Lib.TabIs Tryz.prog W "strings.asciiSpace" .u8 Lib.asciiSpaceTab) :
    Calls Tryz.prog 3 #[.agg #[u]] w fun e w' => e = .returned (.bool true) ∧ Below w.heap.size w w' := by
  have hb0 : ∀ o, Below w.heap.size w (w.alloc o) := fun o => (Below.refl _ w).alloc (Nat.le_refl _) o
  have kz := fun o => szTree_any (w.alloc o) u ns 1048576 (h.below (hb0 o)) hs hl (by omega) (by omega)
  obtain ⟨n, hn⟩ : ∃ n, ns.length = n := ⟨_, rfl⟩
  have HN : Hid (ns.length = n) := hn
  obtain ⟨a, c, rfl⟩ := h.formn hn
  have HA : Hid (NdsAt w (.slice a n c) ns) := h
  have HE : Hid (∀ W v, Below w.heap.size w W → NdsAt W v ns → Short ns → Calls Tryz.prog 8 #[.agg #[v]] W fun e w' => e = .returned (.agg #[.int .i64 (treeF ns).1, .int .i64 (treeF ns).2]) ∧ Below W.heap.size W w') := fun W v hW hv sh =>
    treeOkI_any W v ns hv sh.l sh.small (he.below hW (Nat.le_refl _)) tt fr ((hW.block _ (lt_of_block hG)).trans hG) (fun W2 h2 => htab W2 (hW.trans (h2.mono hW.size)))
  by_cases hbk : bulkT ns ≤ 1048576
  · have sh := short_of hbk
    rw [lessI_yes (by omega)] at kz
    obtain ⟨R, hR⟩ : ∃ R : Int, 1048576 - (bulkT ns : Int) = R := ⟨_, rfl⟩
    have hR0 : ¬ R < 0 := by omega
    rw [hR] at kz
    have hln := sh.l
    rw [hn] at hln
    have HSH : Hid (Short ns) := sh
    obtain ⟨F1, hF1⟩ : ∃ F1, (treeF ns).1 = F1 := ⟨_, rfl⟩
    obtain ⟨F2, hF2⟩ : ∃ F2, (treeF ns).2 = F2 := ⟨_, rfl⟩
    rw [hF1, hF2] at HE
    have HF : Hid ((treeF ns).1 = F1 ∧ (treeF ns).2 = F2) := ⟨hF1, hF2⟩
    clear hR hbk h hs hl hn sh he hG htab hF1 hF2
    go_enter Tryz.func3, Tryz.ntmps3
    go_wp2_with (go_at_call 5; fail)
    have B0 := heap_alloc_new w (.cells #[.slice a n c] 24)
    have hs0 : (w.alloc (.cells #[.slice a n c] 24)).heap.size = w.heap.size + 1 := World.size_alloc _ _
    refine (kz _).mono ?_
    rintro e w1 ⟨rfl, hb1⟩
    have B1 := (hb1.block _ (by omega)).trans B0
    have hbw1 : Below w.heap.size w w1 := (hb0 _).trans (hb1.mono (by omega))
    have c1 := one_cell1 B1
    clear B0 hb1 kz
    go_wp2_with (go_at_call 7; fail)
    refine (toTree_m w1 _ ns (HA.out.below hbw1) HSH.out.l HSH.out.n).mono ?_
    rintro e w2 ⟨va, La, rfl, hLa, oa, hb2⟩
    obtain ⟨aa, ea, rfl⟩ := oa.formn (n := n) (by rw [← HN.out, ← hLa, List.length_map])
    go_wp2_with (go_at_call 6; fail)
    refine (treeok_any w2 _ ns (by rw [← hLa]; exact oa.nds) HSH.out.l HSH.out.small).mono ?_
    rintro e w3 ⟨rfl, hb3⟩
    rw [HF.out.1, HF.out.2]
    have hbw2 : Below w.heap.size w w2 := hbw1.trans (hb2.mono hbw1.size)
    have hbw3 : Below w.heap.size w w3 := hbw2.trans (hb3.mono hbw2.size)
    have B3 := (hb3.block _ (lt_of_block ((hb2.block _ (lt_of_block B1)).trans B1))).trans ((hb2.block _ (lt_of_block B1)).trans B1)
    have c3 := one_cell1 B3
    have hw3 : w.heap.size < w3.heap.size := lt_of_block B3
    clear c1 B1 hb2 hb3 oa hLa
    go_wp2_with (go_at_call 7; fail)
    have B4 := heap_alloc_new w3 (.cells #[.int .i64 F1, .int .i64 F2] 27)
    have hb34 : Below w3.heap.size w3 (w3.alloc (.cells #[.int .i64 F1, .int .i64 F2] 27)) := (Below.refl _ w3).alloc (Nat.le_refl _) _
    have hs4 : (w3.alloc (.cells #[.int .i64 F1, .int .i64 F2] 27)).heap.size = w3.heap.size + 1 := World.size_alloc _ _
    generalize w3.alloc (.cells #[.int .i64 F1, .int .i64 F2] 27) = W4 at B4 hb34 hs4 ⊢
    have hbw4 : Below w.heap.size w W4 := hbw3.trans (hb34.mono hbw3.size)
    refine (toTree_m W4 _ ns (HA.out.below hbw4) HSH.out.l HSH.out.n).mono ?_
    rintro e w5 ⟨vx, LX, rfl, hLX, ox, hb5⟩
    obtain ⟨ax, ex, rfl⟩ := ox.formn (n := n) (by rw [← HN.out, ← hLX, List.length_map])
    clear c3
    go_wp2_with (go_at_call 8; fail)
    have B5 := heap_alloc_new w5 (.cells #[.slice ax n ex] 31)
    have hb56 : Below w5.heap.size w5 (w5.alloc (.cells #[.slice ax n ex] 31)) := (Below.refl _ w5).alloc (Nat.le_refl _) _
    have hs6 : (w5.alloc (.cells #[.slice ax n ex] 31)).heap.size = w5.heap.size + 1 := World.size_alloc _ _
    generalize w5.alloc (.cells #[.slice ax n ex] 31) = W6 at B5 hb56 hs6 ⊢
    have nx6 : NdsAt W6 (.slice ax n ex) ns := by have := (ox.below hb56).nds; rw [hLX] at this; exact this
    have hbw5 : Below w.heap.size w w5 := hbw4.trans (hb5.mono hbw4.size)
    have hbw6 : Below w.heap.size w W6 := hbw5.trans (hb56.mono hbw5.size)
    refine (HE.out W6 _ hbw6 nx6 HSH.out).mono ?_
    rintro e w7 ⟨rfl, hb7⟩
    have hz5 := hb5.size
    have hz7 := hb7.size
    have b4k := (hb7.block _ (by omega)).trans ((hb56.block _ (by omega)).trans ((hb5.block _ (by omega)).trans B4))
    have d4 : w7.cell? ⟨w3.heap.size, 0, none⟩ = some (.int .i64 F1) := by rw [cell_of_row _ _ _ _ _ _ b4k]; rfl
    have d5 : w7.cell? ⟨w3.heap.size, 1, none⟩ = some (.int .i64 F2) := by rw [cell_of_row _ _ _ _ _ _ b4k]; rfl
    have hx1 : w3.heap.size < w7.heap.size := by omega
    have hx2 : w3.heap.size ≠ w7.heap.size := by omega
    have hbw7 : Below w.heap.size w w7 := hbw6.trans (hb7.mono hbw6.size)
    have nx7 := nx6.below hb7
    have b1k := (hb7.block _ (by omega)).trans ((hb56.block _ (by omega)).trans ((hb5.block _ (by omega)).trans ((hb34.block _ hw3).trans B3)))
    have b5k := (hb7.block _ (by omega)).trans B5
    have HB7 : Hid (Below w.heap.size w w7 ∧ NdsAt w7 (.slice ax n ex) ns ∧ w7.heap[w.heap.size]? = some (.cells #[.slice a n c] 24 (0, 0)) ∧ w7.heap[w5.heap.size]? = some (.cells #[.slice ax n ex] 31 (0, 0))) := ⟨hbw7, nx7, b1k, b5k⟩
    clear hbw7 nx7 b1k b5k hb7 hb56 hb5 hb34 B3 B4 B5 b4k hbw1 hbw2 hbw3 hbw4 hbw5 hbw6 nx6 ox hLX hz5 hz7 hs4 hs6 hw3 hs0
    go_wp2_with (go_at_call 9; fail)
    have hb78 : Below w7.heap.size w7 (w7.alloc (.cells #[.int .i64 F1, .int .i64 F2] 27)) := (Below.refl _ w7).alloc (Nat.le_refl _) _
    generalize w7.alloc (.cells #[.int .i64 F1, .int .i64 F2] 27) = W8 at hb78 ⊢
    refine (eqFault_same W8 F1 F2).mono ?_
    rintro e w9 ⟨rfl, hb9⟩
    have b79 := hb78.trans (hb9.mono hb78.size)
    have hbw9 : Below w.heap.size w w9 := HB7.out.1.trans (b79.mono HB7.out.1.size)
    have e1 := one_cell1 ((b79.block _ (lt_of_block HB7.out.2.2.1)).trans HB7.out.2.2.1)
    have e5 := one_cell1 ((b79.block _ (lt_of_block HB7.out.2.2.2)).trans HB7.out.2.2.2)
    have bD : ∀ (W : World), Below W.heap.size W W.drew := fun W => bel_drew1 (Below.refl _ W)
    have kt := toTree_m w9.drew (.slice a n c) ns ((HA.out.below hbw9).below (bD _)) HSH.out.l HSH.out.n
    have kq := fun (W : World) v (h1 : NdsAt W v ns) (h2 : NdsAt W (.slice ax n ex) ns) => eqTree_any W (.slice ax n ex) v ns h2 h1 HSH.out.l HSH.out.n
    have nx9 : NdsAt w9.drew (.slice ax n ex) ns := (HB7.out.2.1.below b79).below (bD _)
    clear d4 d5 hx1 hx2 hb78 hb9 b79
    go_wp2_with fail
    go_region_held3 (fun w' => w'.cell? ⟨w.heap.size, 0, none⟩ = some (.slice a n c) ∧ w'.cell? ⟨w5.heap.size, 0, none⟩ = some (.slice ax n ex)) (first | go_keep | exact ⟨cell_kept hb11 (cell_kept hb10 e1), cell_kept hb11 (cell_kept hb10 e5)⟩ | exact ⟨cell_kept hb10 e1, cell_kept hb10 e5⟩) (first | (go_at_call 7; refine kt.mono ?_; rintro e w10 ⟨vt, LT, rfl, hLT, ot, hb10⟩; obtain ⟨at_, et, rfl⟩ := ot.formn (n := n) (by rw [← HN.out, ← hLT, List.length_map])) | (go_at_call 10; refine (kq _ _ (by have := ot.nds; rw [hLT] at this; exact this) (nx9.below hb10)).mono ?_; rintro e w11 ⟨rfl, hb11⟩))
    have b911 : Below w9.heap.size w9 w11 := ((bD w9).trans hb10).trans (hb11.mono hb10.size)
    go_wp2_with fail
    go_ret
    exact ⟨rfl, hbw9.trans (b911.mono hbw9.size)⟩
  · rw [lessI_no (by omega)] at kz
    clear hbk h hs hl hn
    go_enter Tryz.func3, Tryz.ntmps3
    go_wp2_with (go_at_call 5; refine (kz _).mono ?_; rintro e w1 ⟨rfl, hb1⟩)
    go_ret
    exact ⟨rfl, (hb0 _).trans (hb1.mono (by simp))⟩
end Go.Proofs.YtgjlnimnnllejaaGreatDoor

namespace Go.Proofs.YtgjlnimnnllejaaGreatDoor
open Go.RowKit
set_option linter.unusedVariables false

set_option maxHeartbeats 800000 in
theorem markNodeS_none (w : World) (K : Nat) (a1 : Option Addr) (c1 : Nat) :
    Calls Tryz.prog 24 #[.slice a1 0 c1, .int .i64 K] w fun e w' => e = .returned (.int .i64 K) ∧ w' = w := by
  go_enter Tryz.func24, Tryz.ntmps24
  go_wp2_with fail
  refine wp_loop_rounds 1 ?_
  rw [rounds_succ]
  go_wp2
  go_ret
  exact ⟨rfl, rfl⟩
theorem markNodeS_any (w : World) (L : List Mb) (K lo hi : Nat) (v : Value) (hK0 : 0 < K) (hK : cnt K (L.map Mb.N) ≤ 40000000) (hn : L.length ≤ 1048576) (o : MbsOwn w lo hi v L) :
    Calls Tryz.prog 24 #[v, .int .i64 K] w fun e w' => e = .returned (.int .i64 (cnt K (L.map Mb.N) : Nat)) ∧ MbsOwn w' lo hi v (mkMs K L) ∧ Mid lo hi w w' := by
  rcases own_zero_or o.row with ⟨h0, rfl⟩ | ⟨g, cap, rfl⟩
  · obtain rfl : L = [] := List.eq_nil_of_length_eq_zero h0
    refine (markNodeS_none w K none 0).mono ?_
    rintro e w' ⟨rfl, rfl⟩
    exact ⟨rfl, o, Mid.refl _ _ _⟩
  · exact markNodeS_some w L K lo hi _ g cap hK0 hK rfl hn o
set_option maxHeartbeats 800000 in
theorem markTree_any (w : World) (L : List Mb) (lo hi : Nat) (v : Value) (hK : cnt 1 (L.map Mb.N) ≤ 40000000) (hn : L.length ≤ 1048576) (hhi : hi ≤ w.heap.size) (o : MbsOwn w lo hi v L) :
    Calls Tryz.prog 14 #[.agg #[v], .int .i64 1] w fun e w' => e = .returned (.int .i64 (cnt 1 (L.map Mb.N) : Nat)) ∧ MbsOwn w' lo hi v (mkMs 1 L) ∧ Mid lo hi w w' := by
  have hb0 : ∀ o, Below w.heap.size w (w.alloc o) := fun o => (Below.refl _ w).alloc (Nat.le_refl _) o
  have km := fun ob => markNodeS_any (w.alloc ob) L 1 lo hi v (by omega) hK hn (o.below (hb0 ob))
  obtain ⟨a, c, rfl⟩ := own_form o.row
  generalize cnt 1 (L.map Mb.N) = R at km hK
  generalize L.length = n at km
  go_enter Tryz.func14, Tryz.ntmps14
  go_wp2_with (go_at_call 24; refine (km _).mono ?_; rintro e w4 ⟨rfl, o4, hg4⟩)
  go_ret
  refine ⟨rfl, o4, hg4.os, hg4.tape, hg4.output, Nat.le_trans (by simp) hg4.size, fun k hk hne => (hg4.block k (by simp; omega) hne).trans (Below.heap_alloc w _ k hk)⟩

end Go.Proofs.YtgjlnimnnllejaaGreatDoor

namespace Go.Proofs.YtgjlnimnnllejaaGreatDoor
open Go.RowKit Go.Maps Go.WideMaps
set_option linter.unusedVariables false

theorem specPath_any (w : World) (v : Value) (ns : List Nd) (at_ : Int) (h : NdsAt w v ns) (hl : ns.length ≤ 1048576) (sm : ∀ N ∈ ns, NdSmall N) :
    Calls Tryz.prog 11 #[.agg #[v], .int .i64 at_] w fun e w' => ∃ v', e = .returned v' ∧ w'.ownsRow w.heap.size 3 1 v' (pathF ns at_).length ((pathF ns at_).map (Value.int .i64)) ∧ Below w.heap.size w w' := by
  by_cases h0 : (treeF ns).1 = 0
  · exact specPath_ok w v ns at_ h hl sm h0
  · have hp : pathF ns at_ = [] := if_neg h0
    rw [hp]
    refine (specPath_bad w v ns at_ h hl sm h0).mono ?_
    rintro e w' ⟨rfl, hb⟩
    exact ⟨_, rfl, World.ownsRow_nil _ _ _ _, hb⟩
theorem pathF_len (ns : List Nd) (at_ : Int) : (pathF ns at_).length ≤ 3000 := by
  unfold pathF
  split
  · rename_i h
    have := (sound_of h).len.2
    have := pathQ_len (ns := ns) (at_ := at_) (f := ns.length) (i := (ns.length : Int) - 1)
    omega
  · simp
/-- The boxes of the law, and what the model answered. -/
structure Px (w w3 : World) (p5 : Nat) (u vw vx : Value) (R : List Int) (W : World) : Prop where
  b1 : W.heap[w.heap.size]? = some (.cells #[u] 24 (0, 0))
  b5 : W.heap[p5]? = some (.cells #[vx] 31 (0, 0))
  n3 : IntsAt w3 vw R
  l3 : Below w3.heap.size w3 W
  bl : Below w.heap.size w W
theorem Px.nw {w w3 : World} {p5 : Nat} {u vw vx : Value} {R : List Int} {W : World} (h : Px w w3 p5 u vw vx R W) : IntsAt W vw R := h.n3.below h.l3
theorem Px.below {w w3 : World} {p5 : Nat} {u vw vx : Value} {R : List Int} {W W' : World} (h : Px w w3 p5 u vw vx R W) (hb : Below W.heap.size W W') : Px w w3 p5 u vw vx R W' :=
  ⟨(hb.block _ (lt_of_block h.b1)).trans h.b1, (hb.block _ (lt_of_block h.b5)).trans h.b5, h.n3, h.l3.trans (hb.mono h.l3.size), h.bl.trans (hb.mono h.bl.size)⟩
theorem Px.mid {w w3 : World} {p5 lo hi : Nat} {u vw vx : Value} {R : List Int} {W W' : World} (h : Px w w3 p5 u vw vx R W) (hm : Mid lo hi W W') (h1 : w.heap.size < lo) (h3 : w3.heap.size ≤ lo) (h5 : p5 < lo ∨ hi ≤ p5) : Px w w3 p5 u vw vx R W' :=
  ⟨(hm.block _ (lt_of_block h.b1) (.inl h1)).trans h.b1, (hm.block _ (lt_of_block h.b5) h5).trans h.b5, h.n3, hm.bel h.l3 (by omega) h.l3.size, hm.bel h.bl (by omega) h.bl.size⟩

set_option maxRecDepth 100000 in
set_option maxHeartbeats 12800000 in
theorem path_walk (w : World) (u : Value) (ns : List Nd) (at_ : Int) (h : NdsAt w u ns) (hs : ∀ N ∈ ns, NdLen N) (hl : ns.length ≤ 9223372036854775807) (he : Errs w) (tt : TypeId) (fr : Nat × Nat) (hG : w.heap[0]? = some (.cells wordV tt fr))
    (htab : ∀ W, Below w.heap.size w W → Lib.TabIs Tryz.prog W "strings.asciiSpace" .u8 Lib.asciiSpaceTab) :
    Calls Tryz.prog 4 #[.agg #[u], .int .i64 at_] w fun e w' => e = .returned (.bool true) ∧ Below w.heap.size w w' := by
  have hb0 : ∀ o, Below w.heap.size w (w.alloc o) := fun o => (Below.refl _ w).alloc (Nat.le_refl _) o
  have kz := fun o => szTree_any (w.alloc o) u ns 1048576 (h.below (hb0 o)) hs hl (by omega) (by omega)
  obtain ⟨n, hn⟩ : ∃ n, ns.length = n := ⟨_, rfl⟩
  have HN : Hid (ns.length = n) := hn
  obtain ⟨a, c, rfl⟩ := h.formn hn
  have HA : Hid (NdsAt w (.slice a n c) ns) := h
  obtain ⟨R, hR⟩ : ∃ R, pathF ns at_ = R := ⟨_, rfl⟩
  obtain ⟨m, hm⟩ : ∃ m, R.length = m := ⟨_, rfl⟩
  have hm3 : m ≤ 3000 := by rw [← hm, ← hR]; exact pathF_len ns at_
  have HR : Hid (pathF ns at_ = R ∧ R.length = m) := ⟨hR, hm⟩
  have HE : Hid (∀ W v, Below w.heap.size w W → NdsAt W v ns → Short ns → Calls Tryz.prog 12 #[.agg #[v], .int .i64 at_] W fun e w' => ∃ g k, e = .returned (.slice g m k) ∧ w'.ownsRow W.heap.size 3 1 (.slice g m k) m (R.map (Value.int .i64)) ∧ Below W.heap.size W w') := fun W v hW hv sh => by
    refine (implPath_any W v ns at_ hv sh.l sh.small (he.below hW (Nat.le_refl _)) tt fr ((hW.block _ (lt_of_block hG)).trans hG) (fun W2 h2 => htab W2 (hW.trans (h2.mono hW.size)))).mono ?_
    rintro e w' ⟨v', rfl, ho, hb⟩
    rw [hR, hm] at ho
    obtain ⟨g, k, rfl⟩ := own_form ho
    exact ⟨_, _, rfl, ho, hb⟩
  have HP : Hid (∀ W v, NdsAt W v ns → Short ns → Calls Tryz.prog 11 #[.agg #[v], .int .i64 at_] W fun e w' => ∃ g k, e = .returned (.slice g m k) ∧ IntsAt w' (.slice g m k) R ∧ Below W.heap.size W w') := fun W v hv sh => by
    refine (specPath_any W v ns at_ hv sh.l sh.small).mono ?_
    rintro e w' ⟨v', rfl, ho, hb⟩
    rw [hR] at ho
    have hi := own_ints2 ho
    obtain ⟨g, k, rfl⟩ := own_form ho
    rw [hm] at hi ⊢
    exact ⟨_, _, rfl, hi, hb⟩
  by_cases hbk : bulkT ns ≤ 1048576
  · have sh := short_of hbk
    rw [lessI_yes (by omega)] at kz
    obtain ⟨Rz, hRz⟩ : ∃ R : Int, 1048576 - (bulkT ns : Int) = R := ⟨_, rfl⟩
    have hR0 : ¬ Rz < 0 := by omega
    rw [hRz] at kz
    have hln := sh.l
    rw [hn] at hln
    have HSH : Hid (Short ns) := sh
    clear hRz hbk h hs hl hn sh he hG htab hR hm
    go_enter Tryz.func4, Tryz.ntmps4
    go_wp2_with (go_at_call 5; fail)
    have B0 := heap_alloc_new w (.cells #[.slice a n c] 24)
    have hs0 : (w.alloc (.cells #[.slice a n c] 24)).heap.size = w.heap.size + 1 := World.size_alloc _ _
    refine (kz _).mono ?_
    rintro e w1 ⟨rfl, hb1⟩
    have B1 := (hb1.block _ (by omega)).trans B0
    have hbw1 : Below w.heap.size w w1 := (hb0 _).trans (hb1.mono (by omega))
    have c1 := one_cell1 B1
    clear B0 hb1 kz
    go_wp2_with (go_at_call 7; fail)
    refine (toTree_m w1 _ ns (HA.out.below hbw1) HSH.out.l HSH.out.n).mono ?_
    rintro e w2 ⟨va, La, rfl, hLa, oa, hb2⟩
    obtain ⟨aa, ea, rfl⟩ := oa.formn (n := n) (by rw [← HN.out, ← hLa, List.length_map])
    go_wp2_with (go_at_call 11; fail)
    refine (HP.out w2 _ (by rw [← hLa]; exact oa.nds) HSH.out).mono ?_
    rintro e w3 ⟨gw, kw, rfl, nw, hb3⟩
    have hbw2 : Below w.heap.size w w2 := hbw1.trans (hb2.mono hbw1.size)
    have hbw3 : Below w.heap.size w w3 := hbw2.trans (hb3.mono hbw2.size)
    have B3 := (hb3.block _ (lt_of_block ((hb2.block _ (lt_of_block B1)).trans B1))).trans ((hb2.block _ (lt_of_block B1)).trans B1)
    have c3 := one_cell1 B3
    have hw3 : w.heap.size < w3.heap.size := lt_of_block B3
    clear c1 B1 hb2 hb3 oa hLa
    go_wp2_with (go_at_call 7; fail)
    refine (toTree_m w3 _ ns (HA.out.below hbw3) HSH.out.l HSH.out.n).mono ?_
    rintro e w5 ⟨vx, LX, rfl, hLX, ox, hb5⟩
    obtain ⟨ax, ex, rfl⟩ := ox.formn (n := n) (by rw [← HN.out, ← hLX, List.length_map])
    clear c3
    go_wp2_with (go_at_call 12; fail)
    have B5 := heap_alloc_new w5 (.cells #[.slice ax n ex] 31)
    have hb56 : Below w5.heap.size w5 (w5.alloc (.cells #[.slice ax n ex] 31)) := (Below.refl _ w5).alloc (Nat.le_refl _) _
    have hs6 : (w5.alloc (.cells #[.slice ax n ex] 31)).heap.size = w5.heap.size + 1 := World.size_alloc _ _
    generalize w5.alloc (.cells #[.slice ax n ex] 31) = W6 at B5 hb56 hs6 ⊢
    have ox6 := ox.below hb56
    have nx6 : NdsAt W6 (.slice ax n ex) ns := by have := ox6.nds; rw [hLX] at this; exact this
    have hbw5 : Below w.heap.size w w5 := hbw3.trans (hb5.mono hbw3.size)
    have hbw6 : Below w.heap.size w W6 := hbw5.trans (hb56.mono hbw5.size)
    refine (HE.out W6 _ hbw6 nx6 HSH.out).mono ?_
    rintro e w7 ⟨gg, kg, rfl, og, hb7⟩
    have hz5 := hb5.size
    have hz7 := hb7.size
    have b57 := hb56.trans (hb7.mono (by omega))
    have b37 := hb5.trans (b57.mono hb5.size)
    have hPx : Px w w3 w5.heap.size (.slice a n c) (.slice gw m kw) (.slice ax n ex) R w7 :=
      ⟨(b37.block _ hw3).trans B3, (hb7.block _ (by omega)).trans B5, nw, b37, hbw3.trans (b37.mono hbw3.size)⟩
    have ox7 := ox6.below hb7
    have hord : Hid (w3.heap.size ≤ w5.heap.size ∧ W6.heap.size = w5.heap.size + 1 ∧ w.heap.size < w3.heap.size ∧ W6.heap.size ≤ w7.heap.size) := ⟨hz5, hs6, hw3, hz7⟩
    have HLX : Hid (LX.map Mb.N = ns ∧ LX.length = n) := ⟨hLX, by rw [← HN.out, ← hLX, List.length_map]⟩
    clear b57 b37 hb7 hb56 hb5 B3 B5 hbw1 hbw2 hbw3 hbw5 hbw6 hLX nw ox ox6 nx6 hs6 hz5 hz7 hw3 hs0
    have og2 : w7.ownsRow W6.heap.size 3 1 (.slice gg m kg) R.length (R.map (Value.int .i64)) := by rw [HR.out.2]; exact og
    have keq := fun (W : World) g1 k1 (h1 : IntsAt W (.slice g1 m k1) R) (h2 : IntsAt W (.slice gw m kw) R) => eqIntS_any W (.slice g1 m k1) (.slice gw m kw) R h1 h2 (by rw [HR.out.2]; omega)
    clear og
    go_wp2_with (go_at_call 13; fail)
    refine (keq w7 _ _ (own_ints2 og2) hPx.nw).mono ?_
    rintro e w9 ⟨rfl, hb9⟩
    have x9 := hPx.below hb9
    have ox9 := ox7.below hb9
    have og9 := own_keep og2 hb9
    have hz9 : w7.heap.size ≤ w9.heap.size := hb9.size
    clear hPx ox7 og2 hb9
    have e1 := one_cell1 x9.b1
    have e5 := one_cell1 x9.b5
    have bD : ∀ (W : World), Below W.heap.size W W.drew := fun W => bel_drew1 (Below.refl _ W)
    have kt := toTree_m w9.drew (.slice a n c) ns ((HA.out.below x9.bl).below (bD _)) HSH.out.l HSH.out.n
    have kq := fun (W : World) v (h1 : NdsAt W v ns) (h2 : NdsAt W (.slice ax n ex) ns) => eqTree_any W (.slice ax n ex) v ns h2 h1 HSH.out.l HSH.out.n
    have nx9 : NdsAt w9.drew (.slice ax n ex) ns := by have := ox9.nds; rw [HLX.out.1] at this; exact this.below (bD _)
    go_wp2_with fail
    go_region_held3 (fun w' => w'.cell? ⟨w.heap.size, 0, none⟩ = some (.slice a n c) ∧ w'.cell? ⟨w5.heap.size, 0, none⟩ = some (.slice ax n ex)) (first | go_keep | exact ⟨cell_kept hb11 (cell_kept hb10 e1), cell_kept hb11 (cell_kept hb10 e5)⟩ | exact ⟨cell_kept hb10 e1, cell_kept hb10 e5⟩) (first | (go_at_call 7; refine kt.mono ?_; rintro e w10 ⟨vt, LT, rfl, hLT, ot, hb10⟩; obtain ⟨at2, et, rfl⟩ := ot.formn (n := n) (by rw [← HN.out, ← hLT, List.length_map])) | (go_at_call 10; refine (kq _ _ (by have := ot.nds; rw [hLT] at this; exact this) (nx9.below hb10)).mono ?_; rintro e w11 ⟨rfl, hb11⟩))
    have b911 : Below w9.heap.size w9 w11 := ((bD w9).trans hb10).trans (hb11.mono hb10.size)
    have x11 := x9.below b911
    have ox11 := ox9.below b911
    have og11 := own_keep og9 b911
    have hz11 : w9.heap.size ≤ w11.heap.size := b911.size
    clear x9 ox9 og9 e1 e5 kt kq nx9 ot hb10 hb11 b911
    have e5 := one_cell1 x11.b5
    go_wp2_with (go_at_call 14; fail)
    obtain ⟨q1, q2, q3, q4⟩ := hord.out
    refine (markTree_any w11 LX w3.heap.size w5.heap.size _ (by rw [HLX.out.1]; exact HSH.out.c) (by rw [HLX.out.2]; exact hln) (by omega) ox11).mono ?_
    rintro e w12 ⟨rfl, ox12, hm12⟩
    have x12 := x11.mid hm12 (by omega) (Nat.le_refl _) (.inr (Nat.le_refl _))
    have og12 := hm12.kept og11 (by omega)
    have hz12 : w11.heap.size ≤ w12.heap.size := hm12.size
    clear e5 x11 ox11 og11 hm12 ox12
    obtain ⟨Z, hZ⟩ : ∃ Z : Int, ((cnt 1 (LX.map Mb.N) : Nat) : Int) = Z := ⟨_, rfl⟩
    have hZ0 : ¬ Z < 0 := by omega
    rw [hZ]
    clear hZ
    go_wp2_with (go_at_call 13; fail)
    refine (keq w12 _ _ (own_ints2 og12) x12.nw).mono ?_
    rintro e w13 ⟨rfl, hb13⟩
    have x13 := x12.below hb13
    have og13 := own_keep og12 hb13
    have hz13 : w12.heap.size ≤ w13.heap.size := hb13.size
    clear x12 og12 hb13
    go_wp2_with (go_at_call 15; fail)
    refine (markIntS_any w13 R 1 W6.heap.size _ (by omega) (by rw [HR.out.2]; omega) og13).mono ?_
    rintro e w14 ⟨rfl, og14, hg14⟩
    have x14 : Px w w3 w5.heap.size (.slice a n c) (.slice gw m kw) (.slice ax n ex) R w14 :=
      x13.mid (lo := W6.heap.size) (hi := w13.heap.size) (Mid.of_grown hg14 (fun g hg => og13.lt g hg)) (by omega) (by omega) (.inl (by omega))
    rw [HR.out.2] at og14 ⊢
    have in14 : IntsAt w14 (.slice gg m kg) (mki 1 m) := own_ints2 (by rw [mki_len]; exact og14)
    clear x13 og13 hg14 og14
    obtain ⟨Y, hY⟩ : ∃ Y : Int, ((1 + m : Nat) : Int) = Y := ⟨_, rfl⟩
    have hY0 : ¬ Y < 0 := by omega
    have HY : Hid (((1 + m : Nat) : Int) = Y) := hY
    rw [hY]
    have kh := fun (W : World) (hW : IntsAt W (.slice gg m kg) (mki 1 m)) => heldIntS_any W (.slice gg m kg) 1 m (by omega) (by omega) hW
    rw [hY] at kh
    clear hY
    go_wp2_with (go_at_call 16; fail)
    refine (kh w14 in14).mono ?_
    rintro e w15 ⟨rfl, h15⟩; subst w15
    have e1 := one_cell1 x14.b1
    go_wp2_with (go_at_call 7; fail)
    refine (toTree_m w14 _ ns (HA.out.below x14.bl) HSH.out.l HSH.out.n).mono ?_
    rintro e w16 ⟨vy, LY, rfl, hLY, oy, hb16⟩
    obtain ⟨ay, ey, rfl⟩ := oy.formn (n := n) (by rw [← HN.out, ← hLY, List.length_map])
    have x16 := x14.below hb16
    have in16 := in14.below hb16
    clear x14 in14 e1
    go_wp2_with (go_at_call 12; fail)
    refine (HE.out w16 _ x16.bl (by rw [← hLY]; exact oy.nds) HSH.out).mono ?_
    rintro e w17 ⟨gh, kh2, rfl, oh, hb17⟩
    have x17 := x16.below hb17
    have in17 := in16.below hb17
    have ih17 : IntsAt w17 (.slice gh m kh2) R := own_ints2 (by rw [HR.out.2]; exact oh)
    clear x16 in16 hb16 hb17 oy oh
    go_wp2_with (go_at_call 13; fail)
    refine (keq w17 _ _ ih17 x17.nw).mono ?_
    rintro e w19 ⟨rfl, hb19⟩
    have x19 := x17.below hb19
    have in19 := in17.below hb19
    clear x17 in17 ih17 hb19
    go_wp2_with (go_at_call 16; fail)
    refine (kh w19 in19).mono ?_
    rintro e w20 ⟨rfl, h20⟩; subst w20
    go_wp2_with fail
    go_ret
    exact ⟨rfl, x19.bl⟩
  · rw [lessI_no (by omega)] at kz
    clear hbk h hs hl hn
    go_enter Tryz.func4, Tryz.ntmps4
    go_wp2_with (go_at_call 5; refine (kz _).mono ?_; rintro e w1 ⟨rfl, hb1⟩)
    go_ret
    exact ⟨rfl, (hb0 _).trans (hb1.mono (by simp))⟩
end Go.Proofs.YtgjlnimnnllejaaGreatDoor

namespace Go.Proofs.YtgjlnimnnllejaaGreatDoor
open Go.ChangeShapes Go.WideShapes Go.ChangeAt Go.WideMaps Go.WideElems Go.RowKit
set_option linter.unusedVariables false

theorem door_met_path (os : Os) (args : Array Value) : laidMetH Tryz.prog Rows.fnExactPathRow.laid ((World.doorLaid Tryz.prog 91 os).forCall (fun _ _ => 0) ⟨#[], args, []⟩).memory :=
  laidMetH_of_parts3 (fuel := 8) (laidMet_of_run' 8 (by kernel_rfl) (by kernel_rfl)) (by kernel_rfl) (by kernel_rfl)

set_option maxRecDepth 100000 in
theorem lifted_path (os : Os) (started : os.Started) (H : Type) (enc : TypeId × Value → H) :
    ReturnsInHanded {} Tryz.checked os 4 .any (fun w args => (Rows.fnExactPathSpec.pre enc Tryz.prog Tryz.f4 [] false w args ∧ laidMetH Tryz.prog Rows.fnExactPathRow.laid w) ∧ sizedMet enc Tryz.prog Tryz.f4 (OpenSpec.ofChange Rows.fnExactPathSpec) false w args)
      (Rows.fnExactPathSpec.post enc Tryz.prog Tryz.f4 false true false false) := by
  refine returnsInHanded_of_change_and (C := Tryz.checked) (X := fun w _ => laidMetH Tryz.prog Rows.fnExactPathRow.laid w) (fun _ _ _ hh h => h.of_heap hh) own started (by kernel_rfl) Tryz.func4
    (ChangeSpec.witness_shaped (enc := enc) (C := Tryz.checked) (os := os) (X := fun w _ => laidMetH Tryz.prog Rows.fnExactPathRow.laid w) false (World.doorLaid Tryz.prog 91 os) #[.agg #[.slice none 0 0], .int .i64 0] 8 rfl (World.shaped_of_RefB (by kernel_rfl) (by kernel_rfl)) (by kernel_rfl) (by kernel_rfl) (by kernel_rfl) (door_met_path os _)) ?_
  intro W base args ds gs before hval0 hW _ _ hL _
  have hval : ∀ (j : Nat) t v, Tryz.f4.params[j]? = some t → args[j]? = some v → Value.okWide Tryz.prog W .any base t v := hval0
  have hW' := hW
  obtain ⟨p, q, hA0, hV, rfl, hfz, hnd⟩ := hW
  have hA : DataW.TrodAll enc Tryz.prog W 0 (fun _ => true) true Tryz.f4.params.toList args.toList ds p := hA0
  rw [Tryz.params4] at hA hval
  obtain ⟨v0, vs0, d0, ds0, p0, q0, hargs, rfl, rfl, h0, r0⟩ := trodAll_cons hA
  obtain ⟨v1, vs1, d1, ds1, p1, q1, hargs1, rfl, rfl, h1', r1⟩ := trodAll_cons r0
  obtain ⟨rfl, rfl, rfl⟩ := trodAll_nil r1
  subst hargs1
  obtain rfl : args = #[v0, v1] := by cases args; simp_all
  obtain ⟨z, rfl, rfl, rfl, hwz⟩ := open_int Tryz.underlying3 (hval 1 3 v1 rfl rfl) h1'
  obtain ⟨_, _, _, _, g1, _, rfl, _⟩ := trodVars_one hV
  have k0 := h0
  have lt0 : ∀ x ∈ p0, x.block < W.heap.size := by obtain ⟨m, hm⟩ := k0; exact DataW.trod_lt m _ _ _ hm
  obtain ⟨u, ns, rfl, h1, h2, h3, h4⟩ := tree_of (hval 0 24 v0 rfl rfl) h0
  have hLay := treeLay_of hL
  obtain ⟨tt, fr, hG⟩ := hLay.wrd
  clear hA0 hval0
  refine (path_walk W u ns z h1 h3 h2 hLay.errs tt fr hG (fun W2 hb => tab_keep gAsc hLay.asc hb)).mono fun e W' ⟨he, bel⟩ => ?_
  subst he
  exact ⟨_, rfl, _, _, _, [], _, q, hW', trodAll_mk1 (shut_bool Tryz.underlying4 _), (trodAll_cons_mk (Below.trod laidOut (by kernel_rfl) (of_decide_eq_true (by kernel_rfl)) k0 bel lt0) (trodAll_cons_mk (shut_int Tryz.underlying3 hwz) trodAll_mk0)), Below.trodVars laidOut bel (by kernel_rfl) hV, bel.frame _, fun h => by cases h⟩

theorem fnExactPath_row : Rows.FnExactPathSaid :=
  OpenClaim.holds_of_wide 4 Tryz.f4 rfl rfl rfl rfl rfl rfl rfl ⟨rfl, rfl, rfl, rfl, rfl⟩ rfl rfl rfl rfl rfl (by kernel_rfl) Tryz.func4 (by kernel_rfl)
    (of_decide_eq_true (by kernel_rfl)) (by unfold Func.isWrapper; first | (rw [if_pos (by decide +kernel)]; kernel_rfl) | (rw [if_neg (by decide +kernel)]; exact ⟨rfl, rfl⟩))
    (fun os started H enc _ => lifted_path os started H enc)

theorem fnExactPath_holds : Rows.FnExactPathCardSaid :=
  Claim7.holds_tied_plain_at .later [] Rows.fnExactPathCard.laidKinds true Rows.fnExactPathCard.stood.harness true
    fnExactPath_row (fun _ h => by cases h) (by kernel_rfl) (fun _ h => by cases h) fnExactPath_row_tie rfl ⟨rfl, rfl⟩ (by kernel_rfl) rfl
    (fun f fn hf hfn => by
      obtain rfl : f = 4 := Option.some.inj ((show Tryz.prog.funcNamed Rows.fnExactPathRow.func = some 4 by kernel_rfl).symm.trans hf) |>.symm
      obtain rfl : fn = Tryz.f4 := (Option.some.inj (Tryz.func4.symm.trans hfn)).symm
      exact ⟨by kernel_rfl, fun j t ht => by
        rw [Tryz.params4] at ht
        have hm : t ∈ [24, 3] := by simpa using Array.mem_of_getElem? ht
        have hall : ([24, 3].all fun u => !Tryz.prog.wantsStandIn u) = true := by kernel_rfl
        exact (show Tryz.prog.wantsStandIn t = false by simpa using List.all_eq_true.1 hall t hm)⟩)
    (by kernel_rfl)
#print axioms fnExactPath_holds
end Go.Proofs.YtgjlnimnnllejaaGreatDoor
