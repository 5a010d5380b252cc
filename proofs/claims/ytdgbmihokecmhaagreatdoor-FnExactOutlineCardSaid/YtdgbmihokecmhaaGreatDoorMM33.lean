import Derived.Test.YtdgbmihokecmhaaGreatDoorMM31
import Derived.Test.YtdgbmihokecmhaaGreatDoorMM32
import Derived.Test.YtdgbmihokecmhaaGreatDoorMM05
import Derived.Test.YtdgbmihokecmhaaGreatDoorTie
import Derived.Test.YtdgbmihokecmhaaGreatDoorCards
import Derived.SevenTiedAt
import Derived.Lib.SmallJoins
namespace Go.Proofs.YtdgbmihokecmhaaGreatDoor
open Go.RowKit Go.Maps Go.WideMaps
set_option linter.unusedVariables false

theorem NdsAt.formO {W : World} {v : Value} {l : List Nd} {n : Nat} (h : NdsAt W v l) (hn : l.length = n) : ∃ a c, v = .slice a n c := by subst hn; exact h.form
theorem MbsOwn.formO {W : World} {lo hi n : Nat} {v : Value} {L : List Mb} (h : MbsOwn W lo hi v L) (hn : L.length = n) : ∃ a c, v = .slice a n c := by subst hn; exact own_form h.row
theorem Short.smallO {ns : List Nd} (h : Short ns) : ∀ N ∈ ns, NdSmall N := fun N hN => by
  obtain ⟨h1, h2, h3, h4⟩ := h.a N hN
  exact ⟨h1, h2, h3, h4⟩
theorem outF_len (ns : List Nd) : (outF ns).length ≤ 3000 := by
  unfold outF
  split
  · rename_i h
    have h1 := (sound_of h).len
    have h2 := out_len h ns.length (ns.length - 1) empB 0 (by omega)
    have h3 := (size_of h).le (ns.length - 1)
    omega
  · simp
set_option maxRecDepth 100000 in
set_option maxHeartbeats 800000 in
theorem markEntryS_none (w : World) (a1 : Option Addr) (c1 : Nat) :
    Calls Tryz.prog 11 #[.slice a1 0 c1, .int .i64 1] w fun e w' => e = .returned (.int .i64 1) ∧ w' = w := by
  go_enter Tryz.func11, Tryz.ntmps11
  go_wp2_with fail
  refine wp_loop_rounds 1 ?_
  rw [rounds_succ]
  go_wp2
  go_ret
  exact ⟨rfl, rfl⟩
theorem markEntryS_any (w : World) (L : List En) (n base : Nat) (v : Value) (hn : n ≤ 3000) (hl : L.length = n) (o : EnAt base w v L) :
    Calls Tryz.prog 11 #[v, .int .i64 1] w fun e w' => e = .returned (.int .i64 (1 + 4 * n)) ∧ EnAt base w' v (mkEns n) ∧ w.grownBy w' v.ownBlock := by
  have o' : w.ownsRow base 56 4 v L.length (cEns L) := o
  rw [hl] at o'
  rcases own_zero_or o' with ⟨h0, rfl⟩ | ⟨g, cap, rfl⟩
  · subst h0
    refine (markEntryS_none w none 0).mono ?_
    rintro e w' ⟨rfl, rfl⟩
    exact ⟨rfl, EnAt.nil _ _, grw_refl _ _⟩
  · refine (markEntryS_some w L n base g cap hn hl o').mono ?_
    rintro e w' ⟨rfl, h1, h2⟩
    exact ⟨rfl, by unfold EnAt; rw [mkEns_len]; exact h1, h2⟩
/-- The boxes of the law, and what the model answered. -/
structure Ox (w w3 : World) (p5 : Nat) (u vw vx : Value) (R : List En) (W : World) : Prop where
  b1 : W.heap[w.heap.size]? = some (.cells #[u] 24 (0, 0))
  b5 : W.heap[p5]? = some (.cells #[vx] 30 (0, 0))
  n3 : EnAt 0 w3 vw R
  l3 : Below w3.heap.size w3 W
  bl : Below w.heap.size w W
theorem Ox.nw {w w3 : World} {p5 : Nat} {u vw vx : Value} {R : List En} {W : World} (h : Ox w w3 p5 u vw vx R W) : EnAt 0 W vw R := h.n3.below h.l3
theorem Ox.below {w w3 : World} {p5 : Nat} {u vw vx : Value} {R : List En} {W W' : World} (h : Ox w w3 p5 u vw vx R W) (hb : Below W.heap.size W W') : Ox w w3 p5 u vw vx R W' :=
  ⟨(hb.block _ (lt_of_block h.b1)).trans h.b1, (hb.block _ (lt_of_block h.b5)).trans h.b5, h.n3, h.l3.trans (hb.mono h.l3.size), h.bl.trans (hb.mono h.bl.size)⟩
theorem Ox.mid {w w3 : World} {p5 lo hi : Nat} {u vw vx : Value} {R : List En} {W W' : World} (h : Ox w w3 p5 u vw vx R W) (hm : Mid lo hi W W') (h1 : w.heap.size < lo) (h3 : w3.heap.size ≤ lo) (h5 : p5 < lo ∨ hi ≤ p5) : Ox w w3 p5 u vw vx R W' :=
  ⟨(hm.block _ (lt_of_block h.b1) (.inl h1)).trans h.b1, (hm.block _ (lt_of_block h.b5) h5).trans h.b5, h.n3, hm.bel h.l3 (by omega) h.l3.size, hm.bel h.bl (by omega) h.bl.size⟩

set_option maxRecDepth 100000 in
set_option maxHeartbeats 12800000 in
theorem outline_walk (w : World) (u : Value) (ns : List Nd) (h : NdsAt w u ns) (hs : ∀ N ∈ ns, NdLen N) (hl : ns.length ≤ 9223372036854775807) (he : Errs w) (tt : TypeId) (fr : Nat × Nat) (hG : w.heap[0]? = some (.cells wordV tt fr))
    (htab : ∀ W, Below w.heap.size w W → Lib.TabIs Tryz.prog W "strings.asciiSpace" .u8 Lib.asciiSpaceTab) :
    Calls Tryz.prog 3 #[.agg #[u]] w fun e w' => e = .returned (.bool true) ∧ Below w.heap.size w w' := by
  have hb0 : ∀ o, Below w.heap.size w (w.alloc o) := fun o => (Below.refl _ w).alloc (Nat.le_refl _) o
  have kz := fun o => szTree_any (w.alloc o) u ns 1048576 (h.below (hb0 o)) hs hl (by omega) (by omega)
  obtain ⟨n, hn⟩ : ∃ n, ns.length = n := ⟨_, rfl⟩
  have HN : Hid (ns.length = n) := hn
  obtain ⟨a, c, rfl⟩ := h.formO hn
  have HA : Hid (NdsAt w (.slice a n c) ns) := h
  obtain ⟨R, hR⟩ : ∃ R, outF ns = R := ⟨_, rfl⟩
  obtain ⟨m, hm⟩ : ∃ m, R.length = m := ⟨_, rfl⟩
  have hm3 : m ≤ 3000 := by rw [← hm, ← hR]; exact outF_len ns
  have HR : Hid (outF ns = R ∧ R.length = m) := ⟨hR, hm⟩
  have HE : Hid (∀ W v, Below w.heap.size w W → NdsAt W v ns → Short ns → Calls Tryz.prog 7 #[.agg #[v]] W fun e w' => ∃ g k, e = .returned (.slice g m k) ∧ EnAt W.heap.size w' (.slice g m k) R ∧ Below W.heap.size W w') := fun W v hW hv sh => by
    refine (implOutline_any W v ns hv sh.l sh.smallO (he.below hW (Nat.le_refl _)) tt fr ((hW.block _ (lt_of_block hG)).trans hG) (fun W2 h2 => htab W2 (hW.trans (h2.mono hW.size)))).mono ?_
    rintro e w' ⟨v', rfl, ho, hb⟩
    rw [hR] at ho
    obtain ⟨g, k, rfl⟩ := ho.formn hm
    exact ⟨_, _, rfl, ho, hb⟩
  have HP : Hid (∀ W v, NdsAt W v ns → Short ns → Calls Tryz.prog 5 #[.agg #[v]] W fun e w' => ∃ g k, e = .returned (.slice g m k) ∧ EnAt 0 w' (.slice g m k) R ∧ Below W.heap.size W w') := fun W v hv sh => by
    refine (specOutline_any W v ns hv sh.l sh.smallO).mono ?_
    rintro e w' ⟨v', rfl, ho, hb⟩
    rw [hR] at ho
    obtain ⟨g, k, rfl⟩ := ho.formn hm
    exact ⟨_, _, rfl, ho.le (Nat.zero_le _), hb⟩
  by_cases hbk : bulkT ns ≤ 1048576
  · have sh := short_of hbk
    rw [lessI_yes (by omega)] at kz
    obtain ⟨Rz, hRz⟩ : ∃ R : Int, 1048576 - (bulkT ns : Int) = R := ⟨_, rfl⟩
    have hR0 : ¬ Rz < 0 := by omega
    rw [hRz] at kz
    have hln := sh.l
    rw [hn] at hln
    have HSH : Hid (Short ns) := sh
    clear hRz hbk h hs hl hn sh he hG htab hR hm
    go_enter Tryz.func3, Tryz.ntmps3
    go_wp2_with (go_at_call 4; fail)
    have B0 := heap_alloc_new w (.cells #[.slice a n c] 24)
    have hs0 : (w.alloc (.cells #[.slice a n c] 24)).heap.size = w.heap.size + 1 := World.size_alloc _ _
    refine (kz _).mono ?_
    rintro e w1 ⟨rfl, hb1⟩
    have B1 := (hb1.block _ (by omega)).trans B0
    have hbw1 : Below w.heap.size w w1 := (hb0 _).trans (hb1.mono (by omega))
    have c1 := one_cell1 B1
    clear B0 hb1 kz
    go_wp2_with (go_at_call 6; fail)
    refine (toTree_m w1 _ ns (HA.out.below hbw1) HSH.out.l HSH.out.n).mono ?_
    rintro e w2 ⟨va, La, rfl, hLa, oa, hb2⟩
    obtain ⟨aa, ea, rfl⟩ := oa.formO (n := n) (by rw [← HN.out, ← hLa, List.length_map])
    go_wp2_with (go_at_call 5; fail)
    refine (HP.out w2 _ (by rw [← hLa]; exact oa.nds) HSH.out).mono ?_
    rintro e w3 ⟨gw, kw, rfl, nw, hb3⟩
    have hbw2 : Below w.heap.size w w2 := hbw1.trans (hb2.mono hbw1.size)
    have hbw3 : Below w.heap.size w w3 := hbw2.trans (hb3.mono hbw2.size)
    have B3 := (hb3.block _ (lt_of_block ((hb2.block _ (lt_of_block B1)).trans B1))).trans ((hb2.block _ (lt_of_block B1)).trans B1)
    have c3 := one_cell1 B3
    have hw3 : w.heap.size < w3.heap.size := lt_of_block B3
    clear c1 B1 hb2 hb3 oa hLa
    go_wp2_with (go_at_call 6; fail)
    refine (toTree_m w3 _ ns (HA.out.below hbw3) HSH.out.l HSH.out.n).mono ?_
    rintro e w5 ⟨vx, LX, rfl, hLX, ox, hb5⟩
    obtain ⟨ax, ex, rfl⟩ := ox.formO (n := n) (by rw [← HN.out, ← hLX, List.length_map])
    clear c3
    go_wp2_with (go_at_call 7; fail)
    have B5 := heap_alloc_new w5 (.cells #[.slice ax n ex] 30)
    have hb56 : Below w5.heap.size w5 (w5.alloc (.cells #[.slice ax n ex] 30)) := (Below.refl _ w5).alloc (Nat.le_refl _) _
    have hs6 : (w5.alloc (.cells #[.slice ax n ex] 30)).heap.size = w5.heap.size + 1 := World.size_alloc _ _
    generalize w5.alloc (.cells #[.slice ax n ex] 30) = W6 at B5 hb56 hs6 ⊢
    have ox6 := ox.below hb56
    have nx6 : NdsAt W6 (.slice ax n ex) ns := by have := ox6.nds; rw [hLX] at this; exact this
    have hbw5 : Below w.heap.size w w5 := hbw3.trans (hb5.mono hbw3.size)
    have hbw6 : Below w.heap.size w W6 := hbw5.trans (hb56.mono hbw5.size)
    refine (HE.out W6 _ hbw6 nx6 HSH.out).mono ?_
    rintro e w7 ⟨gg, kg, rfl, og, hb7⟩
    have hz5 := hb5.size
    have hz7 := hb7.size
    have b57 := hb56.trans (hb7.mono (by omega))
    have b37 := hb5.trans (b57.mono hb5.size)
    have hOx : Ox w w3 w5.heap.size (.slice a n c) (.slice gw m kw) (.slice ax n ex) R w7 :=
      ⟨(b37.block _ hw3).trans B3, (hb7.block _ (by omega)).trans B5, nw, b37, hbw3.trans (b37.mono hbw3.size)⟩
    have ox7 := ox6.below hb7
    have hord : Hid (w3.heap.size ≤ w5.heap.size ∧ W6.heap.size = w5.heap.size + 1 ∧ w.heap.size < w3.heap.size ∧ W6.heap.size ≤ w7.heap.size) := ⟨hz5, hs6, hw3, hz7⟩
    have HLX : Hid (LX.map Mb.N = ns ∧ LX.length = n) := ⟨hLX, by rw [← HN.out, ← hLX, List.length_map]⟩
    clear b57 b37 hb7 hb56 hb5 B3 B5 hbw1 hbw2 hbw3 hbw5 hbw6 hLX nw ox ox6 nx6 hs6 hz5 hz7 hw3 hs0
    have og2 : EnAt W6.heap.size w7 (.slice gg m kg) R := og
    have keq := fun (W : World) b g1 k1 (h1 : EnAt b W (.slice g1 m k1) R) (h2 : EnAt 0 W (.slice gw m kw) R) => eqEntryS_any W R m b 0 (.slice g1 m k1) (.slice gw m kw) hm3 HR.out.2 h1 h2
    clear og
    go_wp2_with (go_at_call 8; fail)
    refine (keq w7 _ _ _ og2 hOx.nw).mono ?_
    rintro e w9 ⟨rfl, hb9⟩
    have x9 := hOx.below hb9
    have ox9 := ox7.below hb9
    have og9 := og2.below hb9
    have hz9 : w7.heap.size ≤ w9.heap.size := hb9.size
    clear hOx ox7 og2 hb9
    have e1 := one_cell1 x9.b1
    have e5 := one_cell1 x9.b5
    have bD : ∀ (W : World), Below W.heap.size W W.drew := fun W => bel_drew1 (Below.refl _ W)
    have kt := toTree_m w9.drew (.slice a n c) ns ((HA.out.below x9.bl).below (bD _)) HSH.out.l HSH.out.n
    have kq := fun (W : World) v (h1 : NdsAt W v ns) (h2 : NdsAt W (.slice ax n ex) ns) => eqTree_any W (.slice ax n ex) v ns h2 h1 HSH.out.l HSH.out.n
    have nx9 : NdsAt w9.drew (.slice ax n ex) ns := by have := ox9.nds; rw [HLX.out.1] at this; exact this.below (bD _)
    go_wp2_with fail
    go_region_held3 (fun w' => w'.cell? ⟨w.heap.size, 0, none⟩ = some (.slice a n c) ∧ w'.cell? ⟨w5.heap.size, 0, none⟩ = some (.slice ax n ex)) (first | go_keep | exact ⟨cell_kept hb11 (cell_kept hb10 e1), cell_kept hb11 (cell_kept hb10 e5)⟩ | exact ⟨cell_kept hb10 e1, cell_kept hb10 e5⟩) (first | (go_at_call 6; refine kt.mono ?_; rintro e w10 ⟨vt, LT, rfl, hLT, ot, hb10⟩; obtain ⟨at2, et, rfl⟩ := ot.formO (n := n) (by rw [← HN.out, ← hLT, List.length_map])) | (go_at_call 9; refine (kq _ _ (by have := ot.nds; rw [hLT] at this; exact this) (nx9.below hb10)).mono ?_; rintro e w11 ⟨rfl, hb11⟩))
    have b911 : Below w9.heap.size w9 w11 := ((bD w9).trans hb10).trans (hb11.mono hb10.size)
    have x11 := x9.below b911
    have ox11 := ox9.below b911
    have og11 := og9.below b911
    have hz11 : w9.heap.size ≤ w11.heap.size := b911.size
    clear x9 ox9 og9 e1 e5 kt kq nx9 ot hb10 hb11 b911
    have e5 := one_cell1 x11.b5
    go_wp2_with (go_at_call 10; fail)
    obtain ⟨q1, q2, q3, q4⟩ := hord.out
    refine (markTree_any w11 LX w3.heap.size w5.heap.size _ (by rw [HLX.out.1]; exact HSH.out.c) (by rw [HLX.out.2]; exact hln) (by omega) ox11).mono ?_
    rintro e w12 ⟨rfl, ox12, hm12⟩
    have x12 := x11.mid hm12 (by omega) (Nat.le_refl _) (.inr (Nat.le_refl _))
    have og12 : EnAt W6.heap.size w12 (.slice gg m kg) R := hm12.kept og11 (by omega)
    have hz12 : w11.heap.size ≤ w12.heap.size := hm12.size
    clear e5 x11 ox11 og11 hm12 ox12
    obtain ⟨Z, hZ⟩ : ∃ Z : Int, ((cnt 1 (LX.map Mb.N) : Nat) : Int) = Z := ⟨_, rfl⟩
    have hZ0 : ¬ Z < 0 := by omega
    rw [hZ]
    clear hZ
    go_wp2_with (go_at_call 8; fail)
    refine (keq w12 _ _ _ og12 x12.nw).mono ?_
    rintro e w13 ⟨rfl, hb13⟩
    have x13 := x12.below hb13
    have og13 := og12.below hb13
    have hz13 : w12.heap.size ≤ w13.heap.size := hb13.size
    clear x12 og12 hb13
    go_wp2_with (go_at_call 11; fail)
    refine (markEntryS_any w13 R m W6.heap.size _ hm3 HR.out.2 og13).mono ?_
    rintro e w14 ⟨rfl, og14, hg14⟩
    have x14 : Ox w w3 w5.heap.size (.slice a n c) (.slice gw m kw) (.slice ax n ex) R w14 :=
      x13.mid (lo := W6.heap.size) (hi := w13.heap.size) (Mid.of_grown hg14 (fun g hg => og13.lt g hg)) (by omega) (by omega) (.inl (by omega))
    clear x13 og13 hg14
    obtain ⟨Y, hY⟩ : ∃ Y : Int, (1 + 4 * (m : Int)) = Y := ⟨_, rfl⟩
    have hY0 : ¬ Y < 0 := by omega
    have HY : Hid ((1 + 4 * (m : Int)) = Y) := hY
    rw [hY]
    have kh := fun (W : World) (hW : EnAt W6.heap.size W (.slice gg m kg) (mkEns m)) => heldEntryS_any W m W6.heap.size (.slice gg m kg) hm3 hW
    rw [hY] at kh
    clear hY
    go_wp2_with (go_at_call 12; fail)
    refine (kh w14 og14).mono ?_
    rintro e w15 ⟨rfl, hb15⟩
    have x15 := x14.below hb15
    have in15 := og14.below hb15
    clear x14 og14 hb15
    have e1 := one_cell1 x15.b1
    go_wp2_with (go_at_call 6; fail)
    refine (toTree_m w15 _ ns (HA.out.below x15.bl) HSH.out.l HSH.out.n).mono ?_
    rintro e w16 ⟨vy, LY, rfl, hLY, oy, hb16⟩
    obtain ⟨ay, ey, rfl⟩ := oy.formO (n := n) (by rw [← HN.out, ← hLY, List.length_map])
    have x16 := x15.below hb16
    have in16 := in15.below hb16
    clear x15 in15 e1
    go_wp2_with (go_at_call 7; fail)
    refine (HE.out w16 _ x16.bl (by rw [← hLY]; exact oy.nds) HSH.out).mono ?_
    rintro e w17 ⟨gh, kh2, rfl, oh, hb17⟩
    have x17 := x16.below hb17
    have in17 := in16.below hb17
    have ih17 := oh
    clear x16 in16 hb16 hb17 oy
    go_wp2_with (go_at_call 8; fail)
    refine (keq w17 _ _ _ ih17 x17.nw).mono ?_
    rintro e w19 ⟨rfl, hb19⟩
    have x19 := x17.below hb19
    have in19 := in17.below hb19
    clear x17 in17 ih17 oh hb19
    go_wp2_with (go_at_call 12; fail)
    refine (kh w19 in19).mono ?_
    rintro e w20 ⟨rfl, hb20⟩
    go_wp2_with fail
    go_ret
    exact ⟨rfl, (x19.below hb20).bl⟩
  · rw [lessI_no (by omega)] at kz
    clear hbk h hs hl hn
    go_enter Tryz.func3, Tryz.ntmps3
    go_wp2_with (go_at_call 4; refine (kz _).mono ?_; rintro e w1 ⟨rfl, hb1⟩)
    go_ret
    exact ⟨rfl, (hb0 _).trans (hb1.mono (by simp))⟩
end Go.Proofs.YtdgbmihokecmhaaGreatDoor

namespace Go.Proofs.YtdgbmihokecmhaaGreatDoor
open Go.ChangeShapes Go.WideShapes Go.ChangeAt Go.WideMaps Go.WideElems Go.RowKit
set_option linter.unusedVariables false

theorem door_met_outline (os : Os) (args : Array Value) : laidMetH Tryz.prog Rows.fnExactOutlineRow.laid ((World.doorLaid Tryz.prog 91 os).forCall (fun _ _ => 0) ⟨#[], args, []⟩).memory :=
  laidMetH_of_parts3 (fuel := 8) (laidMet_of_run' 8 (by kernel_rfl) (by kernel_rfl)) (by kernel_rfl) (by kernel_rfl)

set_option maxRecDepth 100000 in
theorem lifted_outline (os : Os) (started : os.Started) (H : Type) (enc : TypeId × Value → H) :
    ReturnsInHanded {} Tryz.checked os 3 .any (fun w args => (Rows.fnExactOutlineSpec.pre enc Tryz.prog Tryz.f3 [] false w args ∧ laidMetH Tryz.prog Rows.fnExactOutlineRow.laid w) ∧ sizedMet enc Tryz.prog Tryz.f3 (OpenSpec.ofChange Rows.fnExactOutlineSpec) false w args)
      (Rows.fnExactOutlineSpec.post enc Tryz.prog Tryz.f3 false true false false) := by
  refine returnsInHanded_of_change_and (C := Tryz.checked) (X := fun w _ => laidMetH Tryz.prog Rows.fnExactOutlineRow.laid w) (fun _ _ _ hh h => h.of_heap hh) own started (by kernel_rfl) Tryz.func3
    (ChangeSpec.witness_shaped (enc := enc) (C := Tryz.checked) (os := os) (X := fun w _ => laidMetH Tryz.prog Rows.fnExactOutlineRow.laid w) false (World.doorLaid Tryz.prog 91 os) #[.agg #[.slice none 0 0]] 8 rfl (World.shaped_of_RefB (by kernel_rfl) (by kernel_rfl)) (by kernel_rfl) (by kernel_rfl) (by kernel_rfl) (door_met_outline os _)) ?_
  intro W base args ds gs before hval0 hW _ _ hL _
  have hval : ∀ (j : Nat) t v, Tryz.f3.params[j]? = some t → args[j]? = some v → Value.okWide Tryz.prog W .any base t v := hval0
  have hW' := hW
  obtain ⟨p, q, hA0, hV, rfl, hfz, hnd⟩ := hW
  have hA : DataW.TrodAll enc Tryz.prog W 0 (fun _ => true) true Tryz.f3.params.toList args.toList ds p := hA0
  rw [Tryz.params3] at hA hval
  obtain ⟨v0, vs0, d0, ds0, p0, q0, hargs, rfl, rfl, h0, r0⟩ := trodAll_cons hA
  obtain ⟨rfl, rfl, rfl⟩ := trodAll_nil r0
  obtain rfl : args = #[v0] := by cases args; simp_all
  obtain ⟨_, _, _, _, g1, _, rfl, _⟩ := trodVars_one hV
  have k0 := h0
  have lt0 : ∀ x ∈ p0, x.block < W.heap.size := by obtain ⟨m, hm⟩ := k0; exact DataW.trod_lt m _ _ _ hm
  obtain ⟨u, ns, rfl, h1, h2, h3, h4⟩ := tree_of (hval 0 24 v0 rfl rfl) h0
  have hLay := treeLay_of hL
  obtain ⟨tt, fr, hG⟩ := hLay.wrd
  clear hA0 hval0
  refine (outline_walk W u ns h1 h3 h2 hLay.errs tt fr hG (fun W2 hb => tab_keep gAsc hLay.asc hb)).mono fun e W' ⟨he, bel⟩ => ?_
  subst he
  exact ⟨_, rfl, _, _, _, [], _, q, hW', trodAll_mk1 (shut_bool Tryz.underlying4 _), (trodAll_cons_mk (Below.trod laidOut (by kernel_rfl) (of_decide_eq_true (by kernel_rfl)) k0 bel lt0) trodAll_mk0), Below.trodVars laidOut bel (by kernel_rfl) hV, bel.frame _, fun h => by cases h⟩

theorem fnExactOutline_row : Rows.FnExactOutlineSaid :=
  OpenClaim.holds_of_wide 3 Tryz.f3 rfl rfl rfl rfl rfl rfl rfl ⟨rfl, rfl, rfl, rfl, rfl⟩ rfl rfl rfl rfl rfl (by kernel_rfl) Tryz.func3 (by kernel_rfl)
    (of_decide_eq_true (by kernel_rfl)) (by unfold Func.isWrapper; first | (rw [if_pos (by decide +kernel)]; kernel_rfl) | (rw [if_neg (by decide +kernel)]; exact ⟨rfl, rfl⟩))
    (fun os started H enc _ => lifted_outline os started H enc)

theorem fnExactOutline_holds : Rows.FnExactOutlineCardSaid :=
  Claim7.holds_tied_plain_at .later [] Rows.fnExactOutlineCard.laidKinds true Rows.fnExactOutlineCard.stood.harness true
    fnExactOutline_row (fun _ h => by cases h) (by kernel_rfl) (fun _ h => by cases h) fnExactOutline_row_tie rfl ⟨rfl, rfl⟩ (by kernel_rfl) rfl
    (fun f fn hf hfn => by
      obtain rfl : f = 3 := Option.some.inj ((show Tryz.prog.funcNamed Rows.fnExactOutlineRow.func = some 3 by kernel_rfl).symm.trans hf) |>.symm
      obtain rfl : fn = Tryz.f3 := (Option.some.inj (Tryz.func3.symm.trans hfn)).symm
      exact ⟨by kernel_rfl, fun j t ht => by
        rw [Tryz.params3] at ht
        have hm : t ∈ [24] := by simpa using Array.mem_of_getElem? ht
        have hall : ([24].all fun u => !Tryz.prog.wantsStandIn u) = true := by kernel_rfl
        exact (show Tryz.prog.wantsStandIn t = false by simpa using List.all_eq_true.1 hall t hm)⟩)
    (by kernel_rfl)
#print axioms fnExactOutline_holds
end Go.Proofs.YtdgbmihokecmhaaGreatDoor
