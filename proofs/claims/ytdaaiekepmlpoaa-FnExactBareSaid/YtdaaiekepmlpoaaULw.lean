import Derived.Test.YtdaaiekepmlpoaaULb
namespace Go.Proofs.Ytdaaiekepmlpoaa
open Go.RowKit
set_option linter.unusedVariables false

theorem NdsAt.formn {W : World} {v : Value} {l : List Nd} {n : Nat} (h : NdsAt W v l) (hn : l.length = n) : ∃ a c, v = .slice a n c := by subst hn; exact h.form
theorem MbsOwn.formn {W : World} {lo hi n : Nat} {v : Value} {L : List Mb} (h : MbsOwn W lo hi v L) (hn : L.length = n) : ∃ a c, v = .slice a n c := by subst hn; exact own_form h.row

set_option maxRecDepth 100000 in
set_option maxHeartbeats 12800000 in
theorem bare_walk (w : World) (u : Value) (ns : List Nd) (h : NdsAt w u ns) (hs : ∀ N ∈ ns, NdLen N) (hl : ns.length ≤ 9223372036854775807) :
    Calls Try.prog 4 #[.agg #[u]] w fun e w' => e = .returned (.bool true) ∧ Below w.heap.size w w' := by
  have hb0 : ∀ o, Below w.heap.size w (w.alloc o) := fun o => (Below.refl _ w).alloc (Nat.le_refl _) o
  have kz := fun o => szTree_any (w.alloc o) u ns 1048576 (h.below (hb0 o)) hs hl (by omega) (by omega)
  obtain ⟨n, hn⟩ : ∃ n, ns.length = n := ⟨_, rfl⟩
  have HN : Hid (ns.length = n) := hn
  obtain ⟨a, c, rfl⟩ := h.formn hn
  have HA : Hid (NdsAt w (.slice a n c) ns) := h
  by_cases hbk : bulkT ns ≤ 1048576
  · have sh := short_of hbk
    rw [lessI_yes (by omega)] at kz
    obtain ⟨R, hR⟩ : ∃ R : Int, 1048576 - (bulkT ns : Int) = R := ⟨_, rfl⟩
    have hR0 : ¬ R < 0 := by omega
    rw [hR] at kz
    have hnb : (ns.map bareN).length = n := by rw [List.length_map, hn]
    have hln := sh.l
    rw [hn] at hln
    have HSH : Hid (Short ns) := sh
    have HNB : Hid ((ns.map bareN).length = n) := hnb
    obtain ⟨C, hC⟩ : ∃ C, cnt 1 ns = C := ⟨_, rfl⟩
    have hC4 := sh.c
    rw [hC] at hC4
    have HC : Hid (cnt 1 ns = C) := hC
    clear hR hbk h hs hl hn sh hnb hC
    go_enter Try.func4, Try.ntmps4
    go_wp2_with (go_at_call 7; fail)
    have B0 := heap_alloc_new w (.cells #[.slice a n c] 26)
    have hs0 : (w.alloc (.cells #[.slice a n c] 26)).heap.size = w.heap.size + 1 := World.size_alloc _ _
    refine (kz _).mono ?_
    rintro e w1 ⟨rfl, hb1⟩
    have B1 := (hb1.block _ (by omega)).trans B0
    have hbw1 : Below w.heap.size w w1 := (hb0 _).trans (hb1.mono (by omega))
    have c1 := one_cell B1
    clear B0 hb1 kz
    go_wp2_with (go_at_call 9; fail)
    refine (toTree_m w1 _ ns (HA.out.below hbw1) HSH.out.l HSH.out.n).mono ?_
    rintro e w2 ⟨va, La, rfl, hLa, oa, hb2⟩
    obtain ⟨aa, ea, rfl⟩ := oa.formn (n := n) (by rw [← HN.out, ← hLa, List.length_map])
    go_wp2_with (go_at_call 8; fail)
    refine (specBare_any w2 _ ns (by rw [← hLa]; exact oa.nds) HSH.out.l HSH.out.n).mono ?_
    rintro e w3 ⟨vw, rfl, nw, hb3⟩
    obtain ⟨aw, ew, rfl⟩ := nw.formn HNB.out
    have hbw2 : Below w.heap.size w w2 := hbw1.trans (hb2.mono hbw1.size)
    have hbw3 : Below w.heap.size w w3 := hbw2.trans (hb3.mono hbw2.size)
    have B3 := (hb3.block _ (lt_of_block ((hb2.block _ (lt_of_block B1)).trans B1))).trans ((hb2.block _ (lt_of_block B1)).trans B1)
    have c3 := one_cell B3
    have hw3 : w.heap.size < w3.heap.size := lt_of_block B3
    clear c1 B1 hb2 hb3 oa hLa
    go_wp2_with (go_at_call 9; fail)
    have B4 := heap_alloc_new w3 (.cells #[.slice aw n ew] 30)
    have hb34 : Below w3.heap.size w3 (w3.alloc (.cells #[.slice aw n ew] 30)) := (Below.refl _ w3).alloc (Nat.le_refl _) _
    have hs4 : (w3.alloc (.cells #[.slice aw n ew] 30)).heap.size = w3.heap.size + 1 := World.size_alloc _ _
    generalize w3.alloc (.cells #[.slice aw n ew] 30) = W4 at B4 hb34 hs4 ⊢
    have hbw4 : Below w.heap.size w W4 := hbw3.trans (hb34.mono hbw3.size)
    refine (toTree_m W4 _ ns (HA.out.below hbw4) HSH.out.l HSH.out.n).mono ?_
    rintro e w5 ⟨vx, LX, rfl, hLX, ox, hb5⟩
    obtain ⟨ax, ex, rfl⟩ := ox.formn (n := n) (by rw [← HN.out, ← hLX, List.length_map])
    clear c3
    go_wp2_with (go_at_call 10; fail)
    have B5 := heap_alloc_new w5 (.cells #[.slice ax n ex] 30)
    have hb56 : Below w5.heap.size w5 (w5.alloc (.cells #[.slice ax n ex] 30)) := (Below.refl _ w5).alloc (Nat.le_refl _) _
    have hs6 : (w5.alloc (.cells #[.slice ax n ex] 30)).heap.size = w5.heap.size + 1 := World.size_alloc _ _
    generalize w5.alloc (.cells #[.slice ax n ex] 30) = W6 at B5 hb56 hs6 ⊢
    have ox6 := ox.below hb56
    refine (bare_any W6 _ ns (by rw [← hLX]; exact ox6.nds) HSH.out.l HSH.out.a).mono ?_
    rintro e w7 ⟨vg, LG, rfl, hLG, og, hb7⟩
    have hLGn : LG.length = n := by rw [← HNB.out, ← hLG, List.length_map]
    obtain ⟨ag, eg, rfl⟩ := og.formn hLGn
    have hz5 := hb5.size
    have hz7 := hb7.size
    have b4k := (hb7.block _ (by omega)).trans ((hb56.block _ (by omega)).trans ((hb5.block _ (by omega)).trans B4))
    have d4 := one_cell b4k
    have hx1 : w3.heap.size < w7.heap.size := by omega
    have hx2 : w3.heap.size ≠ w7.heap.size := by omega
    go_wp2_with (go_at_call 11; fail)
    have hb78 : Below w7.heap.size w7 (w7.alloc (.cells #[.slice ag n eg] 30)) := (Below.refl _ w7).alloc (Nat.le_refl _) _
    have hs8 : (w7.alloc (.cells #[.slice ag n eg] 30)).heap.size = w7.heap.size + 1 := World.size_alloc _ _
    have b68 := hb7.trans (hb78.mono hb7.size)
    have b58 := hb56.trans (b68.mono (by omega))
    have b48 := hb5.trans (b58.mono hb5.size)
    have b38 := hb34.trans (b48.mono (by omega))
    have hBx : Bx w w3 w5.heap.size w7.heap.size (.slice a n c) (.slice aw n ew) (.slice ax n ex) (.slice ag n eg) (ns.map bareN) (w7.alloc (.cells #[.slice ag n eg] 30)) :=
      ⟨(b38.block _ hw3).trans B3, (b48.block _ (by omega)).trans B4, (b68.block _ (by omega)).trans B5, heap_alloc_new w7 _, nw, b38, hbw3.trans (b38.mono hbw3.size)⟩
    have ox8 := ox6.below b68
    have og8 := og.below hb78
    generalize w7.alloc (.cells #[.slice ag n eg] 30) = W8 at hBx ox8 og8 hs8 ⊢
    have hord : Hid (W4.heap.size = w3.heap.size + 1 ∧ w5.heap.size ≤ W6.heap.size ∧ W4.heap.size ≤ w5.heap.size ∧ W6.heap.size = w5.heap.size + 1 ∧ w.heap.size < w3.heap.size) := ⟨hs4, by omega, hz5, hs6, hw3⟩
    have HLX : Hid (LX.map Mb.N = ns ∧ LX.length = n) := ⟨hLX, by rw [← HN.out, ← hLX, List.length_map]⟩
    have HLG : Hid (LG.map Mb.N = ns.map bareN ∧ LG.length = n) := ⟨hLG, hLGn⟩
    have hsb := HSH.out.bare
    have HSB : Hid (Short (ns.map bareN)) := hsb
    clear b68 b58 b48 b38 hb78 hb7 hb56 hb5 hb34 B3 B4 B5 b4k d4 hbw1 hbw2 hbw3 hbw4 hLX hLG nw ox ox6 og hLGn hsb
    refine (eqTree_any W8 _ _ (ns.map bareN) (by rw [← HLG.out.1]; exact og8.nds) hBx.nw HSB.out.l HSB.out.n).mono ?_
    rintro e w9 ⟨rfl, hb9⟩
    have x9 := hBx.below hb9
    have ox9 := ox8.below hb9
    have og9 := og8.below hb9
    have hz9 : W8.heap.size ≤ w9.heap.size := hb9.size
    clear hBx ox8 og8 hb9
    have e1 := one_cell x9.b1
    have e5 := one_cell x9.b5
    have bD : ∀ (W : World), Below W.heap.size W W.drew := fun W => bel_drew1 (Below.refl _ W)
    have kt := toTree_m w9.drew (.slice a n c) ns ((HA.out.below x9.bl).below (bD _)) HSH.out.l HSH.out.n
    have kq := fun (W : World) v (h1 : NdsAt W v ns) (h2 : NdsAt W (.slice ax n ex) ns) => eqTree_any W (.slice ax n ex) v ns h2 h1 HSH.out.l HSH.out.n
    have nx9 : NdsAt w9.drew (.slice ax n ex) ns := by have := ox9.nds; rw [HLX.out.1] at this; exact this.below (bD _)
    go_wp2_with fail
    go_region_held3 (fun w' => w'.cell? ⟨w.heap.size, 0, none⟩ = some (.slice a n c) ∧ w'.cell? ⟨w5.heap.size, 0, none⟩ = some (.slice ax n ex)) (first | go_keep | exact ⟨cell_kept hb11 (cell_kept hb10 e1), cell_kept hb11 (cell_kept hb10 e5)⟩ | exact ⟨cell_kept hb10 e1, cell_kept hb10 e5⟩) (first | (go_at_call 9; refine kt.mono ?_; rintro e w10 ⟨vt, LT, rfl, hLT, ot, hb10⟩; obtain ⟨at_, et, rfl⟩ := ot.formn (n := n) (by rw [← HN.out, ← hLT, List.length_map])) | (go_at_call 11; refine (kq _ _ (by have := ot.nds; rw [hLT] at this; exact this) (nx9.below hb10)).mono ?_; rintro e w11 ⟨rfl, hb11⟩))
    have b911 : Below w9.heap.size w9 w11 := ((bD w9).trans hb10).trans (hb11.mono hb10.size)
    have x11 := x9.below b911
    have ox11 := ox9.below b911
    have og11 := og9.below b911
    have hz11 : w9.heap.size ≤ w11.heap.size := b911.size
    clear x9 ox9 og9 e1 e5 kt kq nx9 ot hb10 hb11 b911
    have e5 := one_cell x11.b5
    go_wp2_with (go_at_call 12; fail)
    obtain ⟨q1, q2, q3, q4, q5⟩ := hord.out
    refine (markTree_any w11 LX W4.heap.size w5.heap.size _ (by rw [HLX.out.1]; exact HSH.out.c) (by rw [HLX.out.2]; exact hln) (by omega) ox11).mono ?_
    rintro e w12 ⟨rfl, ox12, hm12⟩
    have og12 := hm12.tree og11 q2
    have x12 := x11.mid hm12 (by omega) (by omega) (.inr (Nat.le_refl _)) (.inr (by omega))
    have hz12 : w11.heap.size ≤ w12.heap.size := hm12.size
    clear e5 x11 ox11 og11 hm12 ox12
    have e4 := one_cell x12.b4
    have e6 := one_cell x12.b6
    have hq6 : w7.heap.size ≠ w3.heap.size := by omega
    obtain ⟨Z, hZ⟩ : ∃ Z : Int, ((cnt 1 (LX.map Mb.N) : Nat) : Int) = Z := ⟨_, rfl⟩
    have hZ0 : ¬ Z < 0 := by omega
    rw [hZ]
    clear hZ
    go_wp2_with (go_at_call 11; fail)
    refine (eqTree_any w12 _ _ (ns.map bareN) (by rw [← HLG.out.1]; exact og12.nds) x12.nw HSB.out.l HSB.out.n).mono ?_
    rintro e w13 ⟨rfl, hb13⟩
    have x13 := x12.below hb13
    have og13 := og12.below hb13
    have hz13 : w12.heap.size ≤ w13.heap.size := hb13.size
    clear x12 og12 hb13 e4 e6
    have e6 := one_cell x13.b6
    go_wp2_with (go_at_call 12; fail)
    refine (markTree_any w13 LG W6.heap.size w7.heap.size _ (by rw [HLG.out.1]; exact HSB.out.c) (by rw [HLG.out.2]; exact hln) (by omega) og13).mono ?_
    rintro e w14 ⟨rfl, og14, hm14⟩
    have x14 := x13.mid hm14 (by omega) (by omega) (.inl (by omega)) (.inr (Nat.le_refl _))
    have hz14 : w13.heap.size ≤ w14.heap.size := hm14.size
    have hcG : cnt 1 (LG.map Mb.N) = C := by rw [HLG.out.1, cnt_bare]; exact HC.out
    rw [hcG]
    have hmk : (mkMs 1 LG).map Mb.N = mkNs 1 (ns.map bareN) := by rw [mkMs_N, HLG.out.1]
    have HMK : Hid ((mkMs 1 LG).map Mb.N = mkNs 1 (ns.map bareN)) := hmk
    have HCB : Hid (cnt 1 (ns.map bareN) = C) := by show _ = _; rw [cnt_bare]; exact HC.out
    clear e6 x13 og13 hm14 hcG hmk
    have e6 := one_cell x14.b6
    obtain ⟨Y, hY⟩ : ∃ Y : Int, (C : Int) = Y := ⟨_, rfl⟩
    have hY0 : ¬ Y < 0 := by omega
    have HY : Hid ((C : Int) = Y) := hY
    rw [hY]
    clear hY
    have kh := fun (W : World) (hW : NdsAt W (.slice ag n eg) (mkNs 1 (ns.map bareN))) => heldTree_any W (.slice ag n eg) (ns.map bareN) HSB.out.c HSB.out.l hW
    rw [HCB.out, HY.out] at kh
    go_wp2_with (go_at_call 13; fail)
    refine (kh w14 (by rw [← HMK.out]; exact og14.nds)).mono ?_
    rintro e w15 ⟨rfl, hb15⟩
    have x15 := x14.below hb15
    have og15 := og14.below hb15
    have hz15 : w14.heap.size ≤ w15.heap.size := hb15.size
    clear x14 og14 hb15 e6
    have e1 := one_cell x15.b1
    go_wp2_with (go_at_call 9; fail)
    refine (toTree_m w15 _ ns (HA.out.below x15.bl) HSH.out.l HSH.out.n).mono ?_
    rintro e w16 ⟨vy, LY, rfl, hLY, oy, hb16⟩
    obtain ⟨ay, ey, rfl⟩ := oy.formn (n := n) (by rw [← HN.out, ← hLY, List.length_map])
    go_wp2_with (go_at_call 10; fail)
    refine (bare_any w16 _ ns (by rw [← hLY]; exact oy.nds) HSH.out.l HSH.out.a).mono ?_
    rintro e w17 ⟨vh, LH, rfl, hLH, oh, hb17⟩
    obtain ⟨ah, eh, rfl⟩ := oh.formn (n := n) (by rw [← HNB.out, ← hLH, List.length_map])
    have b1517 := hb16.trans (hb17.mono hb16.size)
    have x17 := x15.below b1517
    have og17 := og15.below b1517
    have hz17 : w15.heap.size ≤ w17.heap.size := b1517.size
    clear x15 og15 b1517 hb16 hb17 oy e1
    have e4 := one_cell x17.b4
    have hn4 : w3.heap.size < w17.heap.size := by omega
    have hq4 : w3.heap.size ≠ w17.heap.size := by omega
    go_wp2_with (go_at_call 11; fail)
    have hb1718 : Below w17.heap.size w17 (w17.alloc (.cells #[.slice ah n eh] 30)) := (Below.refl _ w17).alloc (Nat.le_refl _) _
    have x18 := x17.below hb1718
    have og18 := og17.below hb1718
    have oh18 := oh.below hb1718
    have hz18 := hb1718.size
    generalize w17.alloc (.cells #[.slice ah n eh] 30) = W18 at x18 og18 oh18 hz18 ⊢
    refine (eqTree_any W18 _ _ (ns.map bareN) (by rw [← hLH]; exact oh18.nds) x18.nw HSB.out.l HSB.out.n).mono ?_
    rintro e w19 ⟨rfl, hb19⟩
    have x19 := x18.below hb19
    have og19 := og18.below hb19
    clear e4 x17 og17 x18 og18 oh18 oh hb19 hb1718
    have e6 := one_cell x19.b6
    go_wp2_with (go_at_call 13; fail)
    refine (kh w19 (by rw [← HMK.out]; exact og19.nds)).mono ?_
    rintro e w20 ⟨rfl, hb20⟩
    have x20 := x19.below hb20
    clear x19 og19 hb20 e6
    go_wp2_with fail
    go_ret
    exact ⟨rfl, x20.bl⟩
  · rw [lessI_no (by omega)] at kz
    clear hbk h hs hl hn
    go_enter Try.func4, Try.ntmps4
    go_wp2_with (go_at_call 7; refine (kz _).mono ?_; rintro e w1 ⟨rfl, hb1⟩)
    go_ret
    exact ⟨rfl, (hb0 _).trans (hb1.mono (by simp))⟩
end Go.Proofs.Ytdaaiekepmlpoaa
