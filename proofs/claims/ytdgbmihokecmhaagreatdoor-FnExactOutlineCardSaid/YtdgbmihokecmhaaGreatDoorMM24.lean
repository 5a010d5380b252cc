import Derived.Test.YtdgbmihokecmhaaGreatDoorMM23
import Derived.Deep.RegionLaw
import Derived.Test.YtdgbmihokecmhaaGreatDoorMM17
import Derived.Test.YtdgbmihokecmhaaGreatDoorMM20
namespace Go.Proofs.YtdgbmihokecmhaaGreatDoor
open Go.RowKit Go.Maps Go.WideMaps
set_option linter.unusedVariables false

theorem infoNodeI : (Tryz.prog.info? 44).map (fun i => (i.zero, i.size, i.bytes)) = some (some .nilIface, 1, 16) := by kernel_rfl
def fldI (N : Nd) : Bool := decide (0 ≤ N.f ∧ N.f ≤ N.t ∧ 0 ≤ N.l ∧ N.ks.length ≤ 200 ∧ N.nm.length ≤ 200)
/-- What add answers. -/
def addB (ns : List Nd) (i : Nat) (N : Nd) : Bool :=
  fldI N && (sameB (rowN N (cls N.k)) N && (klB N.ks i N.ks.length 0 && (ffB N N.ks.length (cls N.k) && kfB N (kinds ns N.ks))))
/-- What stands behind add. -/
def AddPost (w0 : World) (lb mb : Nat) (L : List Im) (ns : List Nd) (N : Nd) (vn : Value) (e : Ending) (w' : World) : Prop :=
  e = .returned (.bool (addB ns L.length N)) ∧ Below w0.heap.size w0 w' ∧ (addB ns L.length N = true → ∃ vs' x, x.N = N ∧ x.vn = vn ∧ Lk w' lb mb vs' ∧ NsAt w' w0.heap.size vs' (L ++ [x]))

set_option maxRecDepth 100000 in
set_option maxHeartbeats 6400000 in
theorem add_early (w : World) (lb : Nat) (N : Nd) (vn vk : Value) (hn : StrsAt w vn N.nm) (hk : IntsAt w vk N.ks) (sm : NdSmall N) (h : fldI N = false) :
    Calls Tryz.prog 31 #[.pointer (some ⟨lb, 0, none⟩), vNd N vn vk] w fun e w' => e = .returned (.bool false) ∧ Below w.heap.size w w' := by
  have hb0 : ∀ o, Below w.heap.size w (w.alloc o) := fun o => (Below.refl _ w).alloc (Nat.le_refl _) o
  obtain ⟨a1, c1, rfl⟩ := hn.form
  obtain ⟨a2, c2, rfl⟩ := hk.form
  have l1 := sm.l1
  have l2 := sm.l2
  unfold fldI at h
  have h' := of_decide_eq_false h
  unfold vNd
  generalize N.nm.length = L1 at l1 h' ⊢
  generalize N.ks.length = L2 at l2 h' ⊢
  clear hn hk sm h
  obtain ⟨nk, nf, nt, nl, nop, nn, nx, nnm, nks⟩ := N
  simp only at h' ⊢
  by_cases g1 : nf < 0
  · clear h'
    go_enter Tryz.func31, Tryz.ntmps31
    go_wp2
    go_ret
    exact ⟨rfl, hb0 _⟩
  by_cases g2 : nt < nf
  · clear h'
    go_enter Tryz.func31, Tryz.ntmps31
    go_wp2
    go_ret
    exact ⟨rfl, hb0 _⟩
  by_cases g3 : nl < 0
  · clear h'
    go_enter Tryz.func31, Tryz.ntmps31
    go_wp2
    go_ret
    exact ⟨rfl, hb0 _⟩
  by_cases g4 : (200 : Int) < (L2 : Int)
  · clear h'
    go_enter Tryz.func31, Tryz.ntmps31
    go_wp2
    go_ret
    exact ⟨rfl, hb0 _⟩
  have g5 : (200 : Int) < (L1 : Int) := by omega
  clear h'
  go_enter Tryz.func31, Tryz.ntmps31
  go_wp2
  go_ret
  exact ⟨rfl, hb0 _⟩

theorem frozen_kept {W W' : World} (hb : Below W.heap.size W W') {a : Addr} (ha : a.block < W.heap.size) {r : Bool} (h : W.frozen? a = r) : W'.frozen? a = r := by
  rw [← h]; exact World.frozen?_of_block (hb.block _ ha)
theorem rowS {w : World} {N : Nd} {vn : Value} (h : StrsAt w vn N.nm) (k : Int) : StrsAt w (rowV vn (cls k)) (rowN N (cls k)).nm := by
  rcases cls_lt k with hc | hc | hc | hc | hc | hc | hc
  · rw [hc]; exact h
  · rw [hc]; exact .inl ⟨rfl, _, _, rfl⟩
  · rw [hc]; exact .inl ⟨rfl, _, _, rfl⟩
  · rw [hc]; exact .inl ⟨rfl, _, _, rfl⟩
  · rw [hc]; exact .inl ⟨rfl, _, _, rfl⟩
  · rw [hc]; exact h
  · rw [hc]; exact .inl ⟨rfl, _, _, rfl⟩
theorem rowS_len {N : Nd} (k : Int) (h : N.nm.length ≤ 1048576) : (rowN N (cls k)).nm.length ≤ 1048576 := by
  rcases cls_lt k with hc | hc | hc | hc | hc | hc | hc
  · rw [hc]; exact h
  · rw [hc]; exact Nat.zero_le _
  · rw [hc]; exact Nat.zero_le _
  · rw [hc]; exact Nat.zero_le _
  · rw [hc]; exact Nat.zero_le _
  · rw [hc]; exact h
  · rw [hc]; exact Nat.zero_le _

set_option maxRecDepth 100000 in
set_option maxHeartbeats 12800000 in
theorem add_late (w0 w : World) (he : Errs w0) (hB0 : Below w0.heap.size w0 w) (lb mb : Nat) (hlb : w0.heap.size ≤ lb) (vs : Value) (L : List Im) (h : Lk w lb mb vs) (hN : NsAt w w0.heap.size vs L) (N : Nd) (vn vk : Value) (hn : StrsAt w0 vn N.nm) (hk : IntsAt w0 vk N.ks) (sm : NdSmall N) (hL : L.length ≤ 3000) (ns : List Nd) (hns : L.map Im.N = ns.take L.length) (hin : ns[L.length]? = some N) (htab : ∀ W, Below w0.heap.size w0 W → Lib.TabIs Tryz.prog W "strings.asciiSpace" .u8 Lib.asciiSpaceTab) (hf : fldI N = true) :
    Calls Tryz.prog 31 #[.pointer (some ⟨lb, 0, none⟩), vNd N vn vk] w (AddPost w0 lb mb L ns N vn) := by
  have kno := fun W (hB : Below w.heap.size w W) => nodeOf_any W N vn vk (by obtain ⟨a, c, e⟩ := hn.form; exact ⟨_, _, _, e⟩) (by obtain ⟨a, c, e⟩ := hk.form; exact ⟨_, _, _, e⟩)
  obtain ⟨R, hR⟩ : ∃ R, addB ns L.length N = R := ⟨_, rfl⟩
  unfold AddPost
  rw [hR]
  unfold addB at hR
  rw [hf, Bool.true_and] at hR
  obtain ⟨a1, c1, rfl⟩ := hn.form
  obtain ⟨a2, c2, rfl⟩ := hk.form
  unfold fldI at hf
  obtain ⟨f1, f2, f3, f4, f5⟩ := of_decide_eq_true hf
  have HH : Hid (Lk w lb mb vs ∧ NsAt w w0.heap.size vs L ∧ StrsAt w0 (.slice a1 N.nm.length c1) N.nm ∧ IntsAt w0 (.slice a2 N.ks.length c2) N.ks ∧ NdSmall N ∧ L.map Im.N = ns.take L.length ∧ (∀ W, Below w0.heap.size w0 W → Lib.TabIs Tryz.prog W "strings.asciiSpace" .u8 Lib.asciiSpaceTab) ∧ Errs w0 ∧ Below w0.heap.size w0 w ∧ ns[L.length]? = some N) := ⟨h, hN, hn, hk, sm, hns, htab, he, hB0, hin⟩
  have HR : Hid ((sameB (rowN N (cls N.k)) N && (klB N.ks L.length N.ks.length 0 && (ffB N N.ks.length (cls N.k) && kfB N (kinds ns N.ks)))) = R) := hR
  have g1 : ¬ N.f < 0 := by omega
  have g2 : ¬ N.t < N.f := by omega
  have g3 : ¬ N.l < 0 := by omega
  unfold vNd at kno ⊢
  obtain ⟨L1, hL1⟩ : ∃ n, N.nm.length = n := ⟨_, rfl⟩
  obtain ⟨L2, hL2⟩ : ∃ n, N.ks.length = n := ⟨_, rfl⟩
  have HL : Hid (N.nm.length = L1 ∧ N.ks.length = L2) := ⟨hL1, hL2⟩
  rw [hL1] at kno HH f5 ⊢
  rw [hL2] at kno HH f4 ⊢
  have g4 : ¬ (200 : Int) < (L2 : Int) := by omega
  have g5 : ¬ (200 : Int) < (L1 : Int) := by omega
  have hlw : lb < w.heap.size := lt_of_block HH.out.1.b
  clear hL1 hL2 hn hk sm hns htab he hB0 h hN hR hf f1 f2 f3 hin
  go_enter Tryz.func31, Tryz.ntmps31
  go_wp2_with (go_at_call 45; fail)
  have hbo : Below w.heap.size w (w.alloc (.cells #[.int .i64 N.k, .int .i64 N.f, .int .i64 N.t, .int .i64 N.l, .int .i64 N.op, .int .i64 N.n, .string N.x, .slice a1 L1 c1, .slice a2 L2 c2] 67)) := (Below.refl _ w).alloc (Nat.le_refl _) _
  have hrb : NdBox w.heap.size (w.alloc (.cells #[.int .i64 N.k, .int .i64 N.f, .int .i64 N.t, .int .i64 N.l, .int .i64 N.op, .int .i64 N.n, .string N.x, .slice a1 L1 c1, .slice a2 L2 c2] 67)) 67 N (.slice a1 L1 c1) (.slice a2 L2 c2) := heap_alloc_new w _
  have hs1 : (w.alloc (.cells #[.int .i64 N.k, .int .i64 N.f, .int .i64 N.t, .int .i64 N.l, .int .i64 N.op, .int .i64 N.n, .string N.x, .slice a1 L1 c1, .slice a2 L2 c2] 67)).heap.size = w.heap.size + 1 := World.size_alloc _ _
  generalize w.alloc (.cells #[.int .i64 N.k, .int .i64 N.f, .int .i64 N.t, .int .i64 N.l, .int .i64 N.op, .int .i64 N.n, .string N.x, .slice a1 L1 c1, .slice a2 L2 c2] 67) = W1 at hbo hrb hs1 ⊢
  refine (kno W1 hbo).mono ?_
  rintro e w2 ⟨rfl, hbx, hb2⟩
  rw [hs1] at hbx ⊢
  obtain ⟨bn, hbn⟩ : ∃ bn, w.heap.size + 1 + 1 + 1 = bn := ⟨_, rfl⟩
  rw [hbn] at hbx ⊢
  have rb2 := hrb.below hb2
  have b02 : Below w.heap.size w w2 := hbo.trans (hb2.mono (by omega))
  obtain ⟨d0, d1, d2, d3, d4, d5, d6, d7, d8, df⟩ := nd_cells rb2
  have bD : Below w2.heap.size w2 w2.drew := bel_drew1 (Below.refl _ w2)
  have hnD : StrsAt w2.drew (.slice a1 L1 c1) N.nm := ((HH.out.2.2.1.below HH.out.2.2.2.2.2.2.2.2.1).below b02).below bD
  have kro := rowOf_any w2.drew bn N (.slice a1 L1 c1) (.slice none 0 0) 0 ⟨_, _, _, rfl⟩ (hbx.below bD)
  have ksf := fun W (hB : Below w2.drew.heap.size w2.drew W) => sameFields_any W (rowN N (cls N.k)) N (rowV (.slice a1 L1 c1) (cls N.k)) (.slice none 0 0) (.slice a1 L1 c1) (.slice a2 L2 c2) ((rowS hnD N.k).below hB) (hnD.below hB) ⟨_, _, _, rfl⟩ ⟨_, _, _, rfl⟩ (rowS_len _ HH.out.2.2.2.2.1.l1) HH.out.2.2.2.2.1.l1
  obtain ⟨a3, n3, c3, hrv⟩ : ∃ a n c, rowV (.slice a1 L1 c1) (cls N.k) = .slice a n c := by
    unfold rowV; split <;> exact ⟨_, _, _, rfl⟩
  rw [hrv] at kro ksf
  unfold vNd at kro ksf
  obtain ⟨sb, hsb⟩ : ∃ sb, sameB (rowN N (cls N.k)) N = sb := ⟨_, rfl⟩
  rw [hsb] at ksf
  have HSB : Hid (sameB (rowN N (cls N.k)) N = sb) := hsb
  obtain ⟨RN, hrn⟩ : ∃ RN, rowN N (cls N.k) = RN := ⟨_, rfl⟩
  rw [hrn] at kro ksf HSB
  clear hsb hnD hrv kno hrb hbo hb2
  have hmt := fun w => methK N.k bn w
  have kh := fun w => head_any bn w
  unfold nodeV at kro ⊢
  have HTP : Hid (ptT (cls N.k) = ptT (cls N.k)) := rfl
  generalize htp : ptT (cls N.k) = tp at kro hmt ⊢
  go_wp2_with fail
  cases sb with
  | false =>
    have HRf : Hid (false = R) := by have := HR.out; rw [hrn, HSB.out, Bool.false_and] at this; exact this
    go_region_held3 (fun w' => w'.cell? ⟨w.heap.size, 0, none⟩ = some (.int .i64 N.k) ∧ w'.cell? ⟨w.heap.size, 1, none⟩ = some (.int .i64 N.f) ∧ w'.cell? ⟨w.heap.size, 2, none⟩ = some (.int .i64 N.t) ∧ w'.cell? ⟨w.heap.size, 3, none⟩ = some (.int .i64 N.l) ∧ w'.cell? ⟨w.heap.size, 4, none⟩ = some (.int .i64 N.op) ∧ w'.cell? ⟨w.heap.size, 5, none⟩ = some (.int .i64 N.n) ∧ w'.cell? ⟨w.heap.size, 6, none⟩ = some (.string N.x) ∧ w'.cell? ⟨w.heap.size, 7, none⟩ = some (.slice a1 L1 c1) ∧ w'.cell? ⟨w.heap.size, 8, none⟩ = some (.slice a2 L2 c2)) (first | go_keep | exact ⟨cell_kept hb4 (cell_kept hb3 d0), cell_kept hb4 (cell_kept hb3 d1), cell_kept hb4 (cell_kept hb3 d2), cell_kept hb4 (cell_kept hb3 d3), cell_kept hb4 (cell_kept hb3 d4), cell_kept hb4 (cell_kept hb3 d5), cell_kept hb4 (cell_kept hb3 d6), cell_kept hb4 (cell_kept hb3 d7), cell_kept hb4 (cell_kept hb3 d8)⟩ | exact ⟨cell_kept hb3 d0, cell_kept hb3 d1, cell_kept hb3 d2, cell_kept hb3 d3, cell_kept hb3 d4, cell_kept hb3 d5, cell_kept hb3 d6, cell_kept hb3 d7, cell_kept hb3 d8⟩) (first | (go_at_call 47; refine kro.mono ?_; rintro e w3 ⟨rfl, hb3⟩) | (go_at_call 46; refine (ksf _ hb3).mono ?_; rintro e w4 ⟨rfl, hb4⟩))
    go_wp2_with fail
    go_ret
    have hbb : Below w.heap.size w w4 := b02.trans (((bel_drew1 (Below.refl _ w2)).trans (hb3.trans (hb4.mono hb3.size))).mono b02.size)
    exact ⟨by rw [← HRf.out]; rfl, HH.out.2.2.2.2.2.2.2.2.1.trans (hbb.mono HH.out.2.2.2.2.2.2.2.2.1.size), fun h => by rw [← HRf.out] at h; cases h⟩
  | true =>
    have HR2 : Hid ((klB N.ks L.length N.ks.length 0 && (ffB N N.ks.length (cls N.k) && kfB N (kinds ns N.ks))) = R) := by have := HR.out; rw [hrn, HSB.out, Bool.true_and] at this; exact this
    go_region_held3 (fun w' => w'.cell? ⟨w.heap.size, 0, none⟩ = some (.int .i64 N.k) ∧ w'.cell? ⟨w.heap.size, 1, none⟩ = some (.int .i64 N.f) ∧ w'.cell? ⟨w.heap.size, 2, none⟩ = some (.int .i64 N.t) ∧ w'.cell? ⟨w.heap.size, 3, none⟩ = some (.int .i64 N.l) ∧ w'.cell? ⟨w.heap.size, 4, none⟩ = some (.int .i64 N.op) ∧ w'.cell? ⟨w.heap.size, 5, none⟩ = some (.int .i64 N.n) ∧ w'.cell? ⟨w.heap.size, 6, none⟩ = some (.string N.x) ∧ w'.cell? ⟨w.heap.size, 7, none⟩ = some (.slice a1 L1 c1) ∧ w'.cell? ⟨w.heap.size, 8, none⟩ = some (.slice a2 L2 c2)) (first | go_keep | exact ⟨cell_kept hb4 (cell_kept hb3 d0), cell_kept hb4 (cell_kept hb3 d1), cell_kept hb4 (cell_kept hb3 d2), cell_kept hb4 (cell_kept hb3 d3), cell_kept hb4 (cell_kept hb3 d4), cell_kept hb4 (cell_kept hb3 d5), cell_kept hb4 (cell_kept hb3 d6), cell_kept hb4 (cell_kept hb3 d7), cell_kept hb4 (cell_kept hb3 d8)⟩ | exact ⟨cell_kept hb3 d0, cell_kept hb3 d1, cell_kept hb3 d2, cell_kept hb3 d3, cell_kept hb3 d4, cell_kept hb3 d5, cell_kept hb3 d6, cell_kept hb3 d7, cell_kept hb3 d8⟩) (first | (go_at_call 47; refine kro.mono ?_; rintro e w3 ⟨rfl, hb3⟩) | (go_at_call 46; refine (ksf _ hb3).mono ?_; rintro e w4 ⟨rfl, hb4⟩))
    have b24 : Below w2.heap.size w2 w4 := (bel_drew1 (Below.refl _ w2)).trans (hb3.trans (hb4.mono hb3.size))
    have b04 : Below w.heap.size w w4 := b02.trans (b24.mono b02.size)
    obtain ⟨lk, hns0, hnm, hks, sm, hnse, htab, he, hB0, hin⟩ := HH.out
    have bl4 : Below w0.heap.size w0 w4 := hB0.trans (b04.mono hB0.size)
    have lk4 := lk.below b04
    have ns4 := hns0.below b04
    have rb4 := rb2.below b24
    have bx4 := hbx.below b24
    have hw0 := hB0.size
    have st := AdSt.start he hns0 (by omega) (by omega) (by omega) lk4 ns4 rb4 bx4 bl4 ⟨hlb, by omega, hw0⟩
    obtain ⟨av, cv, hvs⟩ := own_form ns4.row
    have d1' : w4.cell? ⟨lb, 1, none⟩ = some (.slice av L.length cv) := by rw [← hvs, cell_of_row _ _ _ _ _ _ lk4.b]; rfl
    have e4 := bx4.cells.2.2.2.1
    have ef := bx4.cells.2.2.2.2.2
    have hbl4 : bn < w4.heap.size := lt_of_block bx4
    have HST : Hid (AdSt w0 lb mb w.heap.size bn vs L N (.slice a1 L1 c1) (.slice a2 L2 c2) (.slice none 0 0) 0 (w4.setCell ⟨bn, 4, none⟩ (.int .i64 L.length))) := st
    obtain ⟨nL, hnL⟩ : ∃ nL, L.length = nL := ⟨_, rfl⟩
    rw [hnL] at d1' HST hL
    have HNL : Hid (L.length = nL) := hnL
    clear st lk4 ns4 rb4 bx4 b24 lk hns0 hnm hks sm hnse htab he hB0 hin d0 d1 d2 d3 d4 d5 d6 d7 d8 df kro ksf hbx rb2 bD HSB hnL
    go_wp2_with (go_at_call 160; refine (kh _).mono ?_; rintro e w5 ⟨rfl, rfl⟩)
    obtain ⟨i0, hi, hz0, hz1, hz2⟩ := info_parts infoNodeI
    clear d1' e4 ef b04 bl4 hbl4 hvs
    go_loopw [54] (fun vj wr => ∃ (j : Nat) (kv : Value), vj = .int .i64 j ∧ j ≤ L2 ∧ Hid ((klB N.ks nL (L2 - j) j && (ffB N L2 (cls N.k) && kfB N (kinds ns N.ks))) = R) ∧ Hid (∀ z ∈ N.ks.take j, 0 ≤ z ∧ z < (nL : Int)) ∧ Hid (AdSt w0 lb mb w.heap.size bn vs L N (.slice a1 L1 c1) (.slice a2 L2 c2) kv j wr)) (fun vj _ => L2 - (intOf vj).toNat)
    case atStart =>
      refine ⟨0, _, rfl, Nat.zero_le _, ?_, fun z hz => by simp at hz, HST.out⟩
      have := HR2.out
      rw [HNL.out, HL.out.2] at this
      exact this
    case round =>
      obtain ⟨j, kv, rfl, hj, HJ, HZ, HS⟩ := hrel
      clear HST
      have st := HS.out
      have hst := HJ.out
      by_cases hlt : j < L2
      · obtain ⟨z, hz⟩ := some_at HL.out.2 hlt
        obtain ⟨a', ha2, hcz⟩ := (HH.out.2.2.2.1.below st.bl).get hz
        subst ha2
        have hji : (j : Int) < (L2 : Int) := by omega
        have hj0 : (0 : Int) ≤ (j : Int) := by omega
        have e4 := st.bx.cells.2.2.2.1
        rw [HNL.out] at e4
        rw [show L2 - j = (L2 - (j + 1)) + 1 by omega, klB, List.getD_eq_getElem?_getD, hz, Option.getD_some] at hst
        by_cases gz : 0 ≤ z ∧ z < (nL : Int)
        · obtain ⟨m, rfl⟩ := Int.eq_ofNat_of_zero_le gz.1
          have gm : m < nL := by omega
          obtain ⟨y, hy⟩ := some_at HNL.out gm
          have hro := st.ns.row
          rw [HNL.out] at hro
          rcases own_zero_or hro with ⟨hz0', _⟩ | ⟨gs, cs, hvs⟩
          · omega
          subst hvs
          have cv1 : wr.cell? ⟨lb, 1, none⟩ = some (.slice (some ⟨gs, 0, none⟩) nL cs) := by rw [cell_of_row _ _ _ _ _ _ st.lk.b]; rfl
          have cvm : wr.cell? ⟨gs, m, none⟩ = some (.iface (ptT (cls y.N.k)) (.pointer (some ⟨y.b, 0, none⟩))) := by
            rw [hro.cellAt m (by omega), List.getElem?_map, hy]; rfl
          obtain ⟨ak, ck, hkv⟩ := own_form st.kr
          subst hkv
          have e5 := st.bx.cells.2.2.2.2.1
          have ef := st.bx.cells.2.2.2.2.2 5
          have hkr := st.kr
          have HT : Hid (kidsIn L (N.ks.take (j + 1)) = kidsIn L (N.ks.take j) ++ [.iface (ptT (cls y.N.k)) (.pointer (some ⟨y.b, 0, none⟩))]) := by
            show _ = _
            rw [List.take_add_one, hz]
            unfold kidsIn
            rw [List.map_append]
            simp [hy, nV, nodeV]
          have HJ2 : Hid ((klB N.ks nL (L2 - (j + 1)) (j + 1) && (ffB N L2 (cls N.k) && kfB N (kinds ns N.ks))) = R) := by
            rw [decide_eq_true gz, Bool.true_and] at hst; exact hst
          have HZ2 : Hid (∀ z ∈ N.ks.take (j + 1), 0 ≤ z ∧ z < (nL : Int)) := fun z hzz => by
            rw [List.take_add_one, hz] at hzz
            rcases List.mem_append.1 hzz with h | h
            · exact HZ.out z h
            · simp at h; subst h; exact gz
          have lw1 : lb < wr.heap.size := lt_of_block st.lk.b
          have lw2 : bn < wr.heap.size := lt_of_block st.bx
          have lw3 : gs < wr.heap.size := (hro.lt gs rfl).2
          have kne : ∀ k, (Value.slice ak j ck).ownBlock = some k → IsRow wr k := fun k hk => (own_isRow hkr hk).1
          have ne1 : some lb ≠ (Value.slice ak j ck).ownBlock := fun e => by obtain ⟨c, hc⟩ := kne lb e.symm; exact blk_ne st.lk.b hc (by decide) rfl
          have ne2 : some bn ≠ (Value.slice ak j ck).ownBlock := fun e => by obtain ⟨c, hc⟩ := kne bn e.symm; exact blk_ne st.bx hc (stT_ne _).1 rfl
          have ne3 : some gs ≠ (Value.slice ak j ck).ownBlock := fun e => by
            rcases st.fr with e2 | e2
            · rw [e2] at e; cases e
            · exact e2 e.symm
          have hwr0 : w0.heap.size ≤ wr.heap.size := st.bl.size
          have HY : Hid (ptT (cls y.N.k) = ptT (cls y.N.k)) := rfl
          generalize ptT (cls y.N.k) = ty at cvm HT HY
          generalize y.b = yb at cvm HT
          have bA : ∀ o, Below wr.heap.size wr (wr.alloc o).drew := fun o => bel_drew1 ((Below.refl _ wr).alloc (Nat.le_refl _) o)
          clear st hst hy hz gz hro kne
          go_wp2_with fail
          go_region_law (refine step_append_lies _ (by rfl) _ _ _ (by rfl) w0.heap.size 44 i0 _ 1 16 Tryz.underlying48 hi hz0 hz1 hz2 rfl (by omega) (.slice ak j ck) j (kidsIn L (N.ks.take j)) (by rfl) ((hkr.alloc _).drew) ⟨wr.heap.size, 0, none⟩ 1 1 [.iface ty (.pointer (some ⟨yb, 0, none⟩))] (by rfl) (by rfl) (World.news_of_block (cs := #[.iface ty (.pointer (some ⟨yb, 0, none⟩))]) (t := 44) (fr := (0, 0)) (heap_alloc_new wr _)) (by simp [Value.oneCell']) (by omega) (by unfold maxLen; omega) (by omega) (by simp; omega) (wr.heap.size + 1) (by simp) ?_; intro g cap w5 ho5 hg5 hat hlt5; have e5' := (hg5.cell_far ⟨bn, 5, none⟩ (by simp; omega) ne2).trans (cell_kept (bA _) e5); have ef' := (hg5.frozen_far ⟨bn, 5, none⟩ (by simp; omega) ne2).trans (frozen_kept (bA _) lw2 ef))
          all_goals
           (go_wp2_with fail
            obtain ⟨_, hns0, _, _, _, _, _, he, _, _⟩ := HH.out
            have stA := HS.out.below (bA (.cells #[.iface ty (.pointer (some ⟨yb, 0, none⟩))] 44))
            rw [← HT.out] at ho5
            obtain ⟨_, stB⟩ := stA.kid he hg5 ho5 hat (by simp)
            exact ⟨⟨j + 1, _, by go_num, by omega, HJ2, HZ2, stB⟩, by simp [intOf]; omega⟩)
        · have HRf : Hid (false = R) := by rw [decide_eq_false gz, Bool.false_and, Bool.false_and] at hst; exact hst
          have hbl := st.bl
          by_cases gz0 : z < 0
          · clear hst st HS HJ hz
            go_wp2_with fail
            go_ret
            exact ⟨by rw [← HRf.out]; rfl, hbl, fun h => by rw [← HRf.out] at h; cases h⟩
          · have gz1 : ¬ z < (nL : Int) := by omega
            clear hst st HS HJ hz gz
            go_wp2_with fail
            go_ret
            exact ⟨by rw [← HRf.out]; rfl, hbl, fun h => by rw [← HRf.out] at h; cases h⟩
      · obtain rfl : j = L2 := by omega
        rw [Nat.sub_self, klB, Bool.true_and] at hst
        obtain ⟨ak, ck, hkv⟩ := own_form st.kr
        subst hkv
        obtain ⟨av, cv, hvs⟩ := own_form st.ns.row
        subst hvs
        rw [HNL.out]
        have cv1 : wr.cell? ⟨lb, 1, none⟩ = some (.slice av nL cv) := by rw [← HNL.out, cell_of_row _ _ _ _ _ _ st.lk.b]; rfl
        have hrow := st.ns.row
        rw [HNL.out] at hrow
        have hwr0 : w0.heap.size ≤ wr.heap.size := st.bl.size
        have lw1 : lb < wr.heap.size := lt_of_block st.lk.b
        have bA : ∀ o, Below wr.heap.size wr (wr.alloc o) := fun o => (Below.refl _ wr).alloc (Nat.le_refl _) o
        have HST : Hid (AdSt w0 lb mb w.heap.size bn (.slice av L.length cv) L N (.slice a1 L1 c1) (.slice a2 j c2) (.slice ak j ck) j wr) := st
        have HRR : Hid ((ffB N j (cls N.k) && kfB N (kinds ns N.ks)) = R) := hst
        have HRW : Hid (wr.ownsRow w0.heap.size 44 1 (.slice av nL cv) nL (L.map nV)) := hrow
        clear hst st HS HJ hrow
        obtain ⟨_, hns0, hnm, hks, sm, hnse, htab, he, hB0, hin⟩ := HH.out
        have HD : Hid (∀ o w5 g' cap', (wr.alloc o).grownBy w5 (Value.slice av nL cv).ownBlock → w5.ownsRow w0.heap.size 44 1 (.slice (some ⟨g', 0, none⟩) (nL + 1) cap') (nL + 1) (L.map nV ++ [.iface tp (.pointer (some ⟨bn, 0, none⟩))]) → ((Value.slice (some ⟨g', 0, none⟩) (nL + 1) cap').ownBlock = (Value.slice av nL cv).ownBlock ∨ (Value.slice (some ⟨g', 0, none⟩) (nL + 1) cap').ownBlock = some (wr.alloc o).heap.size) →
            w5.heap[lb]? = some (.cells #[.map (some mb), .slice av nL cv] 74 (0, 0)) ∧ Lk (w5.setCell ⟨lb, 1, none⟩ (.slice (some ⟨g', 0, none⟩) (nL + 1) cap')) lb mb (.slice (some ⟨g', 0, none⟩) (nL + 1) cap') ∧ NsAt (w5.setCell ⟨lb, 1, none⟩ (.slice (some ⟨g', 0, none⟩) (nL + 1) cap')) w0.heap.size (.slice (some ⟨g', 0, none⟩) (nL + 1) cap') (L ++ [⟨N, bn, .slice a1 L1 c1, .slice ak j ck⟩]) ∧ InBox (w5.setCell ⟨lb, 1, none⟩ (.slice (some ⟨g', 0, none⟩) (nL + 1) cap')) bn N (.slice a1 L1 c1) nL (.slice ak j ck) ∧ Below w0.heap.size w0 (w5.setCell ⟨lb, 1, none⟩ (.slice (some ⟨g', 0, none⟩) (nL + 1) cap'))) := by
          intro o w5 g' cap' hg ho hat
          have st' := HST.out.below (bA o)
          have hnl := HNL.out
          have hl2 := HL.out.2
          subst hl2
          subst hnl
          have hr : ∀ z ∈ N.ks, 0 ≤ z ∧ z < (L.length : Int) := by
            have := HZ.out
            rw [List.take_length] at this
            exact this
          refine st'.done he hr hg ?_ hat
          unfold nodeV
          rw [htp]
          exact ho
        clear hns0 hB0 he
        go_wp2_with (at_builtin; refine wpList_append_own_at _ rfl _ _ 48 rfl w0.heap.size 44 i0 _ 1 16 Tryz.underlying48 hi hz0 hz1 hz2 rfl (by decide) _ _ _ rfl (HRW.out.alloc _) ⟨wr.heap.size, 0, none⟩ 1 1 [.iface tp (.pointer (some ⟨bn, 0, none⟩))] rfl rfl (World.news_of_block (cs := #[.iface tp (.pointer (some ⟨bn, 0, none⟩))]) (fr := (0, 0)) (heap_alloc_new wr _)) (by intro u hu; simp at hu; subst hu; rfl) (by unfold maxLen; omega) (by omega) (by simp; omega) ?_; intro v' w5 ho5 hg5 hn5 hat5; obtain ⟨g', cap', rfl⟩ := ownsRow_succ ho5; obtain ⟨lb5, lk6, ns6, bx6, bl6⟩ := HD.out _ w5 g' cap' hg5 ho5 hat5; have z1 : w5.cell? ⟨lb, 1, none⟩ = some (.slice av nL cv) := by { rw [cell_of_row _ _ _ _ _ _ lb5]; rfl }; have zf : w5.frozen? ⟨lb, 1, none⟩ = false := frozen_of_row _ _ _ _ _ lb5)
        generalize w5.setCell ⟨lb, 1, none⟩ (.slice (some ⟨g', 0, none⟩) (nL + 1) cap') = W6 at lk6 ns6 bx6 bl6 ⊢
        have hnl := HNL.out
        have hl2 := HL.out.2
        have hx6 : (L ++ [⟨N, bn, .slice a1 L1 c1, .slice ak j ck⟩])[nL]? = some ⟨N, bn, .slice a1 L1 c1, .slice ak j ck⟩ := by rw [← hnl]; simp
        have hns6 : (L ++ [(⟨N, bn, .slice a1 L1 c1, .slice ak j ck⟩ : Im)]).map Im.N = ns.take (L ++ [(⟨N, bn, .slice a1 L1 c1, .slice ak j ck⟩ : Im)]).length := by
          rw [List.map_append, hnse, List.length_append, List.length_singleton, List.take_add_one, hin]; rfl
        have hkk6 := ns6.kids hns6 hx6
        have kf := fieldsFit_any W6 lb mb _ lk6 bn N (.slice a1 L1 c1) nL ak j ck (by omega) (hnm.below bl6) sm.l1 sm.ls sm.lx bx6
        unfold nodeV at kf
        rw [htp] at kf
        have hrr := HRR.out
        cases hfb : ffB N j (cls N.k) with
        | false =>
          rw [hfb] at kf hrr
          rw [Bool.false_and] at hrr
          have HRf : Hid (false = R) := hrr
          refine kf.mono ?_
          rintro e w7 ⟨rfl, hb7⟩
          have bl7 := bl6.trans (hb7.mono bl6.size)
          clear hrr hfb kf
          go_wp2_with fail
          go_ret
          exact ⟨by rw [← HRf.out]; rfl, bl7, fun h => by rw [← HRf.out] at h; cases h⟩
        | true =>
          rw [hfb] at kf hrr
          rw [Bool.true_and] at hrr
          have hn1 : cls N.k = 1 → 0 ≤ N.n ∧ N.n ≤ 200 := fun hc => by
            rw [hc] at hfb
            have := of_decide_eq_true (show decide (1 ≤ N.n ∧ N.n < (j : Int)) = true from hfb)
            omega
          refine kf.mono ?_
          rintro e w7 ⟨rfl, hb7⟩
          have bl7 := bl6.trans (hb7.mono bl6.size)
          have lk7 := lk6.below hb7
          have ns7 := ns6.below hb7
          have hlk : (kinds ns N.ks).length ≤ 1048576 := by unfold kinds; rw [List.length_map, hl2]; omega
          have kk := kidsFit_any w7 bn N (.slice a1 L1 c1) (.slice ak j ck) nL (kinds ns N.ks) (hkk6.below hb7) hlk (fun W hW => htab W (bl7.trans (hW.mono bl7.size))) (bx6.below hb7) hn1
          rw [hrr] at kk
          unfold nodeV at kk
          rw [htp] at kk
          clear hrr hfb kf hn1 hkk6 hx6 hns6 lk6 ns6 bx6 hin hnse htab sm hnm hks
          go_wp2_with (go_at_call 49; refine kk.mono ?_; rintro e w8 ⟨rfl, hb8⟩)
          go_ret
          exact ⟨rfl, bl7.trans (hb8.mono bl7.size), fun _ => ⟨_, _, rfl, rfl, lk7.below hb8, ns7.below hb8⟩⟩

theorem add_any (w0 w : World) (he : Errs w0) (hB0 : Below w0.heap.size w0 w) (lb mb : Nat) (hlb : w0.heap.size ≤ lb) (vs : Value) (L : List Im) (h : Lk w lb mb vs) (hN : NsAt w w0.heap.size vs L) (N : Nd) (vn vk : Value) (hn : StrsAt w0 vn N.nm) (hk : IntsAt w0 vk N.ks) (sm : NdSmall N) (hL : L.length ≤ 3000) (ns : List Nd) (hns : L.map Im.N = ns.take L.length) (hin : ns[L.length]? = some N) (htab : ∀ W, Below w0.heap.size w0 W → Lib.TabIs Tryz.prog W "strings.asciiSpace" .u8 Lib.asciiSpaceTab) :
    Calls Tryz.prog 31 #[.pointer (some ⟨lb, 0, none⟩), vNd N vn vk] w (AddPost w0 lb mb L ns N vn) := by
  cases hf : fldI N with
  | true => exact add_late w0 w he hB0 lb mb hlb vs L h hN N vn vk hn hk sm hL ns hns hin htab hf
  | false =>
    refine (add_early w lb N vn vk (hn.below hB0) (hk.below hB0) sm hf).mono ?_
    rintro e w' ⟨rfl, hb⟩
    have e : addB ns L.length N = false := by unfold addB; rw [hf, Bool.false_and]
    exact ⟨by rw [e], hB0.trans (hb.mono hB0.size), fun h => by rw [e] at h; cases h⟩
end Go.Proofs.YtdgbmihokecmhaaGreatDoor

namespace Go.Proofs.YtdgbmihokecmhaaGreatDoor
open Go.RowKit
set_option linter.unusedVariables false

set_option maxRecDepth 100000 in
set_option maxHeartbeats 6400000 in
/-- slices.Backward's closure. -/
theorem back1_in (n l Bs len cap : Nat) (a : Option Addr) (f : Nat → Value) (hlen : len ≤ 3000) (hcap : len ≤ cap) (J : Nat → World → Prop) (Jx : World → Prop)
    (hbox : ∀ m W, J m W → W.cell? ⟨Bs, 0, none⟩ = some (.slice a len cap))
    (hcell : ∀ m W, J m W → ∀ j, j < len → ∃ a', a = some a' ∧ W.cell? (a'.add j) = some (f j))
    (hY : ∀ m W, m < len → J (m + 1) W → YieldAt Fence.wide (n - 1) Tryz.prog l #[.int .i64 (m : Int), f m] W fun e W' => (e = .returned (.bool true) ∧ J m W') ∨ (e = .returned (.bool false) ∧ Jx W'))
    (W : World) (h0 : J len W) :
    CallsIn Fence.wide n Tryz.prog 68 #[.func (.yield l) #[] #[], .pointer (some ⟨Bs, 0, none⟩)] W fun e W' => (∃ v, e = .returned v) ∧ (J 0 W' ∨ Jx W') := by
  have hb0 := hbox _ _ h0
  refine callsIn_of_wp Tryz.func68 rfl trivial ?_ rfl
  simp only [Tryz.ntmps68, List.size_toArray, List.length_cons, List.length_nil, Nat.reduceAdd, Nat.reduceSub, Array.replicate_succ, Array.replicate_zero, List.push_toArray, List.append_toArray, List.nil_append, List.cons_append]
  gi_wp2
  gi_loopw [3] (fun i wr => ∃ k : Nat, k ≤ len ∧ i = .int .i64 ((k : Int) - 1) ∧ J k wr) (fun i _ => (intOf i + 1).toNat)
  case atStart => exact ⟨len, Nat.le_refl _, rfl, h0⟩
  case round =>
    obtain ⟨k, hk, rfl, hJ⟩ := hrel
    have hb := hbox _ _ hJ
    rcases Nat.eq_zero_or_pos k with rfl | hp
    · gi_wp2
      go_end0
      exact ⟨⟨_, rfl⟩, .inl hJ⟩
    · obtain ⟨m, rfl⟩ : ∃ m, k = m + 1 := ⟨k - 1, by omega⟩
      obtain ⟨a', rfl, hc⟩ := hcell _ _ hJ m (by omega)
      obtain ⟨fn, tmps, assign, body, hy, hR⟩ := hY m wr (by omega) hJ
      have e1 : ((m + 1 : Nat) : Int) - 1 = (m : Int) := by omega
      rw [e1]
      have i1 : (m : Int) < (len : Int) := by omega
      have i2 : (0 : Int) ≤ (m : Int) := by omega
      gi_wp2
      refine ⟨fun h => by simp [Fence.wide] at h, hR.mono ?_⟩
      rintro e W3 (⟨rfl, hJ3⟩ | ⟨rfl, hJx3⟩)
      · gi_wp2
        go_roundw
        case rel => exact ⟨m, by omega, by simp, hJ3⟩
        case measure => simp [intOf]
      · gi_wp2
        refine bodyPost_ret (results_none rfl _ _ _) rfl ?_
        exact ⟨⟨_, rfl⟩, .inr hJx3⟩

set_option maxHeartbeats 1000000 in
/-- slices.Backward. -/
theorem backward_any (a : Option Addr) (len cap : Nat) (w : World) :
    Calls Tryz.prog 50 #[.slice a len cap] w fun e w' => e = .returned (.func (.func 68) #[] #[.pointer (some ⟨w.heap.size, 0, none⟩)]) ∧ w' = w.alloc (.cells #[.slice a len cap] 48) := by
  refine calls_of_wp Tryz.func50 rfl ?_
  simp only [Tryz.ntmps50, List.size_toArray, List.length_cons, List.length_nil, Nat.reduceAdd, Nat.reduceSub, Array.replicate_succ, Array.replicate_zero, List.push_toArray, List.append_toArray, List.nil_append, List.cons_append]
  go_wp2
  go_ret
  exact ⟨rfl, rfl⟩
end Go.Proofs.YtdgbmihokecmhaaGreatDoor
