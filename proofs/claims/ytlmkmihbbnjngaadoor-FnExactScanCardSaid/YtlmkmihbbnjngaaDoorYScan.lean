import Derived.Test.YtlmkmihbbnjngaaDoorYAny
import Derived.Test.YtlmkmihbbnjngaaDoorZScan
import Derived.Deep.CutBlock
namespace Go.Proofs.YtlmkmihbbnjngaaDoor
open Go.RowKit Go.Maps Go.WideMaps
set_option linter.unusedVariables false

theorem blk_stop (s : ByteArray) : ∀ (f p : Nat), p ≤ s.size → s.size < p + f → blk s f p < s.size → ¬ blankB (bat s (blk s f p)) = true ∧ ¬ (bat s (blk s f p) = 45 ∧ bat s (blk s f p + 1) = 45)
  | 0, p, h, hf, hl => by omega
  | f + 1, p, h, hf, hl => by
    unfold blk at hl ⊢
    split
    · rename_i h1; rw [if_pos h1] at hl; omega
    split
    · rename_i h1 h2
      rw [if_neg h1, if_pos h2] at hl
      exact blk_stop s f (p + 1) (by omega) (by omega) hl
    split
    · rename_i h1 h2 h3
      rw [if_neg h1, if_neg h2, if_pos h3] at hl
      have e1 := nlE_pos s p h3.1
      have e2 := nlE_bd s p h
      exact blk_stop s f _ e2.2 (by omega) hl
    · rename_i h1 h2 h3
      exact ⟨h2, h3⟩
/-- The scanner stands at a token, or at the end. -/
structure Stop (s : ByteArray) (p : Nat) : Prop where
  nb : p < s.size → ¬ blankB (bat s p) = true
  nd : p < s.size → ¬ (bat s p = 45 ∧ bat s (p + 1) = 45)
theorem stop_blk (s : ByteArray) (p : Nat) (h : p ≤ s.size) : Stop s (blk s (s.size + 1) p) :=
  ⟨fun hl => (blk_stop s _ p h (by omega) hl).1, fun hl => (blk_stop s _ p h (by omega) hl).2⟩
theorem blk_idem (s : ByteArray) (p : Nat) (h : p ≤ s.size) : blk s (s.size + 1) (blk s (s.size + 1) p) = blk s (s.size + 1) p := by
  have hs := stop_blk s p h
  rcases Nat.lt_or_ge (blk s (s.size + 1) p) s.size with hl | hl
  · exact blk_tok s _ (hs.nb hl) (hs.nd hl)
  · exact blk_end s _ hl
theorem Rel.blks {s : ByteArray} {E : Bool × Nat × List Tk} {pre : List Tk} {p f : Nat} {l : Int} (h : Rel s E pre p l f) : Rel s E pre (blk s (s.size + 1) p) l f := by
  have hb := blk_bd s (s.size + 1) p h.le
  exact ⟨by have := h.fu; omega, hb.2, h.l0, by have := h.l1; omega, by have := h.cn; omega, by rw [h.eq, scn_blk s p _ (blk_idem s p h.le).symm]⟩

/-- What the model's Scan holds: the result's block, what it gathers. -/
structure SpHeld (w : World) (n : Nat) (xs : List Value) (v : Value) (W : World) : Prop where
  res : W.heap[w.heap.size]? = some (.cells #[.bool false, .int .i64 0, .slice none 0 0] 27 (0, 0))
  out : W.heap[w.heap.size + 1]? = some (.cells #[.bool true, .int .i64 0, v] 27 (0, 0))
  row : W.ownsRow (w.heap.size + 2) 30 6 v n xs
  bel : Below w.heap.size w W
  siz : w.heap.size + 2 ≤ W.heap.size
theorem SpHeld.below {w : World} {n : Nat} {xs : List Value} {v : Value} {W W' : World} (h : SpHeld w n xs v W) (hb : Below W.heap.size W W') : SpHeld w n xs v W' :=
  ⟨(hb.block _ (lt_of_block h.res)).trans h.res, (hb.block _ (lt_of_block h.out)).trans h.out, h.row.kept (row := none) ⟨hb.os, hb.tape, hb.output, hb.size, fun k hk _ => hb.block k hk⟩ (by cases v.ownBlock <;> simp), h.bel.trans (hb.mono h.bel.size), Nat.le_trans h.siz hb.size⟩
theorem SpHeld.cells {w : World} {n : Nat} {xs : List Value} {v : Value} {W : World} (h : SpHeld w n xs v W) :
    W.cell? ⟨w.heap.size, 0, none⟩ = some (.bool false) ∧ W.cell? ⟨w.heap.size, 1, none⟩ = some (.int .i64 0) ∧ W.cell? ⟨w.heap.size, 2, none⟩ = some (.slice none 0 0) ∧ (∀ j, W.frozen? ⟨w.heap.size, j, none⟩ = false) ∧
    W.cell? ⟨w.heap.size + 1, 0, none⟩ = some (.bool true) ∧ W.cell? ⟨w.heap.size + 1, 1, none⟩ = some (.int .i64 0) ∧ W.cell? ⟨w.heap.size + 1, 2, none⟩ = some v ∧ (∀ j, W.frozen? ⟨w.heap.size + 1, j, none⟩ = false) :=
  ⟨by rw [cell_of_row _ _ _ _ _ _ h.res]; rfl, by rw [cell_of_row _ _ _ _ _ _ h.res]; rfl, by rw [cell_of_row _ _ _ _ _ _ h.res]; rfl, fun j => frozen_of_row _ _ _ _ _ h.res, by rw [cell_of_row _ _ _ _ _ _ h.out]; rfl, by rw [cell_of_row _ _ _ _ _ _ h.out]; rfl, by rw [cell_of_row _ _ _ _ _ _ h.out]; rfl, fun j => frozen_of_row _ _ _ _ _ h.out⟩

theorem SpHeld.appended {w W w1 : World} {n : Nat} {xs news : List Value} {v v' : Value} {tmp : Obj} (h : SpHeld w n xs v W)
    (hown : w1.ownsRow (w.heap.size + 2) 30 6 v' (n + 1) (xs ++ news)) (hg : (W.alloc tmp).grownBy w1 v.ownBlock) :
    SpHeld w (n + 1) (xs ++ news) v' (w1.setCell ⟨w.heap.size + 1, 2, none⟩ v') ∧ w1.heap[w.heap.size + 1]? = some (.cells #[.bool true, .int .i64 0, v] 27 (0, 0)) ∧ (∀ k, k < W.heap.size → some k ≠ v.ownBlock → w1.heap[k]? = W.heap[k]?) := by
  have hne : ∀ k, k < w.heap.size + 2 → some k ≠ v.ownBlock := fun k hk e => by have := (h.row.lt k e.symm).1; omega
  have hsz := h.siz
  have hold : ∀ k, k < W.heap.size → some k ≠ v.ownBlock → w1.heap[k]? = W.heap[k]? := fun k hk hn => (hg.block k (by simp; omega) hn).trans (Below.heap_alloc W _ k hk)
  have hO := (hold _ (lt_of_block h.out) (hne _ (by omega))).trans h.out
  have hsz1 : W.heap.size ≤ w1.heap.size := by have := hg.size; simp at this; omega
  refine ⟨⟨?_, heap_setCell_same _ _ 2 _ _ _ hO, ownsRow_setCell_below hown (by simp) v', ?_, ?_⟩, hO, hold⟩
  · rw [heap_setCell_other _ _ _ _ (by simp), hold _ (lt_of_block h.res) (hne _ (by omega))]; exact h.res
  · refine h.bel.trans ((((Below.refl w.heap.size W).alloc h.bel.size tmp).grown hg (by have := h.bel.size; simp; omega) (fun k e => by have := (h.row.lt k e).1; omega)).setCell (p := ⟨w.heap.size + 1, 2, none⟩) (by simp) v')
  · simp [World.setCell]; omega

set_option maxRecDepth 100000 in
set_option maxHeartbeats 6400000 in
theorem specScan_small (s : ByteArray) (hm : s.size ≤ 65536) (E : Bool × Nat × List Tk) (hE : scn s (s.size + 1) 0 1 = E) (w : World) :
    Calls Tryd.prog 8 #[.string s] w fun e w' => ∃ v, e = .returned (.agg #[.bool E.1, .int .i64 (resAt E), v]) ∧ w'.ownsRow w.heap.size 30 6 v (resTs E).length (cTks (resTs E)) ∧ Below w.heap.size w w' := by
  have hz : ∀ w : World, (zeroValue 27).run Tryd.prog w = .ok (.agg #[.bool false, .int .i64 0, .slice none 0 0]) w := fun w => by kernel_rfl
  have HE : Rel s E [] 0 1 (s.size + 1) := ⟨by omega, by omega, by omega, by omega, by simp, by rw [hE]; rfl⟩
  have HE0 := HE.blks
  have HS0 := stop_blk s 0 (by omega)
  have kb0 := fun w => l1blanks_any s (by omega) 0 (by omega) w
  have hkb := fun (a : Nat) (ha : a ≤ s.size) w => l1blanks_any s (by omega) a ha w
  have HKB : Hid (∀ (a : Nat) (ha : a ≤ s.size) w, Calls Tryd.prog 18 #[.string s, .int .i64 a] w fun e w' => e = .returned (.int .i64 (blk s (s.size + 1) a)) ∧ w' = w) := hkb
  have HKR : Hid (∀ (p : Nat) (hp : p < s.size) (w : World), Calls Tryd.prog 19 #[.string s, .int .i64 p] w fun e w' => ∃ k t n x bad, e = .returned (.tuple #[.agg #[.int .i64 k, .int .i64 p, .int .i64 t, .int .i64 0, .int .i64 n, .string x], .int .i64 bad]) ∧ RdOk (rdI s p) k t n x bad ∧ Below w.heap.size w w') := fun p hp w => l1read_any s (by omega) p hp w
  clear hE HE hkb
  generalize blk s (s.size + 1) 0 = P0 at HE0 HS0 kb0
  go_enter Tryd.func8, Tryd.ntmps8
  go_wp2_with (go_at_call 18; refine (kb0 _).mono ?_; rintro e w' ⟨rfl, rfl⟩)
  go_loopw [4, 5, 6, 7] (fun vl va vt vb wr => ∃ (pre : List Tk) (p : Nat) (ln : Int) (f : Nat) (v : Value), vl = .int .i64 ln ∧ va = .int .i64 p ∧ Rel s E pre p ln f ∧ Stop s p ∧ SpHeld w pre.length (cTks pre) v wr) (fun _ va _ _ _ => s.size - (intOf va).toNat)
  case atStart =>
    refine ⟨[], P0, 1, s.size + 1, .slice none 0 0, rfl, rfl, HE0, HS0, ⟨(Below.heap_alloc _ _ _ (by simp)).trans (heap_alloc_new w _), ?_, World.ownsRow_nil _ _ _ _, ((Below.refl _ w).alloc (Nat.le_refl _) _).alloc (by simp) _, by simp⟩⟩
    have := heap_alloc_new (w.alloc (.cells #[.bool false, .int .i64 0, .slice none 0 0] 27)) (.cells #[.bool true, .int .i64 0, .slice none 0 0] 27)
    rw [World.size_alloc] at this
    exact this
  case round =>
    obtain ⟨pre, p, ln, f, v, rfl, rfl, hR, hSt, hH⟩ := hrel
    obtain ⟨r0, r1, r2, rf, o0, o1, o2, of⟩ := hH.cells
    clear kb0
    by_cases hp : p < s.size
    · have hpi : (p : Int) < (s.size : Int) := by omega
      have hRok := hR.tok hp (hSt.nb hp) (hSt.nd hp)
      have hRbad := hR.bad hp (hSt.nb hp) (hSt.nd hp)
      have hpos := rdI_pos s p hp
      have kr := HKR.out p hp
      go_wp2_with (go_at_call 19; fail)
      refine (kr _).mono ?_
      rintro e w2 ⟨k, t, n, x, bad, rfl, hOk, hb2⟩
      have hH2 := hH.below hb2
      clear kr r0 r1 r2 rf o0 o1 o2 of
      obtain ⟨r0, r1, r2, rf, o0, o1, o2, of⟩ := hH2.cells
      have hx1 : w.heap.size < w2.heap.size := lt_of_block hH2.res
      have hx2 : w.heap.size + 1 < w2.heap.size := lt_of_block hH2.out
      have hx3 : w.heap.size ≠ w2.heap.size := by omega
      have hx4 : w.heap.size + 1 ≠ w2.heap.size := by omega
      generalize rdI s p = R at hRok hRbad hpos hOk
      obtain ⟨ok, ra, rd, rk, rn, rx⟩ := R
      cases ok with
      | false =>
        have hE := hRbad rfl
        have hbad : bad = (ra : Int) := hOk.no rfl
        subst hbad
        have hge : (0 : Int) ≤ (ra : Int) := by omega
        have hE' : E = (false, ra, pre) := hE
        subst hE'
        clear hRok hRbad hpos hOk hE
        go_wp2_with fail
        refine bodyPost_ret (results_cell_row rfl _ _ w.heap.size _ _ _ _ rfl ((Below.heap_alloc _ _ _ (by simp [World.setCell]; omega)).trans (heap_setCell_same _ _ 2 _ _ _ (heap_setCell_same _ _ 1 _ _ _ (heap_setCell_same w2 _ 0 _ _ _ hH2.res)))) Tryd.underlying27 rfl (by kernel_rfl)) rfl ⟨_, rfl, World.ownsRow_nil _ _ _ _, ?_⟩
        refine Below.alloc ?_ (by simp [World.setCell]; omega) _
        exact (((hH2.bel.setCell (p := ⟨w.heap.size, 0, none⟩) (Nat.le_refl _) _).setCell (p := ⟨w.heap.size, 1, none⟩) (Nat.le_refl _) _).setCell (p := ⟨w.heap.size, 2, none⟩) (Nat.le_refl _) _)
      | true =>
        obtain ⟨e1, e2, e3, e4, e5, e6⟩ := hOk.yes rfl
        simp only at e1 e2 e3 e4 e5 e6
        have hRo := hRok rfl
        have hpo := hpos rfl
        simp only at hRo hpo
        subst e1 e2 e3 e4 e5
        clear hRok hRbad hpos hOk
        have hRb := hRo.blks
        have hSb := stop_blk s ra hpo.2.1
        have hbb := blk_bd s (s.size + 1) ra hpo.2.1
        have kb := HKB.out ra hpo.2.1
        generalize blk s (s.size + 1) ra = q at hRb hSb hbb kb
        have hl0 := hR.l0
        have hl1 := hR.l1
        have hcn := hR.cn
        have hbw : (w2.alloc (.cells #[.int .i64 k, .int .i64 p, .int .i64 (ra : Int), .int .i64 ln, .int .i64 n, .string x] 30)).heap[w2.heap.size]? = some (.cells #[.int .i64 k, .int .i64 p, .int .i64 (ra : Int), .int .i64 ln, .int .i64 n, .string x] 30 (0, 0)) := heap_alloc_new w2 _
        have hH3 : SpHeld w pre.length (cTks pre) v (w2.alloc (.cells #[.int .i64 k, .int .i64 p, .int .i64 (ra : Int), .int .i64 ln, .int .i64 n, .string x] 30)) := hH2.below ((Below.refl _ w2).alloc (Nat.le_refl _) _)
        have hno : some w2.heap.size ≠ v.ownBlock := fun e => by have := (hH2.row.lt _ e.symm).2; omega
        by_cases h7 : k = 7
        · subst h7
          rw [if_pos rfl] at e6
          subst e6
          go_upto_region 13 with fail
          generalize w2.alloc (.cells #[.int .i64 7, .int .i64 p, .int .i64 (ra : Int), .int .i64 ln, .int .i64 n, .string x] 30) = W3 at hbw hH3 ⊢
          clear r0 r1 r2 rf o0 o1 o2 of
          obtain ⟨r0, r1, r2, rf, o0, o1, o2, of⟩ := hH3.cells
          obtain ⟨b0, b1, b2, b3, b4, b5, bf⟩ := tk_cells (show TkAt w2.heap.size W3 7 p (ra : Int) ln n x from hbw)
          have hy1 : w.heap.size + 1 < W3.heap.size := lt_of_block hH3.out
          have hy3 : w2.heap.size < W3.heap.size := lt_of_block hbw
          obtain ⟨i0, hi, hz0, hz1, hz2⟩ := info_parts Tryd.info30
          have hple := hR.le
          go_wp2_with (first | (at_builtin; refine wpList_append_own _ rfl _ _ 25 rfl (w.heap.size + 2) 30 i0 _ 6 56 Tryd.underlying25 hi hz0 hz1 hz2 rfl (by decide) _ _ _ rfl (hH3.row.alloc _) ⟨W3.heap.size, 0, none⟩ 1 1 [.int .i64 7, .int .i64 p, .int .i64 (ra : Int), .int .i64 ln, .int .i64 n, .string x] rfl rfl (World.news_of_block (cs := #[.int .i64 7, .int .i64 p, .int .i64 (ra : Int), .int .i64 ln, .int .i64 n, .string x]) (fr := (0, 0)) (heap_alloc_new W3 _)) (by intro u hu; simp at hu; rcases hu with rfl | rfl | rfl | rfl | rfl | rfl <;> rfl) (by unfold maxLen; omega) (by omega) (by simp; omega) ?_; intro v' w5 hown' hgrow _; obtain ⟨g', cap', rfl⟩ := ownsRow_succ hown'; obtain ⟨hH5, hO5, hold5⟩ := hH3.appended hown' hgrow; have hb5 := (hold5 _ hy3 hno).trans hbw; have oc5 : w5.cell? ⟨w.heap.size + 1, 2, none⟩ = some v := by { rw [cell_of_row _ _ _ _ _ _ hO5]; rfl }; have of5 : w5.frozen? ⟨w.heap.size + 1, 2, none⟩ = false := frozen_of_row _ _ _ _ _ hO5; obtain ⟨d0, d1, d2, d3, d4, d5, df⟩ := tk_cells (show TkAt w2.heap.size w5 7 p (ra : Int) ln n x from hb5)) | (go_at_call 18; refine (kb _).mono ?_; rintro e w' ⟨rfl, rfl⟩))
          exact ⟨⟨pre ++ [⟨7, p, ra, ln, n, x⟩], q, ln + 1, f - 1, _, rfl, rfl, hRb, hSb, by rw [List.length_append, cTks_app]; exact hH5⟩, by simp [intOf]; omega⟩
        · have h7' : (k == 7) = false := by rw [beq_eq_false_iff_ne]; exact h7
          rw [if_neg h7] at e6
          subst e6
          rw [Int.add_zero] at hRb
          go_upto_region 13 with fail
          generalize w2.alloc (.cells #[.int .i64 k, .int .i64 p, .int .i64 (ra : Int), .int .i64 ln, .int .i64 n, .string x] 30) = W3 at hbw hH3 ⊢
          clear r0 r1 r2 rf o0 o1 o2 of
          obtain ⟨r0, r1, r2, rf, o0, o1, o2, of⟩ := hH3.cells
          obtain ⟨b0, b1, b2, b3, b4, b5, bf⟩ := tk_cells (show TkAt w2.heap.size W3 k p (ra : Int) ln n x from hbw)
          have hy1 : w.heap.size + 1 < W3.heap.size := lt_of_block hH3.out
          have hy3 : w2.heap.size < W3.heap.size := lt_of_block hbw
          obtain ⟨i0, hi, hz0, hz1, hz2⟩ := info_parts Tryd.info30
          have hple := hR.le
          go_wp2_with (first | (at_builtin; refine wpList_append_own _ rfl _ _ 25 rfl (w.heap.size + 2) 30 i0 _ 6 56 Tryd.underlying25 hi hz0 hz1 hz2 rfl (by decide) _ _ _ rfl (hH3.row.alloc _) ⟨W3.heap.size, 0, none⟩ 1 1 [.int .i64 k, .int .i64 p, .int .i64 (ra : Int), .int .i64 ln, .int .i64 n, .string x] rfl rfl (World.news_of_block (cs := #[.int .i64 k, .int .i64 p, .int .i64 (ra : Int), .int .i64 ln, .int .i64 n, .string x]) (fr := (0, 0)) (heap_alloc_new W3 _)) (by intro u hu; simp at hu; rcases hu with rfl | rfl | rfl | rfl | rfl | rfl <;> rfl) (by unfold maxLen; omega) (by omega) (by simp; omega) ?_; intro v' w5 hown' hgrow _; obtain ⟨g', cap', rfl⟩ := ownsRow_succ hown'; obtain ⟨hH5, hO5, hold5⟩ := hH3.appended hown' hgrow; have hb5 := (hold5 _ hy3 hno).trans hbw; have oc5 : w5.cell? ⟨w.heap.size + 1, 2, none⟩ = some v := by { rw [cell_of_row _ _ _ _ _ _ hO5]; rfl }; have of5 : w5.frozen? ⟨w.heap.size + 1, 2, none⟩ = false := frozen_of_row _ _ _ _ _ hO5; obtain ⟨d0, d1, d2, d3, d4, d5, df⟩ := tk_cells (show TkAt w2.heap.size w5 k p (ra : Int) ln n x from hb5)) | (go_at_call 18; refine (kb _).mono ?_; rintro e w' ⟨rfl, rfl⟩))
          exact ⟨⟨pre ++ [⟨k, p, ra, ln, n, x⟩], q, ln, f - 1, _, rfl, rfl, hRb, hSb, by rw [List.length_append, cTks_app]; exact hH5⟩, by simp [intOf]; omega⟩
    · have hE := hR.atEnd (by omega)
      have hpi : ¬ (p : Int) < (s.size : Int) := by omega
      subst hE
      obtain ⟨va, cap, rfl⟩ := own_shape hH.row
      obtain ⟨N, hN⟩ : ∃ N, pre.length = N := ⟨_, rfl⟩
      rw [hN] at o2
      have hO := hH.out
      have hrow := hH.row
      rw [hN] at hrow
      have HN : Hid (pre.length = N) := hN
      clear hN hO
      go_wp2_with fail
      refine bodyPost_ret (results_cell_row rfl _ _ w.heap.size _ _ _ _ rfl (heap_setCell_same _ _ 2 _ _ _ (heap_setCell_same _ _ 1 _ _ _ (heap_setCell_same wr _ 0 _ _ _ hH.res))) Tryd.underlying27 rfl (by kernel_rfl)) rfl ⟨_, rfl, ?_, (((hH.bel.setCell (p := ⟨w.heap.size, 0, none⟩) (Nat.le_refl _) _).setCell (p := ⟨w.heap.size, 1, none⟩) (Nat.le_refl _) _).setCell (p := ⟨w.heap.size, 2, none⟩) (Nat.le_refl _) _)⟩
      have hfin := ownsRow_setCell_below (a := ⟨w.heap.size, 2, none⟩) (ownsRow_setCell_below (a := ⟨w.heap.size, 1, none⟩) (ownsRow_setCell_below (a := ⟨w.heap.size, 0, none⟩) hrow (by simp) (.bool true)) (by simp) (.int .i64 0)) (by simp) (.slice va N cap)
      show World.ownsRow _ _ _ _ _ pre.length (cTks pre)
      rw [HN.out]
      exact own_base hfin (by omega)

set_option maxRecDepth 100000 in
set_option maxHeartbeats 3200000 in
theorem specScan_big (s : ByteArray) (hm : 65536 < s.size) (hm2 : s.size ≤ 1048576) (w : World) :
    Calls Tryd.prog 8 #[.string s] w fun e w' => e = .returned (.agg #[.bool false, .int .i64 65536, .slice none 0 0]) ∧ Below w.heap.size w w' := by
  have hz : ∀ w : World, (zeroValue 27).run Tryd.prog w = .ok (.agg #[.bool false, .int .i64 0, .slice none 0 0]) w := fun w => by kernel_rfl
  have hm' : (65536 : Int) < (s.size : Int) := by omega
  go_enter Tryd.func8, Tryd.ntmps8
  go_wp2_with fail
  exact bodyPost_ret (results_cell_row rfl _ _ w.heap.size _ _ _ _ rfl (heap_alloc_new w _) Tryd.underlying27 rfl (by kernel_rfl)) rfl ⟨rfl, (Below.refl _ w).alloc (Nat.le_refl _) _⟩
theorem specScan_any (s : ByteArray) (hm2 : s.size ≤ 1048576) (w : World) :
    Calls Tryd.prog 8 #[.string s] w fun e w' => ∃ v, e = .returned (.agg #[.bool (scR s).1, .int .i64 (resAt (scR s)), v]) ∧ w'.ownsRow w.heap.size 30 6 v (resTs (scR s)).length (cTks (resTs (scR s))) ∧ Below w.heap.size w w' := by
  unfold scR
  by_cases h : 65536 < s.size
  · rw [if_pos h]
    refine (specScan_big s h hm2 w).mono ?_
    rintro e w' ⟨rfl, hb⟩
    exact ⟨_, rfl, World.ownsRow_nil _ _ _ _, hb⟩
  · rw [if_neg h]
    exact specScan_small s (by omega) _ rfl w
theorem scn_len (s : ByteArray) : ∀ (f p : Nat) (l : Int), p ≤ s.size → (scn s f p l).2.2.length ≤ s.size - p
  | 0, p, l, h => by simp [scn]
  | f + 1, p, l, h => by
    unfold scn
    have hb := blk_bd s (s.size + 1) p h
    split
    · simp
    split
    · rename_i h1 h2
      have hp := rdI_pos s _ (by omega) h2
      have := scn_len s f (rdI s (blk s (s.size + 1) p)).a (l + (rdI s (blk s (s.size + 1) p)).d) hp.2.1
      simp only [List.length_cons]
      omega
    · simp
theorem scR_len (s : ByteArray) : (resTs (scR s)).length ≤ 65536 := by
  unfold resTs
  split
  · unfold scR
    split
    · simp
    · have := scn_len s (s.size + 1) 0 1 (by omega); omega
  · simp
end Go.Proofs.YtlmkmihbbnjngaaDoor
