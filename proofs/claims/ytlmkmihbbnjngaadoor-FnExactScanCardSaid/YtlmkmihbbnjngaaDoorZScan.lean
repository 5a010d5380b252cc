import Derived.Test.YtlmkmihbbnjngaaDoorZIter
import Derived.Test.YtlmkmihbbnjngaaDoorRScan
namespace Go.Proofs.YtlmkmihbbnjngaaDoor
open Go.RowKit Go.Shelf Go.Maps Go.WideMaps
set_option linter.unusedVariables false
attribute [local go_sem] Oper.semAt_some

/-- What Scan answers of what the scanner makes: the fault's place, the tokens. -/
def resAt (E : Bool × Nat × List Tk) : Int := if E.1 = true then 0 else (E.2.1 : Int)
def resTs (E : Bool × Nat × List Tk) : List Tk := if E.1 = true then E.2.2 else []
def scR (s : ByteArray) : Bool × Nat × List Tk := if 65536 < s.size then (false, 65536, []) else scn s (s.size + 1) 0 1
theorem Iv.put {b mb B l : Nat} {s : ByteArray} {T : List Tk → World → Prop} {pre : List Tk} {W : World} {p : Nat} {ln : Int} {r : Loop} {o : Obj} (h : Iv b mb B s T pre W p ln) (hl : W.heap[l]? = some (.loop r)) (hT : T pre (W.putObj l o)) (hb : b ≠ l) (hmb : mb ≠ l) (h9 : 9 ≤ l) : Iv b mb B s T pre (W.putObj l o) p ln :=
  ⟨h.sc.heap (World.putObj_heap_other hb), h.mp.kept (grownBy_putObj' W l o) (by simp; exact hmb), h.ly.blocks (fun k hk => World.putObj_heap_other (by omega)), hT, by simpa using h.sz⟩

set_option maxRecDepth 100000 in
set_option maxHeartbeats 3200000 in
theorem scan_big (s : ByteArray) (hm : 65536 < s.size) (w : World) :
    Calls Tryd.prog 7 #[.string s] w fun e w' => e = .returned (.agg #[.bool false, .int .i64 65536, .slice none 0 0]) ∧ Below w.heap.size w w' := by
  have hz : ∀ w : World, (zeroValue 27).run Tryd.prog w = .ok (.agg #[.bool false, .int .i64 0, .slice none 0 0]) w := fun w => by kernel_rfl
  have hm' : (65536 : Int) < (s.size : Int) := by omega
  refine callsIn_wide (n := 5).1 ?_
  refine callsIn_of_wp_marks Tryd.func7 rfl trivial ?_ rfl
  simp only [Tryd.ntmps7, List.size_toArray, List.length_cons, List.length_nil, Nat.reduceAdd, Nat.reduceSub, Array.replicate_succ, Array.replicate_zero, List.push_toArray, List.append_toArray, List.nil_append, List.cons_append]
  gi_wp2_with fail
  exact ⟨_, results_cell_row rfl _ _ w.heap.size _ _ _ _ rfl (heap_alloc_new w _) Tryd.underlying27 rfl (by kernel_rfl), rfl, (Below.refl _ w).alloc (Nat.le_refl _) _⟩

theorem own_shape {W : World} {base e size n : Nat} {v : Value} {xs : List Value} (h : W.ownsRow base e size v n xs) : ∃ a cap, v = .slice a n cap := by
  rcases h.2 with ⟨rfl, hn⟩ | ⟨g, cap, cur, rfl, _⟩
  · exact ⟨none, 0, by rw [hn]⟩
  · exact ⟨_, _, rfl⟩

set_option maxRecDepth 100000 in
set_option maxHeartbeats 6400000 in
theorem scan_small (s : ByteArray) (hm : s.size ≤ 65536) (E : Bool × Nat × List Tk) (hE : scn s (s.size + 1) 0 1 = E) (w : World) (hL : Lay w) (h9 : 9 ≤ w.heap.size) :
    Calls Tryd.prog 7 #[.string s] w fun e w' => ∃ v, e = .returned (.agg #[.bool E.1, .int .i64 (resAt E), v]) ∧ w'.ownsRow w.heap.size 30 6 v (resTs E).length (cTks (resTs E)) ∧ Below w.heap.size w w' := by
  have hz : ∀ w : World, (zeroValue 27).run Tryd.prog w = .ok (.agg #[.bool false, .int .i64 0, .slice none 0 0]) w := fun w => by kernel_rfl
  obtain ⟨tt, fr, hG⟩ := hL.tabs.word
  have hGn : ∀ o, (w.alloc o).heap[0]? = some (.cells wordV tt fr) := fun o => (Below.heap_alloc w _ _ (lt_of_block hG)).trans hG
  have HE : Rel s E [] 0 1 (s.size + 1) := ⟨by omega, by omega, by omega, by omega, by simp, by rw [hE]; rfl⟩
  clear hE
  refine callsIn_wide (n := 5).1 ?_
  refine callsIn_of_wp_marks Tryd.func7 rfl trivial ?_ rfl
  simp only [Tryd.ntmps7, List.size_toArray, List.length_cons, List.length_nil, Nat.reduceAdd, Nat.reduceSub, Array.replicate_succ, Array.replicate_zero, List.push_toArray, List.append_toArray, List.nil_append, List.cons_append]
  gi_wp2_with fail
  refine ⟨trivial, (callsIn_wide.2 (wordKinds_any (H := Unit) _ fr tt (hGn _))).mono ?_⟩
  rintro e w1 ⟨rfl, hmap, hb1⟩
  gi_wp2_with fail
  have hw1 : w.heap.size + 1 ≤ w1.heap.size := by have := hb1.size; simpa using this
  have hres1 : w1.heap[w.heap.size]? = some (.cells #[.bool false, .int .i64 0, .slice none 0 0] 27 (0, 0)) := (hb1.block _ (by simp)).trans (heap_alloc_new w _)
  have hbw1 : Below w.heap.size w w1 := ((Below.refl _ w).alloc (Nat.le_refl _) _).trans (hb1.mono (by simp))
  have hmapl := hmap.lt
  rw [World.size_alloc] at hmap hmapl
  have hS0 : ScE w1.heap.size ((w1.alloc (.cells #[.string s, .map (some (w.heap.size + 1)), .int .i64 0, .int .i64 0, .int .i64 1, .bool false] 46)).alloc (.cells #[.slice none 0 0] 25)) s (.map (some (w.heap.size + 1))) 0 1 false :=
    ⟨0, (Below.heap_alloc _ _ _ (by simp)).trans (heap_alloc_new w1 _)⟩
  have hM0 := (hmap.alloc (.cells #[.string s, .map (some (w.heap.size + 1)), .int .i64 0, .int .i64 0, .int .i64 1, .bool false] 46)).alloc (.cells #[.slice none 0 0] 25)
  have hH0 : Held w (w1.heap.size + 1) (w1.heap.size + 2) 0 [] ((w1.alloc (.cells #[.string s, .map (some (w.heap.size + 1)), .int .i64 0, .int .i64 0, .int .i64 1, .bool false] 46)).alloc (.cells #[.slice none 0 0] 25)) := by
    refine ⟨((Below.heap_alloc _ _ _ (by simp; omega)).trans (Below.heap_alloc _ _ _ (by omega))).trans hres1, (hbw1.alloc (by omega) _).alloc (by simp; omega) _, by simp, .slice none 0 0, ?_, World.ownsRow_nil _ _ _ _⟩
    have := heap_alloc_new (w1.alloc (.cells #[.string s, .map (some (w.heap.size + 1)), .int .i64 0, .int .i64 0, .int .i64 1, .bool false] 46)) (.cells #[.slice none 0 0] 25)
    rw [World.size_alloc] at this
    exact this
  have hW0s : ((w1.alloc (.cells #[.string s, .map (some (w.heap.size + 1)), .int .i64 0, .int .i64 0, .int .i64 1, .bool false] 46)).alloc (.cells #[.slice none 0 0] 25)).heap.size = w1.heap.size + 2 := by simp
  obtain ⟨W0, hW0⟩ : ∃ W0, (w1.alloc (.cells #[.string s, .map (some (w.heap.size + 1)), .int .i64 0, .int .i64 0, .int .i64 1, .bool false] 46)).alloc (.cells #[.slice none 0 0] 25) = W0 := ⟨_, rfl⟩
  rw [hW0] at hS0 hH0 hW0s hM0 ⊢
  have hL0 : Lay W0 := hL.below hH0.below (Nat.le_refl _)
  clear hW0 hres1 hz hGn hG hmap hb1 hbw1
  obtain ⟨T, hTd⟩ : ∃ T : List Tk → World → Prop, T = fun pre W => Held w (w1.heap.size + 1) (w1.heap.size + 2) pre.length (cTks pre) W := ⟨_, rfl⟩
  have hTg : ∀ k W W', T k W → W.grownBy W' (some w1.heap.size) → T k W' := by
    intro k W W' h hg
    rw [hTd] at h ⊢
    exact Held.grown h hg (by omega) (by omega) (by omega)
  have hI0 : Iv w1.heap.size (w.heap.size + 1) W0.heap.size s T [] W0 0 1 := ⟨hS0, hM0, hL0, by rw [hTd]; exact hH0, Nat.le_refl _⟩
  have hpI : ∀ {pre : List Tk} {W : World} {p : Nat} {ln : Int} {r : Loop} (o : Obj), Iv w1.heap.size (w.heap.size + 1) W0.heap.size s T pre W p ln → W.heap[W0.heap.size + 1]? = some (.loop r) → Iv w1.heap.size (w.heap.size + 1) W0.heap.size s T pre (W.putObj (W0.heap.size + 1) o) p ln := by
    intro pre W p ln r o h hl
    refine h.put hl ?_ (by omega) (by omega) (by omega)
    have ht := h.tt
    rw [hTd] at ht ⊢
    exact ht.putObj hl o (by omega) (by omega) (by omega)
  refine rangeState (P := Tryd.prog) (α := Tk) (n := 5) (gf := 17) (bd := #[.pointer (some ⟨w1.heap.size, 0, none⟩)]) rfl (enters_of Tryd.func17 (by kernel_rfl) rfl) (fun x => #[vTk x]) (fun _ => rfl)
    (fun pre x W => ∃ ln f, Iv w1.heap.size (w.heap.size + 1) W0.heap.size s T pre W (lastT (pre ++ [x])) ln ∧ Rel s E (pre ++ [x]) (lastT (pre ++ [x])) ln f)
    (fun pre W => ∃ ln f, Iv w1.heap.size (w.heap.size + 1) W0.heap.size s T pre W (lastT pre) ln ∧ Rel s E pre (lastT pre) ln f)
    (fun pre x a' W => (∃ ln f, Iv w1.heap.size (w.heap.size + 1) W0.heap.size s T pre W (lastT (pre ++ [x])) ln ∧ Rel s E (pre ++ [x]) (lastT (pre ++ [x])) ln f) ∧ ∃ Bx, TkAt Bx W x.k x.f x.t x.l x.n x.x ∧
      a' = { tmps := #[.string s, undef, .pointer (some ⟨w.heap.size, 0, none⟩), .pointer (some ⟨w1.heap.size, 0, none⟩), .pointer (some ⟨w1.heap.size + 1, 0, none⟩), .pointer (some ⟨Bx, 0, none⟩), .string s, .int .i64 (s.size : Int), .bool (decide ((65536 : Int) < (s.size : Int))), undef, .string s, .map (some (w.heap.size + 1)),
        .agg #[.string s, .map (some (w.heap.size + 1)), .int .i64 0, .int .i64 0, .int .i64 1, .bool false], .func (.func 17) #[.pointer (some ⟨w1.heap.size, 0, none⟩)] #[], vTk x, undef, undef, undef, undef, undef, undef, undef, undef, undef, undef, undef], defers := [] })
    (fun W => IEnd w1.heap.size (w.heap.size + 1) W0.heap.size s T E W)
    ?pZ ?pAx ?pD ?h0 ?assign ?body ?seq ?done
  case pZ =>
    rintro pre W r o ⟨ln, f, h1, h2⟩ hl
    exact ⟨ln, f, hpI o h1 hl, h2⟩
  case pAx =>
    rintro pre x a' W r o ⟨⟨ln, f, h1, h2⟩, Bx, h5, h6⟩ hl
    have hne : Bx ≠ W0.heap.size + 1 := by
      rintro rfl
      have := (show W.heap[W0.heap.size + 1]? = _ from h5).symm.trans hl
      simp at this
    exact ⟨⟨ln, f, hpI o h1 hl, h2⟩, Bx, (World.putObj_heap_other hne).trans h5, h6⟩
  case pD =>
    rintro W r o (⟨h1, p, l, h2⟩ | ⟨h1, pre, l, h2, h3⟩) hl
    · exact .inl ⟨h1, p, l, hpI o h2 hl⟩
    · refine .inr ⟨h1, pre, l, h2.heap (World.putObj_heap_other (by omega)), ?_⟩
      rw [hTd] at h3 ⊢
      exact h3.putObj hl o (by omega) (by omega) (by omega)
  case h0 =>
    intro W1 hb hs
    have hg : W0.grownBy W1 (some w1.heap.size) := ⟨hb.os, hb.tape, hb.output, hb.size, fun k hk _ => hb.block k hk⟩
    exact ⟨1, s.size + 1, hI0.gr hTg (by omega) (by omega) (by omega) hg (hS0.heap (hb.block _ (by omega))), HE⟩
  case assign =>
    rintro l pre x W K ⟨ln, f, h1, h2⟩ hK
    unfold vTk at hK ⊢
    have hc := h1.sc.lt
    gi_wp2
    exact hK _ _ ⟨⟨ln, f, h1.gr hTg (by omega) (by omega) (by omega) (World.grownBy_alloc W _ (some w1.heap.size)) (h1.sc.heap (Below.heap_alloc W _ _ hc)), h2⟩, W.heap.size, heap_alloc_new W _, rfl⟩ ((KeepsOthers.alloc W _).from _)
  case body =>
    rintro l pre x a' W ⟨⟨ln, f, h1, h2⟩, Bx, h5, rfl⟩
    have h4 : Held w (w1.heap.size + 1) (w1.heap.size + 2) pre.length (cTks pre) W := by have := h1.tt; rw [hTd] at this; exact this
    obtain ⟨v, hv, hr⟩ := h4.box
    obtain ⟨i0, hi, hz0, hz1, hz2⟩ := info_parts Tryd.info30
    obtain ⟨t0, t1, t2, t3, t4, t5, tf⟩ := tk_cells h5
    have hvc := hv.cell
    have hvf := hv.frozen
    have hsz := h4.size
    have hcn : pre.length + 1 ≤ 65536 := by have e1 := h2.cn; have e2 := h2.le; rw [List.length_append] at e1; simp at e1; omega
    have hmp := h1.mp
    have HT : Hid (T = fun pre W => Held w (w1.heap.size + 1) (w1.heap.size + 2) pre.length (cTks pre) W) := hTd
    have HWs : Hid (W0.heap.size = w1.heap.size + 2) := hW0s
    clear hTd hW0s
    obtain ⟨xk, xf, xt, xl, xn, xx⟩ := x
    unfold vTk
    simp only at t0 t1 t2 t3 t4 t5 ⊢
    gi_wp2_with (gi_at_builtin; refine wpListIn_append_own _ rfl _ _ 25 rfl (w1.heap.size + 2) 30 i0 _ 6 56 Tryd.underlying25 hi hz0 hz1 hz2 rfl (by decide) _ _ _ rfl (hr.alloc _) ⟨W.heap.size, 0, none⟩ 1 1 [.int .i64 xk, .int .i64 xf, .int .i64 xt, .int .i64 xl, .int .i64 xn, .string xx] rfl rfl (World.news_of_block (cs := #[.int .i64 xk, .int .i64 xf, .int .i64 xt, .int .i64 xl, .int .i64 xn, .string xx]) (fr := (0, 0)) (heap_alloc_new W _)) (by intro u hu; simp at hu; rcases hu with rfl | rfl | rfl | rfl | rfl | rfl <;> rfl) (by unfold maxLen; omega) (by omega) (by simp; omega) ?_; intro v' w2 hown' hgrow _; obtain ⟨g', cap', rfl⟩ := ownsRow_succ hown'; obtain ⟨hv1, hH2, hk2, ho2⟩ := h4.appended hv hr (by omega) (by omega) hown' hgrow; have hc1 := hv1.cell; have hf1 := hv1.frozen)
    refine ⟨by rw [HWs.out]; exact hk2, ln, ⟨h1.sc.heap (ho2 _ (by omega) (by omega)), ?_, h1.ly.blocks (fun k hk => ho2 k (by omega) (by omega)), ?_, by rw [HWs.out]; exact hH2.size⟩, f, h2⟩
    · refine ((hmp.alloc _).kept hgrow ?_).setCell (by simp; omega) _
      intro e
      have := (hr.lt _ e.symm).1
      omega
    · rw [HT.out]
      show Held w _ _ (pre ++ [_]).length (cTks (pre ++ [_])) _
      rw [List.length_append, cTks_app]; exact hH2
  case seq =>
    rintro l BK hBK hY W ⟨ln, f, h1, h2⟩ hbk hbel
    exact tokens_any 4 l w1.heap.size (w.heap.size + 1) W0.heap.size s (by omega) E (by omega) (by omega) (by omega) T hTg BK hBK hY W (lastT []) ln f h1 h2 hbk
  case done =>
    rintro W (⟨hE1, p, l, hI⟩ | ⟨hE1, pre, l, hS, hH⟩) hD
    · have hH := hI.tt
      rw [hTd] at hH
      have HWs : Hid (W0.heap.size = w1.heap.size + 2) := hW0s
      clear hW0s
      obtain ⟨v, hv, hr⟩ := hH.box
      obtain ⟨va, cap, rfl⟩ := own_shape hr
      obtain ⟨c0, c1, c2, c3, c4, f2, f3, f4⟩ := ScE.cells hI.sc
      have hvc := hv.cell
      have r0 : W.cell? ⟨w.heap.size, 0, none⟩ = some (.bool false) := by rw [cell_of_row _ _ _ _ _ _ hH.res]; rfl
      have r1 : W.cell? ⟨w.heap.size, 1, none⟩ = some (.int .i64 0) := by rw [cell_of_row _ _ _ _ _ _ hH.res]; rfl
      have r2 : W.cell? ⟨w.heap.size, 2, none⟩ = some (.slice none 0 0) := by rw [cell_of_row _ _ _ _ _ _ hH.res]; rfl
      have rf : ∀ j, W.frozen? ⟨w.heap.size, j, none⟩ = false := fun j => frozen_of_row _ _ _ _ _ hH.res
      obtain ⟨N, hN⟩ : ∃ N, E.2.2.length = N := ⟨_, rfl⟩
      rw [hN] at hr hv hvc
      have HN : Hid (E.2.2.length = N) := hN
      clear hN
      gi_wp2
      have q3 : (((W.setCell ⟨w.heap.size, 0, none⟩ (.bool true)).setCell ⟨w.heap.size, 1, none⟩ (.int .i64 0)).setCell ⟨w.heap.size, 2, none⟩ (.slice va N cap)).heap[w.heap.size]? = some (.cells #[.bool true, .int .i64 0, .slice va N cap] 27 (0, 0)) :=
        heap_setCell_same _ _ 2 _ _ _ (heap_setCell_same _ _ 1 _ _ _ (heap_setCell_same W _ 0 _ _ _ hH.res))
      have o3 : ∀ k, k ≠ w.heap.size → (((W.setCell ⟨w.heap.size, 0, none⟩ (.bool true)).setCell ⟨w.heap.size, 1, none⟩ (.int .i64 0)).setCell ⟨w.heap.size, 2, none⟩ (.slice va N cap)).heap[k]? = W.heap[k]? := fun k hk => by
        rw [heap_setCell_other _ _ _ _ (by simpa using hk), heap_setCell_other _ _ _ _ (by simpa using hk), heap_setCell_other _ _ _ _ (by simpa using hk)]
      have b3 : Below w.heap.size w (((W.setCell ⟨w.heap.size, 0, none⟩ (.bool true)).setCell ⟨w.heap.size, 1, none⟩ (.int .i64 0)).setCell ⟨w.heap.size, 2, none⟩ (.slice va N cap)) :=
        ((hH.below.setCell (p := ⟨w.heap.size, 0, none⟩) (Nat.le_refl _) _).setCell (p := ⟨w.heap.size, 1, none⟩) (Nat.le_refl _) _).setCell (p := ⟨w.heap.size, 2, none⟩) (Nat.le_refl _) _
      have w3 : (((W.setCell ⟨w.heap.size, 0, none⟩ (.bool true)).setCell ⟨w.heap.size, 1, none⟩ (.int .i64 0)).setCell ⟨w.heap.size, 2, none⟩ (.slice va N cap)).ownsRow (w1.heap.size + 2) 30 6 (.slice va N cap) N (cTks E.2.2) :=
        ownsRow_setCell_below (a := ⟨w.heap.size, 2, none⟩) (ownsRow_setCell_below (a := ⟨w.heap.size, 1, none⟩) (ownsRow_setCell_below (a := ⟨w.heap.size, 0, none⟩) hr (by simp; omega) _) (by simp; omega) _) (by simp; omega) _
      have hws := HWs.out
      have d3 := (o3 W0.heap.size (by omega)).trans hD
      generalize ((W.setCell ⟨w.heap.size, 0, none⟩ (.bool true)).setCell ⟨w.heap.size, 1, none⟩ (.int .i64 0)).setCell ⟨w.heap.size, 2, none⟩ (.slice va N cap) = X3 at q3 b3 w3 d3 ⊢
      refine ⟨by simp, .inl ⟨_, _, rfl, run_takeDeferred d3, ?_⟩⟩
      have q4 : (X3.putObj W0.heap.size (.deferred none)).heap[w.heap.size]? = _ := (World.putObj_heap_other (by omega)).trans q3
      refine ⟨_, results_cell_row rfl _ _ w.heap.size _ _ _ _ rfl q4 Tryd.underlying27 rfl (by kernel_rfl), _, by rw [resAt, if_pos hE1, hE1], ?_, ?_⟩
      · rw [resTs, if_pos hE1, HN.out]; exact own_base (ownsRow_putObj w3 (.deferred none) d3 rfl) (by omega)
      · exact b3.grown (grownBy_putObj' X3 W0.heap.size (.deferred none)) b3.size (fun k e => by cases e; omega)
    · rw [hTd] at hH
      obtain ⟨c0, c1, c2, c3, c4, f2, f3, f4⟩ := ScE.cells hS
      have r0 : W.cell? ⟨w.heap.size, 0, none⟩ = some (.bool false) := by rw [cell_of_row _ _ _ _ _ _ hH.res]; rfl
      have r1 : W.cell? ⟨w.heap.size, 1, none⟩ = some (.int .i64 0) := by rw [cell_of_row _ _ _ _ _ _ hH.res]; rfl
      have r2 : W.cell? ⟨w.heap.size, 2, none⟩ = some (.slice none 0 0) := by rw [cell_of_row _ _ _ _ _ _ hH.res]; rfl
      have rf : ∀ j, W.frozen? ⟨w.heap.size, j, none⟩ = false := fun j => frozen_of_row _ _ _ _ _ hH.res
      have hne : w1.heap.size ≠ w.heap.size := by omega
      have hE2 : ¬ E.1 = true := by rw [hE1]; simp
      obtain ⟨A, hA⟩ : ∃ A : Int, (E.2.1 : Int) = A := ⟨_, rfl⟩
      rw [hA] at c2 hS
      have HA : Hid ((E.2.1 : Int) = A) := hA
      clear hA
      have HWs : Hid (W0.heap.size = w1.heap.size + 2) := hW0s
      clear hW0s hE2
      gi_wp2
      have q3 : (((W.setCell ⟨w.heap.size, 0, none⟩ (.bool false)).setCell ⟨w.heap.size, 1, none⟩ (.int .i64 A)).setCell ⟨w.heap.size, 2, none⟩ (.slice none 0 0)).heap[w.heap.size]? = some (.cells #[.bool false, .int .i64 A, .slice none 0 0] 27 (0, 0)) :=
        heap_setCell_same _ _ 2 _ _ _ (heap_setCell_same _ _ 1 _ _ _ (heap_setCell_same W _ 0 _ _ _ hH.res))
      have o3 : ∀ k, k ≠ w.heap.size → (((W.setCell ⟨w.heap.size, 0, none⟩ (.bool false)).setCell ⟨w.heap.size, 1, none⟩ (.int .i64 A)).setCell ⟨w.heap.size, 2, none⟩ (.slice none 0 0)).heap[k]? = W.heap[k]? := fun k hk => by
        rw [heap_setCell_other _ _ _ _ (by simpa using hk), heap_setCell_other _ _ _ _ (by simpa using hk), heap_setCell_other _ _ _ _ (by simpa using hk)]
      have b3 : Below w.heap.size w (((W.setCell ⟨w.heap.size, 0, none⟩ (.bool false)).setCell ⟨w.heap.size, 1, none⟩ (.int .i64 A)).setCell ⟨w.heap.size, 2, none⟩ (.slice none 0 0)) :=
        ((hH.below.setCell (p := ⟨w.heap.size, 0, none⟩) (Nat.le_refl _) _).setCell (p := ⟨w.heap.size, 1, none⟩) (Nat.le_refl _) _).setCell (p := ⟨w.heap.size, 2, none⟩) (Nat.le_refl _) _
      have hws := HWs.out
      have d3 := (o3 W0.heap.size (by omega)).trans hD
      generalize ((W.setCell ⟨w.heap.size, 0, none⟩ (.bool false)).setCell ⟨w.heap.size, 1, none⟩ (.int .i64 A)).setCell ⟨w.heap.size, 2, none⟩ (.slice none 0 0) = X3 at q3 b3 d3 ⊢
      refine ⟨by simp, .inl ⟨_, _, rfl, run_takeDeferred d3, ?_⟩⟩
      have q4 : (X3.putObj W0.heap.size (.deferred none)).heap[w.heap.size]? = _ := (World.putObj_heap_other (by omega)).trans q3
      refine ⟨_, results_cell_row rfl _ _ w.heap.size _ _ _ _ rfl q4 Tryd.underlying27 rfl (by kernel_rfl), _, by rw [resAt, if_neg (by rw [hE1]; simp), HA.out, hE1], by rw [resTs, if_neg (by rw [hE1]; simp)]; exact World.ownsRow_nil _ _ _ _, ?_⟩
      exact b3.grown (grownBy_putObj' X3 W0.heap.size (.deferred none)) b3.size (fun k e => by cases e; omega)

/-- Scan, at every text. -/
theorem scan_any (s : ByteArray) (w : World) (hL : Lay w) (h9 : 9 ≤ w.heap.size) :
    Calls Tryd.prog 7 #[.string s] w fun e w' => ∃ v, e = .returned (.agg #[.bool (scR s).1, .int .i64 (resAt (scR s)), v]) ∧ w'.ownsRow w.heap.size 30 6 v (resTs (scR s)).length (cTks (resTs (scR s))) ∧ Below w.heap.size w w' := by
  unfold scR
  by_cases h : 65536 < s.size
  · rw [if_pos h]
    refine (scan_big s h w).mono ?_
    rintro e w' ⟨rfl, hb⟩
    exact ⟨_, rfl, World.ownsRow_nil _ _ _ _, hb⟩
  · rw [if_neg h]
    exact scan_small s (by omega) _ rfl w hL h9
end Go.Proofs.YtlmkmihbbnjngaaDoor
