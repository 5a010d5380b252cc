import Derived.Test.YtpllcogpohcbiaaDoorRTok
import Derived.RangeFuncBox
import Derived.Shelf.Abstract
namespace Go.Proofs.YtpllcogpohcbiaaDoor
open Go.RowKit
set_option linter.unusedVariables false

theorem Tryd.info30 : (Tryd.prog.info? 30).map (fun i => (i.zero, i.size, i.bytes)) = some (some (.agg #[.int .i64 0, .int .i64 0, .int .i64 0, .int .i64 0, .int .i64 0, .string ⟨#[]⟩]), 6, 56) := by kernel_rfl

/-- What Scan holds beside the scanner: its result's block, the list of tokens. -/
structure Held (w : World) (t B : Nat) (n : Nat) (xs : List Value) (W : World) : Prop where
  res : W.heap[w.heap.size]? = some (.cells #[.bool false, .int .i64 0, .slice none 0 0] 27 (0, 0))
  below : Below w.heap.size w W
  size : B ≤ W.heap.size
  box : ∃ v, Boxed W t 25 v ∧ W.ownsRow B 30 6 v n xs

theorem Held.grown {w W W' : World} {t B n b : Nat} {xs : List Value} (h : Held w t B n xs W) (hg : W.grownBy W' (some b)) (h1 : w.heap.size < b) (h2 : b ≠ t) (h3 : b < B) : Held w t B n xs W' := by
  obtain ⟨v, hv, hr⟩ := h.box
  refine ⟨(hg.block _ (lt_of_block h.res) (by simp; omega)).trans h.res, h.below.trans (gr_below hg (by omega) h.below.size), Nat.le_trans h.size hg.size, v, hv.kept hg (by simp; omega), hr.kept hg ?_⟩
  right; intro e; have := (hr.lt b e).1; omega

theorem Held.putObj {w W : World} {t B n l : Nat} {xs : List Value} {r : Loop} (h : Held w t B n xs W) (hl : W.heap[l]? = some (.loop r)) (o : Obj) (hlw : w.heap.size < l) (hlB : B ≤ l) (htB : t < B) : Held w t B n xs (W.putObj l o) := by
  obtain ⟨v, hv, hr⟩ := h.box
  have hg := grownBy_putObj' W l o
  refine ⟨(hg.block _ (lt_of_block h.res) (by simp; omega)).trans h.res, h.below.trans (gr_below hg (by omega) h.below.size), by simpa using h.size, v, hv.kept hg (by simp; omega), ownsRow_putObj hr o hl rfl⟩

/-- 'tokens = append(tokens, t)', behind the law. -/
theorem Held.appended {w W w1 : World} {t B n : Nat} {xs news : List Value} {v v' : Value} {tmp : Obj} (h : Held w t B n xs W) (hv : Boxed W t 25 v) (hr : W.ownsRow B 30 6 v n xs) (htw : w.heap.size < t) (htB : t < B)
    (hown : w1.ownsRow B 30 6 v' (n + 1) (xs ++ news)) (hg : (W.alloc tmp).grownBy w1 v.ownBlock) :
    Boxed w1 t 25 v ∧ Held w t B (n + 1) (xs ++ news) (w1.setCell ⟨t, 0, none⟩ v') ∧ KeepsFrom B W (w1.setCell ⟨t, 0, none⟩ v') ∧ (∀ k, k < B → k ≠ t → (w1.setCell ⟨t, 0, none⟩ v').heap[k]? = W.heap[k]?) := by
  have hne : ∀ k, k < B → some k ≠ v.ownBlock := fun k hk e => by have := (hr.lt k e.symm).1; omega
  have hsz := h.size
  have hold : ∀ k, k < B → w1.heap[k]? = W.heap[k]? := fun k hk => (hg.block k (by simp; omega) (hne k hk)).trans (Below.heap_alloc W _ k (by omega))
  have hv1 : Boxed w1 t 25 v := (hold t htB).trans hv
  have hsz1 : W.heap.size ≤ w1.heap.size := by have := hg.size; simp at this; omega
  refine ⟨hv1, ⟨?_, ?_, ?_, v', hv1.set v', ownsRow_setCell_below hown htB v'⟩, ?_, ?_⟩
  · rw [heap_setCell_other _ _ _ _ (by simp; omega), hold _ (by omega)]; exact h.res
  · refine h.below.trans ((((Below.refl w.heap.size W).alloc h.below.size tmp).grown hg (by have := h.below.size; simp; omega) (fun k e => by have := (hr.lt k e).1; omega)).setCell (p := ⟨t, 0, none⟩) (by simp; omega) v')
  · simp [World.setCell]; omega
  · refine ((KeepsOthers.alloc W tmp).trans (KeepsOthers.of_grownBy hg fun j o ej hj => ?_)).trans (KeepsOthers.setCell _ _ _) |>.from B
    rcases (hr.alloc tmp).2 with ⟨rfl, _⟩ | ⟨g, cap, cur, rfl, _, hgb, _⟩
    · simp [Value.ownBlock] at ej
    · obtain rfl : g = j := by simpa [Value.ownBlock] using ej
      rw [hgb] at hj; cases hj; rfl
  · intro k hk hkt
    rw [heap_setCell_other _ _ _ _ (by simpa using hkt)]
    exact hold k hk
end Go.Proofs.YtpllcogpohcbiaaDoor

namespace Go.Proofs.YtpllcogpohcbiaaDoor
open Go.RowKit Go.Shelf
set_option linter.unusedVariables false
attribute [local go_sem] Oper.semAt_some

theorem own_base {w : World} {base base' e size : Nat} {v : Value} {n : Nat} {xs : List Value} (h : w.ownsRow base e size v n xs) (hb : base' ≤ base) : w.ownsRow base' e size v n xs := by
  obtain ⟨h1, h2⟩ := h
  refine ⟨h1, ?_⟩
  rcases h2 with h2 | ⟨g, cap, cur, hv, hg, rest⟩
  · exact .inl h2
  · exact .inr ⟨g, cap, cur, hv, Nat.le_trans hb hg, rest⟩

set_option maxRecDepth 100000 in
set_option maxHeartbeats 3200000 in
theorem scan_one (s : ByteArray) (hm : s.size ≤ 65536) (c : List Int) (h34 : bat s 0 = 34) (hlen : 0 < s.size) (hrd : rdStr s (s.size + 1) 1 [] = (true, s.size, c)) (w : World) (fr : Nat × Nat) (tt : TypeId) (hG : w.heap[0]? = some (.cells wordV tt fr)) :
    Calls Tryd.prog 8 #[.string s] w fun e w' => ∃ g cap, e = .returned (.agg #[.bool true, .int .i64 0, .slice (some ⟨g, 0, none⟩) 1 cap]) ∧ w'.ownsRow w.heap.size 30 6 (.slice (some ⟨g, 0, none⟩) 1 cap) 1 [.int .i64 4, .int .i64 0, .int .i64 (s.size : Int), .int .i64 1, .int .i64 0, .string (strI c)] ∧ Below w.heap.size w w' := by
  have hz : ∀ w : World, (zeroValue 27).run Tryd.prog w = .ok (.agg #[.bool false, .int .i64 0, .slice none 0 0]) w := fun w => by kernel_rfl
  have hGn : ∀ o, (w.alloc o).heap[0]? = some (.cells wordV tt fr) := fun o => (Below.heap_alloc w _ _ (lt_of_block hG)).trans hG
  refine callsIn_wide (n := 5).1 ?_
  refine callsIn_of_wp_marks Tryd.func8 rfl trivial ?_ rfl
  simp only [Tryd.ntmps8, List.size_toArray, List.length_cons, List.length_nil, Nat.reduceAdd, Nat.reduceSub, Array.replicate_succ, Array.replicate_zero, List.push_toArray, List.append_toArray, List.nil_append, List.cons_append]
  gi_wp2_with fail
  refine ⟨trivial, (callsIn_wide.2 (wordKinds_any (H := Unit) _ fr tt (hGn _))).mono ?_⟩
  rintro e w1 ⟨rfl, hmap, hb1⟩
  clear hmap
  gi_wp2_with fail
  have hw1 : w.heap.size + 1 ≤ w1.heap.size := by have := hb1.size; simpa using this
  have hres1 : w1.heap[w.heap.size]? = some (.cells #[.bool false, .int .i64 0, .slice none 0 0] 27 (0, 0)) := (hb1.block _ (by simp)).trans (heap_alloc_new w _)
  have hbw1 : Below w.heap.size w w1 := ((Below.refl _ w).alloc (Nat.le_refl _) _).trans (hb1.mono (by simp))
  obtain ⟨m, hmv⟩ : ∃ m, Value.map (some (w.heap.size + 1)) = m := ⟨_, rfl⟩
  rw [hmv]
  have hS0 : ScAt w1.heap.size ((w1.alloc (.cells #[.string s, m, .int .i64 0, .int .i64 1, .bool false] 51)).alloc (.cells #[.slice none 0 0] 25)) s m 0 1 false :=
    (Below.heap_alloc _ _ _ (by simp)).trans (heap_alloc_new w1 _)
  have hH0 : Held w (w1.heap.size + 1) (w1.heap.size + 2) 0 [] ((w1.alloc (.cells #[.string s, m, .int .i64 0, .int .i64 1, .bool false] 51)).alloc (.cells #[.slice none 0 0] 25)) := by
    refine ⟨((Below.heap_alloc _ _ _ (by simp; omega)).trans (Below.heap_alloc _ _ _ (by omega))).trans hres1, (hbw1.alloc (by omega) _).alloc (by simp; omega) _, by simp, .slice none 0 0, ?_, World.ownsRow_nil _ _ _ _⟩
    have := heap_alloc_new (w1.alloc (.cells #[.string s, m, .int .i64 0, .int .i64 1, .bool false] 51)) (.cells #[.slice none 0 0] 25)
    rw [World.size_alloc] at this
    exact this
  have hW0s : ((w1.alloc (.cells #[.string s, m, .int .i64 0, .int .i64 1, .bool false] 51)).alloc (.cells #[.slice none 0 0] 25)).heap.size = w1.heap.size + 2 := by simp
  obtain ⟨W0, hW0⟩ : ∃ W0, (w1.alloc (.cells #[.string s, m, .int .i64 0, .int .i64 1, .bool false] 51)).alloc (.cells #[.slice none 0 0] 25) = W0 := ⟨_, rfl⟩
  rw [hW0] at hS0 hH0 hW0s ⊢
  clear hW0 hres1 hz hGn hG
  obtain ⟨X, hX⟩ : ∃ X : Value, X = .agg #[.int .i64 4, .int .i64 0, .int .i64 (s.size : Int), .int .i64 1, .int .i64 0, .string (strI c)] := ⟨_, rfl⟩
  obtain ⟨xs, hxs⟩ : ∃ xs : List Value, xs = [.int .i64 4, .int .i64 0, .int .i64 (s.size : Int), .int .i64 1, .int .i64 0, .string (strI c)] := ⟨_, rfl⟩
  refine rangeState (P := Tryd.prog) (α := Value) (n := 5) (gf := 22) (bd := #[.pointer (some ⟨w1.heap.size, 0, none⟩)]) rfl (enters_of Tryd.func22 (by kernel_rfl) rfl) (fun x => #[x]) (fun _ => rfl)
    (fun pre x W => x = X ∧ pre = [] ∧ ScAt w1.heap.size W s m s.size 1 false ∧ Held w (w1.heap.size + 1) (w1.heap.size + 2) 0 [] W)
    (fun pre W => (pre = [] ∧ ScAt w1.heap.size W s m 0 1 false ∧ Held w (w1.heap.size + 1) (w1.heap.size + 2) 0 [] W) ∨ (pre = [X] ∧ ScAt w1.heap.size W s m s.size 1 false ∧ Held w (w1.heap.size + 1) (w1.heap.size + 2) 1 xs W))
    (fun pre x a' W => x = X ∧ pre = [] ∧ ScAt w1.heap.size W s m s.size 1 false ∧ Held w (w1.heap.size + 1) (w1.heap.size + 2) 0 [] W ∧ ∃ Bx, TkAt Bx W 4 0 s.size 1 0 (strI c) ∧
      a' = { tmps := #[.string s, undef, .pointer (some ⟨w.heap.size, 0, none⟩), .pointer (some ⟨w1.heap.size, 0, none⟩), .pointer (some ⟨w1.heap.size + 1, 0, none⟩), .pointer (some ⟨Bx, 0, none⟩), .string s, .int .i64 (s.size : Int), .bool (decide ((65536 : Int) < (s.size : Int))), undef, .string s, m,
        .agg #[.string s, m, .int .i64 0, .int .i64 1, .bool false], .func (.func 22) #[.pointer (some ⟨w1.heap.size, 0, none⟩)] #[], X, undef, undef, undef, undef, undef, undef, undef, undef, undef, undef, undef], defers := [] })
    (fun W => ScAt w1.heap.size W s m s.size 1 false ∧ Held w (w1.heap.size + 1) (w1.heap.size + 2) 1 xs W)
    ?pZ ?pAx ?pD ?h0 ?assign ?body ?seq ?done
  case pZ =>
    rw [hW0s]
    rintro pre W r o (⟨h1, h2, h3⟩ | ⟨h1, h2, h3⟩) hl
    · exact .inl ⟨h1, (World.putObj_heap_other (by omega)).trans h2, h3.putObj hl o (by omega) (by omega) (by omega)⟩
    · exact .inr ⟨h1, (World.putObj_heap_other (by omega)).trans h2, h3.putObj hl o (by omega) (by omega) (by omega)⟩
  case pAx =>
    rw [hW0s]
    rintro pre x a' W r o ⟨h1, h2, h3, h4, Bx, h5, h6⟩ hl
    have hne : Bx ≠ w1.heap.size + 2 + 1 := by
      rintro rfl
      have := (show W.heap[w1.heap.size + 2 + 1]? = _ from h5).symm.trans hl
      simp at this
    exact ⟨h1, h2, (World.putObj_heap_other (by omega)).trans h3, h4.putObj hl o (by omega) (by omega) (by omega), Bx, (World.putObj_heap_other hne).trans h5, h6⟩
  case pD =>
    rw [hW0s]
    rintro W r o ⟨h2, h3⟩ hl
    exact ⟨(World.putObj_heap_other (by omega)).trans h2, h3.putObj hl o (by omega) (by omega) (by omega)⟩
  case h0 =>
    intro W1 hb hs
    refine .inl ⟨rfl, (hb.block _ (by omega)).trans hS0, ?_⟩
    obtain ⟨v, hv, hr⟩ := hH0.box
    refine ⟨(hb.block _ (by omega)).trans hH0.res, hH0.below.trans (hb.mono (by omega)), by omega, v, (hb.block _ (by omega)).trans hv, ?_⟩
    refine hr.kept ⟨hb.os, hb.tape, hb.output, hb.size, fun k hk _ => hb.block k hk⟩ (row := none) ?_
    cases hvo : v.ownBlock <;> simp
  case assign =>
    rintro l pre x W K ⟨rfl, rfl, h3, h4⟩ hK
    rw [hX] at hK ⊢
    gi_wp2
    exact hK _ _ ⟨(by first | trivial | rfl), (by first | trivial | rfl), (Below.heap_alloc W _ _ (lt_of_block h3)).trans h3, h4.grown (World.grownBy_alloc W _ (some w1.heap.size)) (by omega) (by omega) (by omega), W.heap.size, heap_alloc_new W _, rfl⟩ ((KeepsOthers.alloc W _).from _)
  case body =>
    rintro l pre x a' W ⟨rfl, rfl, h3, h4, Bx, h5, rfl⟩
    obtain ⟨v, hv, hr⟩ := h4.box
    obtain ⟨i0, hi, hz0, hz1, hz2⟩ := info_parts Tryd.info30
    obtain ⟨t0, t1, t2, t3, t4, t5, tf⟩ := tk_cells h5
    have hvc := hv.cell
    have hvf := hv.frozen
    have hsz := h4.size
    rw [hX]
    gi_wp2_with (gi_at_builtin; refine wpListIn_append_own _ rfl _ _ 25 rfl (w1.heap.size + 2) 30 i0 _ 6 56 Tryd.underlying25 hi hz0 hz1 hz2 rfl (by decide) _ _ _ rfl (hr.alloc _) ⟨W.heap.size, 0, none⟩ 1 1 xs rfl (by rw [hxs]; rfl) (by rw [hxs]; exact World.news_of_block (cs := #[.int .i64 4, .int .i64 0, .int .i64 (s.size : Int), .int .i64 1, .int .i64 0, .string (strI c)]) (fr := (0, 0)) (heap_alloc_new W _)) (by rw [hxs]; intro u hu; simp at hu; rcases hu with rfl | rfl | rfl | rfl | rfl | rfl <;> rfl) (by unfold maxLen; omega) (by omega) (by simp; omega) ?_; intro v' w2 hown' hgrow _; obtain ⟨g', cap', rfl⟩ := ownsRow_succ hown'; obtain ⟨hv1, hH2, hk2, ho2⟩ := h4.appended hv hr (by omega) (by omega) hown' hgrow; have hc1 := hv1.cell; have hf1 := hv1.frozen)
    refine ⟨by rw [hW0s]; exact hk2, .inr ⟨rfl, ?_, hH2⟩⟩
    exact (ho2 _ (by omega) (by omega)).trans h3
  case seq =>
    rintro l BK hBK hY W (⟨_, h2, h3⟩ | ⟨h1, _⟩) hbk hbel
    · refine (tokens_one 4 l w1.heap.size W0.heap.size s (by omega) m c h34 hlen hrd (by omega) (fun k W => cond k (Held w (w1.heap.size + 1) (w1.heap.size + 2) 1 xs W) (Held w (w1.heap.size + 1) (w1.heap.size + 2) 0 [] W)) ?_ BK hBK ?_ W h2 h3 hbk hbel.size).mono ?_
      · intro k W W' h hg
        cases k
        · exact Held.grown h hg (by omega) (by omega) (by omega)
        · exact Held.grown h hg (by omega) (by omega) (by omega)
      · intro W hS hH hB
        have hy := hY [] X W ⟨rfl, rfl, hS, hH⟩ hB
        rw [hX] at hy
        refine hy.mono ?_
        rintro e W' ⟨rfl, (⟨h1, _⟩ | ⟨_, h2, h3⟩), hB'⟩
        · simp at h1
        · exact ⟨rfl, ⟨h2, h3⟩, hB'⟩
      · rintro e W' ⟨hv, hD, hB⟩
        exact ⟨hv, hD, hB⟩
    · simp at h1
  case done =>
    rintro W ⟨hS, hH⟩ hD
    obtain ⟨v, hv, hr⟩ := hH.box
    obtain ⟨g, cap, rfl⟩ := ownsRow_succ hr
    obtain ⟨c0, c1, c2, c3, c4, f2, f3, f4⟩ := sc_cells hS
    have hvc := hv.cell
    have r0 : W.cell? ⟨w.heap.size, 0, none⟩ = some (.bool false) := by rw [cell_of_row _ _ _ _ _ _ hH.res]; rfl
    have r1 : W.cell? ⟨w.heap.size, 1, none⟩ = some (.int .i64 0) := by rw [cell_of_row _ _ _ _ _ _ hH.res]; rfl
    have r2 : W.cell? ⟨w.heap.size, 2, none⟩ = some (.slice none 0 0) := by rw [cell_of_row _ _ _ _ _ _ hH.res]; rfl
    have rf : ∀ j, W.frozen? ⟨w.heap.size, j, none⟩ = false := fun j => frozen_of_row _ _ _ _ _ hH.res
    gi_wp2
    have q3 : (((W.setCell ⟨w.heap.size, 0, none⟩ (.bool true)).setCell ⟨w.heap.size, 1, none⟩ (.int .i64 0)).setCell ⟨w.heap.size, 2, none⟩ (.slice (some ⟨g, 0, none⟩) 1 cap)).heap[w.heap.size]? = some (.cells #[.bool true, .int .i64 0, .slice (some ⟨g, 0, none⟩) 1 cap] 27 (0, 0)) :=
      heap_setCell_same _ _ 2 _ _ _ (heap_setCell_same _ _ 1 _ _ _ (heap_setCell_same W _ 0 _ _ _ hH.res))
    have o3 : ∀ k, k ≠ w.heap.size → (((W.setCell ⟨w.heap.size, 0, none⟩ (.bool true)).setCell ⟨w.heap.size, 1, none⟩ (.int .i64 0)).setCell ⟨w.heap.size, 2, none⟩ (.slice (some ⟨g, 0, none⟩) 1 cap)).heap[k]? = W.heap[k]? := fun k hk => by
      rw [heap_setCell_other _ _ _ _ (by simpa using hk), heap_setCell_other _ _ _ _ (by simpa using hk), heap_setCell_other _ _ _ _ (by simpa using hk)]
    have b3 : Below w.heap.size w (((W.setCell ⟨w.heap.size, 0, none⟩ (.bool true)).setCell ⟨w.heap.size, 1, none⟩ (.int .i64 0)).setCell ⟨w.heap.size, 2, none⟩ (.slice (some ⟨g, 0, none⟩) 1 cap)) :=
      ((hH.below.setCell (p := ⟨w.heap.size, 0, none⟩) (Nat.le_refl _) _).setCell (p := ⟨w.heap.size, 1, none⟩) (Nat.le_refl _) _).setCell (p := ⟨w.heap.size, 2, none⟩) (Nat.le_refl _) _
    have w3 : (((W.setCell ⟨w.heap.size, 0, none⟩ (.bool true)).setCell ⟨w.heap.size, 1, none⟩ (.int .i64 0)).setCell ⟨w.heap.size, 2, none⟩ (.slice (some ⟨g, 0, none⟩) 1 cap)).ownsRow (w1.heap.size + 2) 30 6 (.slice (some ⟨g, 0, none⟩) 1 cap) 1 xs :=
      ownsRow_setCell_below (a := ⟨w.heap.size, 2, none⟩) (ownsRow_setCell_below (a := ⟨w.heap.size, 1, none⟩) (ownsRow_setCell_below (a := ⟨w.heap.size, 0, none⟩) hr (by simp; omega) _) (by simp; omega) _) (by simp; omega) _
    have d3 := (o3 W0.heap.size (by omega)).trans hD
    generalize ((W.setCell ⟨w.heap.size, 0, none⟩ (.bool true)).setCell ⟨w.heap.size, 1, none⟩ (.int .i64 0)).setCell ⟨w.heap.size, 2, none⟩ (.slice (some ⟨g, 0, none⟩) 1 cap) = X3 at q3 b3 w3 d3 ⊢
    refine ⟨by simp, .inl ⟨_, _, rfl, run_takeDeferred d3, ?_⟩⟩
    have q4 : (X3.putObj W0.heap.size (.deferred none)).heap[w.heap.size]? = _ := (World.putObj_heap_other (by omega)).trans q3
    refine ⟨_, results_cell_row rfl _ _ w.heap.size _ _ _ _ rfl q4 Tryd.underlying27 rfl (by kernel_rfl), g, cap, rfl, ?_, ?_⟩
    · have w4 := ownsRow_putObj w3 (.deferred none) d3 rfl
      rw [hxs] at w4
      exact own_base w4 (by omega)
    · exact b3.grown (grownBy_putObj' X3 W0.heap.size (.deferred none)) b3.size (fun k e => by cases e; omega)
end Go.Proofs.YtpllcogpohcbiaaDoor
