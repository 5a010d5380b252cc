import Derived.Test.YtdlhfiheingibaaGreatDoorNN13
import Derived.Deep.LoopGhost
import Derived.WalkSmall
import Derived.Test.YtdlhfiheingibaaGreatDoorNN09
namespace Go.Proofs.YtdlhfiheingibaaGreatDoor
open Go.RowKit
set_option linter.unusedVariables false

theorem ite_len {p : Prop} [Decidable p] {a b : List Int × Bool} (ha : a.1.length ≤ 6) (hb : b.1.length ≤ 6) : (if p then a else b).1.length ≤ 6 := by split <;> assumption
theorem xStat_len (t : Int) : (xStat t).1.length ≤ 6 := by
  unfold xStat
  repeat' (first | (apply ite_len <;> skip) | exact Nat.le_of_ble_eq_true rfl)
set_option maxRecDepth 100000 in
set_option maxHeartbeats 3200000 in
theorem ex100_l3expand (w : World) (t : Int) : Calls Tryz.prog 36 #[.int .i64 100, .int .i64 t] w (RowPost w (x100 t)) := by
  unfold x100
  by_cases h5 : t = 5
  · subst h5
    show Calls _ _ _ _ (RowPost w ([5, 100], true))
    go_enter Tryz.func36, Tryz.ntmps36
    go_wp2_with (go_at_call 53; refine (l3row_any _ _).mono ?_; rintro e w' ⟨rfl, hw⟩; subst w')
    go_ret2
    exact row_lits w [5, 100] true (by simp)
  · rw [if_neg h5]
    have ks := fun w => l3stat_any w t
    have hlen := xStat_len t
    have b5 : (t == 5) = false := beq_eq_false_iff_ne.2 h5
    generalize xStat t = r at ks hlen ⊢
    obtain ⟨l, b⟩ := r
    simp only at hlen ⊢
    obtain ⟨n, hn⟩ : ∃ n, l.length = n := ⟨_, rfl⟩
    obtain ⟨j0, ji, jz0, jz1, jz2⟩ := info_parts infoInt
    cases b with
    | true =>
      rw [if_pos rfl]
      unfold RowPost at ks ⊢
      simp only at ks ⊢
      rw [List.length_append, List.map_append]
      rw [hn] at ks hlen ⊢
      clear hn
      go_enter Tryz.func36, Tryz.ntmps36
      go_wp2_with (first | (go_at_call 54; refine (ks _).mono ?_; rintro e w1 ⟨a, c, rfl, ho, hb⟩; have hsz := hb.size) | (at_builtin; refine wpList_append_own _ rfl _ _ 22 rfl w.heap.size 3 j0 _ 1 8 Tryz.underlying22 ji jz0 jz1 jz2 rfl (by decide) _ _ _ rfl (ho.alloc _) ⟨w1.heap.size, 0, none⟩ 1 1 [.int .i64 101] rfl rfl (World.news_of_block (cs := #[.int .i64 101]) (fr := (0, 0)) (heap_alloc_new w1 _)) (by intro u hu; simp at hu; subst hu; rfl) (by unfold maxLen; omega) (by omega) (by simp; omega) ?_; intro v' w5 ho5 hg5 hn5; obtain ⟨g', cap', rfl⟩ := ownsRow_succ ho5))
      go_ret2
      exact ⟨_, _, rfl, ho5, (hb.alloc hsz _).grown hg5 (by simp; omega) (fun g hg => (ho.lt g hg).1)⟩
    | false =>
      rw [if_neg (by decide)]
      unfold RowPost at ks
      simp only at ks
      rw [hn] at ks
      clear hn
      go_enter Tryz.func36, Tryz.ntmps36
      go_wp2_with (go_at_call 54; refine (ks _).mono ?_; rintro e w1 ⟨a, c, rfl, ho, hb⟩)
      go_ret2
      exact row_later hb (row_nil _ true)
theorem l3expand_any (w : World) (s t : Int) (h0 : 100 ≤ s) (h1 : s ≤ 133) : Calls Tryz.prog 36 #[.int .i64 s, .int .i64 t] w (RowPost w (xE s t)) := by
  have h : s = 100 ∨ s = 101 ∨ s = 102 ∨ s = 103 ∨ s = 104 ∨ s = 105 ∨ s = 106 ∨ s = 107 ∨ s = 108 ∨ s = 109 ∨ s = 110 ∨ s = 111 ∨ s = 112 ∨ s = 113 ∨ s = 114 ∨ s = 115 ∨ s = 116 ∨ s = 117 ∨ s = 118 ∨ s = 119 ∨ s = 120 ∨ s = 121 ∨ s = 122 ∨ s = 123 ∨ s = 124 ∨ s = 125 ∨ s = 126 ∨ s = 127 ∨ s = 128 ∨ s = 129 ∨ s = 130 ∨ s = 131 ∨ s = 132 ∨ s = 133 := by omega
  rcases h with rfl | rfl | rfl | rfl | rfl | rfl | rfl | rfl | rfl | rfl | rfl | rfl | rfl | rfl | rfl | rfl | rfl | rfl | rfl | rfl | rfl | rfl | rfl | rfl | rfl | rfl | rfl | rfl | rfl | rfl | rfl | rfl | rfl | rfl
  · exact ex100_l3expand w t
  · exact ex101_l3expand w t
  · exact ex102_l3expand w t
  · exact ex103_l3expand w t
  · exact ex104_l3expand w t
  · exact ex105_l3expand w t
  · exact ex106_l3expand w t
  · exact ex107_l3expand w t
  · exact ex108_l3expand w t
  · exact ex109_l3expand w t
  · exact ex110_l3expand w t
  · exact ex111_l3expand w t
  · exact ex112_l3expand w t
  · exact ex113_l3expand w t
  · exact ex114_l3expand w t
  · exact ex115_l3expand w t
  · exact ex116_l3expand w t
  · exact ex117_l3expand w t
  · exact ex118_l3expand w t
  · exact ex119_l3expand w t
  · exact ex120_l3expand w t
  · exact ex121_l3expand w t
  · exact ex122_l3expand w t
  · exact ex123_l3expand w t
  · exact ex124_l3expand w t
  · exact ex125_l3expand w t
  · exact ex126_l3expand w t
  · exact ex127_l3expand w t
  · exact ex128_l3expand w t
  · exact ex129_l3expand w t
  · exact ex130_l3expand w t
  · exact ex131_l3expand w t
  · exact ex132_l3expand w t
  · exact ex133_l3expand w t
end Go.Proofs.YtdlhfiheingibaaGreatDoor

namespace Go.Proofs.YtdlhfiheingibaaGreatDoor
open Go.RowKit
set_option linter.unusedVariables false

theorem infoCell : (Tryz.prog.info? 75).map (fun i => (i.zero, i.size, i.bytes)) = some (some (.agg #[.int .i64 0, .int .i64 0]), 2, 16) := by kernel_rfl
/-- The cells of all stacks. -/
def cCl (C : List (Int × Int)) : List Value := C.flatMap fun c => [.int .i64 c.1, .int .i64 c.2]
theorem cCl_len (C : List (Int × Int)) : (cCl C).length = C.length * 2 := by
  induction C with
  | nil => rfl
  | cons a r ih => simp only [cCl, List.flatMap_cons, List.length_append, List.length_cons, List.length_nil] at ih ⊢; omega
theorem cCl_app (C D : List (Int × Int)) : cCl (C ++ D) = cCl C ++ cCl D := by simp [cCl]
theorem cCl_at : ∀ (C : List (Int × Int)) (i : Nat) (c : Int × Int), C[i]? = some c → (cCl C)[i * 2]? = some (.int .i64 c.1) ∧ (cCl C)[i * 2 + 1]? = some (.int .i64 c.2)
  | [], i, c, h => by simp at h
  | a :: r, 0, c, h => by
    obtain rfl : a = c := by simpa using h
    exact ⟨rfl, rfl⟩
  | a :: r, i + 1, c, h => by
    have ih := cCl_at r i c (by simpa using h)
    have e : ∀ k, (cCl (a :: r))[k + 2]? = (cCl r)[k]? := fun k => rfl
    rw [show (i + 1) * 2 = i * 2 + 2 by omega, show i * 2 + 2 + 1 = (i * 2 + 1) + 2 by omega, e, e]
    exact ih
/-- The machine in memory: its box, its cells. -/
structure MAt (W : World) (base mb : Nat) (C : List (Int × Int)) : Prop where
  ex : ∃ v, W.heap[mb]? = some (.cells #[v] 30 (0, 0)) ∧ W.ownsRow base 75 2 v C.length (cCl C)
  lo : base ≤ mb
/-- All but the machine is as it was. -/
structure Kp (mb : Nat) (w w' : World) : Prop where
  os : w'.os = w.os
  tape : w'.tape = w.tape
  output : w'.output = w.output
  size : w.heap.size ≤ w'.heap.size
  block : ∀ k, k < w.heap.size → k ≠ mb → (∀ cs fr, w.heap[k]? ≠ some (.cells cs 75 fr)) → w'.heap[k]? = w.heap[k]?
theorem Kp.refl (mb : Nat) (w : World) : Kp mb w w := ⟨rfl, rfl, rfl, Nat.le_refl _, fun _ _ _ _ => rfl⟩
theorem Kp.trans {mb : Nat} {x y z : World} (h : Kp mb x y) (k : Kp mb y z) : Kp mb x z :=
  ⟨k.os.trans h.os, k.tape.trans h.tape, k.output.trans h.output, Nat.le_trans h.size k.size, fun i hi hne hc =>
    (k.block i (Nat.lt_of_lt_of_le hi h.size) hne (fun cs fr => by rw [h.block i hi hne hc]; exact hc cs fr)).trans (h.block i hi hne hc)⟩
theorem Kp.of_below {mb : Nat} {w w' : World} (h : Below w.heap.size w w') : Kp mb w w' := ⟨h.os, h.tape, h.output, h.size, fun k hk _ _ => h.block k hk⟩
theorem Kp.blk {mb : Nat} {w w' : World} (h : Kp mb w w') {k : Nat} {cs : Array Value} {t : TypeId} {fr : Nat × Nat} (hk : w.heap[k]? = some (.cells cs t fr)) (ht : t ≠ 75) (hm : k ≠ mb) : w'.heap[k]? = some (.cells cs t fr) :=
  (h.block k (lt_of_block hk) hm (fun cs2 fr2 e => by rw [hk] at e; cases e; exact ht rfl)).trans hk
theorem Kp.row {mb : Nat} {w w' : World} (h : Kp mb w w') {v0 : Value} {fr0 : Nat × Nat} (hb : w.heap[mb]? = some (.cells #[v0] 30 fr0)) {base e size n : Nat} {v : Value} {xs : List Value} (o : w.ownsRow base e size v n xs) (he : e ≠ 75) (he2 : e ≠ 30) : w'.ownsRow base e size v n xs := by
  obtain ⟨h1, h2⟩ := o
  refine ⟨h1, ?_⟩
  rcases h2 with h2 | ⟨g, cap, cur, hv, hg, hc, rest⟩
  · exact .inl h2
  · refine .inr ⟨g, cap, cur, hv, hg, h.blk hc he ?_, rest⟩
    rintro rfl
    rw [hb] at hc
    simp only [Option.some.injEq, Obj.cells.injEq] at hc
    exact he2 hc.2.1.symm
theorem MAt.below {W W' : World} {base mb : Nat} {C : List (Int × Int)} (h : MAt W base mb C) (hb : Below W.heap.size W W') : MAt W' base mb C := by
  obtain ⟨v, h1, h2⟩ := h.ex
  exact ⟨⟨v, (hb.block _ (lt_of_block h1)).trans h1, own_keep h2 hb⟩, h.lo⟩
theorem MAt.alloc {W : World} {base mb : Nat} {C : List (Int × Int)} (h : MAt W base mb C) (o : Obj) : MAt (W.alloc o) base mb C := h.below (bel1 W o)
/-- A stack: the place of its uppermost cell. -/
def StkOf (C : List (Int × Int)) : Int → List Int → Prop
  | top, [] => top = -1
  | top, s :: r => ∃ (i : Nat) (b : Int), top = (i : Int) ∧ C[i]? = some (s, b) ∧ StkOf C b r
theorem StkOf.app {C : List (Int × Int)} (D : List (Int × Int)) : ∀ {st : List Int} {top : Int}, StkOf C top st → StkOf (C ++ D) top st
  | [], top, h => h
  | s :: r, top, ⟨i, b, h1, h2, h3⟩ => ⟨i, b, h1, by rw [List.getElem?_append_left (List.getElem?_eq_some_iff.1 h2).1]; exact h2, h3.app D⟩
theorem StkOf.push {C : List (Int × Int)} {st : List Int} {top : Int} (h : StkOf C top st) (s : Int) : StkOf (C ++ [(s, top)]) (C.length : Int) (s :: st) :=
  ⟨C.length, top, rfl, by rw [List.getElem?_append_right (Nat.le_refl _), Nat.sub_self]; rfl, h.app _⟩
theorem StkOf.lt {C : List (Int × Int)} : ∀ {st : List Int} {top : Int}, StkOf C top st → -1 ≤ top ∧ top < (C.length : Int)
  | [], top, h => by obtain rfl : top = -1 := h; omega
  | s :: r, top, ⟨i, b, h1, h2, h3⟩ => by have := (List.getElem?_eq_some_iff.1 h2).1; omega

set_option maxRecDepth 100000 in
set_option maxHeartbeats 3200000 in
theorem push_any (w : World) (base mb : Nat) (C : List (Int × Int)) (top sym : Int) (h : MAt w base mb C) (hl : C.length ≤ 100000000) :
    Calls Tryz.prog 27 #[.pointer (some ⟨mb, 0, none⟩), .int .i64 top, .int .i64 sym] w fun e w' => e = .returned (.int .i64 (C.length : Nat)) ∧ MAt w' base mb (C ++ [(sym, top)]) ∧ Kp mb w w' ∧ Below base w w' := by
  obtain ⟨v, hb, ho⟩ := h.ex
  have hlo := h.lo
  obtain ⟨n, hn⟩ : ∃ n, C.length = n := ⟨_, rfl⟩
  rw [hn] at ho hl ⊢
  obtain ⟨a, c, rfl⟩ := own_form ho
  obtain ⟨j0, ji, jz0, jz1, jz2⟩ := info_parts infoCell
  have hmw := lt_of_block hb
  have hmne : mb ≠ w.heap.size := by omega
  have c0 : w.cell? ⟨mb, 0, none⟩ = some (.slice a n c) := by rw [cell_of_row _ _ _ _ _ _ hb]; rfl
  have hnb : ∀ g, (Value.slice a n c).ownBlock = some g → g ≠ mb ∧ base ≤ g := fun g hg => by
    refine ⟨?_, (ho.lt g hg).1⟩
    rintro rfl
    rcases ho.2 with ⟨h1, _⟩ | ⟨g2, cap2, cur, h1, _, h3, _⟩
    · rw [h1] at hg; simp [Value.ownBlock] at hg
    · rw [h1] at hg
      obtain rfl : g2 = g := by simpa [Value.ownBlock] using hg
      rw [h3] at hb
      cases hb
  have HO : Hid (w.ownsRow base 75 2 (.slice a n c) n (cCl C) ∧ w.heap[mb]? = some (.cells #[.slice a n c] 30 (0, 0)) ∧ C.length = n) := ⟨ho, hb, hn⟩
  clear ho hb hn h
  go_enter Tryz.func27, Tryz.ntmps27
  go_wp2_with (at_builtin; refine wpList_append_own _ rfl _ _ 28 rfl base 75 j0 _ 2 16 Tryz.underlying28 ji jz0 jz1 jz2 rfl (by decide) _ _ _ rfl (HO.out.1.alloc _) ⟨w.heap.size, 0, none⟩ 1 1 [.int .i64 sym, .int .i64 top] rfl rfl (World.news_of_block (cs := #[.int .i64 sym, .int .i64 top]) (fr := (0, 0)) (heap_alloc_new w _)) (by intro u hu; simp at hu; rcases hu with rfl | rfl <;> rfl) (by unfold maxLen; omega) (by omega) (by simp; omega) ?_; intro v' w5 ho5 hg5 hn5; obtain ⟨g', cap', rfl⟩ := ownsRow_succ ho5; have hb5 : w5.heap[mb]? = some (.cells #[.slice a n c] 30 (0, 0)) := (hg5.block mb (by simp; omega) (fun e => (hnb mb e.symm).1 rfl)).trans ((Below.heap_alloc _ _ _ hmw).trans HO.out.2.1); have z5 : w5.cell? ⟨mb, 0, none⟩ = some (.slice a n c) := (by rw [cell_of_row _ _ _ _ _ _ hb5]; rfl); have f5 : w5.frozen? ⟨mb, 0, none⟩ = false := frozen_of_row _ _ _ _ _ hb5)
  go_ret
  have hw5 := hg5.size
  rw [World.size_alloc] at hw5
  refine ⟨by go_num, ⟨⟨.slice (some ⟨g', 0, none⟩) (n + 1) cap', heap_setCell_same _ mb 0 _ _ _ hb5, ?_⟩, hlo⟩, ?_, ?_⟩
  · rw [List.length_append, HO.out.2.2, cCl_app]
    refine ho5.kept (row := some mb) ⟨rfl, rfl, rfl, by simp [World.setCell], fun k hk hne => heap_setCell_other _ _ _ _ (fun e => hne (by rw [e]))⟩ ?_
    refine .inr ?_
    intro e
    obtain rfl : g' = mb := by simpa [Value.ownBlock] using e
    rcases ho5.2 with ⟨h1, _⟩ | ⟨g2, cap2, cur, h1, _, h3, _⟩
    · cases h1
    · cases h1; rw [hb5] at h3; cases h3
  · refine ⟨hg5.os, hg5.tape, hg5.output, by simp [World.setCell]; omega, fun k hk hne hc => ?_⟩
    rw [heap_setCell_other _ _ _ _ hne]
    refine (hg5.block k (by simp; omega) (fun e => ?_)).trans (Below.heap_alloc _ _ _ hk)
    have e2 : (Value.slice a n c).ownBlock = some k := e.symm
    rcases HO.out.1.2 with ⟨h1, _⟩ | ⟨g2, cap2, cur, h1, _, h3, _⟩
    · rw [h1] at e2; simp [Value.ownBlock] at e2
    · rw [h1] at e2
      obtain rfl : g2 = k := by simpa [Value.ownBlock] using e2
      exact hc _ _ h3
  · have hbw : base ≤ w.heap.size := by omega
    have b1 : Below base w (w.alloc (.cells #[.int .i64 sym, .int .i64 top] 75)) := (Below.refl _ w).alloc hbw _
    exact (b1.grown hg5 (by simp; omega) (fun k hk => (hnb k hk).2)).setCell hlo _
end Go.Proofs.YtdlhfiheingibaaGreatDoor

namespace Go.Proofs.YtdlhfiheingibaaGreatDoor
open Go.RowKit
set_option linter.unusedVariables false

theorem runS_mono : ∀ {f : Nat} {st : List Int} {t : Int} {n : Nat} {lo : List Int} {b : Option Bool} {m : Nat}, runS f st t n = some (lo, b, m) → n ≤ m
  | 0, _, _, _, _, _, _, h => by simp [runS] at h
  | f + 1, [], t, n, lo, b, m, h => by
    simp only [runS, Option.some.injEq, Prod.mk.injEq] at h
    omega
  | f + 1, s :: r, t, n, lo, b, m, h => by
    by_cases h0 : s < 100
    · have := (runS_tok h h0).2.2; omega
    · rcases runS_cons h (by omega) with ⟨_, h2⟩ | ⟨_, _, _, h2⟩
      · have := runS_mono h2; omega
      · omega
/-- Between two rounds of feed. -/
structure FdSt (w : World) (base mb : Nat) (C : List (Int × Int)) (t : Int) (Res : List Int × Bool) (k : Nat) (stk : List Int) (top : Int) (D : List (Int × Int)) (W : World) : Prop where
  m : MAt W base mb (C ++ D)
  s : StkOf (C ++ D) top stk
  o : OkS stk
  kp : Kp mb w W
  bl : Below base w W
  d : D.length ≤ 20
  ph : (D = [] ∧ feedL stk t = Res ∧ stk.length + 9 ≤ k) ∨ ∃ cur r f lo b m, stk = cur ++ r ∧ runS f cur t D.length = some (lo, some b, m) ∧ (lo ++ r, b) = Res ∧ m ≤ 20 ∧ f ≤ k
theorem FdSt.nil {w : World} {base mb : Nat} {C : List (Int × Int)} {t : Int} {Res : List Int × Bool} {k : Nat} {top : Int} {D : List (Int × Int)} {W : World} (h : FdSt w base mb C t Res k [] top D W) : Res = ([], false) := by
  rcases h.ph with ⟨_, e, _⟩ | ⟨cur, r, f, lo, b, m, e1, e2, _⟩
  · rw [← e]; rfl
  · have hc : cur = [] := (List.append_eq_nil_iff.1 e1.symm).1
    subst hc
    cases f with
    | zero => simp [runS] at e2
    | succ f => simp [runS] at e2
theorem FdSt.tok {w : World} {base mb : Nat} {C : List (Int × Int)} {t : Int} {Res : List Int × Bool} {k : Nat} {s : Int} {tl : List Int} {top : Int} {D : List (Int × Int)} {W : World} (h : FdSt w base mb C t Res k (s :: tl) top D W) (hs : s < 100) : Res = (tl, decide (s = t)) := by
  rcases h.ph with ⟨_, e, _⟩ | ⟨cur, r, f, lo, b, m, e1, e2, e3, _⟩
  · rw [← e]; exact feedL_tok hs
  · cases cur with
    | nil =>
      cases f with
      | zero => simp [runS] at e2
      | succ f => simp [runS] at e2
    | cons s' cur =>
      obtain ⟨rfl, rfl⟩ := List.cons.inj e1
      cases f with
      | zero => simp [runS] at e2
      | succ f =>
        obtain ⟨rfl, hb, _⟩ := runS_tok e2 hs
        rw [← e3, Option.some.inj hb]; rfl
theorem FdSt.no {w : World} {base mb : Nat} {C : List (Int × Int)} {t : Int} {Res : List Int × Bool} {k : Nat} {s : Int} {tl : List Int} {top : Int} {D : List (Int × Int)} {W : World} (h : FdSt w base mb C t Res k (s :: tl) top D W) (t0 : 1 ≤ t) (t1 : t ≤ 78) (hs : 100 ≤ s) (hx : (xE s t).2 = false) : Res = (tl, false) := by
  rcases h.ph with ⟨_, e, _⟩ | ⟨cur, r, f, lo, b, m, e1, e2, e3, _⟩
  · have hn : ¬ ((xE s t).1 = [] ∧ (xE s t).2 = true) := by rw [hx]; simp
    obtain ⟨lo, b, n, e2, _⟩ := xE_run hs (h.o s (List.mem_cons_self ..)) t0 t1 hn
    rw [← e, feedL_run hs hn e2]
    rcases runS_cons e2 hs with ⟨g, _⟩ | ⟨_, g1, g2, _⟩
    · rw [hx] at g; cases g
    · rw [g1, Option.some.inj g2]; rfl
  · cases cur with
    | nil =>
      cases f with
      | zero => simp [runS] at e2
      | succ f => simp [runS] at e2
    | cons s' cur =>
      obtain ⟨rfl, rfl⟩ := List.cons.inj e1
      cases f with
      | zero => simp [runS] at e2
      | succ f =>
        rcases runS_cons e2 hs with ⟨g, _⟩ | ⟨_, g1, g2, _⟩
        · rw [hx] at g; cases g
        · rw [← e3, g1, Option.some.inj g2]; rfl
/-- The row of a symbol is put on. -/
theorem FdSt.step {w : World} {base mb : Nat} {C : List (Int × Int)} {t : Int} {Res : List Int × Bool} {k : Nat} {s : Int} {tl : List Int} {top : Int} {D : List (Int × Int)} {W : World} (h : FdSt w base mb C t Res k (s :: tl) top D W) (t0 : 1 ≤ t) (t1 : t ≤ 78) (hs : 100 ≤ s) (hx : (xE s t).2 = true) {E : List (Int × Int)} {top' : Int} {W' : World} (hE : E.length = (xE s t).1.length)
    (hm : MAt W' base mb (C ++ D ++ E)) (hst : StkOf (C ++ D ++ E) top' ((xE s t).1 ++ tl)) (hk : Kp mb w W') (hb : Below base w W') : D.length + (xE s t).1.length ≤ 20 ∧ ∃ k', k' < k ∧ FdSt w base mb C t Res k' ((xE s t).1 ++ tl) top' (D ++ E) W' := by
  have hso := h.o s (List.mem_cons_self ..)
  have hxo := (xE_le hs hso t0 t1).1
  have ok' : OkS ((xE s t).1 ++ tl) := fun x hx => by
    rcases List.mem_append.1 hx with hx | hx
    · exact hxo x hx
    · exact h.o x (List.mem_cons_of_mem _ hx)
  have hm' : MAt W' base mb (C ++ (D ++ E)) := by rw [← List.append_assoc]; exact hm
  have hst' : StkOf (C ++ (D ++ E)) top' ((xE s t).1 ++ tl) := by rw [← List.append_assoc]; exact hst
  have hDE : (D ++ E).length = D.length + (xE s t).1.length := by rw [List.length_append, hE]
  rcases h.ph with ⟨hD, e, hk9⟩ | ⟨cur, r, f, lo, b, m, e1, e2, e3, e4, e5⟩
  · subst hD
    by_cases hn : (xE s t).1 = [] ∧ (xE s t).2 = true
    · rw [hn.1] at hE hst' ok' hDE ⊢
      have hE0 : E = [] := List.eq_nil_of_length_eq_zero (by simpa using hE)
      subst hE0
      refine ⟨by simp, tl.length + 9, by simp only [List.length_cons] at hk9; omega, hm', hst', ok', hk, hb, by simp, .inl ⟨rfl, ?_, Nat.le_refl _⟩⟩
      rw [List.nil_append, ← e, feedL_nil hs hn]
    · obtain ⟨lo, b, n, e2, hn20⟩ := xE_run hs hso t0 t1 hn
      rw [feedL_run hs hn e2] at e
      rcases runS_cons e2 hs with ⟨_, g⟩ | ⟨g, _⟩
      · rw [List.append_nil] at g
        have hmn := runS_mono g
        refine ⟨by simp only [List.length_nil]; omega, 7, by omega, hm', hst', ok', hk, hb, by rw [hDE]; simp only [List.length_nil]; omega, .inr ⟨(xE s t).1, tl, 7, lo, b, n, rfl, ?_, e, hn20, Nat.le_refl _⟩⟩
        rw [hDE]; exact g
      · rw [hx] at g; cases g
  · cases cur with
    | nil =>
      cases f with
      | zero => simp [runS] at e2
      | succ f => simp [runS] at e2
    | cons s' cur =>
      obtain ⟨rfl, rfl⟩ := List.cons.inj e1
      cases f with
      | zero => simp [runS] at e2
      | succ f =>
        rcases runS_cons e2 hs with ⟨_, g⟩ | ⟨g, _⟩
        · have hmn := runS_mono g
          refine ⟨by omega, f, by omega, hm', hst', ok', hk, hb, by rw [hDE]; omega, .inr ⟨(xE s t).1 ++ cur, r, f, lo, b, m, by rw [List.append_assoc]; rfl, ?_, e3, e4, Nat.le_refl _⟩⟩
          rw [hDE]; exact g
        · rw [hx] at g; cases g
/-- What stands behind feed. -/
def FeedPost (w : World) (base mb : Nat) (C : List (Int × Int)) (Res : List Int × Bool) (e : Ending) (w' : World) : Prop :=
  ∃ (top' : Int) (D : List (Int × Int)), e = .returned (.tuple #[.int .i64 top', .bool Res.2]) ∧ MAt w' base mb (C ++ D) ∧ StkOf (C ++ D) top' Res.1 ∧ D.length ≤ 20 ∧ Kp mb w w' ∧ Below base w w'

set_option maxRecDepth 100000 in
set_option maxHeartbeats 12800000 in
theorem feed_any (w : World) (base mb : Nat) (C : List (Int × Int)) (st : List Int) (top t : Int) (h : MAt w base mb C) (hs : StkOf C top st) (ho : OkS st) (t0 : 1 ≤ t) (t1 : t ≤ 78) (hl : C.length ≤ 50000000) :
    Calls Tryz.prog 18 #[.pointer (some ⟨mb, 0, none⟩), .int .i64 top, .int .i64 t] w (FeedPost w base mb C (feedL st t)) := by
  obtain ⟨Res, hRes⟩ : ∃ R, feedL st t = R := ⟨_, rfl⟩
  rw [hRes]
  have hw : base ≤ w.heap.size := by obtain ⟨v, h1, _⟩ := h.ex; have := lt_of_block h1; have := h.lo; omega
  have HS0 : Hid (FdSt w base mb C t Res (st.length + 9) st top [] w) := ⟨by rw [List.append_nil]; exact h, by rw [List.append_nil]; exact hs, ho, Kp.refl _ _, Below.refl _ _, by simp, .inl ⟨rfl, hRes, Nat.le_refl _⟩⟩
  clear h hs ho hRes
  go_enter Tryz.func18, Tryz.ntmps18
  go_wp2_with fail
  go_loopg [1] (st.length + 9) (fun k vt wr => ∃ (stk : List Int) (tp : Int) (D : List (Int × Int)), vt = .int .i64 tp ∧ Hid (FdSt w base mb C t Res k stk tp D wr))
  case atStart => exact ⟨st, top, [], rfl, HS0⟩
  case round =>
    obtain ⟨stk, tp, D, rfl, HS⟩ := hrel
    clear HS0
    cases stk with
    | nil =>
      have e : tp = -1 := HS.out.s
      subst e
      have HR : Hid (Res = ([], false)) := HS.out.nil
      go_wp2_with fail
      go_ret2
      refine ⟨-1, D, ?_, HS.out.m, ?_, HS.out.d, HS.out.kp, HS.out.bl⟩
      · rw [HR.out]; rfl
      · rw [HR.out]; exact HS.out.s
    | cons s tl =>
      obtain ⟨i, b, hi, hc, hst⟩ := HS.out.s
      subst hi
      obtain ⟨v, hbx, how⟩ := HS.out.m.ex
      have hil := (List.getElem?_eq_some_iff.1 hc).1
      obtain ⟨g, cap, rfl⟩ : ∃ g cap, v = .slice (some ⟨g, 0, none⟩) (C ++ D).length cap := by
        rcases own_zero_or how with ⟨hz, _⟩ | hz
        · omega
        · exact hz
      have hcl := cCl_at _ i _ hc
      have hcn := cCl_len (C ++ D)
      have e1 : wr.cell? ⟨g, i * 2, none⟩ = some (.int .i64 s) := by rw [how.cellAt (i * 2) (by omega)]; exact hcl.1
      have e2 : wr.cell? ⟨g, i * 2 + 1, none⟩ = some (.int .i64 b) := by rw [how.cellAt (i * 2 + 1) (by omega)]; exact hcl.2
      obtain ⟨n, hn⟩ : ∃ n, (C ++ D).length = n := ⟨_, rfl⟩
      have hdl := HS.out.d
      have hnl : n ≤ 50000020 := by rw [← hn, List.length_append]; omega
      rw [hn] at hbx hil
      have c0 : wr.cell? ⟨mb, 0, none⟩ = some (.slice (some ⟨g, 0, none⟩) n cap) := by rw [cell_of_row _ _ _ _ _ _ hbx]; rfl
      obtain ⟨a', ha'⟩ : ∃ a' : Addr, (⟨g, 0, none⟩ : Addr) = a' := ⟨_, rfl⟩
      have f1 : wr.cell? (a'.add (i * 2)) = some (.int .i64 s) := by rw [← ha', show ((⟨g, 0, none⟩ : Addr).add (i * 2)) = ⟨g, i * 2, none⟩ by unfold Addr.add; split <;> simp_all]; exact e1
      have f2 : wr.cell? ⟨(a'.add (i * 2)).block, (a'.add (i * 2)).off + 1, none⟩ = some (.int .i64 b) := by rw [← ha', show ((⟨g, 0, none⟩ : Addr).add (i * 2)) = ⟨g, i * 2, none⟩ by unfold Addr.add; split <;> simp_all]; exact e2
      rw [ha'] at c0
      have hii : (i : Int) < (n : Int) := by omega
      have hi0 : (0 : Int) ≤ (i : Int) := by omega
      have hmw := lt_of_block hbx
      have hbr : base ≤ wr.heap.size := Nat.le_trans hw HS.out.bl.size
      have HN : Hid ((C ++ D).length = n ∧ wr.heap[mb]? = some (.cells #[.slice (some ⟨g, 0, none⟩) n cap] 30 (0, 0)) ∧ StkOf (C ++ D) b tl) := ⟨hn, hbx, hst⟩
      clear e1 e2 hcl hcn how hbx hn ha' hc hst
      by_cases hs1 : s < 100
      · have HR : Hid (Res = (tl, decide (s = t))) := HS.out.tok hs1
        have hcw : ∀ o, Below base wr (wr.alloc o).drew := fun o => bel_drew1 ((Below.refl _ wr).alloc (by omega) o)
        have hcs : (wr.alloc (.cells #[.int .i64 s, .int .i64 b] 75)).cell? ⟨wr.heap.size, 0, none⟩ = some (.int .i64 s) := by rw [cell_of_row _ _ _ _ _ _ (heap_alloc_new wr _)]; rfl
        go_wp2_with fail
        go_region_held3 (fun w' => w'.cell? ⟨wr.heap.size, 0, none⟩ = some (.int .i64 s)) (go_keep) (fail)
        go_wp2_with fail
        go_ret2
        have b1 : Below wr.heap.size wr (wr.alloc (.cells #[.int .i64 s, .int .i64 b] 75)).drew := bel_drew1 (bel1 wr _)
        refine ⟨b, D, ?_, HS.out.m.below b1, ?_, HS.out.d, HS.out.kp.trans (Kp.of_below b1), HS.out.bl.trans (hcw _)⟩
        · rw [HR.out]; rfl
        · rw [HR.out]; exact HN.out.2.2
      · have hs0 : 100 ≤ s := by omega
        have hs9 : s ≤ 133 := HS.out.o s (List.mem_cons_self ..)
        have kx := fun w => l3expand_any w s t hs0 hs9
        have hxl := (xE_le hs0 hs9 t0 t1).2
        obtain ⟨rowL, hrow⟩ : ∃ r, (xE s t).1 = r := ⟨_, rfl⟩
        obtain ⟨okB, hok⟩ : ∃ r, (xE s t).2 = r := ⟨_, rfl⟩
        unfold RowPost at kx
        rw [hrow, hok] at kx
        rw [hrow] at hxl
        obtain ⟨nr, hnr⟩ : ∃ n, rowL.length = n := ⟨_, rfl⟩
        rw [hnr] at kx hxl
        have HX : Hid ((xE s t).1 = rowL ∧ (xE s t).2 = okB ∧ rowL.length = nr) := ⟨hrow, hok, hnr⟩
        clear hrow hok hnr
        have b1 := bel1 wr (.cells #[.int .i64 s, .int .i64 b] 75)
        go_wp2_with (go_at_call 36; fail)
        have HM1 : Hid (Below wr.heap.size wr (wr.alloc (.cells #[.int .i64 s, .int .i64 b] 75))) := b1
        refine (kx _).mono ?_
        rintro e w2 ⟨ra, rc, rfl, hor, hb2⟩
        have b2 : Below wr.heap.size wr w2 := b1.trans (hb2.mono b1.size)
        have hz2 := b2.size
        have HW2 : Hid (MAt w2 base mb (C ++ D) ∧ Kp mb w w2 ∧ Below base w w2 ∧ w2.ownsRow base 3 1 (.slice ra nr rc) nr (rowL.map (Value.int .i64))) :=
          ⟨HS.out.m.below b2, HS.out.kp.trans (Kp.of_below b2), HS.out.bl.trans (b2.mono (by omega)), own_le hor (by simp; omega)⟩
        clear kx b1 HM1 hor hb2 c0 f1 f2
        cases okB with
        | false =>
          have HR : Hid (Res = (tl, false)) := HS.out.no t0 t1 hs0 HX.out.2.1
          go_wp2_with fail
          go_ret2
          refine ⟨b, D, ?_, HW2.out.1, ?_, HS.out.d, HW2.out.2.1, HW2.out.2.2.1⟩
          · rw [HR.out]; rfl
          · rw [HR.out]; exact HN.out.2.2
        | true =>
          have hnD : (C ++ D).length ≤ 50000020 := by rw [HN.out.1]; omega
          go_wp2_with fail
          go_loopw [1, 11] (fun vt vk w3 => ∃ (j : Nat) (tp : Int) (E : List (Int × Int)), j ≤ nr ∧ vk = .int .i64 ((j : Int) - 1) ∧ vt = .int .i64 tp ∧ Hid (E.length = nr - j ∧ MAt w3 base mb (C ++ D ++ E) ∧ StkOf (C ++ D ++ E) tp (rowL.drop j ++ tl) ∧ Kp mb w w3 ∧ Below base w w3 ∧ w3.ownsRow base 3 1 (.slice ra nr rc) nr (rowL.map (Value.int .i64)))) (fun _ vk _ => (intOf vk + 1).toNat)
          case atStart =>
            refine ⟨nr, b, [], Nat.le_refl _, rfl, rfl, by simp, ?_, ?_, HW2.out.2.1, HW2.out.2.2.1, HW2.out.2.2.2⟩
            · rw [List.append_nil]; exact HW2.out.1
            · rw [List.append_nil, List.drop_of_length_le (by rw [HX.out.2.2]; exact Nat.le_refl _)]; exact HN.out.2.2
          case round =>
            obtain ⟨j, tp2, E, hj, rfl, rfl, HE⟩ := hrel
            cases j with
            | zero =>
              have hneg : ¬ (0 : Int) ≤ ((0 : Nat) : Int) - 1 := by omega
              have hst := HE.out.2.2.1
              rw [List.drop_zero, ← HX.out.1] at hst
              obtain ⟨_, k', hk', st'⟩ := HS.out.step t0 t1 hs0 HX.out.2.1 (by rw [HX.out.1, HX.out.2.2]; exact HE.out.1) HE.out.2.1 hst HE.out.2.2.2.1 HE.out.2.2.2.2.1
              have HS' : Hid (FdSt w base mb C t Res k' ((xE s t).1 ++ tl) tp2 (D ++ E) wr) := st'
              clear st' hst
              go_wp2_with fail
              go_roundg k'
              case measure => exact hk'
              case rel => exact ⟨_, tp2, _, rfl, HS'⟩
            | succ j =>
              have em : (((j + 1 : Nat)) : Int) - 1 = (j : Int) := by omega
              rw [em]
              have hj0 : (0 : Int) ≤ (j : Int) := by omega
              have hji : (j : Int) < (nr : Int) := by omega
              obtain ⟨z, hz⟩ := some_at HX.out.2.2 (show j < nr by omega)
              obtain ⟨gr, hgr⟩ : ∃ gr, ra = some ⟨gr, 0, none⟩ := by
                rcases own_zero_or HE.out.2.2.2.2.2 with ⟨h, _⟩ | ⟨gr, c, h⟩
                · omega
                · cases h; exact ⟨_, rfl⟩
              subst hgr
              have cz : wr.cell? ⟨gr, j, none⟩ = some (.int .i64 z) := by rw [HE.out.2.2.2.2.2.cellAt j (by omega), List.getElem?_map, hz]; rfl
              have hEl : (C ++ D ++ E).length ≤ 100000000 := by rw [List.length_append, HE.out.1]; omega
              have kp := push_any wr base mb (C ++ D ++ E) tp2 z HE.out.2.1 hEl
              have hst2 := HE.out.2.2.1.push z
              have hd : rowL.drop j = z :: rowL.drop (j + 1) := by
                have hjk := List.getElem?_eq_some_iff.1 hz
                rw [List.drop_eq_getElem_cons hjk.1, hjk.2]
              have HD : Hid (rowL.drop j = z :: rowL.drop (j + 1)) := hd
              obtain ⟨T2, hT2⟩ : ∃ T2 : Int, (((C ++ D ++ E).length : Nat) : Int) = T2 := ⟨_, rfl⟩
              rw [hT2] at kp hst2
              have HS2 : Hid (StkOf (C ++ D ++ E ++ [(z, tp2)]) T2 (z :: (rowL.drop (j + 1) ++ tl))) := hst2
              clear hst2 hd hT2 hz
              go_wp2_with (go_at_call 27; refine kp.mono ?_; rintro e w4 ⟨rfl, hm4, hk4, hb4⟩)
              refine ⟨⟨j, T2, E ++ [(z, tp2)], by omega, rfl, rfl, ?_, ?_, ?_, HE.out.2.2.2.1.trans hk4, HE.out.2.2.2.2.1.trans hb4, ?_⟩, by simp [intOf]⟩
              · rw [List.length_append, HE.out.1]; simp; omega
              · rw [← List.append_assoc]; exact hm4
              · rw [← List.append_assoc, HD.out]; exact HS2.out
              · obtain ⟨v3, hv3, _⟩ := HE.out.2.1.ex
                exact hk4.row hv3 HE.out.2.2.2.2.2 (by decide) (by decide)
end Go.Proofs.YtdlhfiheingibaaGreatDoor

namespace Go.Proofs.YtdlhfiheingibaaGreatDoor
open Go.RowKit
set_option linter.unusedVariables false

theorem own_cut {w : World} {base : Nat} {e : TypeId} {size g cap n d : Nat} {xs last : List Value} (hx : xs.length = n * size)
    (h : w.ownsRow base e size (.slice (some ⟨g, 0, none⟩) (n + d) cap) (n + d) (xs ++ last)) : w.ownsRow base e size (.slice (some ⟨g, 0, none⟩) n cap) n xs := by
  obtain ⟨_, h2⟩ := h
  rcases h2 with ⟨h0, _⟩ | ⟨g', cap', cur, hv, hg, hh, hn, hcap, hsz, htake⟩
  · cases h0
  · cases hv
    refine ⟨hx, .inr ⟨g, cap, cur, rfl, hg, hh, by omega, hcap, hsz, ?_⟩⟩
    have h3 : (cur.toList.take ((n + d) * size)).take (n * size) = (xs ++ last).take (n * size) := by rw [htake]
    rw [List.take_take, Nat.min_eq_left (Nat.mul_le_mul_right _ (by omega))] at h3
    rw [h3, ← hx]
    exact take_len _ _
theorem own_cap {w : World} {base : Nat} {e : TypeId} {size g cap n : Nat} {xs : List Value} (h : w.ownsRow base e size (.slice (some ⟨g, 0, none⟩) n cap) n xs) : n ≤ cap := by
  rcases h.2 with ⟨h0, _⟩ | ⟨g', cap', cur, hv, hg, hh, hn, hcap, hsz, htake⟩
  · cases h0
  · cases hv; exact hn
/-- The tokens from 1 to j that can stand at a stack. -/
def mayTo (st : List Int) : Nat → List Int
  | 0 => []
  | j + 1 => if (feedL st ((j : Int) + 1)).2 = true then mayTo st j ++ [(j : Int) + 1] else mayTo st j
def mayL (st : List Int) : List Int := mayTo st 78
theorem mayTo_len (st : List Int) : ∀ j, (mayTo st j).length ≤ j
  | 0 => Nat.le_refl _
  | j + 1 => by
    have := mayTo_len st j
    rw [mayTo]
    split
    · rw [List.length_append]; simp; omega
    · omega
/-- The machine's box takes another slice. -/
theorem MAt.put {W : World} {base mb : Nat} {C : List (Int × Int)} {v0 : Value} (hb : W.heap[mb]? = some (.cells #[v0] 30 (0, 0))) (lo : base ≤ mb) {v : Value} (ho : W.ownsRow base 75 2 v C.length (cCl C)) : MAt (W.setCell ⟨mb, 0, none⟩ v) base mb C := by
  refine ⟨⟨v, heap_setCell_same _ mb 0 _ _ _ hb, ?_⟩, lo⟩
  refine ho.kept (row := some mb) ⟨rfl, rfl, rfl, by simp [World.setCell], fun k hk hne => heap_setCell_other _ _ _ _ (fun e => hne (by rw [e]))⟩ ?_
  rcases own_zero_or ho with ⟨_, rfl⟩ | ⟨g, c, rfl⟩
  · exact .inl rfl
  · refine .inr ?_
    intro e
    obtain rfl : g = mb := by simpa [Value.ownBlock] using e
    rcases ho.2 with ⟨h1, _⟩ | ⟨g2, cap2, cur, h1, _, h3, _⟩
    · cases h1
    · cases h1; rw [hb] at h3; cases h3
theorem Kp.put {mb : Nat} {w W : World} (h : Kp mb w W) (j : Nat) (v : Value) : Kp mb w (W.setCell ⟨mb, j, none⟩ v) :=
  h.trans ⟨rfl, rfl, rfl, by simp [World.setCell], fun k _ hne _ => heap_setCell_other _ _ _ _ hne⟩

set_option maxRecDepth 100000 in
set_option maxHeartbeats 3200000 in
theorem begin_any (w : World) (base mb : Nat) (h : MAt w base mb []) :
    Calls Tryz.prog 15 #[.pointer (some ⟨mb, 0, none⟩)] w fun e w' => e = .returned (.int .i64 1) ∧ MAt w' base mb [(6, -1), (100, 0)] ∧ Kp mb w w' ∧ Below base w w' := by
  have k1 := push_any w base mb [] (-1) 6 h (by simp)
  go_enter Tryz.func15, Tryz.ntmps15
  go_wp2_with (go_at_call 27; fail)
  refine k1.mono ?_
  rintro e w1 ⟨rfl, m1, p1, b1⟩
  have k2 := push_any w1 base mb [(6, -1)] 0 100 m1 (by simp)
  clear k1
  simp only [List.length_nil, Int.natCast_zero]
  go_wp2_with (go_at_call 27; fail)
  refine k2.mono ?_
  rintro e w2 ⟨rfl, m2, p2, b2⟩
  clear k2
  simp only [List.length_cons, List.length_nil, Nat.zero_add, Int.natCast_one]
  go_wp2_with fail
  go_ret
  exact ⟨rfl, m2, p1.trans p2, b1.trans b2⟩

/-- Between two tokens of may. -/
structure MySt (w : World) (base mb : Nat) (C : List (Int × Int)) (st : List Int) (j : Nat) (vo : Value) (W : World) : Prop where
  m : MAt W base mb C
  kp : Kp mb w W
  bl : Below base w W
  row : W.ownsRow w.heap.size 3 1 vo (mayTo st j).length ((mayTo st j).map (Value.int .i64))

set_option maxRecDepth 100000 in
set_option maxHeartbeats 12800000 in
theorem may_any (w : World) (base mb : Nat) (C : List (Int × Int)) (st : List Int) (top : Int) (h : MAt w base mb C) (hs : StkOf C top st) (ho : OkS st) (hC : 0 < C.length) (hl : C.length ≤ 50000000) :
    Calls Tryz.prog 10 #[.pointer (some ⟨mb, 0, none⟩), .int .i64 top] w fun e w' => ∃ a c, e = .returned (.slice a (mayL st).length c) ∧ w'.ownsRow w.heap.size 3 1 (.slice a (mayL st).length c) (mayL st).length ((mayL st).map (Value.int .i64)) ∧ MAt w' base mb C ∧ Kp mb w w' ∧ Below base w w' := by
  obtain ⟨v, hbx, how⟩ := h.ex
  have hw : base ≤ w.heap.size := by have := lt_of_block hbx; have := h.lo; omega
  have hlo := h.lo
  obtain ⟨n, hn⟩ : ∃ n, C.length = n := ⟨_, rfl⟩
  obtain ⟨g, cap, rfl⟩ : ∃ g cap, v = .slice (some ⟨g, 0, none⟩) n cap := by
    rcases own_zero_or how with ⟨hz, _⟩ | hz
    · omega
    · rw [← hn]; exact hz
  have c0 : w.cell? ⟨mb, 0, none⟩ = some (.slice (some ⟨g, 0, none⟩) n cap) := by rw [cell_of_row _ _ _ _ _ _ hbx]; rfl
  have st0 : MySt w base mb C st 0 (.slice none 0 0) w := ⟨h, Kp.refl _ _, Below.refl _ _, World.ownsRow_nil _ _ _ _⟩
  have HC : Hid (C.length = n ∧ StkOf C top st ∧ OkS st) := ⟨hn, hs, ho⟩
  have HS0 : Hid (MySt w base mb C st 0 (.slice none 0 0) w) := st0
  rw [hn] at hC hl
  obtain ⟨j0, ji, jz0, jz1, jz2⟩ := info_parts infoInt
  clear h how hbx st0 hn hs ho
  go_enter Tryz.func10, Tryz.ntmps10
  go_wp2_with fail
  go_loopw [5, 7] (fun vo vt wr => ∃ (j : Nat), j ≤ 78 ∧ vt = .int .i64 ((j : Int) + 1) ∧ (∃ a c, ∃ m : Nat, vo = .slice a m c) ∧ Hid (MySt w base mb C st j vo wr)) (fun _ vt _ => (79 - intOf vt).toNat)
  case atStart => exact ⟨0, Nat.zero_le _, rfl, ⟨_, _, _, rfl⟩, HS0⟩
  case round =>
    obtain ⟨j, hj, rfl, ⟨av, cv, mv, rfl⟩, HS⟩ := hrel
    clear HS0 c0
    by_cases hlt : j < 78
    · have ht : ((j : Int) + 1) ≤ 78 := by omega
      have kf := feed_any wr base mb C st top ((j : Int) + 1) HS.out.m HC.out.2.1 HC.out.2.2 (by omega) ht (by rw [HC.out.1]; exact hl)
      obtain ⟨Res, hRes⟩ : ∃ R, feedL st ((j : Int) + 1) = R := ⟨_, rfl⟩
      rw [hRes] at kf
      obtain ⟨okB, hok⟩ : ∃ b, Res.2 = b := ⟨_, rfl⟩
      unfold FeedPost at kf
      rw [hok] at kf
      have HR : Hid ((feedL st ((j : Int) + 1)).2 = okB) := by show _ = _; rw [hRes]; exact hok
      obtain ⟨T, hT⟩ : ∃ T : Int, (j : Int) + 1 = T := ⟨_, rfl⟩
      have HT : Hid ((j : Int) + 1 = T) := hT
      have hT1 : T ≤ 78 := by omega
      have hT0 : 1 ≤ T := by omega
      rw [hT] at kf ⊢
      clear hRes hok hT ht
      go_wp2_with (go_at_call 18; fail)
      refine kf.mono ?_
      rintro e w2 ⟨tp2, D, rfl, m2, _, hD, p2, b2⟩
      obtain ⟨v2, hb2, ho2⟩ := m2.ex
      rw [List.length_append, HC.out.1, cCl_app] at ho2
      obtain ⟨g2, cap2, rfl⟩ : ∃ g cap, v2 = .slice (some ⟨g, 0, none⟩) (n + D.length) cap := by
        rcases own_zero_or ho2 with ⟨hz, _⟩ | hz
        · omega
        · exact hz
      have hcut := own_cut (by rw [cCl_len, HC.out.1]) ho2
      have hcp := own_cap hcut
      have hcp2 := own_cap ho2
      have z0 : w2.cell? ⟨mb, 0, none⟩ = some (.slice (some ⟨g2, 0, none⟩) (n + D.length) cap2) := by rw [cell_of_row _ _ _ _ _ _ hb2]; rfl
      have zf : w2.frozen? ⟨mb, 0, none⟩ = false := frozen_of_row _ _ _ _ _ hb2
      have m3 : MAt (w2.setCell ⟨mb, 0, none⟩ (.slice (some ⟨g2, 0, none⟩) n cap2)) base mb C := MAt.put hb2 hlo (by rw [HC.out.1]; exact hcut)
      obtain ⟨v1, hv1, _⟩ := HS.out.m.ex
      have r2 := p2.row hv1 HS.out.row (by decide) (by decide)
      have r3 : (w2.setCell ⟨mb, 0, none⟩ (.slice (some ⟨g2, 0, none⟩) n cap2)).ownsRow w.heap.size 3 1 (.slice av mv cv) (mayTo st j).length ((mayTo st j).map (Value.int .i64)) :=
        ((Kp.refl mb w2).put 0 _).row hb2 r2 (by decide) (by decide)
      have HS3 : Hid (MySt w base mb C st j (.slice av mv cv) (w2.setCell ⟨mb, 0, none⟩ (.slice (some ⟨g2, 0, none⟩) n cap2))) :=
        ⟨m3, (HS.out.kp.trans p2).put _ _, (HS.out.bl.trans b2).setCell hlo _, r3⟩
      have hn0 : (0 : Int) ≤ (n : Int) := by omega
      have hnc : (n : Int) ≤ (cap2 : Int) := by omega
      obtain ⟨ND, hND⟩ : ∃ ND, n + D.length = ND := ⟨_, rfl⟩
      rw [hND] at z0
      clear kf m2 ho2 hb2 hcut m3 r2 r3 hv1 p2 b2 HS hD hcp2
      have hml := mayTo_len st j
      cases okB with
      | false =>
        have e : mayTo st (j + 1) = mayTo st j := by rw [mayTo, HR.out, if_neg (by decide)]
        go_wp2_with fail
        refine ⟨⟨j + 1, by omega, ?_, ⟨_, _, _, rfl⟩, ⟨HS3.out.m, HS3.out.kp, HS3.out.bl, by rw [e]; exact HS3.out.row⟩⟩, ?_⟩
        · have := HT.out; congr 1; push_cast; omega
        · simp [intOf]; omega
      | true =>
        have e : mayTo st (j + 1) = mayTo st j ++ [(j : Int) + 1] := by rw [mayTo, HR.out, if_pos rfl]
        have HE : Hid (mayTo st (j + 1) = mayTo st j ++ [T]) := by show _ = _; rw [e, HT.out]
        obtain ⟨a9, c9, e9⟩ := own_form HS3.out.row
        cases e9
        obtain ⟨mv, hmv⟩ : ∃ mv, (mayTo st j).length = mv := ⟨_, rfl⟩
        have HM : Hid ((mayTo st j).length = mv) := hmv
        rw [hmv] at hml ⊢
        have hrow := HS3.out.row
        rw [hmv] at hrow
        have HRW : Hid ((w2.setCell ⟨mb, 0, none⟩ (.slice (some ⟨g2, 0, none⟩) n cap2)).ownsRow w.heap.size 3 1 (.slice av mv cv) mv ((mayTo st j).map (Value.int .i64))) := hrow
        clear e hmv hrow
        have hsz3 : w.heap.size ≤ (w2.setCell ⟨mb, 0, none⟩ (.slice (some ⟨g2, 0, none⟩) n cap2)).heap.size := HS3.out.kp.size
        have h3 : Hid ((w2.setCell ⟨mb, 0, none⟩ (.slice (some ⟨g2, 0, none⟩) n cap2)).heap.size = w2.heap.size) := by show _ = _; simp [World.setCell]
        go_wp2_with (at_builtin; rw [← h3.out]; generalize w2.setCell ⟨mb, 0, none⟩ (.slice (some ⟨g2, 0, none⟩) n cap2) = W3 at HS3 HRW hsz3 ⊢; refine wpList_append_own _ rfl _ _ 22 rfl w.heap.size 3 j0 _ 1 8 Tryz.underlying22 ji jz0 jz1 jz2 rfl (by decide) _ _ _ rfl (HRW.out.alloc _) ⟨W3.heap.size, 0, none⟩ 1 1 [.int .i64 T] rfl rfl (World.news_of_block (cs := #[.int .i64 T]) (fr := (0, 0)) (heap_alloc_new W3 _)) (by intro u hu; simp at hu; subst hu; rfl) (by unfold maxLen; omega) (by omega) (by simp; omega) ?_; intro v' w5 ho5 hg5 hn5; obtain ⟨g', cap', rfl⟩ := ownsRow_succ ho5)
        obtain ⟨v3, hv3, how3⟩ := HS3.out.m.ex
        have hob : ∀ k, (Value.slice av mv cv).ownBlock = some k → w.heap.size ≤ k := fun k hk => (HRW.out.lt k hk).1
        have hot : ∀ (k : Nat) (cs : Array Value) (t : TypeId) (fr : Nat × Nat), W3.heap[k]? = some (.cells cs t fr) → t ≠ 3 → w5.heap[k]? = some (.cells cs t fr) := fun k cs t fr hk ht => by
          refine (hg5.block k (by simp; have := lt_of_block hk; omega) (fun e => ?_)).trans ((Below.heap_alloc _ _ _ (lt_of_block hk)).trans hk)
          have e2 : (Value.slice av mv cv).ownBlock = some k := e.symm
          rcases HRW.out.2 with ⟨h1, _⟩ | ⟨g3, cap3, cur, h1, _, h3, _⟩
          · rw [h1] at e2; simp [Value.ownBlock] at e2
          · rw [h1] at e2
            obtain rfl : g3 = k := by simpa [Value.ownBlock] using e2
            rw [hk] at h3
            simp only [Option.some.injEq, Obj.cells.injEq] at h3
            exact ht h3.2.1
        have k5 : Kp mb w w5 := ⟨hg5.os.trans HS3.out.kp.os, hg5.tape.trans HS3.out.kp.tape, hg5.output.trans HS3.out.kp.output, by have := hg5.size; simp at this; omega, fun k hk hne hc =>
          (hg5.block k (by simp; omega) (fun e => by have := hob k e.symm; omega)).trans ((Below.heap_alloc _ _ _ (by omega)).trans (HS3.out.kp.block k hk hne hc))⟩
        have m5 : MAt w5 base mb C := by
          refine ⟨⟨v3, hot _ _ _ _ hv3 (by decide), ?_⟩, hlo⟩
          obtain ⟨q1, q2⟩ := how3
          refine ⟨q1, ?_⟩
          rcases q2 with q2 | ⟨g3, cap3, cur, hv, hg, hc, rest⟩
          · exact .inl q2
          · exact .inr ⟨g3, cap3, cur, hv, hg, hot _ _ _ _ hc (by decide), rest⟩
        have st5 : MySt w base mb C st (j + 1) (.slice (some ⟨g', 0, none⟩) (mv + 1) cap') w5 := by
          refine ⟨m5, k5, ?_, ?_⟩
          · exact (HS3.out.bl.alloc (by omega) _).grown hg5 (by simp; omega) (fun k hk => by have := (HRW.out.lt k hk).1; omega)
          · rw [HE.out, List.length_append, HM.out, List.map_append]; exact ho5
        have HS5 : Hid (MySt w base mb C st (j + 1) (.slice (some ⟨g', 0, none⟩) (mv + 1) cap') w5) := st5
        clear st5 m5 k5 hv3 how3 hob hot ho5 hg5 hn5 HS3 HRW
        refine ⟨⟨j + 1, by omega, ?_, ⟨_, _, _, rfl⟩, HS5⟩, ?_⟩
        · have := HT.out; congr 1; push_cast; omega
        · simp [intOf]; omega
    · obtain rfl : j = 78 := by omega
      obtain ⟨a9, c9, e9⟩ := own_form HS.out.row
      cases e9
      go_wp2_with fail
      go_ret
      exact ⟨_, _, rfl, HS.out.row, HS.out.m, HS.out.kp, HS.out.bl⟩
end Go.Proofs.YtdlhfiheingibaaGreatDoor
