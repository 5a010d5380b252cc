import Derived.Test.YtdlhfiheingibaaGreatDoorNN27
import Derived.Defers
import Derived.Recover
import Derived.Laws.Pointers
import Derived.Test.YtdlhfiheingibaaGreatDoorNN10
import Derived.Test.YtdlhfiheingibaaGreatDoorNN11
import Derived.Test.YtdlhfiheingibaaGreatDoorTie
import Derived.Test.YtdlhfiheingibaaGreatDoorCards
import Derived.SevenTiedAt
import Derived.Lib.SmallJoins
namespace Go.Proofs.YtdlhfiheingibaaGreatDoor
open Go.RowKit Go.Maps Go.WideMaps
set_option linter.unusedVariables false
set_option linter.unusedSimpArgs false

/-- A type assertion on what was recovered. -/
theorem as_mis (z : Int) (w : World) : (Instr.typeAssert (.iface 36 (.agg #[.int .i64 z])) 20 36 true).run Tryz.prog w = .ok (.tuple #[.agg #[.int .i64 z], .bool true]) w := by kernel_rfl
theorem as_nil (w : World) : (Instr.typeAssert .nilIface 20 36 true).run Tryz.prog w = .ok (.tuple #[.agg #[.int .i64 0], .bool false]) w := by kernel_rfl
set_option maxHeartbeats 800000 in
theorem catchP (p : Addr) (v : Value) (z : Int) (w : World) (hc : w.cell? p = some v) (hz : w.frozen? p = false) (hp : p.block < w.heap.size) :
    CallsD Tryz.prog 11 #[.pointer (some p)] (.panicking (misV z)) w fun e u' w' =>
      e = .returned (.tuple #[]) ∧ u' = .panicking [{ v := .iface 36 (.agg #[.int .i64 z]), recovered := true }] ∧ w' = (w.alloc (.cells #[.int .i64 z] 36)).setCell p (.slice none 0 0) := by
  have ha := fun w => as_mis z w
  unfold misV
  refine callsD_of_wpS Tryz.func11 rfl fun c₀ cs hu => ?_
  apply wpS_seq
  apply wpS_region
  simp [wpOpsS, go_sem, recoverD, hu, Tryz.ntmps11, Exit.thenS, ha]
  apply wpS_seq
  apply wpS_region
  simp [wpOpsS, go_sem, Exit.thenS, Array.replicate_succ]
  refine wpS_cond (t := true) (by simp [Act.eval]) ?_
  simp only [if_true]
  have hc2 : (w.alloc (.cells #[.int .i64 z] 36)).cell? p = some v := cell_kept ((Below.refl w.heap.size w).alloc (Nat.le_refl _) _) hc
  have hz2 : (w.alloc (.cells #[.int .i64 z] 36)).frozen? p = false := by
    unfold World.frozen? at hz ⊢
    rw [Below.heap_alloc w _ _ hp]
    exact hz
  apply wpS_region
  simp [wpOpsS, go_sem, hc2, hz2, bodyPostS, results, Tryz.results11]
set_option maxHeartbeats 800000 in
theorem catchI (p : Addr) (w : World) :
    CallsD Tryz.prog 11 #[.pointer (some p)] .returning w fun e u' w' => e = .returned (.tuple #[]) ∧ u' = .returning ∧ w' = w.alloc (.cells #[.int .i64 0] 36) := by
  have ha := fun w => as_nil w
  refine callsD_of_wpS Tryz.func11 rfl fun c₀ cs hu => ?_
  apply wpS_seq
  apply wpS_region
  simp [wpOpsS, go_sem, recoverD, hu, Tryz.ntmps11, Exit.thenS, ha]
  apply wpS_seq
  apply wpS_region
  simp [wpOpsS, go_sem, Exit.thenS, Array.replicate_succ]
  refine wpS_cond (t := false) (by simp [Act.eval]) ?_
  simp only [Bool.false_eq_true, if_false]
  refine wpS_of_wp (wp_skip ?_)
  cases c₀
  simp_all [bodyPostS, results, Tryz.results11]
end Go.Proofs.YtdlhfiheingibaaGreatDoor

namespace Go.Proofs.YtdlhfiheingibaaGreatDoor
open Go.RowKit Go.Maps Go.WideMaps
set_option linter.unusedVariables false
set_option linter.unusedSimpArgs false

theorem walk_no {s : ByteArray} {z : Int} (h : PnIs s (walkF s) z) (hs : s.size ≤ 65536) : nextF s = [] := by
  unfold nextF
  rw [if_neg (by omega), if_pos h.bad]
theorem walk_yes {s : ByteArray} {toks : List Tk} {stk : List Int} (h : walkF s = (toks, stk, -1)) (hs : s.size ≤ 65536) : nextF s = mayL stk := by
  unfold nextF
  rw [if_neg (by omega), h, if_neg (by simp)]
theorem res_slc {fn : Func} {p : Tmp} (h : fn.results = #[.cell p 22]) (tmps : Array Value) (w : World) (g : Nat) (a : Option Addr) (n c : Nat) (hp : tmps.getD p undef = .pointer (some ⟨g, 0, none⟩)) (hg : w.heap[g]? = some (.cells #[.slice a n c] 22 (0, 0))) : (results fn tmps).run Tryz.prog w = .ok (.slice a n c) w := by
  have hp' : tmps[p]?.getD undef = .pointer (some ⟨g, 0, none⟩) := by simpa using hp
  have hc : w.cell? ⟨g, 0, none⟩ = some (.slice a n c) := by rw [cell_of_row _ _ _ _ _ _ hg]; rfl
  simp [results, h, hp', asAddr]
  go_simp
set_option maxRecDepth 100000 in
set_option maxHeartbeats 1600000 in
theorem implNext_any (w : World) (s : ByteArray) (hs : s.size ≤ 9223372036854775807) (hL : Lay w) (h9 : 10 ≤ w.heap.size) (tt : TypeId) (fr : Nat × Nat) (hG : w.heap[1]? = some (.cells powV tt fr)) :
    Calls Tryz.prog 5 #[.string s] w fun e w' => ∃ a c, e = .returned (.slice a (nextF s).length c) ∧ w'.ownsRow w.heap.size 3 1 (.slice a (nextF s).length c) (nextF s).length ((nextF s).map (Value.int .i64)) ∧ Below w.heap.size w w' := by
  have hmf : ∀ (fn : Fn) (first cap : Array Value) (w : World), (Instr.makeFunc fn first cap).run Tryz.prog w = .ok (.func fn first cap) w := fun _ _ _ _ => rfl
  have hB1 := (Below.refl w.heap.size w).alloc (Nat.le_refl _) (.cells #[.slice none 0 0] 22 (0, 0))
  have hr1 : (w.alloc (.cells #[.slice none 0 0] 22 (0, 0))).heap[w.heap.size]? = some (.cells #[.slice none 0 0] 22 (0, 0)) := heap_alloc_new w _
  have hz1 : (w.alloc (.cells #[.slice none 0 0] 22 (0, 0))).heap.size = w.heap.size + 1 := by simp
  by_cases hbig : 65536 < s.size
  · have hn : nextF s = [] := by unfold nextF; rw [if_pos hbig]
    rw [hn]
    have hi : (65536 : Int) < (s.size : Int) := by omega
    go_enter_defers Tryz.func5, Tryz.ntmps5
    go_wp2_with fail
    exact ⟨_, res_slc rfl _ _ w.heap.size none 0 0 rfl hr1, none, 0, rfl, World.ownsRow_nil _ _ _ _, hB1⟩
  · have hi : ¬ (65536 : Int) < (s.size : Int) := by omega
    have hlt : 1 < w.heap.size := lt_of_mapblock hG
    have kg := newGuard_any (w.alloc (.cells #[.slice none 0 0] 22 (0, 0))) tt fr ((hB1.block _ hlt).trans hG)
    obtain ⟨N, hN⟩ : ∃ N, nextF s = N := ⟨_, rfl⟩
    rw [hN]
    have HN : Hid (nextF s = N ∧ Lay w) := ⟨hN, hL⟩
    clear hN hL hG
    go_enter_defers Tryz.func5, Tryz.ntmps5
    go_wp2_with (go_at_call 12; fail)
    refine kg.mono ?_
    rintro e w2 ⟨gb, rfl, g2, r2, b2⟩
    rw [hz1] at g2 r2 b2
    have hB2 : Below w.heap.size w w2 := hB1.trans (b2.mono (by omega))
    have hQ2 : GQ w2 (w.heap.size + 1) gb (w.heap.size + 1) [100, 6] := ⟨g2, r2, by decide, by decide⟩
    have ka := admitted_any w2 (w.heap.size + 1) gb (w.heap.size + 1) s hQ2 (HN.out.2.below hB2 (Nat.le_refl _)) (by omega) (by omega)
    have hr2 := (b2.block w.heap.size (by omega)).trans hr1
    clear kg
    go_wp2_with (go_at_call 13; fail)
    refine ka.mono ?_
    rintro e w3 ⟨(⟨st, stk, toks, l, v, hR, hsim, rfl, _, hQ3, _, _, b3⟩ | ⟨z, hz, rfl, b3⟩)⟩
    · have hB3 : Below w.heap.size w w3 := hB2.trans (b3.mono (by omega))
      have kn := next_any w3 (w.heap.size + 1) gb (w.heap.size + 1) st hQ3
      have hnm : nmTo st 78 = N := by rw [hsim.nm 78 (Nat.le_refl _), ← HN.out.1, walk_yes hR (by omega)]; rfl
      rw [hnm] at kn
      have hr3 := (b3.block w.heap.size (by omega)).trans hr2
      clear ka hR
      go_wp2_with (go_at_call 14; fail)
      refine kn.mono ?_
      rintro e w4 ⟨a, c, rfl, ho, b4⟩
      have hB4 : Below w.heap.size w w4 := hB3.trans (b4.mono hB3.size)
      have hr4 := (b4.block w.heap.size (lt_of_mapblock hr3)).trans hr3
      have c4 := one_cellG hr4
      have f4 : w4.frozen? ⟨w.heap.size, 0, none⟩ = false := frozen_of_row _ _ _ _ _ hr4
      have hs3 := lt_of_mapblock hr3
      obtain ⟨nn, hnn⟩ : ∃ nn, N.length = nn := ⟨_, rfl⟩
      rw [hnn] at ho ⊢
      clear kn
      go_wp2_with fail
      have hr5 : (w4.setCell ⟨w.heap.size, 0, none⟩ (.slice a nn c)).heap[w.heap.size]? = some (.cells #[.slice a nn c] 22 (0, 0)) := heap_setCell_same _ _ 0 _ _ _ hr4
      have hB5 : Below w.heap.size w (w4.setCell ⟨w.heap.size, 0, none⟩ (.slice a nn c)) := hB4.setCell (Nat.le_refl _) _
      have ho5 : (w4.setCell ⟨w.heap.size, 0, none⟩ (.slice a nn c)).ownsRow w.heap.size 3 1 (.slice a nn c) nn (N.map (Value.int .i64)) := own_le (ownsRow_setCell_below (a := ⟨w.heap.size, 0, none⟩) ho (by show w.heap.size < w3.heap.size; omega) _) (by omega)
      refine leaves_cons (f := 11) (args := #[.pointer (some ⟨w.heap.size, 0, none⟩)]) (by simp) (by simp [go_sem]) ?_
      refine (catchI ⟨w.heap.size, 0, none⟩ _).mono ?_
      rintro e u' w'' ⟨rfl, rfl, rfl⟩
      have hBa := (Below.refl (w4.setCell ⟨w.heap.size, 0, none⟩ (.slice a nn c)).heap.size (w4.setCell ⟨w.heap.size, 0, none⟩ (.slice a nn c))).alloc (Nat.le_refl _) (.cells #[.int .i64 0] 36 (0, 0))
      refine ⟨_, res_slc rfl _ _ w.heap.size a nn c rfl ((hBa.block _ (lt_of_mapblock hr5)).trans hr5), a, c, by rw [hnn], by rw [hnn]; exact own_keep ho5 hBa, hB5.trans (hBa.mono hB5.size)⟩
    · have hN0 : N = [] := by rw [← HN.out.1]; exact walk_no hz (by omega)
      have hB3 : Below w.heap.size w w3 := hB2.trans (b3.mono (by omega))
      have hr3 := (b3.block w.heap.size (by omega)).trans hr2
      refine leaves_cons (f := 11) (args := #[.pointer (some ⟨w.heap.size, 0, none⟩)]) (by simp) (by simp [go_sem]) ?_
      refine (catchP ⟨w.heap.size, 0, none⟩ (.slice none 0 0) z w3 (one_cellG hr3) (frozen_of_row _ _ _ _ _ hr3) (lt_of_mapblock hr3)).mono ?_
      rintro e u' w'' ⟨rfl, rfl, rfl⟩
      have hr4 : ((w3.alloc (.cells #[.int .i64 z] 36 (0, 0))).setCell ⟨w.heap.size, 0, none⟩ (.slice none 0 0)).heap[w.heap.size]? = some (.cells #[.slice none 0 0] 22 (0, 0)) := heap_setCell_same _ _ 0 _ _ _ ((Below.heap_alloc _ _ _ (lt_of_mapblock hr3)).trans hr3)
      exact ⟨_, res_slc rfl _ _ w.heap.size none 0 0 rfl hr4, none, 0, by rw [hN0]; rfl, by rw [hN0]; exact World.ownsRow_nil _ _ _ _, (hB3.alloc hB3.size _).setCell (Nat.le_refl _) _⟩
end Go.Proofs.YtdlhfiheingibaaGreatDoor

namespace Go.Proofs.YtdlhfiheingibaaGreatDoor
open Go.RowKit Go.Maps Go.WideMaps
set_option linter.unusedVariables false

set_option maxRecDepth 100000 in
set_option maxHeartbeats 3200000 in
theorem next_walk (w : World) (s : ByteArray) (hs : s.size ≤ 9223372036854775807) (hL : Lay w) (h9 : 10 ≤ w.heap.size) (tt : TypeId) (fr : Nat × Nat) (hG : w.heap[1]? = some (.cells powV tt fr)) :
    Calls Tryz.prog 3 #[.string s] w fun e w' => e = .returned (.bool true) ∧ Below w.heap.size w w' := by
  by_cases hbig : 1048576 < s.size
  · have hi : (1048576 : Int) < (s.size : Int) := by omega
    go_enter Tryz.func3, Tryz.ntmps3
    go_wp2_with fail
    go_ret
    exact ⟨rfl, Below.refl _ _⟩
  · have hi : ¬ (1048576 : Int) < (s.size : Int) := by omega
    obtain ⟨R, hR⟩ : ∃ R, nextF s = R := ⟨_, rfl⟩
    obtain ⟨m, hm⟩ : ∃ m, R.length = m := ⟨_, rfl⟩
    have hm3 : m ≤ 78 := by rw [← hm, ← hR]; exact nextF_len s
    have HR : Hid (R.length = m) := hm
    have HE : Hid (∀ W, Below w.heap.size w W → Calls Tryz.prog 5 #[.string s] W fun e w' => ∃ g k, e = .returned (.slice g m k) ∧ w'.ownsRow W.heap.size 3 1 (.slice g m k) R.length (R.map (Value.int .i64)) ∧ Below W.heap.size W w') := fun W hW => by
      have := implNext_any W s hs (hL.below hW (Nat.le_refl _)) (by have := hW.size; omega) tt fr ((hW.block _ (lt_of_mapblock hG)).trans hG)
      rw [hR] at this
      rw [hm] at this ⊢
      exact this
    have kp := specNext_any w s hs
    rw [hR] at kp
    have keq := fun (W : World) g1 k1 gw kw (h1 : IntsAt W (.slice g1 m k1) R) (h2 : IntsAt W (.slice gw m kw) R) => eqIntS_any W (.slice g1 m k1) (.slice gw m kw) R h1 h2 (by rw [hm]; omega)
    rw [hm] at kp
    clear hL hG hR hm
    go_enter Tryz.func3, Tryz.ntmps3
    go_wp2_with (go_at_call 4; fail)
    refine kp.mono ?_
    rintro e w1 ⟨gw, kw, rfl, ow, hb1⟩
    have iw : IntsAt w1 (.slice gw m kw) R := own_ints2 (by rw [HR.out]; exact ow)
    clear kp ow
    go_wp2_with (go_at_call 5; fail)
    refine (HE.out w1 hb1).mono ?_
    rintro e w2 ⟨gg, kg, rfl, og, hb2⟩
    have hB2 : Below w.heap.size w w2 := hb1.trans (hb2.mono hb1.size)
    have iw2 := iw.below hb2
    go_wp2_with (go_at_call 6; fail)
    refine (keq w2 _ _ _ _ (own_ints2 og) iw2).mono ?_
    rintro e w3 ⟨rfl, hb3⟩
    have og3 := own_keep og hb3
    have hB3 : Below w.heap.size w w3 := hB2.trans (hb3.mono hB2.size)
    have hz : Hid (w.heap.size ≤ w1.heap.size ∧ w1.heap.size ≤ w2.heap.size ∧ w2.heap.size ≤ w3.heap.size) := ⟨hb1.size, hb2.size, hb3.size⟩
    have b13 : Below w1.heap.size w1 w3 := hb2.trans (hb3.mono hb2.size)
    clear og iw2 hb2 hb3 hB2
    go_wp2_with (go_at_call 7; fail)
    refine (markIntS_any w3 R 1 w1.heap.size _ (by omega) (by rw [HR.out]; omega) og3).mono ?_
    rintro e w4 ⟨rfl, og4, hg4⟩
    obtain ⟨q1, q2, q3⟩ := hz.out
    have b14 : Below w1.heap.size w1 w4 := b13.grown hg4 b13.size (fun g hg => (og3.lt g hg).1)
    have hB4 : Below w.heap.size w w4 := hb1.trans (b14.mono q1)
    have iw4 := iw.below b14
    rw [HR.out] at og4 ⊢
    have in4 : IntsAt w4 (.slice gg m kg) (mki 1 m) := own_ints2 (by rw [mki_len]; exact og4)
    clear og3 og4 hg4 b13 iw
    obtain ⟨Y, hY⟩ : ∃ Y : Int, ((1 + m : Nat) : Int) = Y := ⟨_, rfl⟩
    have hY0 : ¬ Y < 0 := by omega
    rw [hY]
    have kh := fun (W : World) (hW : IntsAt W (.slice gg m kg) (mki 1 m)) => heldIntS_any W (.slice gg m kg) 1 m (by omega) (by omega) hW
    rw [hY] at kh
    clear hY
    go_wp2_with (go_at_call 8; fail)
    refine (kh w4 in4).mono ?_
    rintro e w5 ⟨rfl, h5⟩; subst w5
    go_wp2_with (go_at_call 5; fail)
    refine (HE.out w4 hB4).mono ?_
    rintro e w6 ⟨gh, kh2, rfl, oh, hb6⟩
    have iw6 := iw4.below hb6
    have in6 := in4.below hb6
    have hB6 : Below w.heap.size w w6 := hB4.trans (hb6.mono hB4.size)
    clear iw4 in4 b14
    go_wp2_with (go_at_call 6; fail)
    refine (keq w6 _ _ _ _ (own_ints2 oh) iw6).mono ?_
    rintro e w7 ⟨rfl, hb7⟩
    have in7 := in6.below hb7
    have hB7 : Below w.heap.size w w7 := hB6.trans (hb7.mono hB6.size)
    clear iw6 in6 oh
    go_wp2_with (go_at_call 8; fail)
    refine (kh w7 in7).mono ?_
    rintro e w8 ⟨rfl, h8⟩; subst w8
    go_wp2_with fail
    go_ret
    exact ⟨rfl, hB7⟩
end Go.Proofs.YtdlhfiheingibaaGreatDoor

namespace Go.Proofs.YtdlhfiheingibaaGreatDoor
open Go.ChangeShapes Go.WideShapes Go.ChangeAt Go.WideMaps Go.WideElems Go.RowKit
open Go.ChangeMaps (open_string shut_string)
set_option linter.unusedVariables false

theorem trodVars4 {H : Type} {enc : TypeId × Value → H} {P : Program} {w : World} {sp : Nat → Bool} {a b c d : String} {gs : List (DataW H)} {ps : List MemPlace} (h : DataW.TrodVars enc P w sp [a, b, c, d] gs ps) : ∃ g1 g2 g3 g4, gs = [g1, g2, g3, g4] := by
  match gs, h with
  | [g1, g2, g3, g4], _ => exact ⟨g1, g2, g3, g4, rfl⟩
  | [], h => exact h.elim
  | [_], h => obtain ⟨_, _, _, _, _, _, _, _, _, _, h, _⟩ := h; exact h.elim
  | [_, _], h => obtain ⟨_, _, _, _, _, _, _, _, _, _, h, _⟩ := h; obtain ⟨_, _, _, _, _, _, _, _, _, _, h, _⟩ := h; exact h.elim
  | [_, _, _], h => obtain ⟨_, _, _, _, _, _, _, _, _, _, h, _⟩ := h; obtain ⟨_, _, _, _, _, _, _, _, _, _, h, _⟩ := h; obtain ⟨_, _, _, _, _, _, _, _, _, _, h, _⟩ := h; exact h.elim
  | _ :: _ :: _ :: _ :: _ :: _, h => obtain ⟨_, _, _, _, _, _, _, _, _, _, h, _⟩ := h; obtain ⟨_, _, _, _, _, _, _, _, _, _, h, _⟩ := h; obtain ⟨_, _, _, _, _, _, _, _, _, _, h, _⟩ := h; obtain ⟨_, _, _, _, _, _, _, _, _, _, h, _⟩ := h; exact h.elim
theorem door_met_next (os : Os) (args : Array Value) : laidMetH Tryz.prog Rows.fnExactNextRow.laid ((World.doorLaid Tryz.prog 102 os).forCall (fun _ _ => 0) ⟨#[], args, []⟩).memory :=
  laidMetH_of_parts3 (fuel := 8) (laidMet_of_run' 8 (by kernel_rfl) (by kernel_rfl)) (by kernel_rfl) (by kernel_rfl)

set_option maxRecDepth 100000 in
theorem lifted_next (os : Os) (started : os.Started) (H : Type) (enc : TypeId × Value → H) :
    ReturnsInHanded {} Tryz.checked os 3 .any (fun w args => (Rows.fnExactNextSpec.pre enc Tryz.prog Tryz.f3 [] false w args ∧ laidMetH Tryz.prog Rows.fnExactNextRow.laid w) ∧ sizedMet enc Tryz.prog Tryz.f3 (OpenSpec.ofChange Rows.fnExactNextSpec) false w args)
      (Rows.fnExactNextSpec.post enc Tryz.prog Tryz.f3 false true false false) := by
  refine returnsInHanded_of_change_and (C := Tryz.checked) (X := fun w _ => laidMetH Tryz.prog Rows.fnExactNextRow.laid w) (fun _ _ _ hh h => h.of_heap hh) own started (by kernel_rfl) Tryz.func3
    (ChangeSpec.witness_shaped (enc := enc) (C := Tryz.checked) (os := os) (X := fun w _ => laidMetH Tryz.prog Rows.fnExactNextRow.laid w) false (World.doorLaid Tryz.prog 102 os) #[.string ⟨#[]⟩] 8 rfl (World.shaped_of_RefB (by kernel_rfl) (by kernel_rfl)) (by kernel_rfl) (by kernel_rfl) (by kernel_rfl) (door_met_next os _)) ?_
  intro W base args ds gs before hval0 hW _ _ hL _
  have hval : ∀ (j : Nat) t v, Tryz.f3.params[j]? = some t → args[j]? = some v → Value.okWide Tryz.prog W .any base t v := hval0
  have hW' := hW
  obtain ⟨p, q, hA0, hV, rfl, hfz, hnd⟩ := hW
  have hA : DataW.TrodAll enc Tryz.prog W 0 (fun _ => true) true Tryz.f3.params.toList args.toList ds p := hA0
  rw [Tryz.params3] at hA hval
  obtain ⟨v0, vs0, d0, ds0, p0, q0, hargs, rfl, rfl, h0, r0⟩ := trodAll_cons hA
  obtain ⟨rfl, rfl, rfl⟩ := trodAll_nil r0
  obtain rfl : args = #[v0] := by cases args; simp_all
  obtain ⟨g1, g2, g3, g4, rfl⟩ := trodVars4 hV
  have k0 := h0
  have lt0 : ∀ x ∈ p0, x.block < W.heap.size := by obtain ⟨m, hm⟩ := k0; exact DataW.trod_lt m _ _ _ hm
  obtain ⟨a0, rfl, rfl, rfl, w0⟩ := open_string Tryz.underlying9 (hval 0 9 v0 rfl rfl) h0
  have hLay : Lay W := lay_of (hL.filter fun x => x.1 != "loop.example/warp/impl.powers")
  obtain ⟨tt, fr, hG⟩ := pows_of (hL.filter fun x => x.1 == "loop.example/warp/impl.powers")
  clear hA0 hval0
  have h8 : 10 ≤ W.heap.size := by
    have hb := hLay.brj
    unfold World.cell? at hb
    rcases Nat.lt_or_ge 9 W.heap.size with h | h
    · exact h
    · rw [Array.getElem?_eq_none h] at hb; simp at hb
  refine (next_walk W a0 (by unfold maxLen at w0; omega) hLay h8 tt fr hG).mono fun e W' ⟨he, bel⟩ => ?_
  subst he
  exact ⟨_, rfl, _, _, _, [], _, q, hW', trodAll_mk1 (shut_bool Tryz.underlying4 _), (trodAll_cons_mk (Below.trod laidOut (by kernel_rfl) (of_decide_eq_true (by kernel_rfl)) k0 bel lt0) trodAll_mk0), Below.trodVars laidOut bel (by kernel_rfl) hV, bel.frame _, fun h => by cases h⟩

theorem fnExactNext_row : Rows.FnExactNextSaid :=
  OpenClaim.holds_of_wide 3 Tryz.f3 rfl rfl rfl rfl rfl rfl rfl ⟨rfl, rfl, rfl, rfl, rfl⟩ rfl rfl rfl rfl rfl (by kernel_rfl) Tryz.func3 (by kernel_rfl)
    (of_decide_eq_true (by kernel_rfl)) (by unfold Func.isWrapper; first | (rw [if_pos (by decide +kernel)]; kernel_rfl) | (rw [if_neg (by decide +kernel)]; exact ⟨rfl, rfl⟩))
    (fun os started H enc _ => lifted_next os started H enc)

theorem fnExactNext_holds : Rows.FnExactNextCardSaid :=
  Claim7.holds_tied_plain_at .later [] Rows.fnExactNextCard.laidKinds true Rows.fnExactNextCard.stood.harness true
    fnExactNext_row (fun _ h => by cases h) (by kernel_rfl) (fun _ h => by cases h) fnExactNext_row_tie rfl ⟨rfl, rfl⟩ (by kernel_rfl) rfl
    (fun f fn hf hfn => by
      obtain rfl : f = 3 := Option.some.inj ((show Tryz.prog.funcNamed Rows.fnExactNextRow.func = some 3 by kernel_rfl).symm.trans hf) |>.symm
      obtain rfl : fn = Tryz.f3 := (Option.some.inj (Tryz.func3.symm.trans hfn)).symm
      exact ⟨by kernel_rfl, fun j t ht => by
        rw [Tryz.params3] at ht
        have hm : t ∈ [9] := by simpa using Array.mem_of_getElem? ht
        have hall : ([9].all fun u => !Tryz.prog.wantsStandIn u) = true := by kernel_rfl
        exact (show Tryz.prog.wantsStandIn t = false by simpa using List.all_eq_true.1 hall t hm)⟩)
    (by kernel_rfl)
#print axioms fnExactNext_holds
end Go.Proofs.YtdlhfiheingibaaGreatDoor
