import Derived.Test.YtpllcogpohcbiaaDoorRLaw
import Derived.Test.YtpllcogpohcbiaaDoorSWord
import Derived.Deep.Cut
namespace Go.Proofs.YtpllcogpohcbiaaDoor
open Go.RowKit
set_option linter.unusedVariables false
attribute [local go_sem] Oper.semAt_some

theorem no_dash {s : ByteArray} (h : bat s 0 = 34) (hl : 0 < s.size) : ¬ (2 ≤ s.size ∧ (s.extract 0 2).toList = [45, 45]) := by
  rintro ⟨_, h2⟩
  rw [Lib.extract_toList] at h2
  have h3 : s.data.toList[0]? = some 45 := by
    have : ((s.data.toList.drop 0).take (2 - 0))[0]? = some 45 := by rw [h2]; rfl
    simpa using this
  unfold bat at h
  rw [dif_pos hl] at h
  have h4 : s.data.toList[0]? = some s[0] := by
    rw [List.getElem?_eq_getElem (by simpa using hl)]; rfl
  rw [h3] at h4
  have h5 : s[0] = 45 := by simpa using h4.symm
  rw [h5] at h
  exact absurd h (by decide)

set_option maxRecDepth 100000 in
set_option maxHeartbeats 3200000 in
theorem tokens_one (n : Nat) (l b B : Nat) (s : ByteArray) (hm : s.size ≤ 70000) (m : Value) (c : List Int) (h34 : bat s 0 = 34) (hlen : 0 < s.size) (hrd : rdStr s (s.size + 1) 1 [] = (true, s.size, c)) (hbB : b < B)
    (T : Bool → World → Prop) (hT : ∀ k W W', T k W → W.grownBy W' (some b) → T k W') (BK : World → Prop) (hBK : ∀ W W', KeepsFrom B W W' → BK W → BK W')
    (hY : ∀ W, ScAt b W s m s.size 1 false → T false W → BK W → YieldAt Fence.wide (n - 1) Tryd.prog l #[.agg #[.int .i64 4, .int .i64 0, .int .i64 (s.size : Int), .int .i64 1, .int .i64 0, .string (strI c)]] W fun e W' => e = .returned (.bool true) ∧ (ScAt b W' s m s.size 1 false ∧ T true W') ∧ BK W')
    (W : World) (hS : ScAt b W s m 0 1 false) (hT0 : T false W) (hB0 : BK W) (hWB : B ≤ W.heap.size) :
    CallsIn Fence.wide n Tryd.prog 22 #[.pointer (some ⟨b, 0, none⟩), .func (.yield l) #[] #[]] W fun e W' => (∃ v, e = .returned v) ∧ (ScAt b W' s m s.size 1 false ∧ T true W') ∧ BK W' := by
  obtain ⟨c0, c1, c2, c3, c4, f2, f3, f4⟩ := sc_cells hS
  have i1 : ∀ w : World, (Instr.index 9 (.string s) (.int .i64 0)).run Tryd.prog w = .ok (.int .u8 34) w := fun w => by rw [← h34]; exact idx_run (i := 0) hlen w
  have hpre : ¬ (2 ≤ s.size ∧ (s.extract 0 2).toList = [45, 45]) := no_dash h34 hlen
  have hsz0 : s.size ≤ 100000 := by omega
  have hB34 : blankB 34 = false := by decide
  have kBlank : ∀ w : World, Calls Tryd.prog 39 #[.int .u8 34] w fun e w' => e = .returned (.bool false) ∧ w' = w := fun w => (isBlank_any 34 w).mono (by rintro e w' ⟨rfl, rfl⟩; exact ⟨by rw [hB34], rfl⟩)
  have kPre : ∀ w : World, Calls Tryd.prog 40 #[.string s, .string { data := #[45, 45] }] w fun e w' => e = .returned (.bool false) ∧ w' = w := fun w => pre2_no s hpre hsz0 w
  have kTok : ∀ w : World, ScAt b w s m 0 1 false → Calls Tryd.prog 41 #[.pointer (some ⟨b, 0, none⟩)] w fun e w' => e = .returned (.agg #[.int .i64 4, .int .i64 0, .int .i64 (s.size : Int), .int .i64 1, .int .i64 0, .string (strI c)]) ∧ w.grownBy w' (some b) ∧ ScAt b w' s m s.size 1 false := fun w hw => by
    have := token_str s hm b w m 0 1 hlen h34 hw (by rw [hrd])
    rw [hrd] at this
    exact this
  clear hB34 hrd
  clear hpre hsz0
  have hbW : b < W.heap.size := lt_of_block hS
  refine callsIn_wide.2 ?_
  go_enter Tryd.func22, Tryd.ntmps22
  go_wp2
  go_step3
  go_wp2
  go_step3
  go_wp2
  refine wp_loop_rounds 2 ?_
  rw [rounds_succ]
  go_wp2_with fail
  go_quiet (fail)
  go_wp2_with fail
  have sq : ∀ {W : World} (q : Nat), (ScAt b W s m 0 1 false ∧ T false W ∧ BK W ∧ B ≤ W.heap.size) → (ScAt b (W.drewN q) s m 0 1 false ∧ T false (W.drewN q) ∧ BK (W.drewN q) ∧ B ≤ (W.drewN q).heap.size) := fun q h =>
    ⟨h.1, hT _ _ _ h.2.1 (gr_drewN (gr_refl _ b) q), hBK _ _ (KeepsFrom.of_grownBy (gr_drewN (gr_refl _ b) q) (fun j e => by cases e; exact hbB)) h.2.2.1, h.2.2.2⟩
  have hq := sq nq ⟨hS, hT0, hB0, hWB⟩
  clear c0 c1 c2 c3 c4 f2 f3 f4 hS hT0 hB0 hWB hbW
  generalize W.drewN nq = W1 at hq ⊢
  obtain ⟨c0, c1, c2, c3, c4, f2, f3, f4⟩ := sc_cells hq.1
  go_quiet ((go_at_call 39; exact Calls.quiet_of_same (kBlank _)))
  go_wp2_with fail
  have hq2 := sq nq hq
  clear c0 c1 c2 c3 c4 f2 f3 f4 hq
  generalize W1.drewN nq = W2 at hq2 ⊢
  obtain ⟨c0, c1, c2, c3, c4, f2, f3, f4⟩ := sc_cells hq2.1
  go_quiet ((go_at_call 40; exact Calls.quiet_of_same (kPre _)))
  go_upto_region 8 with ((go_at_call 41; refine (kTok _ (by exact hq2.1)).mono ?_; rintro e w1 ⟨rfl, hg1, hS1⟩))
  have hgr : W2.grownBy w1 (some b) := gr_trans (gr_drewN (gr_refl W2 b) _) hg1
  have hT1 := hT _ _ _ hq2.2.1 hgr
  have hB1 := hBK _ _ (KeepsFrom.of_grownBy hgr (fun j e => by cases e; exact hbB)) hq2.2.2.1
  have hbw1 : b < w1.heap.size := lt_of_block hS1
  have hS3 : ScAt b (w1.alloc (.cells #[.int .i64 4, .int .i64 0, .int .i64 (s.size : Int), .int .i64 1, .int .i64 0, .string (strI c)] 30)) s m s.size 1 false := (Below.heap_alloc w1 _ b hbw1).trans hS1
  have hgr3 : w1.grownBy (w1.alloc (.cells #[.int .i64 4, .int .i64 0, .int .i64 (s.size : Int), .int .i64 1, .int .i64 0, .string (strI c)] 30)) (some b) := World.grownBy_alloc w1 _ _
  have hT3 := hT _ _ _ hT1 hgr3
  have hB3 := hBK _ _ (KeepsFrom.of_grownBy hgr3 (fun j e => by cases e; exact hbB)) hB1
  obtain ⟨fn, tmps, assign, body, hy, hR⟩ := hY _ hS3 hT3 hB3
  clear c0 c1 c2 c3 c4 f2 f3 f4
  obtain ⟨c0, c1, c2, c3, c4, f2, f3, f4⟩ := sc_cells hS1
  refine (wpIn_wide (n := n)).1 ?_
  gi_wp2
  refine ⟨fun h => by simp [Fence.wide] at h, hR.mono ?_⟩
  rintro e W4 ⟨rfl, ⟨hS4, hT4⟩, hB4⟩
  clear c0 c1 c2 c3 c4 f2 f3 f4 hy hR
  obtain ⟨c0, c1, c2, c3, c4, f2, f3, f4⟩ := sc_cells hS4
  gi_wp2
  go_wp2_with fail
  rw [rounds_succ]
  go_wp2_with fail
  go_quiet (fail)
  go_wp2
  try rw [Exit.noGoto_normal]
  go_end0
  exact ⟨⟨_, rfl⟩, ⟨hS4.drewN _, hT _ _ _ hT4 (gr_drewN (gr_refl W4 b) _)⟩, hBK _ _ (KeepsFrom.of_grownBy (gr_drewN (gr_refl W4 b) _) (fun j e => by cases e; exact hbB)) hB4⟩
end Go.Proofs.YtpllcogpohcbiaaDoor
