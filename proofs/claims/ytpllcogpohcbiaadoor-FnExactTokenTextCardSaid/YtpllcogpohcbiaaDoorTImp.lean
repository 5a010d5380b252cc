import Derived.Test.YtpllcogpohcbiaaDoorTTok
import Derived.Deep.RegionWith
namespace Go.Proofs.YtpllcogpohcbiaaDoor
open Go.RowKit Go.Maps Go.WideMaps
set_option linter.unusedVariables false

set_option maxRecDepth 100000 in
set_option maxHeartbeats 3200000 in
theorem implTok1 (f t l n : Int) (x : ByteArray) (hm : x.size ≤ 1048576) (w : World) (hL : Lay w) : Calls Tryd.prog 16 #[.agg #[.int .i64 1, .int .i64 f, .int .i64 t, .int .i64 l, .int .i64 n, .string x]] w fun e w' => e = .returned (.string (tokS 1 n x)) ∧ Below w.heap.size w w' := by
  have hb0 : Below w.heap.size w (w.alloc (.cells #[.int .i64 1, .int .i64 f, .int .i64 t, .int .i64 l, .int .i64 n, .string x] 30)) := (Below.refl _ w).alloc (Nat.le_refl _) _
  have hT0 : TkAt w.heap.size (w.alloc (.cells #[.int .i64 1, .int .i64 f, .int .i64 t, .int .i64 l, .int .i64 n, .string x] 30)) 1 f t l n x := heap_alloc_new w _
  have hL0 := hL.below hb0 (Nat.le_refl _)
  have hlt : w.heap.size < (w.alloc (.cells #[.int .i64 1, .int .i64 f, .int .i64 t, .int .i64 l, .int .i64 n, .string x] 30)).heap.size := lt_of_block hT0
  rw [show tokS 1 n x = if nmok x = true then x else emptyS from rfl]
  by_cases h40 : x.size ≤ 40
  · have h40i : (x.size : Int) ≤ 40 := by omega
    go_enter Tryd.func16, Tryd.ntmps16
    go_upto_region 3 with fail
    generalize w.alloc (.cells #[.int .i64 1, .int .i64 f, .int .i64 t, .int .i64 l, .int .i64 n, .string x] 30) = W at hb0 hT0 hL0 hlt
    obtain ⟨t0, t1, t2, t3, t4, t5, tf⟩ := tk_cells hT0
    obtain ⟨tt, fr, hG⟩ := hL0.tabs.word
    go_cut [16] from 5 (fun s16 wx => s16 = .bool (nmok x) ∧ TkAt w.heap.size wx 1 f t l n x ∧ Below w.heap.size w wx)
    case first =>
      have hTd : TkAt w.heap.size W.drew 1 f t l n x := hT0
      have hltd : w.heap.size < W.drew.heap.size := hlt
      have hbd : Below w.heap.size w W.drew := hb0.drew
      have hnm : decide (lettB (bat x 0) = true ∧ nmE x (x.size + 1) 0 = x.size ∧ isWd x = false) = nmok x := by unfold nmok; simp [h40]
      have kn := fun (b : Nat) (w : World) (hown : w.ownsMap Tryd.prog 9 (plainElem (H := Unit) Tryd.prog 3) b 22 (wkD 22)) => isName_any x (by omega) b w hown
      rw [hnm] at kn
      obtain ⟨B, hB⟩ : ∃ B, nmok x = B := ⟨_, rfl⟩
      rw [hB] at kn
      have HB : Hid (nmok x = B) := hB
      clear hnm hB
      go_region_with (first | (go_at_call 21; refine (wordKinds_any (H := Unit) _ fr tt (by exact hG)).mono ?_; rintro e w1 ⟨rfl, hown1, hb1⟩; have hT1 := hTd.below hb1 hltd; have hbb := hbd.trans (hb1.mono (Nat.le_of_lt hltd)); have hc5 := (tk_cells hT1).2.2.2.2.2.1; clear hb1) | (go_at_call 33; refine (kn _ _ hown1).mono ?_; rintro e w2 ⟨rfl, hw2⟩; obtain rfl := hw2.symm))
      all_goals
        go_wp2_with fail
        go_meet
        case rel => exact ⟨by rw [HB.out], by assumption, by assumption⟩
    case rest =>
      obtain ⟨rfl, hT1, hb1⟩ := hcut
      obtain ⟨B, hB⟩ : ∃ B, nmok x = B := ⟨_, rfl⟩
      have hx1 : w.heap.size < wc.heap.size := lt_of_block hT1
      clear t0 t1 t2 t3 t4 t5 tf hT0 hb0 hL0 hG hlt
      obtain ⟨t0, t1, t2, t3, t4, t5, tf⟩ := tk_cells hT1
      have kc := fun w => clone_any x (by omega) w
      cases hN : nmok x with
      | true =>
        clear hB
        go_wp2_with (go_at_call 34; refine (kc _).mono ?_; rintro e w2 ⟨rfl, hb2⟩)
        go_ret
        exact ⟨rfl, hb1.trans (hb2.mono (Nat.le_of_lt hx1))⟩
      | false =>
        clear hB
        go_wp2_with (go_at_call 34; refine (kc _).mono ?_; rintro e w2 ⟨rfl, hb2⟩)
        all_goals
          go_ret
          exact ⟨rfl, hb1⟩
  · have h40i : ¬ (x.size : Int) ≤ 40 := by omega
    have hno : nmok x = false := by unfold nmok; simp [h40]
    rw [hno]
    go_enter Tryd.func16, Tryd.ntmps16
    go_upto_region 3 with fail
    generalize w.alloc (.cells #[.int .i64 1, .int .i64 f, .int .i64 t, .int .i64 l, .int .i64 n, .string x] 30) = W at hb0 hT0 hL0 hlt
    obtain ⟨t0, t1, t2, t3, t4, t5, tf⟩ := tk_cells hT0
    go_quiet (fail)
    go_wp2
    go_ret
    exact ⟨rfl, bel_dr hb0 _⟩

set_option maxRecDepth 100000 in
set_option maxHeartbeats 3200000 in
theorem implTok (k f t l n : Int) (x : ByteArray) (k0 : -9223372036854775808 ≤ k) (k1 : k ≤ 9223372036854775807) (h0 : -9223372036854775808 ≤ n) (h1 : n ≤ 9223372036854775807) (hm : x.size ≤ 1048576) (w : World) (hL : Lay w) : Calls Tryd.prog 16 #[.agg #[.int .i64 k, .int .i64 f, .int .i64 t, .int .i64 l, .int .i64 n, .string x]] w fun e w' => e = .returned (.string (tokS k n x)) ∧ Below w.heap.size w w' := by
  have hb0 : Below w.heap.size w (w.alloc (.cells #[.int .i64 k, .int .i64 f, .int .i64 t, .int .i64 l, .int .i64 n, .string x] 30)) := (Below.refl _ w).alloc (Nat.le_refl _) _
  have hT0 : TkAt w.heap.size (w.alloc (.cells #[.int .i64 k, .int .i64 f, .int .i64 t, .int .i64 l, .int .i64 n, .string x] 30)) k f t l n x := heap_alloc_new w _
  have hsz : w.heap.size ≤ (w.alloc (.cells #[.int .i64 k, .int .i64 f, .int .i64 t, .int .i64 l, .int .i64 n, .string x] 30)).heap.size := hb0.size
  have hlt : w.heap.size < (w.alloc (.cells #[.int .i64 k, .int .i64 f, .int .i64 t, .int .i64 l, .int .i64 n, .string x] 30)).heap.size := lt_of_block hT0
  have hL0 := hL.below hb0 (Nat.le_refl _)
  by_cases e1 : k = 1
  · subst e1; exact implTok1 f t l n x hm w hL
  have g1 : (k == 1) = false := by rw [beq_eq_false_iff_ne]; exact e1
  by_cases e2 : k = 2
  · subst e2
    have ka := fun w hL => intText_any n h0 h1 w hL
    rw [show tokS 2 n x = intS n from rfl]
    generalize intS n = R at ka
    go_enter Tryd.func16, Tryd.ntmps16
    go_wp2_with (go_at_call 35; refine (ka _ hL0).mono ?_; rintro e w' ⟨rfl, hb⟩; have hbb := hb0.trans (hb.mono hsz); clear hb0 hb hT0 hsz hlt hL0)
    go_ret
    exact ⟨rfl, hbb⟩
  have g2 : (k == 2) = false := by rw [beq_eq_false_iff_ne]; exact e2
  by_cases e3 : k = 3
  · subst e3
    rw [show tokS 3 n x = if fok x = true then x else emptyS from rfl]
    have kc := fun w => clone_any x (by omega) w
    by_cases h40 : x.size ≤ 40
    · have h40i : (x.size : Int) ≤ 40 := by omega
      have ka := fun w hL => isFloat_any x (by omega) w hL
      have hF : fok x = fltI x := by unfold fok; rw [decide_eq_true h40, Bool.true_and]
      rw [hF]
      generalize fltI x = B at ka
      have hst : ∀ w', Below (w.alloc (.cells #[.int .i64 3, .int .i64 f, .int .i64 t, .int .i64 l, .int .i64 n, .string x] 30)).heap.size (w.alloc (.cells #[.int .i64 3, .int .i64 f, .int .i64 t, .int .i64 l, .int .i64 n, .string x] 30)) w' → w'.cell? ⟨w.heap.size, 5, none⟩ = some (.string x) := fun w' hb => (tk_cells (hT0.below hb hlt)).2.2.2.2.2.1
      have hE0 := hL0.errs
      clear hF hL0
      cases B with
      | true =>
        go_enter Tryd.func16, Tryd.ntmps16
        go_wp2_with (first | (go_at_call 36; refine (ka _ hE0).mono ?_; rintro e w' ⟨rfl, hb⟩; have hc5 := hst _ hb; have hbb := hb0.trans (hb.mono hsz); have hsz2 := hbb.size; clear hst hb0 hb hT0 hsz hlt hE0 ka) | (go_at_call 34; refine (kc _).mono ?_; rintro e w2 ⟨rfl, hb2⟩))
        go_ret
        exact ⟨rfl, hbb.trans (hb2.mono hsz2)⟩
      | false =>
        go_enter Tryd.func16, Tryd.ntmps16
        go_wp2_with (first | (go_at_call 36; refine (ka _ hE0).mono ?_; rintro e w' ⟨rfl, hb⟩; have hc5 := hst _ hb; have hbb := hb0.trans (hb.mono hsz); have hsz2 := hbb.size; clear hst hb0 hb hT0 hsz hlt hE0 ka) | (go_at_call 34; refine (kc _).mono ?_; rintro e w2 ⟨rfl, hb2⟩))
        go_ret
        exact ⟨rfl, hbb⟩
    · have h40i : ¬ (x.size : Int) ≤ 40 := by omega
      have hF : fok x = false := by unfold fok; rw [decide_eq_false h40, Bool.false_and]
      rw [hF]
      clear hF
      go_enter Tryd.func16, Tryd.ntmps16
      go_wp2
      go_ret
      exact ⟨rfl, hb0⟩
  have g3 : (k == 3) = false := by rw [beq_eq_false_iff_ne]; exact e3
  by_cases e4 : k = 4
  · subst e4
    have ka := fun w => implQ_any x hm w
    rw [show tokS 4 n x = quS x from rfl]
    generalize quS x = R at ka
    go_enter Tryd.func16, Tryd.ntmps16
    go_wp2_with (go_at_call 7; refine (ka _).mono ?_; rintro e w' ⟨rfl, hb⟩; have hbb := hb0.trans (hb.mono hsz); clear hb0 hb hT0 hsz hlt hL0)
    go_ret
    exact ⟨rfl, hbb⟩
  have g4 : (k == 4) = false := by rw [beq_eq_false_iff_ne]; exact e4
  have hS : tokS k n x = fixI k := by unfold tokS; rw [if_neg e1, if_neg e2, if_neg e3, if_neg e4]
  rw [hS]
  have ka := fun w hT => fixedText_any k k0 k1 w hT
  generalize fixI k = R at ka
  clear e1 e2 e3 e4 hS
  have hTb := hL0.tabs
  clear hL0
  go_enter Tryd.func16, Tryd.ntmps16
  go_wp2_with (go_at_call 37; refine (ka _ hTb).mono ?_; rintro e w' ⟨rfl, hw'⟩; obtain rfl := hw'.symm)
  go_ret
  exact ⟨rfl, hb0⟩
end Go.Proofs.YtpllcogpohcbiaaDoor
