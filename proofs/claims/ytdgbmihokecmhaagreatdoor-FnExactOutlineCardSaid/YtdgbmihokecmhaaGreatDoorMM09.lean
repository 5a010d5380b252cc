import Derived.Test.YtdgbmihokecmhaaGreatDoorMM08
namespace Go.Proofs.YtdgbmihokecmhaaGreatDoor
open Go.RowKit Go.Maps Go.WideMaps
set_option linter.unusedVariables false

theorem l1digit_q {c : Int} {b : Bool} (h : digB c = b) (w : World) : Calls Tryz.prog 70 #[.int .u8 c] w fun e w' => e = .returned (.bool b) ∧ w' = w := (l1digit_any c w).mono fun e w' g => ⟨by rw [g.1, h], g.2.symm⟩
theorem l1look_q (s : ByteArray) (hm : s.size ≤ 1100000) (a : Int) (i : Nat) (ha : a = (i : Int)) (w : World) : Calls Tryz.prog 102 #[.string s, .int .i64 a] w fun e w' => e = .returned (.int .u8 (lk s i)) ∧ w' = w := by
  subst ha; exact (l1look_any s hm i w).mono fun e w' g => ⟨g.1, g.2.symm⟩

set_option maxHeartbeats 400000 in
theorem l1hex_any (c : Int) (h0 : 0 ≤ c) (h1 : c < 256) (w : World) : Calls Tryz.prog 105 #[.int .u8 c] w fun e w' => e = .returned (.int .i64 (hexv c)) ∧ w' = w := by
  unfold hexv
  by_cases hd : digB c = true
  · have kd := fun w => l1digit_q hd w
    have hr := dig_range hd
    rw [if_pos hr]
    clear hd
    go_enter Tryz.func105, Tryz.ntmps105
    go_wp2_with (first | (go_at_call 70; refine (kd _).mono ?_; rintro e w' ⟨rfl, rfl⟩))
    go_ret
    exact ⟨rfl, rfl⟩
  · have hd' : digB c = false := by simpa using hd
    have kd := fun w => l1digit_q hd' w
    have hr : ¬ (48 ≤ c ∧ c ≤ 57) := by simpa [digB] using hd'
    rw [if_neg hr]
    clear hd hd' hr
    rcases (show (97 ≤ c ∧ c ≤ 102) ∨ ¬ 97 ≤ c ∨ (97 ≤ c ∧ ¬ c ≤ 102) by omega) with ⟨g1, g2⟩ | g1 | ⟨g1, g2⟩
    · rw [if_pos ⟨g1, g2⟩]
      go_enter Tryz.func105, Tryz.ntmps105
      go_wp2_with (first | (go_at_call 70; refine (kd _).mono ?_; rintro e w' ⟨rfl, rfl⟩))
      go_ret
      exact ⟨by simp; omega, rfl⟩
    · rw [if_neg (by omega)]
      go_enter Tryz.func105, Tryz.ntmps105
      go_wp2_with (first | (go_at_call 70; refine (kd _).mono ?_; rintro e w' ⟨rfl, rfl⟩))
      go_ret
      exact ⟨rfl, rfl⟩
    · rw [if_neg (by omega)]
      go_enter Tryz.func105, Tryz.ntmps105
      go_wp2_with (first | (go_at_call 70; refine (kd _).mono ?_; rintro e w' ⟨rfl, rfl⟩))
      go_ret
      exact ⟨rfl, rfl⟩
theorem hexv_lk (s : ByteArray) (i : Nat) : hexv (lk s i) = hexv (bat s i) := by
  unfold lk; split
  · rfl
  · rename_i h; rw [bat_out h]; decide
theorem lk_bat {s : ByteArray} {i : Nat} (h : i < s.size) : lk s i = bat s i := by unfold lk; rw [if_pos h]

def hxA (s : ByteArray) (p : Nat) : Value := if (hexN s (p + 2)).2 = true then .agg #[.int .i64 2, .int .i64 p, .int .i64 ((hexN s (p + 2)).1 : Int), .int .i64 0, .int .i64 (wrap64 (hvS s (p + 2) ((hexN s (p + 2)).1 - (p + 2)) : Int)), .string { data := #[] }] else .agg #[.int .i64 2, .int .i64 p, .int .i64 0, .int .i64 0, .int .i64 0, .string { data := #[] }]
def hxF (s : ByteArray) (p : Nat) : Int := if (hexN s (p + 2)).2 = true then -1 else ((hexN s (p + 2)).1 : Int)

set_option maxRecDepth 100000 in
set_option maxHeartbeats 3200000 in
theorem l1hexed_any (s : ByteArray) (hm : s.size ≤ 1100000) (p : Nat) (hp : p + 2 ≤ s.size) (w : World) : Calls Tryz.prog 104 #[.string s, .agg #[.int .i64 2, .int .i64 p, .int .i64 0, .int .i64 0, .int .i64 0, .string { data := #[] }]] w fun e w' => e = .returned (.tuple #[hxA s p, .int .i64 (hxF s p)]) ∧ Below w.heap.size w w' := by
  obtain ⟨A, hA⟩ : ∃ A, hxA s p = A := ⟨_, rfl⟩
  obtain ⟨F, hF⟩ : ∃ F, hxF s p = F := ⟨_, rfl⟩
  rw [hA, hF]
  unfold hxA at hA
  unfold hxF at hF
  unfold hexN at hA hF
  obtain ⟨R, hR⟩ : ∃ R, hxE s (p + 2) = R := ⟨_, rfl⟩
  rw [hR] at hA hF
  unfold hxE at hR
  have HR : Hid (runE hexB s (s.size + 1) (p + 2) = R) := hR
  have HA : Hid ((if (if p + 2 + 16 < R then (p + 2 + 16, false) else (R, decide (p + 2 < R))).2 = true then Value.agg #[.int .i64 2, .int .i64 p, .int .i64 (((if p + 2 + 16 < R then (p + 2 + 16, false) else (R, decide (p + 2 < R))).1 : Nat) : Int), .int .i64 0, .int .i64 (wrap64 (hvS s (p + 2) ((if p + 2 + 16 < R then (p + 2 + 16, false) else (R, decide (p + 2 < R))).1 - (p + 2)) : Int)), .string { data := #[] }] else .agg #[.int .i64 2, .int .i64 p, .int .i64 0, .int .i64 0, .int .i64 0, .string { data := #[] }]) = A) := hA
  have HFF : Hid ((if (if p + 2 + 16 < R then (p + 2 + 16, false) else (R, decide (p + 2 < R))).2 = true then -1 else (((if p + 2 + 16 < R then (p + 2 + 16, false) else (R, decide (p + 2 < R))).1 : Nat) : Int)) = F) := hF
  clear hR hA hF
  have hT0 : TkAt w.heap.size ((w.alloc (.cells #[.int .i64 2, .int .i64 p, .int .i64 0, .int .i64 0, .int .i64 0, .string { data := #[] }] 136)).alloc (.cells #[.int .i64 0, .int .i64 0, .int .i64 0, .int .i64 0, .int .i64 0, .string { data := #[] }] 136)) 2 p 0 0 0 { data := #[] } := (Below.heap_alloc _ _ _ (by simp)).trans (heap_alloc_new w _)
  have hZ0 : TkAt (w.heap.size + 1) ((w.alloc (.cells #[.int .i64 2, .int .i64 p, .int .i64 0, .int .i64 0, .int .i64 0, .string { data := #[] }] 136)).alloc (.cells #[.int .i64 0, .int .i64 0, .int .i64 0, .int .i64 0, .int .i64 0, .string { data := #[] }] 136)) 0 0 0 0 0 { data := #[] } := by
    have := heap_alloc_new (w.alloc (.cells #[.int .i64 2, .int .i64 p, .int .i64 0, .int .i64 0, .int .i64 0, .string { data := #[] }] 136)) (.cells #[.int .i64 0, .int .i64 0, .int .i64 0, .int .i64 0, .int .i64 0, .string { data := #[] }] 136)
    rw [World.size_alloc] at this
    exact this
  have hB0 : Below w.heap.size w ((w.alloc (.cells #[.int .i64 2, .int .i64 p, .int .i64 0, .int .i64 0, .int .i64 0, .string { data := #[] }] 136)).alloc (.cells #[.int .i64 0, .int .i64 0, .int .i64 0, .int .i64 0, .int .i64 0, .string { data := #[] }] 136)) := (((Below.refl _ w).alloc (Nat.le_refl _) _).alloc (by simp) _)
  go_enter Tryz.func104, Tryz.ntmps104
  go_wp2_with fail
  generalize (w.alloc (.cells #[.int .i64 2, .int .i64 p, .int .i64 0, .int .i64 0, .int .i64 0, .string { data := #[] }] 136)).alloc (.cells #[.int .i64 0, .int .i64 0, .int .i64 0, .int .i64 0, .int .i64 0, .string { data := #[] }] 136) = W at hT0 hZ0 hB0
  have hsW : w.heap.size + 1 < W.heap.size := lt_of_block hZ0
  obtain ⟨t0, t1, t2, t3, t4, t5, tf⟩ := tk_cells hT0
  obtain ⟨z0, z1, z2, z3, z4, z5, zf⟩ := tk_cells hZ0
  go_loop [6, 7] (fun i n => ∃ (k f : Nat) (a : Int), p + 2 ≤ k ∧ k ≤ p + 18 ∧ k ≤ s.size ∧ s.size < k + f ∧ i = .int .i64 k ∧ n = .int .u64 a ∧ Hid (runE hexB s f k = R) ∧ Hid (a = (hvS s (p + 2) (k - (p + 2)) : Int))) (fun i _ => s.size - (intOf i).toNat)
  case atStart => exact ⟨p + 2, s.size + 1, 0, by omega, by omega, hp, by omega, by simp, rfl, HR, by show (0 : Int) = _; rw [Nat.sub_self]; rfl⟩
  case round =>
    obtain ⟨k, f, a, hk2, hk18, hk, hf, rfl, rfl, HF, HV⟩ := hrel
    obtain ⟨f, rfl⟩ : ∃ g, f = g + 1 := ⟨f - 1, by omega⟩
    have hst := HF.out
    unfold runE at hst
    have kk := fun w => l1look_q s hm (k : Int) k rfl w
    have kh := fun w => l1hex_any (lk s k) (lk_in s k).1 (lk_in s k).2 w
    rw [hexv_lk] at kh
    by_cases h1 : hexB (bat s k) = true
    · have hlt : k < s.size := run_in hex_neg h1
      have i1 := fun w => idx_run hlt w
      rw [lk_bat hlt] at kk kh
      rw [if_pos h1] at hst
      have hbd := (runE_bd hexB hex_neg s f (k + 1) (by omega)).1
      rw [hst] at hbd
      have HS : Hid (runE hexB s f (k + 1) = R) := hst
      have hv0 : 0 ≤ hexv (bat s k) := by simpa [hexB] using h1
      have hv1 := hexv_lt (bat s k)
      have h60 : k ≠ p + 18 → hvS s (p + 2) (k - (p + 2)) < 1152921504606846976 := fun h => hvS_60 s (p + 2) _ (by omega)
      have HN : Hid (a * 16 + hexv (bat s k) = (hvS s (p + 2) (k + 1 - (p + 2)) : Int)) := by
        show _ = _
        rw [show k + 1 - (p + 2) = (k - (p + 2)) + 1 by omega, hvS, show p + 2 + (k - (p + 2)) = k by omega, HV.out]
        omega
      have a0 : 0 ≤ a := by rw [HV.out]; omega
      have a1 : k ≠ p + 18 → a < 1152921504606846976 := fun h => by have := h60 h; rw [HV.out]; omega
      generalize hexv (bat s k) = d at kh hv0 hv1 HN
      generalize bat s k = c at kk kh i1
      clear hst h1 h60
      by_cases h18 : k = p + 18
      · have ha := HA.out
        have hff := HFF.out
        simp only [if_pos (show p + 2 + 16 < R by omega)] at ha hff
        simp at ha hff
        subst ha
        have hff' : F = (k : Int) := by omega
        clear hff
        subst hff'
        have e18 : ((k : Int) - (p : Int) == 18) = true := by rw [beq_iff_eq]; omega
        clear HA HFF h18 a1
        go_wp2_with (first | (go_at_call 102; refine (kk _).mono ?_; rintro e w' ⟨rfl, rfl⟩) | (go_at_call 105; refine (kh _).mono ?_; rintro e w' ⟨rfl, rfl⟩))
        refine bodyPost_ret (v := .tuple #[.agg #[.int .i64 2, .int .i64 p, .int .i64 0, .int .i64 0, .int .i64 0, .string { data := #[] }], .int .i64 (k : Int)]) (by simp [results, Tryz.results104, go_sem, z0, z1, z2, z3, z4, z5]) rfl ⟨rfl, ?_⟩
        iterate 6 refine Below.setCell ?_ (by simp) _
        exact hB0
      · have e18 : ((k : Int) - (p : Int) == 18) = false := by rw [beq_eq_false_iff_ne]; omega
        have a1' := a1 h18
        clear a1
        go_wp2_with (first | (go_at_call 102; refine (kk _).mono ?_; rintro e w' ⟨rfl, rfl⟩) | (go_at_call 105; refine (kh _).mono ?_; rintro e w' ⟨rfl, rfl⟩))
        go_round
        case rel => exact ⟨k + 1, f, a * 16 + d, by omega, by omega, by omega, by omega, by go_num, by first | rfl | (congr 1; omega), HS, HN⟩
        case measure => simp [intOf]; omega
    · have hneg : hexv (bat s k) < 0 := by
        have : ¬ 0 ≤ hexv (bat s k) := by simpa [hexB] using h1
        omega
      rw [if_neg h1] at hst
      subst hst
      have hnn : ¬ (0 : Int) ≤ hexv (bat s k) := by omega
      have a0 : 0 ≤ a := by rw [HV.out]; omega
      have a1 : a < 18446744073709551616 := by rw [HV.out]; have := hvS_64 s (p + 2) (k - (p + 2)) (by omega); omega
      generalize hexv (bat s k) = d at kh hnn
      generalize lk s k = c at kk kh
      have ha := HA.out
      have hff := HFF.out
      simp only [if_neg (show ¬ p + 2 + 16 < k by omega)] at ha hff
      by_cases h2 : k = p + 2
      · have hdec : decide (p + 2 < k) = false := by rw [decide_eq_false_iff_not]; omega
        simp only [hdec] at ha hff
        simp at ha hff
        subst ha hff
        have e2 : ((k : Int) == (p : Int) + 2) = true := by rw [beq_iff_eq]; omega
        clear HA HFF h1 hneg h2 hdec HV HF HR
        go_wp2_with (first | (go_at_call 102; refine (kk _).mono ?_; rintro e w' ⟨rfl, rfl⟩) | (go_at_call 105; refine (kh _).mono ?_; rintro e w' ⟨rfl, rfl⟩))
        refine bodyPost_ret (v := .tuple #[.agg #[.int .i64 2, .int .i64 p, .int .i64 0, .int .i64 0, .int .i64 0, .string { data := #[] }], .int .i64 (k : Int)]) (by simp [results, Tryz.results104, go_sem, z0, z1, z2, z3, z4, z5]) rfl ⟨rfl, ?_⟩
        iterate 6 refine Below.setCell ?_ (by simp) _
        exact hB0
      · have hdec : decide (p + 2 < k) = true := by rw [decide_eq_true_iff]; omega
        simp only [hdec] at ha hff
        simp only [if_true] at ha hff
        rw [← HV.out] at ha
        subst ha hff
        have e2 : ((k : Int) == (p : Int) + 2) = false := by rw [beq_eq_false_iff_ne]; omega
        clear HA HFF h1 hneg h2 hdec HV HF HR
        go_wp2_with (first | (go_at_call 102; refine (kk _).mono ?_; rintro e w' ⟨rfl, rfl⟩) | (go_at_call 105; refine (kh _).mono ?_; rintro e w' ⟨rfl, rfl⟩))
        refine bodyPost_ret (v := .tuple #[.agg #[.int .i64 2, .int .i64 p, .int .i64 (k : Int), .int .i64 0, .int .i64 (wrap64 a), .string { data := #[] }], .int .i64 (-1)]) (by simp [results, Tryz.results104, go_sem, z0, z1, z2, z3, z4, z5]) rfl ⟨rfl, ?_⟩
        iterate 8 refine Below.setCell ?_ (by simp) _
        exact hB0
end Go.Proofs.YtdgbmihokecmhaaGreatDoor
