import Derived.Test.YtlmkmihbbnjngaaDoorTL1n
import Derived.Deep.RegionHeld3
namespace Go.Proofs.YtlmkmihbbnjngaaDoor
open Go.RowKit Go.Maps Go.WideMaps
set_option linter.unusedVariables false

structure RdIs (s : ByteArray) (f p : Nat) (a : List Int) (R : Bool × Nat × List Int) : Prop where
  out : rdStr s f p a = R
def strAr (p : Nat) (R : Bool × Nat × List Int) : Value := if R.1 = true then .agg #[.int .i64 4, .int .i64 p, .int .i64 (R.2.1 : Int), .int .i64 0, .int .i64 0, .string (strI R.2.2)] else .agg #[.int .i64 4, .int .i64 p, .int .i64 0, .int .i64 0, .int .i64 0, .string { data := #[] }]
def strFr (R : Bool × Nat × List Int) : Int := if R.1 = true then -1 else (R.2.1 : Int)
theorem strAF_yes {p a : Nat} {c : List Int} {R : Bool × Nat × List Int} (h : (true, a, c) = R) : (Ending.returned (.tuple #[.agg #[.int .i64 4, .int .i64 p, .int .i64 (a : Int), .int .i64 0, .int .i64 0, .string (strI c)], .int .i64 (-1)])) = .returned (.tuple #[strAr p R, .int .i64 (strFr R)]) := by
  subst h; rfl
theorem strAF_no {p a : Nat} {c : List Int} {R : Bool × Nat × List Int} (h : (false, a, c) = R) : (Ending.returned (.tuple #[.agg #[.int .i64 4, .int .i64 p, .int .i64 0, .int .i64 0, .int .i64 0, .string { data := #[] }], .int .i64 (a : Int)])) = .returned (.tuple #[strAr p R, .int .i64 (strFr R)]) := by
  subst h; rfl

set_option maxRecDepth 100000 in
set_option maxHeartbeats 6400000 in
theorem l1string_any (s : ByteArray) (hm : s.size ≤ 70000) (p : Nat) (hp : p < s.size) (w : World) : Calls Tryd.prog 32 #[.string s, .agg #[.int .i64 0, .int .i64 p, .int .i64 0, .int .i64 0, .int .i64 0, .string { data := #[] }]] w fun e w' =>
    e = .returned (.tuple #[strAr p (rdStr s (s.size + 1) (p + 1) []), .int .i64 (strFr (rdStr s (s.size + 1) (p + 1) []))]) ∧ Below w.heap.size w w' := by
  obtain ⟨R, hR⟩ : ∃ R, rdStr s (s.size + 1) (p + 1) [] = R := ⟨_, rfl⟩
  rw [hR]
  have HR : RdIs s (s.size + 1) (p + 1) [] R := ⟨hR⟩
  clear hR
  go_enter Tryd.func32, Tryd.ntmps32
  go_wp2_with fail
  go_loopw [6, 7, 8, 9] (fun vp vo vb vk wr => ∃ (pos n fu : Nat) (acc : List Int), vp = .int .i64 pos ∧ TkAt w.heap.size wr 4 p 0 0 0 { data := #[] } ∧ TkAt (w.heap.size + 1) wr 0 0 0 0 0 { data := #[] } ∧ wr.ownsRow (w.heap.size + 2) 5 1 vo n (B8 acc) ∧ s.size < pos + fu ∧ pos ≤ s.size ∧ n ≤ pos ∧ RdIs s fu pos acc R ∧ Below w.heap.size w wr ∧ w.heap.size + 2 ≤ wr.heap.size) (fun vp _ _ _ _ => s.size - (intOf vp).toNat)
  case atStart =>
    have hZ0 : TkAt (w.heap.size + 1) ((w.alloc (.cells #[.int .i64 4, .int .i64 p, .int .i64 0, .int .i64 0, .int .i64 0, .string { data := #[] }] 30)).alloc (.cells #[.int .i64 0, .int .i64 0, .int .i64 0, .int .i64 0, .int .i64 0, .string { data := #[] }] 30)) 0 0 0 0 0 { data := #[] } := by
      have := heap_alloc_new (w.alloc (.cells #[.int .i64 4, .int .i64 p, .int .i64 0, .int .i64 0, .int .i64 0, .string { data := #[] }] 30)) (.cells #[.int .i64 0, .int .i64 0, .int .i64 0, .int .i64 0, .int .i64 0, .string { data := #[] }] 30)
      rw [World.size_alloc] at this
      exact this
    exact ⟨p + 1, 0, s.size + 1, [], by go_num, (Below.heap_alloc _ _ _ (by simp)).trans (heap_alloc_new w _), hZ0, World.ownsRow_nil _ _ _ _, by omega, by omega, by omega, HR, ((Below.refl _ w).alloc (Nat.le_refl _) _).alloc (by simp) _, by simp⟩
  case round =>
    obtain ⟨pos, n, fu, acc, rfl, hA, hZ, hown, hfu, hpos, hn, HRr, hbel, hsz⟩ := hrel
    obtain ⟨a0, a1, a2, a3, a4, a5, af⟩ := tk_cells hA
    obtain ⟨z0, z1, z2, z3, z4, z5, zf⟩ := tk_cells hZ
    obtain ⟨fu, rfl⟩ : ∃ g, fu = g + 1 := ⟨fu - 1, by omega⟩
    have hstep := HRr.out
    unfold rdStr at hstep
    clear HRr
    by_cases hlt : pos < s.size
    · have n1 := bat_in hlt
      have i1 := fun w => idx_run hlt w
      have hpi : (pos : Int) < (s.size : Int) := by omega
      rw [if_neg (by omega)] at hstep
      obtain ⟨c, hc⟩ : ∃ c, bat s pos = c := ⟨_, rfl⟩
      rw [hc] at n1 i1 hstep
      clear hc
      by_cases g1 : c = 34
      · subst g1
        rw [if_pos rfl] at hstep
        have HST : Hid ((true, pos + 1, acc) = R) := hstep
        clear hstep
        rcases hown.2 with ⟨rfl, hn0⟩ | ⟨g, cap, cur, rfl, rest⟩
        · have hacc : acc = [] := by have := own_len hown; rw [hn0] at this; exact List.eq_nil_of_length_eq_zero this
          have HA : Hid (acc = []) := hacc
          clear hacc
          have kc := conv_nil
          go_wp2_with fail
          refine bodyPost_ret (v := .tuple #[.agg #[.int .i64 4, .int .i64 p, .int .i64 ((pos : Int) + 1), .int .i64 0, .int .i64 0, .string ByteArray.empty], .int .i64 (-1)]) (by simp [results, Tryd.results32, go_sem, z0, z1, z2, z3, z4, z5]) rfl ⟨by have h := HST.out; rw [HA.out] at h; exact strAF_yes h, ?_⟩
          iterate 8 refine Below.setCell ?_ (by simp) _
          exact hbel
        · have kc := conv_own (ownsRow_setCell_below (a := ⟨w.heap.size, 2, none⟩) hown (by simp) (.int .i64 ((pos : Int) + 1)))
          go_wp2_with fail
          refine bodyPost_ret (v := .tuple #[.agg #[.int .i64 4, .int .i64 p, .int .i64 ((pos : Int) + 1), .int .i64 0, .int .i64 0, .string (strI acc)], .int .i64 (-1)]) (by simp [results, Tryd.results32, go_sem, z0, z1, z2, z3, z4, z5]) rfl ⟨strAF_yes HST.out, ?_⟩
          iterate 8 refine Below.setCell ?_ (by simp) _
          exact hbel
      rw [if_neg g1] at hstep
      have k1 : (c == 34) = false := by simp [g1]
      by_cases g2 : c = 10
      · subst g2
        rw [if_pos rfl] at hstep
        have HST : Hid ((false, pos, acc) = R) := hstep
        clear hstep
        go_wp2_with fail
        refine bodyPost_ret (v := .tuple #[.agg #[.int .i64 4, .int .i64 p, .int .i64 0, .int .i64 0, .int .i64 0, .string { data := #[] }], .int .i64 (pos : Int)]) (by simp [results, Tryd.results32, go_sem, z0, z1, z2, z3, z4, z5]) rfl ⟨strAF_no HST.out, ?_⟩
        iterate 6 refine Below.setCell ?_ (by simp) _
        exact hbel
      rw [if_neg g2] at hstep
      have k2 : (c == 10) = false := by simp [g2]
      by_cases g3 : c = 92
      · subst g3
        rw [if_pos rfl] at hstep
        clear g1 g2
        have kl := fun w => l1look_q s (by omega) ((pos : Int) + 1) (pos + 1) (by omega) w
        by_cases e1 : bat s (pos + 1) = 110
        · have hp1 := lt_of_bat e1 (by omega)
          rw [show escI s (pos + 1) = (10, pos + 1 + 1, true) by unfold escI; rw [if_pos e1], if_pos rfl] at hstep
          rw [lk_bat hp1, e1] at kl
          have HST : RdIs s fu (pos + 1 + 1) (acc ++ [10]) R := ⟨hstep⟩
          clear hstep e1
          go_wp2_with (first | (go_at_call 27; refine (kl _).mono ?_; rintro e w' ⟨rfl, rfl⟩) | (at_builtin; refine ap_law rfl (.tmp 51) (.tmp 52) rfl (w.heap.size + 2) _ n acc rfl hown hsz (by omega) [10] 1 rfl (by decide) (by decide) _ rfl rfl ?_; intro g cap w1 hown1 hb1))
          go_roundw
          case rel => exact ⟨pos + 1 + 1, n + 1, fu, acc ++ [10], by go_num, hA.below hb1 (by omega), hZ.below hb1 (by omega), hown1, by omega, by omega, by omega, HST, hbel.trans (hb1.mono (by omega)), Nat.le_trans hsz hb1.size⟩
          case measure => simp [intOf]; omega
        by_cases e2 : bat s (pos + 1) = 116
        · have hp1 := lt_of_bat e2 (by omega)
          rw [show escI s (pos + 1) = (9, pos + 1 + 1, true) by unfold escI; rw [if_neg e1, if_pos e2], if_pos rfl] at hstep
          rw [lk_bat hp1, e2] at kl
          have HST : RdIs s fu (pos + 1 + 1) (acc ++ [9]) R := ⟨hstep⟩
          clear hstep e1 e2
          go_wp2_with (first | (go_at_call 27; refine (kl _).mono ?_; rintro e w' ⟨rfl, rfl⟩) | (at_builtin; refine ap_law rfl (.tmp 56) (.tmp 57) rfl (w.heap.size + 2) _ n acc rfl hown hsz (by omega) [9] 1 rfl (by decide) (by decide) _ rfl rfl ?_; intro g cap w1 hown1 hb1))
          go_roundw
          case rel => exact ⟨pos + 1 + 1, n + 1, fu, acc ++ [9], by go_num, hA.below hb1 (by omega), hZ.below hb1 (by omega), hown1, by omega, by omega, by omega, HST, hbel.trans (hb1.mono (by omega)), Nat.le_trans hsz hb1.size⟩
          case measure => simp [intOf]; omega
        by_cases e3 : bat s (pos + 1) = 34
        · have hp1 := lt_of_bat e3 (by omega)
          rw [show escI s (pos + 1) = (34, pos + 1 + 1, true) by unfold escI; rw [if_neg e1, if_neg e2, if_pos (Or.inl e3), e3], if_pos rfl] at hstep
          rw [lk_bat hp1, e3] at kl
          have i2 := fun w => idx_run1 hp1 w
          rw [e3] at i2
          have HST : RdIs s fu (pos + 1 + 1) (acc ++ [34]) R := ⟨hstep⟩
          clear hstep e1 e2 e3
          go_wp2_with (first | (go_at_call 27; refine (kl _).mono ?_; rintro e w' ⟨rfl, rfl⟩) | (at_builtin; refine ap_law rfl (.tmp 62) (.tmp 66) rfl (w.heap.size + 2) _ n acc rfl hown hsz (by omega) [34] 1 rfl (by decide) (by decide) _ rfl rfl ?_; intro g cap w1 hown1 hb1))
          go_roundw
          case rel => exact ⟨pos + 1 + 1, n + 1, fu, acc ++ [34], by go_num, hA.below hb1 (by omega), hZ.below hb1 (by omega), hown1, by omega, by omega, by omega, HST, hbel.trans (hb1.mono (by omega)), Nat.le_trans hsz hb1.size⟩
          case measure => simp [intOf]; omega
        by_cases e4 : bat s (pos + 1) = 92
        · have hp1 := lt_of_bat e4 (by omega)
          rw [show escI s (pos + 1) = (92, pos + 1 + 1, true) by unfold escI; rw [if_neg e1, if_neg e2, if_pos (Or.inr e4), e4], if_pos rfl] at hstep
          rw [lk_bat hp1, e4] at kl
          have i2 := fun w => idx_run1 hp1 w
          rw [e4] at i2
          have HST : RdIs s fu (pos + 1 + 1) (acc ++ [92]) R := ⟨hstep⟩
          clear hstep e1 e2 e3 e4
          go_wp2_with (first | (go_at_call 27; refine (kl _).mono ?_; rintro e w' ⟨rfl, rfl⟩) | (at_builtin; refine ap_law rfl (.tmp 62) (.tmp 66) rfl (w.heap.size + 2) _ n acc rfl hown hsz (by omega) [92] 1 rfl (by decide) (by decide) _ rfl rfl ?_; intro g cap w1 hown1 hb1))
          go_roundw
          case rel => exact ⟨pos + 1 + 1, n + 1, fu, acc ++ [92], by go_num, hA.below hb1 (by omega), hZ.below hb1 (by omega), hown1, by omega, by omega, by omega, HST, hbel.trans (hb1.mono (by omega)), Nat.le_trans hsz hb1.size⟩
          case measure => simp [intOf]; omega
        by_cases e5 : bat s (pos + 1) = 120
        · have hp1 := lt_of_bat e5 (by omega)
          rw [lk_bat hp1, e5] at kl
          have hE : escI s (pos + 1) = hexI s (pos + 1 + 1) := by unfold escI; rw [if_neg e1, if_neg e2, if_neg (fun h => h.elim e3 e4), if_pos e5]
          rw [hE] at hstep
          unfold hexI at hstep
          have kl2 := fun w => l1look_q s (by omega) ((pos : Int) + 1 + 1) (pos + 1 + 1) (by omega) w
          have kl3 := fun w => l1look_q s (by omega) ((pos : Int) + 1 + 2) (pos + 1 + 1 + 1) (by omega) w
          have b2 := lk_in s (pos + 1 + 1)
          have b3 := lk_in s (pos + 1 + 1 + 1)
          have kh2 := fun w => l1hex_any (lk s (pos + 1 + 1)) b2.1 b2.2 w
          have kh3 := fun w => l1hex_any (lk s (pos + 1 + 1 + 1)) b3.1 b3.2 w
          rw [hexv_lk] at kh2 kh3
          have x1 := hexv_lt (bat s (pos + 1 + 1))
          have y1 := hexv_lt (bat s (pos + 1 + 1 + 1))
          clear hE e1 e2 e3 e4 e5
          by_cases hx : hexv (bat s (pos + 1 + 1)) < 0
          · rw [if_pos hx, if_neg (by simp)] at hstep
            have HST : Hid ((false, pos + 1 + 1, acc) = R) := hstep
            generalize lk s (pos + 1 + 1) = X at kl2 kh2
            generalize hexv (bat s (pos + 1 + 1)) = x at kh2 hx
            clear hstep kl3 kh3 x1 y1 b2 b3
            go_wp2_with (go_at_call 27; refine (kl _).mono ?_; rintro e w' ⟨rfl, rfl⟩)
            refine wp_loop_rounds 3 ?_
            rw [rounds_succ]
            clear kl
            go_wp2_with (first | (go_at_call 27; refine (kl2 _).mono ?_; rintro e w' ⟨rfl, rfl⟩) | (go_at_call 46; refine (kh2 _).mono ?_; rintro e w' ⟨rfl, rfl⟩))
            refine bodyPost_ret (v := .tuple #[.agg #[.int .i64 4, .int .i64 p, .int .i64 0, .int .i64 0, .int .i64 0, .string { data := #[] }], .int .i64 ((pos : Int) + 1 + 1)]) (by simp [results, Tryd.results32, go_sem, z0, z1, z2, z3, z4, z5]) rfl ⟨strAF_no HST.out, ?_⟩
            iterate 6 refine Below.setCell ?_ (by simp) _
            exact hbel
          rw [if_neg hx] at hstep
          have hx0 : 0 ≤ hexv (bat s (pos + 1 + 1)) := by omega
          by_cases hy : hexv (bat s (pos + 1 + 1 + 1)) < 0
          · rw [if_pos hy, if_neg (by simp)] at hstep
            have HST : Hid ((false, pos + 1 + 1 + 1, acc) = R) := hstep
            generalize lk s (pos + 1 + 1) = X at kl2 kh2
            generalize hexv (bat s (pos + 1 + 1)) = x at kh2 hx hx0
            generalize lk s (pos + 1 + 1 + 1) = Y at kl3 kh3
            generalize hexv (bat s (pos + 1 + 1 + 1)) = y at kh3 hy
            clear hstep x1 y1 b2 b3
            go_wp2_with (go_at_call 27; refine (kl _).mono ?_; rintro e w' ⟨rfl, rfl⟩)
            refine wp_loop_rounds 3 ?_
            rw [rounds_succ]
            clear kl
            go_wp2_with (first | (go_at_call 27; refine (kl2 _).mono ?_; rintro e w' ⟨rfl, rfl⟩) | (go_at_call 46; refine (kh2 _).mono ?_; rintro e w' ⟨rfl, rfl⟩))
            rw [rounds_succ]
            clear kl2 kh2
            go_wp2_with (first | (go_at_call 27; refine (kl3 _).mono ?_; rintro e w' ⟨rfl, rfl⟩) | (go_at_call 46; refine (kh3 _).mono ?_; rintro e w' ⟨rfl, rfl⟩))
            refine bodyPost_ret (v := .tuple #[.agg #[.int .i64 4, .int .i64 p, .int .i64 0, .int .i64 0, .int .i64 0, .string { data := #[] }], .int .i64 ((pos : Int) + 1 + 2)]) (by simp [results, Tryd.results32, go_sem, z0, z1, z2, z3, z4, z5]) rfl ⟨by have h := strAF_no (p := p) HST.out; rw [show ((pos + 1 + 1 + 1 : Nat) : Int) = (pos : Int) + 1 + 2 by omega] at h; exact h, ?_⟩
            iterate 6 refine Below.setCell ?_ (by simp) _
            exact hbel
          have hp2 : pos + 1 + 1 < s.size := by
            rcases Nat.lt_or_ge (pos + 1 + 1) s.size with h | h
            · exact h
            · rw [bat_out (by omega)] at hx; exact absurd (by decide) hx
          have hp3 : pos + 1 + 1 + 1 < s.size := by
            rcases Nat.lt_or_ge (pos + 1 + 1 + 1) s.size with h | h
            · exact h
            · rw [bat_out (by omega)] at hy; exact absurd (by decide) hy
          have i3 := fun w => idx_run hp2 w
          have i4 := fun w => idx_run hp3 w
          rw [show ((pos + 1 + 1 : Nat) : Int) = (pos : Int) + 1 + 1 by omega] at i3
          rw [show ((pos + 1 + 1 + 1 : Nat) : Int) = (pos : Int) + 1 + 2 by omega] at i4
          rw [if_neg hy, if_pos rfl] at hstep
          rw [lk_bat hp2] at kl2 kh2
          rw [lk_bat hp3] at kl3 kh3
          have hy0 : 0 ≤ hexv (bat s (pos + 1 + 1 + 1)) := by omega
          have HST : RdIs s fu (pos + 1 + 1 + 1 + 1) (acc ++ [hexv (bat s (pos + 1 + 1)) * 16 + hexv (bat s (pos + 1 + 1 + 1))]) R := ⟨hstep⟩
          clear hstep b2 b3
          have c2 := bat_in hp2
          have c3 := bat_in hp3
          generalize hexv (bat s (pos + 1 + 1)) = x at kh2 hx hx0 x1 HST
          generalize hexv (bat s (pos + 1 + 1 + 1)) = y at kh3 hy hy0 y1 HST
          generalize bat s (pos + 1 + 1) = X at kl2 kh2 i3 c2
          generalize bat s (pos + 1 + 1 + 1) = Y at kl3 kh3 i4 c3
          rw [show x * 16 + y = 16 * x + y by omega] at HST
          go_wp2_with (go_at_call 27; refine (kl _).mono ?_; rintro e w' ⟨rfl, rfl⟩)
          refine wp_loop_rounds 3 ?_
          rw [rounds_succ]
          clear kl
          go_wp2_with (first | (go_at_call 27; refine (kl2 _).mono ?_; rintro e w' ⟨rfl, rfl⟩) | (go_at_call 46; refine (kh2 _).mono ?_; rintro e w' ⟨rfl, rfl⟩))
          rw [rounds_succ]
          clear kl2
          go_wp2_with (first | (go_at_call 27; refine (kl3 _).mono ?_; rintro e w' ⟨rfl, rfl⟩) | (go_at_call 46; refine (kh3 _).mono ?_; rintro e w' ⟨rfl, rfl⟩))
          rw [rounds_succ]
          clear kl3
          go_wp2_with fail
          obtain ⟨Q, hQ⟩ : ∃ Q : Int, (pos : Int) + 1 = Q := ⟨_, rfl⟩
          rw [hQ] at i3 i4 ⊢
          have HQ : Hid ((pos : Int) + 1 = Q) := hQ
          have v1 : IntKind.i64.wrap (Q + 1) = Q + 1 := IntWalk.i64_in _ (by omega)
          have v2 : IntKind.i64.wrap (Q + 2) = Q + 2 := IntWalk.i64_in _ (by omega)
          have v3 : IntKind.i64.wrap (16 * x) = 16 * x := IntWalk.i64_in _ (by omega)
          have v4 : IntKind.i64.wrap (16 * x + y) = 16 * x + y := IntWalk.i64_in _ (by omega)
          have v5 : IntKind.u8.wrap (16 * x + y) = 16 * x + y := IntWalk.u8_in _ (by omega)
          have hQ0 : 0 ≤ Q := by omega
          have hQ1 : Q ≤ 70001 := by omega
          clear hQ i1
          go_region_held3 (fun w' => True) (trivial) ((first | (go_at_call 46; with_reducible refine (kh2 _).mono ?_; rintro e w' ⟨rfl, rfl⟩) | (go_at_call 46; with_reducible refine (kh3 _).mono ?_; rintro e w' ⟨rfl, rfl⟩) | (refine ap_step (by rfl) _ _ (by rfl) (w.heap.size + 2) _ n acc (by rfl) hown hsz (by omega) [_] 1 (by rfl) (by decide) (by decide) _ (by rfl) (by rfl) ?_; intro g cap w1 hown1 hb1)))
          all_goals
            go_wp2_with fail
            have hq := HQ.out
            exact ⟨⟨pos + 1 + 1 + 1 + 1, n + 1, fu, acc ++ [16 * x + y], by congr 1 <;> omega, hA.below hb1 (by omega), hZ.below hb1 (by omega), hown1, by omega, by omega, by omega, HST, hbel.trans (hb1.mono (by omega)), Nat.le_trans hsz hb1.size⟩, by simp [intOf]; omega⟩
        rw [show escI s (pos + 1) = (0, pos + 1, false) by unfold escI; rw [if_neg e1, if_neg e2, if_neg (fun h => h.elim e3 e4), if_neg e5], if_neg (by simp)] at hstep
        have HST : Hid ((false, pos + 1, acc) = R) := hstep
        have q1 := lk_eq s (pos + 1) 110 (by omega)
        have q2 := lk_eq s (pos + 1) 116 (by omega)
        have q3 := lk_eq s (pos + 1) 34 (by omega)
        have q4 := lk_eq s (pos + 1) 92 (by omega)
        have q5 := lk_eq s (pos + 1) 120 (by omega)
        rw [decide_eq_false e1] at q1
        rw [decide_eq_false e2] at q2
        rw [decide_eq_false e3] at q3
        rw [decide_eq_false e4] at q4
        rw [decide_eq_false e5] at q5
        generalize lk s (pos + 1) = L at kl q1 q2 q3 q4 q5
        clear hstep e1 e2 e3 e4 e5
        go_wp2_with (go_at_call 27; refine (kl _).mono ?_; rintro e w' ⟨rfl, rfl⟩)
        refine bodyPost_ret (v := .tuple #[.agg #[.int .i64 4, .int .i64 p, .int .i64 0, .int .i64 0, .int .i64 0, .string { data := #[] }], .int .i64 ((pos : Int) + 1)]) (by simp [results, Tryd.results32, go_sem, z0, z1, z2, z3, z4, z5]) rfl ⟨strAF_no HST.out, ?_⟩
        iterate 6 refine Below.setCell ?_ (by simp) _
        exact hbel
      rw [if_neg g3] at hstep
      have k3 : (c == 92) = false := by simp [g3]
      have HST : RdIs s fu (pos + 1) (acc ++ [c]) R := ⟨hstep⟩
      clear hstep
      go_wp2_with (at_builtin; refine ap_law rfl (.tmp 36) (.tmp 38) rfl (w.heap.size + 2) _ n acc rfl hown hsz (by omega) [c] 1 rfl (by decide) (by decide) _ rfl rfl ?_; intro g cap w1 hown1 hb1)
      go_roundw
      case rel => exact ⟨pos + 1, n + 1, fu, acc ++ [c], by go_num, hA.below hb1 (by omega), hZ.below hb1 (by omega), hown1, by omega, by omega, by omega, HST, hbel.trans (hb1.mono (by omega)), Nat.le_trans hsz hb1.size⟩
      case measure => simp [intOf]; omega
    · rw [if_pos (by omega)] at hstep
      have HST : Hid ((false, pos, acc) = R) := hstep
      clear hstep
      obtain rfl : pos = s.size := by omega
      go_wp2_with fail
      refine bodyPost_ret (v := .tuple #[.agg #[.int .i64 4, .int .i64 p, .int .i64 0, .int .i64 0, .int .i64 0, .string { data := #[] }], .int .i64 (s.size : Int)]) (by simp [results, Tryd.results32, go_sem, z0, z1, z2, z3, z4, z5]) rfl ⟨strAF_no HST.out, ?_⟩
      iterate 6 refine Below.setCell ?_ (by simp) _
      exact hbel
end Go.Proofs.YtlmkmihbbnjngaaDoor
