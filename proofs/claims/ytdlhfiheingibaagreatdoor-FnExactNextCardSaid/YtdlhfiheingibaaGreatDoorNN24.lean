import Derived.Test.YtdlhfiheingibaaGreatDoorNN07
import Derived.Deep.RegionHeld3
import Derived.Test.YtdlhfiheingibaaGreatDoorNN23
import Derived.Test.YtdlhfiheingibaaGreatDoorNN08
import Derived.Test.YtdlhfiheingibaaGreatDoorNN03
import Derived.Test.YtdlhfiheingibaaGreatDoorNN20
namespace Go.Proofs.YtdlhfiheingibaaGreatDoor
open Go.RowKit Go.Maps Go.WideMaps
set_option linter.unusedVariables false

structure RdIs (s : ByteArray) (f p : Nat) (a : List Int) (R : Bool × Nat × List Int) : Prop where
  out : rdStr s f p a = R
def strAr (p : Nat) (R : Bool × Nat × List Int) : Value := if R.1 = true then .agg #[.int .i64 4, .int .i64 p, .int .i64 (R.2.1 : Int), .int .i64 0, .int .i64 0, .string (strI R.2.2)] else .agg #[.int .i64 4, .int .i64 p, .int .i64 0, .int .i64 0, .int .i64 0, .string { data := #[] }]
def strFr (R : Bool × Nat × List Int) : Int := if R.1 = true then -1 else (R.2.1 : Int)
theorem strAF_yes {p a : Nat} {c : List Int} {R : Bool × Nat × List Int} (h : (true, a, c) = R) : (Ending.returned (.tuple #[.agg #[.int .i64 4, .int .i64 p, .int .i64 (a : Int), .int .i64 0, .int .i64 0, .string (strI c)], .int .i64 (-1)])) = .returned (.tuple #[strAr p R, .int .i64 (strFr R)]) := by
  subst h; rfl
theorem strAF_no {p a : Nat} {c : List Int} {R : Bool × Nat × List Int} (h : (false, a, c) = R) : (Ending.returned (.tuple #[.agg #[.int .i64 4, .int .i64 p, .int .i64 0, .int .i64 0, .int .i64 0, .string { data := #[] }], .int .i64 (a : Int)])) = .returned (.tuple #[strAr p R, .int .i64 (strFr R)]) := by
  subst h; rfl

set_option maxRecDepth 100000 in
set_option maxHeartbeats 6400000 in
theorem l1string_any (s : ByteArray) (hm : s.size ≤ 70000) (p : Nat) (hp : p < s.size) (w : World) : Calls Tryz.prog 33 #[.string s, .agg #[.int .i64 0, .int .i64 p, .int .i64 0, .int .i64 0, .int .i64 0, .string { data := #[] }]] w fun e w' =>
    e = .returned (.tuple #[strAr p (rdStr s (s.size + 1) (p + 1) []), .int .i64 (strFr (rdStr s (s.size + 1) (p + 1) []))]) ∧ Below w.heap.size w w' := by
  obtain ⟨R, hR⟩ : ∃ R, rdStr s (s.size + 1) (p + 1) [] = R := ⟨_, rfl⟩
  rw [hR]
  have HR : RdIs s (s.size + 1) (p + 1) [] R := ⟨hR⟩
  clear hR
  go_enter Tryz.func33, Tryz.ntmps33
  go_wp2_with fail
  go_loopw [6, 7, 8, 9] (fun vp vo vb vk wr => ∃ (pos n fu : Nat) (acc : List Int), vp = .int .i64 pos ∧ TkAt w.heap.size wr 4 p 0 0 0 { data := #[] } ∧ TkAt (w.heap.size + 1) wr 0 0 0 0 0 { data := #[] } ∧ wr.ownsRow (w.heap.size + 2) 5 1 vo n (B8 acc) ∧ s.size < pos + fu ∧ pos ≤ s.size ∧ n ≤ pos ∧ RdIs s fu pos acc R ∧ Below w.heap.size w wr ∧ w.heap.size + 2 ≤ wr.heap.size) (fun vp _ _ _ _ => s.size - (intOf vp).toNat)
  case atStart =>
    have hZ0 : TkAt (w.heap.size + 1) ((w.alloc (.cells #[.int .i64 4, .int .i64 p, .int .i64 0, .int .i64 0, .int .i64 0, .string { data := #[] }] 45)).alloc (.cells #[.int .i64 0, .int .i64 0, .int .i64 0, .int .i64 0, .int .i64 0, .string { data := #[] }] 45)) 0 0 0 0 0 { data := #[] } := by
      have := heap_alloc_new (w.alloc (.cells #[.int .i64 4, .int .i64 p, .int .i64 0, .int .i64 0, .int .i64 0, .string { data := #[] }] 45)) (.cells #[.int .i64 0, .int .i64 0, .int .i64 0, .int .i64 0, .int .i64 0, .string { data := #[] }] 45)
      rw [World.size_alloc] at this
      exact this
    exact ⟨p + 1, 0, s.size + 1, [], by go_num, (Below.heap_alloc _ _ _ (by simp)).trans (heap_alloc_new w _), hZ0, World.ownsRow_nil _ _ _ _, by omega, by omega, by omega, HR, ((Below.refl _ w).alloc (Nat.le_refl _) _).alloc (by simp) _, by simp⟩
  case round =>
    obtain ⟨pos, n, fu, acc, rfl, hA, hZ, hown, hfu, hpos, hn, HRr, hbel, hsz⟩ := hrel
    obtain ⟨a0, a1, a2, a3, a4, a5, af⟩ := tk_cells hA
    obtain ⟨z0, z1, z2, z3, z4, z5, zf⟩ := tk_cells hZ
    obtain ⟨fu, rfl⟩ : ∃ g, fu = g + 1 := ⟨fu - 1, by omega⟩
    have hstep := HRr.out
    unfold rdStr at hstep
    clear HRr
    by_cases hlt : pos < s.size
    · have n1 := bat_in hlt
      have i1 := fun w => idx_run hlt w
      have hpi : (pos : Int) < (s.size : Int) := by omega
      rw [if_neg (by omega)] at hstep
      obtain ⟨c, hc⟩ : ∃ c, bat s pos = c := ⟨_, rfl⟩
      rw [hc] at n1 i1 hstep
      clear hc
      by_cases g1 : c = 34
      · subst g1
        rw [if_pos rfl] at hstep
        have HST : Hid ((true, pos + 1, acc) = R) := hstep
        clear hstep
        rcases hown.2 with ⟨rfl, hn0⟩ | ⟨g, cap, cur, rfl, rest⟩
        · have hacc : acc = [] := by have := own_len hown; rw [hn0] at this; exact List.eq_nil_of_length_eq_zero this
          have HA : Hid (acc = []) := hacc
          clear hacc
          have kc := conv_nil
          go_wp2_with fail
          refine bodyPost_ret (v := .tuple #[.agg #[.int .i64 4, .int .i64 p, .int .i64 ((pos : Int) + 1), .int .i64 0, .int .i64 0, .string ByteArray.empty], .int .i64 (-1)]) (by simp [results, Tryz.results33, go_sem, z0, z1, z2, z3, z4, z5]) rfl ⟨by have h := HST.out; rw [HA.out] at h; exact strAF_yes h, ?_⟩
          iterate 8 refine Below.setCell ?_ (by simp) _
          exact hbel
        · have kc := conv_own (ownsRow_setCell_below (a := ⟨w.heap.size, 2, none⟩) hown (by simp) (.int .i64 ((pos : Int) + 1)))
          go_wp2_with fail
          refine bodyPost_ret (v := .tuple #[.agg #[.int .i64 4, .int .i64 p, .int .i64 ((pos : Int) + 1), .int .i64 0, .int .i64 0, .string (strI acc)], .int .i64 (-1)]) (by simp [results, Tryz.results33, go_sem, z0, z1, z2, z3, z4, z5]) rfl ⟨strAF_yes HST.out, ?_⟩
          iterate 8 refine Below.setCell ?_ (by simp) _
          exact hbel
      rw [if_neg g1] at hstep
      have k1 : (c == 34) = false := by simp [g1]
      by_cases g2 : c = 10
      · subst g2
        rw [if_pos rfl] at hstep
        have HST : Hid ((false, pos, acc) = R) := hstep
        clear hstep
        go_wp2_with fail
        refine bodyPost_ret (v := .tuple #[.agg #[.int .i64 4, .int .i64 p, .int .i64 0, .int .i64 0, .int .i64 0, .string { data := #[] }], .int .i64 (pos : Int)]) (by simp [results, Tryz.results33, go_sem, z0, z1, z2, z3, z4, z5]) rfl ⟨strAF_no HST.out, ?_⟩
        iterate 6 refine Below.setCell ?_ (by simp) _
        exact hbel
      rw [if_neg g2] at hstep
      have k2 : (c == 10) = false := by simp [g2]
      by_cases g3 : c = 92
      · subst g3
        rw [if_pos rfl] at hstep
        clear g1 g2
        have kl := fun w => l1look_q s (by omega) ((pos : Int) + 1) (pos + 1) (by omega) w
        by_cases e1 : bat s (pos + 1) = 110
        · have hp1 := lt_of_bat e1 (by omega)
          rw [show escI s (pos + 1) = (10, pos + 1 + 1, true) by unfold escI; rw [if_pos e1], if_pos rfl] at hstep
          rw [lk_bat hp1, e1] at kl
          have HST : RdIs s fu (pos + 1 + 1) (acc ++ [10]) R := ⟨hstep⟩
          clear hstep e1
          go_wp2_with (first | (go_at_call 28; refine (kl _).mono ?_; rintro e w' ⟨rfl, rfl⟩) | (at_builtin; refine ap_law rfl (.tmp 51) (.tmp 52) rfl (w.heap.size + 2) _ n acc rfl hown hsz (by omega) [10] 1 rfl (by decide) (by decide) _ rfl rfl ?_; intro g cap w1 hown1 hb1))
          go_roundw
          case rel => exact ⟨pos + 1 + 1, n + 1, fu, acc ++ [10], by go_num, hA.below hb1 (by omega), hZ.below hb1 (by omega), hown1, by omega, by omega, by omega, HST, hbel.trans (hb1.mono (by omega)), Nat.le_trans hsz hb1.size⟩
          case measure => simp [intOf]; omega
        by_cases e2 : bat s (pos + 1) = 116
        · have hp1 := lt_of_bat e2 (by omega)
          rw [show escI s (pos + 1) = (9, pos + 1 + 1, true) by unfold escI; rw [if_neg e1, if_pos e2], if_pos rfl] at hstep
          rw [lk_bat hp1, e2] at kl
          have HST : RdIs s fu (pos + 1 + 1) (acc ++ [9]) R := ⟨hstep⟩
          clear hstep e1 e2
          go_wp2_with (first | (go_at_call 28; refine (kl _).mono ?_; rintro e w' ⟨rfl, rfl⟩) | (at_builtin; refine ap_law rfl (.tmp 56) (.tmp 57) rfl (w.heap.size + 2) _ n acc rfl hown hsz (by omega) [9] 1 rfl (by decide) (by decide) _ rfl rfl ?_; intro g cap w1 hown1 hb1))
          go_roundw
          case rel => exact ⟨pos + 1 + 1, n + 1, fu, acc ++ [9], by go_num, hA.below hb1 (by omega), hZ.below hb1 (by omega), hown1, by omega, by omega, by omega, HST, hbel.trans (hb1.mono (by omega)), Nat.le_trans hsz hb1.size⟩
          case measure => simp [intOf]; omega
        by_cases e3 : bat s (pos + 1) = 34
        · have hp1 := lt_of_bat e3 (by omega)
          rw [show escI s (pos + 1) = (34, pos + 1 + 1, true) by unfold escI; rw [if_neg e1, if_neg e2, if_pos (Or.inl e3), e3], if_pos rfl] at hstep
          rw [lk_bat hp1, e3] at kl
          have i2 := fun w => idx_run1 hp1 w
          rw [e3] at i2
          have HST : RdIs s fu (pos + 1 + 1) (acc ++ [34]) R := ⟨hstep⟩
          clear hstep e1 e2 e3
          go_wp2_with (first | (go_at_call 28; refine (kl _).mono ?_; rintro e w' ⟨rfl, rfl⟩) | (at_builtin; refine ap_law rfl (.tmp 62) (.tmp 66) rfl (w.heap.size + 2) _ n acc rfl hown hsz (by omega) [34] 1 rfl (by decide) (by decide) _ rfl rfl ?_; intro g cap w1 hown1 hb1))
          go_roundw
          case rel => exact ⟨pos + 1 + 1, n + 1, fu, acc ++ [34], by go_num, hA.below hb1 (by omega), hZ.below hb1 (by omega), hown1, by omega, by omega, by omega, HST, hbel.trans (hb1.mono (by omega)), Nat.le_trans hsz hb1.size⟩
          case measure => simp [intOf]; omega
        by_cases e4 : bat s (pos + 1) = 92
        · have hp1 := lt_of_bat e4 (by omega)
          rw [show escI s (pos + 1) = (92, pos + 1 + 1, true) by unfold escI; rw [if_neg e1, if_neg e2, if_pos (Or.inr e4), e4], if_pos rfl] at hstep
          rw [lk_bat hp1, e4] at kl
          have i2 := fun w => idx_run1 hp1 w
          rw [e4] at i2
          have HST : RdIs s fu (pos + 1 + 1) (acc ++ [92]) R := ⟨hstep⟩
          clear hstep e1 e2 e3 e4
          go_wp2_with (first | (go_at_call 28; refine (kl _).mono ?_; rintro e w' ⟨rfl, rfl⟩) | (at_builtin; refine ap_law rfl (.tmp 62) (.tmp 66) rfl (w.heap.size + 2) _ n acc rfl hown hsz (by omega) [92] 1 rfl (by decide) (by decide) _ rfl rfl ?_; intro g cap w1 hown1 hb1))
          go_roundw
          case rel => exact ⟨pos + 1 + 1, n + 1, fu, acc ++ [92], by go_num, hA.below hb1 (by omega), hZ.below hb1 (by omega), hown1, by omega, by omega, by omega, HST, hbel.trans (hb1.mono (by omega)), Nat.le_trans hsz hb1.size⟩
          case measure => simp [intOf]; omega
        by_cases e5 : bat s (pos + 1) = 120
        · have hp1 := lt_of_bat e5 (by omega)
          rw [lk_bat hp1, e5] at kl
          have hE : escI s (pos + 1) = hexI s (pos + 1 + 1) := by unfold escI; rw [if_neg e1, if_neg e2, if_neg (fun h => h.elim e3 e4), if_pos e5]
          rw [hE] at hstep
          unfold hexI at hstep
          have kl2 := fun w => l1look_q s (by omega) ((pos : Int) + 1 + 1) (pos + 1 + 1) (by omega) w
          have kl3 := fun w => l1look_q s (by omega) ((pos : Int) + 1 + 2) (pos + 1 + 1 + 1) (by omega) w
          have b2 := lk_in s (pos + 1 + 1)
          have b3 := lk_in s (pos + 1 + 1 + 1)
          have kh2 := fun w => l1hex_any (lk s (pos + 1 + 1)) b2.1 b2.2 w
          have kh3 := fun w => l1hex_any (lk s (pos + 1 + 1 + 1)) b3.1 b3.2 w
          rw [hexv_lk] at kh2 kh3
          have x1 := hexv_lt (bat s (pos + 1 + 1))
          have y1 := hexv_lt (bat s (pos + 1 + 1 + 1))
          clear hE e1 e2 e3 e4 e5
          by_cases hx : hexv (bat s (pos + 1 + 1)) < 0
          · rw [if_pos hx, if_neg (by simp)] at hstep
            have HST : Hid ((false, pos + 1 + 1, acc) = R) := hstep
            generalize lk s (pos + 1 + 1) = X at kl2 kh2
            generalize hexv (bat s (pos + 1 + 1)) = x at kh2 hx
            clear hstep kl3 kh3 x1 y1 b2 b3
            go_wp2_with (go_at_call 28; refine (kl _).mono ?_; rintro e w' ⟨rfl, rfl⟩)
            refine wp_loop_rounds 3 ?_
            rw [rounds_succ]
            clear kl
            go_wp2_with (first | (go_at_call 28; refine (kl2 _).mono ?_; rintro e w' ⟨rfl, rfl⟩) | (go_at_call 52; refine (kh2 _).mono ?_; rintro e w' ⟨rfl, rfl⟩))
            refine bodyPost_ret (v := .tuple #[.agg #[.int .i64 4, .int .i64 p, .int .i64 0, .int .i64 0, .int .i64 0, .string { data := #[] }], .int .i64 ((pos : Int) + 1 + 1)]) (by simp [results, Tryz.results33, go_sem, z0, z1, z2, z3, z4, z5]) rfl ⟨strAF_no HST.out, ?_⟩
            iterate 6 refine Below.setCell ?_ (by simp) _
            exact hbel
          rw [if_neg hx] at hstep
          have hx0 : 0 ≤ hexv (bat s (pos + 1 + 1)) := by omega
          by_cases hy : hexv (bat s (pos + 1 + 1 + 1)) < 0
          · rw [if_pos hy, if_neg (by simp)] at hstep
            have HST : Hid ((false, pos + 1 + 1 + 1, acc) = R) := hstep
            generalize lk s (pos + 1 + 1) = X at kl2 kh2
            generalize hexv (bat s (pos + 1 + 1)) = x at kh2 hx hx0
            generalize lk s (pos + 1 + 1 + 1) = Y at kl3 kh3
            generalize hexv (bat s (pos + 1 + 1 + 1)) = y at kh3 hy
            clear hstep x1 y1 b2 b3
            go_wp2_with (go_at_call 28; refine (kl _).mono ?_; rintro e w' ⟨rfl, rfl⟩)
            refine wp_loop_rounds 3 ?_
            rw [rounds_succ]
            clear kl
            go_wp2_with (first | (go_at_call 28; refine (kl2 _).mono ?_; rintro e w' ⟨rfl, rfl⟩) | (go_at_call 52; refine (kh2 _).mono ?_; rintro e w' ⟨rfl, rfl⟩))
            rw [rounds_succ]
            clear kl2 kh2
            go_wp2_with (first | (go_at_call 28; refine (kl3 _).mono ?_; rintro e w' ⟨rfl, rfl⟩) | (go_at_call 52; refine (kh3 _).mono ?_; rintro e w' ⟨rfl, rfl⟩))
            refine bodyPost_ret (v := .tuple #[.agg #[.int .i64 4, .int .i64 p, .int .i64 0, .int .i64 0, .int .i64 0, .string { data := #[] }], .int .i64 ((pos : Int) + 1 + 2)]) (by simp [results, Tryz.results33, go_sem, z0, z1, z2, z3, z4, z5]) rfl ⟨by have h := strAF_no (p := p) HST.out; rw [show ((pos + 1 + 1 + 1 : Nat) : Int) = (pos : Int) + 1 + 2 by omega] at h; exact h, ?_⟩
            iterate 6 refine Below.setCell ?_ (by simp) _
            exact hbel
          have hp2 : pos + 1 + 1 < s.size := by
            rcases Nat.lt_or_ge (pos + 1 + 1) s.size with h | h
            · exact h
            · rw [bat_out (by omega)] at hx; exact absurd (by decide) hx
          have hp3 : pos + 1 + 1 + 1 < s.size := by
            rcases Nat.lt_or_ge (pos + 1 + 1 + 1) s.size with h | h
            · exact h
            · rw [bat_out (by omega)] at hy; exact absurd (by decide) hy
          have i3 := fun w => idx_run hp2 w
          have i4 := fun w => idx_run hp3 w
          rw [show ((pos + 1 + 1 : Nat) : Int) = (pos : Int) + 1 + 1 by omega] at i3
          rw [show ((pos + 1 + 1 + 1 : Nat) : Int) = (pos : Int) + 1 + 2 by omega] at i4
          rw [if_neg hy, if_pos rfl] at hstep
          rw [lk_bat hp2] at kl2 kh2
          rw [lk_bat hp3] at kl3 kh3
          have hy0 : 0 ≤ hexv (bat s (pos + 1 + 1 + 1)) := by omega
          have HST : RdIs s fu (pos + 1 + 1 + 1 + 1) (acc ++ [hexv (bat s (pos + 1 + 1)) * 16 + hexv (bat s (pos + 1 + 1 + 1))]) R := ⟨hstep⟩
          clear hstep b2 b3
          have c2 := bat_in hp2
          have c3 := bat_in hp3
          generalize hexv (bat s (pos + 1 + 1)) = x at kh2 hx hx0 x1 HST
          generalize hexv (bat s (pos + 1 + 1 + 1)) = y at kh3 hy hy0 y1 HST
          generalize bat s (pos + 1 + 1) = X at kl2 kh2 i3 c2
          generalize bat s (pos + 1 + 1 + 1) = Y at kl3 kh3 i4 c3
          rw [show x * 16 + y = 16 * x + y by omega] at HST
          go_wp2_with (go_at_call 28; refine (kl _).mono ?_; rintro e w' ⟨rfl, rfl⟩)
          refine wp_loop_rounds 3 ?_
          rw [rounds_succ]
          clear kl
          go_wp2_with (first | (go_at_call 28; refine (kl2 _).mono ?_; rintro e w' ⟨rfl, rfl⟩) | (go_at_call 52; refine (kh2 _).mono ?_; rintro e w' ⟨rfl, rfl⟩))
          rw [rounds_succ]
          clear kl2
          go_wp2_with (first | (go_at_call 28; refine (kl3 _).mono ?_; rintro e w' ⟨rfl, rfl⟩) | (go_at_call 52; refine (kh3 _).mono ?_; rintro e w' ⟨rfl, rfl⟩))
          rw [rounds_succ]
          clear kl3
          go_wp2_with fail
          obtain ⟨Q, hQ⟩ : ∃ Q : Int, (pos : Int) + 1 = Q := ⟨_, rfl⟩
          rw [hQ] at i3 i4 ⊢
          have HQ : Hid ((pos : Int) + 1 = Q) := hQ
          have v1 : IntKind.i64.wrap (Q + 1) = Q + 1 := IntWalk.i64_in _ (by omega)
          have v2 : IntKind.i64.wrap (Q + 2) = Q + 2 := IntWalk.i64_in _ (by omega)
          have v3 : IntKind.i64.wrap (16 * x) = 16 * x := IntWalk.i64_in _ (by omega)
          have v4 : IntKind.i64.wrap (16 * x + y) = 16 * x + y := IntWalk.i64_in _ (by omega)
          have v5 : IntKind.u8.wrap (16 * x + y) = 16 * x + y := IntWalk.u8_in _ (by omega)
          have hQ0 : 0 ≤ Q := by omega
          have hQ1 : Q ≤ 70001 := by omega
          clear hQ i1
          go_region_held3 (fun w' => True) (trivial) ((first | (go_at_call 52; with_reducible refine (kh2 _).mono ?_; rintro e w' ⟨rfl, rfl⟩) | (go_at_call 52; with_reducible refine (kh3 _).mono ?_; rintro e w' ⟨rfl, rfl⟩) | (refine ap_step (by rfl) _ _ (by rfl) (w.heap.size + 2) _ n acc (by rfl) hown hsz (by omega) [_] 1 (by rfl) (by decide) (by decide) _ (by rfl) (by rfl) ?_; intro g cap w1 hown1 hb1)))
          all_goals
            go_wp2_with fail
            have hq := HQ.out
            exact ⟨⟨pos + 1 + 1 + 1 + 1, n + 1, fu, acc ++ [16 * x + y], by congr 1 <;> omega, hA.below hb1 (by omega), hZ.below hb1 (by omega), hown1, by omega, by omega, by omega, HST, hbel.trans (hb1.mono (by omega)), Nat.le_trans hsz hb1.size⟩, by simp [intOf]; omega⟩
        rw [show escI s (pos + 1) = (0, pos + 1, false) by unfold escI; rw [if_neg e1, if_neg e2, if_neg (fun h => h.elim e3 e4), if_neg e5], if_neg (by simp)] at hstep
        have HST : Hid ((false, pos + 1, acc) = R) := hstep
        have q1 := lk_eq s (pos + 1) 110 (by omega)
        have q2 := lk_eq s (pos + 1) 116 (by omega)
        have q3 := lk_eq s (pos + 1) 34 (by omega)
        have q4 := lk_eq s (pos + 1) 92 (by omega)
        have q5 := lk_eq s (pos + 1) 120 (by omega)
        rw [decide_eq_false e1] at q1
        rw [decide_eq_false e2] at q2
        rw [decide_eq_false e3] at q3
        rw [decide_eq_false e4] at q4
        rw [decide_eq_false e5] at q5
        generalize lk s (pos + 1) = L at kl q1 q2 q3 q4 q5
        clear hstep e1 e2 e3 e4 e5
        go_wp2_with (go_at_call 28; refine (kl _).mono ?_; rintro e w' ⟨rfl, rfl⟩)
        refine bodyPost_ret (v := .tuple #[.agg #[.int .i64 4, .int .i64 p, .int .i64 0, .int .i64 0, .int .i64 0, .string { data := #[] }], .int .i64 ((pos : Int) + 1)]) (by simp [results, Tryz.results33, go_sem, z0, z1, z2, z3, z4, z5]) rfl ⟨strAF_no HST.out, ?_⟩
        iterate 6 refine Below.setCell ?_ (by simp) _
        exact hbel
      rw [if_neg g3] at hstep
      have k3 : (c == 92) = false := by simp [g3]
      have HST : RdIs s fu (pos + 1) (acc ++ [c]) R := ⟨hstep⟩
      clear hstep
      go_wp2_with (at_builtin; refine ap_law rfl (.tmp 36) (.tmp 38) rfl (w.heap.size + 2) _ n acc rfl hown hsz (by omega) [c] 1 rfl (by decide) (by decide) _ rfl rfl ?_; intro g cap w1 hown1 hb1)
      go_roundw
      case rel => exact ⟨pos + 1, n + 1, fu, acc ++ [c], by go_num, hA.below hb1 (by omega), hZ.below hb1 (by omega), hown1, by omega, by omega, by omega, HST, hbel.trans (hb1.mono (by omega)), Nat.le_trans hsz hb1.size⟩
      case measure => simp [intOf]; omega
    · rw [if_pos (by omega)] at hstep
      have HST : Hid ((false, pos, acc) = R) := hstep
      clear hstep
      obtain rfl : pos = s.size := by omega
      go_wp2_with fail
      refine bodyPost_ret (v := .tuple #[.agg #[.int .i64 4, .int .i64 p, .int .i64 0, .int .i64 0, .int .i64 0, .string { data := #[] }], .int .i64 (s.size : Int)]) (by simp [results, Tryz.results33, go_sem, z0, z1, z2, z3, z4, z5]) rfl ⟨strAF_no HST.out, ?_⟩
      iterate 6 refine Below.setCell ?_ (by simp) _
      exact hbel
end Go.Proofs.YtdlhfiheingibaaGreatDoor

namespace Go.Proofs.YtdlhfiheingibaaGreatDoor
open Go.RowKit Go.Maps Go.WideMaps
set_option linter.unusedVariables false

theorem pre_ext (s x : ByteArray) (p : Nat) (hp : p ≤ s.size) : Lib.hasPrefix (s.extract p s.size).data.toList x.data.toList = decide (p + x.size ≤ s.size ∧ ((s.extract p (p + x.size)).toList == x.toList) = true) := by
  have hl : s.data.toList.length = s.size := Array.length_toList
  have hx : x.data.toList.length = x.size := Array.length_toList
  have e : (s.extract p s.size).data.toList = s.data.toList.drop p := by
    rw [← ByteArray.toList_eq, Lib.extract_toList, List.take_of_length_le]
    rw [List.length_drop, Array.length_toList]
    exact Nat.le_refl _
  have e2 : (s.extract p (p + x.size)).toList = (s.data.toList.drop p).take x.size := by
    rw [Lib.extract_toList]; congr 1; omega
  rw [e, e2, ByteArray.toList_eq x]
  unfold Lib.hasPrefix
  rw [Bool.eq_iff_iff, List.isPrefixOf_iff_prefix, decide_eq_true_iff, List.prefix_iff_eq_take, hx, beq_iff_eq]
  constructor
  · intro h
    refine ⟨?_, h.symm⟩
    have := congrArg List.length h
    rw [List.length_take, List.length_drop, hl, hx] at this
    omega
  · exact fun h => h.2.symm

set_option maxRecDepth 100000 in
set_option maxHeartbeats 3200000 in
theorem l1read_nl (s : ByteArray) (hm : s.size ≤ 70000) (p : Nat) (hp : p < s.size) (h10 : bat s p = 10) (w : World) : Calls Tryz.prog 17 #[.string s, .int .i64 p] w fun e w' => e = .returned (.tuple #[.agg #[.int .i64 7, .int .i64 p, .int .i64 ((p : Int) + 1), .int .i64 0, .int .i64 0, .string { data := #[] }], .int .i64 (-1)]) ∧ Below w.heap.size w w' := by
  have i1 := fun w => idx_run hp w
  rw [h10] at i1
  have hpi : (p : Int) < (s.size : Int) := by omega
  go_enter Tryz.func17, Tryz.ntmps17
  go_wp2
  refine bodyPost_ret (v := .tuple #[.agg #[.int .i64 7, .int .i64 p, .int .i64 ((p : Int) + 1), .int .i64 0, .int .i64 0, .string { data := #[] }], .int .i64 (-1)]) (by simp [results, Tryz.results17, go_sem]) rfl ⟨rfl, ?_⟩
  exact ((Below.refl _ w).alloc (Nat.le_refl _) _).alloc (by simp) _

theorem strAr_is (p : Nat) (R : Bool × Nat × List Int) : ∃ (t : Int) (x : ByteArray), strAr p R = .agg #[.int .i64 4, .int .i64 p, .int .i64 t, .int .i64 0, .int .i64 0, .string x] := by
  unfold strAr; split <;> exact ⟨_, _, rfl⟩

set_option maxRecDepth 100000 in
set_option maxHeartbeats 3200000 in
theorem l1read_str (s : ByteArray) (hm : s.size ≤ 70000) (p : Nat) (hp : p < s.size) (hd : bat s p = 34) (w : World) : Calls Tryz.prog 17 #[.string s, .int .i64 p] w fun e w' => e = .returned (.tuple #[strAr p (rdStr s (s.size + 1) (p + 1) []), .int .i64 (strFr (rdStr s (s.size + 1) (p + 1) []))]) ∧ Below w.heap.size w w' := by
  have i1 := fun w => idx_run hp w
  have kl := fun w => l1letter_q (c := 34) (b := false) (by decide) w
  have kd := fun w => l1digit_q (c := 34) (b := false) (by decide) w
  have kw := fun w => l1string_any s hm p hp w
  generalize rdStr s (s.size + 1) (p + 1) [] = R at kw
  obtain ⟨t, x, hT⟩ := strAr_is p R
  rw [hT] at kw ⊢
  generalize strFr R = F at kw
  rw [hd] at i1
  clear hT
  have hZ0 : TkAt w.heap.size ((w.alloc (.cells #[.int .i64 0, .int .i64 0, .int .i64 0, .int .i64 0, .int .i64 0, .string { data := #[] }] 45)).alloc (.cells #[.int .i64 0, .int .i64 p, .int .i64 0, .int .i64 0, .int .i64 0, .string { data := #[] }] 45)) 0 0 0 0 0 { data := #[] } := (Below.heap_alloc _ _ _ (by simp)).trans (heap_alloc_new w _)
  have hB0 : Below w.heap.size w ((w.alloc (.cells #[.int .i64 0, .int .i64 0, .int .i64 0, .int .i64 0, .int .i64 0, .string { data := #[] }] 45)).alloc (.cells #[.int .i64 0, .int .i64 p, .int .i64 0, .int .i64 0, .int .i64 0, .string { data := #[] }] 45)) := (((Below.refl _ w).alloc (Nat.le_refl _) _).alloc (by simp) _)
  go_enter Tryz.func17, Tryz.ntmps17
  go_wp2_with (first | (go_at_call 29; refine (kl _).mono ?_; rintro e w' ⟨rfl, rfl⟩) | (go_at_call 31; refine (kd _).mono ?_; rintro e w' ⟨rfl, rfl⟩))
  refine (kw _).mono ?_
  rintro e w3 ⟨rfl, hb3⟩
  have hZ3 := hZ0.below hb3 (by simp; omega)
  have hB3 := hB0.trans (hb3.mono (by simp; omega))
  clear hb3 hZ0 hB0 kw kl kd i1
  obtain ⟨z0, z1, z2, z3, z4, z5, zf⟩ := tk_cells hZ3
  have hx1 : w.heap.size < w3.heap.size := lt_of_block hZ3
  go_wp2
  refine bodyPost_ret (v := .tuple #[.agg #[.int .i64 4, .int .i64 p, .int .i64 t, .int .i64 0, .int .i64 0, .string x], .int .i64 F]) (by simp [results, Tryz.results17, go_sem, z0, z1, z2, z3, z4, z5]) rfl ⟨rfl, ?_⟩
  iterate 6 refine Below.setCell ?_ (by simp) _
  exact hB3

structure SgfIs (q : ByteArray → Bool) (f k : Nat) (R : Option Nat) : Prop where
  out : sgFq q f k = R
def sgnV2 (p : Nat) (R : Option Nat) : Value := match R with
  | some j => .tuple #[.agg #[.int .i64 (sgnI (strAt sgnV j)), .int .i64 p, .int .i64 ((p : Int) + ((strAt sgnV j).size : Int)), .int .i64 0, .int .i64 0, .string { data := #[] }], .int .i64 (-1)]
  | none => .tuple #[.agg #[.int .i64 0, .int .i64 p, .int .i64 0, .int .i64 0, .int .i64 0, .string { data := #[] }], .int .i64 p]
theorem sgn_sz : ∀ k : Fin 30, (strAt sgnV k.val).size ≤ 3 := by decide

set_option maxRecDepth 100000 in
set_option maxHeartbeats 6400000 in
theorem l1read_sgn (s : ByteArray) (hm : s.size ≤ 70000) (p : Nat) (hp : p < s.size) (h10 : ¬ bat s p = 10) (hl : lettB (bat s p) = false) (hd : digB (bat s p) = false) (h34 : ¬ bat s p = 34) (w : World) :
    Calls Tryz.prog 17 #[.string s, .int .i64 p] w fun e w' => e = .returned (sgnV2 p (sgFq (fun x => Lib.hasPrefix (s.extract p s.size).data.toList x.data.toList) 30 0)) ∧ Below w.heap.size w w' := by
  have i1 := fun w => idx_run hp w
  have g10 : (bat s p == 10) = false := by rw [beq_eq_false_iff_ne]; exact h10
  have g34 : (bat s p == 34) = false := by rw [beq_eq_false_iff_ne]; exact h34
  have kl := fun w => l1letter_q hl w
  have kd := fun w => l1digit_q hd w
  have hpi : (p : Int) < (s.size : Int) := by omega
  generalize bat s p = c at i1 g10 g34 kl kd
  obtain ⟨q, hq⟩ : ∃ q : ByteArray → Bool, (fun x => Lib.hasPrefix (s.extract p s.size).data.toList x.data.toList) = q := ⟨_, rfl⟩
  have hqx : ∀ x, q x = decide (p + x.size ≤ s.size ∧ ((s.extract p (p + x.size)).toList == x.toList) = true) := fun x => by rw [← hq]; exact pre_ext s x p (by omega)
  rw [hq]
  obtain ⟨R, hR⟩ : ∃ R, sgFq q 30 0 = R := ⟨_, rfl⟩
  rw [hR]
  have HR : SgfIs q 30 0 R := ⟨hR⟩
  have HQ : Hid (∀ x, q x = decide (p + x.size ≤ s.size ∧ ((s.extract p (p + x.size)).toList == x.toList) = true)) := hqx
  clear hR hq hqx h10 hl hd h34
  obtain ⟨W1, hW1⟩ : ∃ W1, (w.alloc (.cells #[.int .i64 0, .int .i64 0, .int .i64 0, .int .i64 0, .int .i64 0, .string { data := #[] }] 45)).alloc (.cells #[.int .i64 0, .int .i64 p, .int .i64 0, .int .i64 0, .int .i64 0, .string { data := #[] }] 45) = W1 := ⟨_, rfl⟩
  have hZ0 : TkAt w.heap.size W1 0 0 0 0 0 { data := #[] } := by rw [← hW1]; exact (Below.heap_alloc _ _ _ (by simp)).trans (heap_alloc_new w _)
  have hA0 : TkAt (w.heap.size + 1) W1 0 p 0 0 0 { data := #[] } := by
    rw [← hW1]
    have := heap_alloc_new (w.alloc (.cells #[.int .i64 0, .int .i64 0, .int .i64 0, .int .i64 0, .int .i64 0, .string { data := #[] }] 45)) (.cells #[.int .i64 0, .int .i64 p, .int .i64 0, .int .i64 0, .int .i64 0, .string { data := #[] }] 45)
    rw [World.size_alloc] at this
    exact this
  have hB0 : Below w.heap.size w W1 := by rw [← hW1]; exact (((Below.refl _ w).alloc (Nat.le_refl _) _).alloc (by simp) _)
  have HW1 : Hid ((w.alloc (.cells #[.int .i64 0, .int .i64 0, .int .i64 0, .int .i64 0, .int .i64 0, .string { data := #[] }] 45)).alloc (.cells #[.int .i64 0, .int .i64 p, .int .i64 0, .int .i64 0, .int .i64 0, .string { data := #[] }] 45) = W1) := hW1
  clear hW1
  go_enter Tryz.func17, Tryz.ntmps17
  go_wp2_with (first | (go_at_call 29; refine (kl _).mono ?_; rintro e w' ⟨rfl, rfl⟩) | (go_at_call 31; refine (kd _).mono ?_; rintro e w' ⟨rfl, rfl⟩))
  rw [HW1.out]
  refine (l1signs_any W1).mono ?_
  rintro e w3 ⟨rfl, hw3⟩
  have hA3 : TkAt (w.heap.size + 1) w3 0 p 0 0 0 { data := #[] } := by rw [hw3]; exact (Below.heap_alloc _ _ _ (lt_of_block hA0)).trans hA0
  have hZ3 : TkAt w.heap.size w3 0 0 0 0 0 { data := #[] } := by rw [hw3]; exact (Below.heap_alloc _ _ _ (lt_of_block hZ0)).trans hZ0
  have hB3 : Below w.heap.size w w3 := by rw [hw3]; exact hB0.alloc hB0.size _
  have hblk : w3.heap[W1.heap.size]? = some (.cells sgnV 9 (0, 0)) := by rw [hw3]; exact heap_alloc_new W1 _
  clear hw3 hA0 hZ0 hB0 kl kd i1 HW1 g10 g34
  go_wp2_with fail
  obtain ⟨t0, t1, t2, t3, t4, t5, tf⟩ := tk_cells hA3
  obtain ⟨z0, z1, z2, z3, z4, z5, zf⟩ := tk_cells hZ3
  have hx1 : w.heap.size < w3.heap.size := lt_of_block hZ3
  have hx2 : w.heap.size + 1 < w3.heap.size := lt_of_block hA3
  go_loop [45, 9] (fun i _ => ∃ j : Nat, j ≤ 30 ∧ i = .int .i64 j ∧ SgfIs q (30 - j) j R) (fun i _ => 30 - (intOf i).toNat)
  case atStart => exact ⟨0, by omega, rfl, HR⟩
  case round =>
    obtain ⟨j, hj, rfl, HF⟩ := hrel
    by_cases hlt : j < 30
    · have hck : w3.cell? ⟨W1.heap.size, j, none⟩ = some (.string (strAt sgnV j)) := by rw [cell_of_row _ _ _ _ _ _ hblk]; exact sgn_at ⟨j, hlt⟩
      have hst := HF.out
      rw [show 30 - j = (30 - (j + 1)) + 1 by omega, sgFq, HQ.out] at hst
      have hsz := sgn_sz ⟨j, hlt⟩
      simp only at hsz
      obtain ⟨x, hx⟩ : ∃ x, strAt sgnV j = x := ⟨_, rfl⟩
      rw [hx] at hck hst hsz
      have HX : Hid (strAt sgnV j = x) := hx
      clear hx HF HR
      by_cases hfit : p + x.size ≤ s.size
      · have hfi : (x.size : Int) ≤ (s.size : Int) - (p : Int) := by omega
        have hfj : (p : Int) + (x.size : Int) ≤ (s.size : Int) := by omega
        by_cases hxe : ((s.extract p (p + x.size)).toList == x.toList) = true
        · rw [if_pos (decide_eq_true ⟨hfit, hxe⟩)] at hst
          have HS : Hid (some j = R) := hst
          clear hst
          go_wp2_with (go_at_call 35; refine (l1sign_any x _).mono ?_; rintro e w4 ⟨rfl, hb4⟩; obtain ⟨d0, d1, d2, d3, d4, d5, df⟩ := tk_cells (hA3.below hb4 hx2); obtain ⟨y0, y1, y2, y3, y4, y5, yf⟩ := tk_cells (hZ3.below hb4 hx1); have hy1 := Nat.lt_of_lt_of_le hx1 hb4.size; have hy2 := Nat.lt_of_lt_of_le hx2 hb4.size)
          refine bodyPost_ret (v := .tuple #[.agg #[.int .i64 (sgnI x), .int .i64 p, .int .i64 ((p : Int) + (x.size : Int)), .int .i64 0, .int .i64 0, .string { data := #[] }], .int .i64 (-1)]) (by simp [results, Tryz.results17, go_sem, y0, y1, y2, y3, y4, y5]) rfl ⟨by rw [← HS.out]; have h := HX.out; subst h; rfl, ?_⟩
          iterate 8 refine Below.setCell ?_ (by simp) _
          exact hB3.trans (hb4.mono hB3.size)
        · have hxf : ((s.extract p (p + x.size)).toList == x.toList) = false := by simpa using hxe
          rw [if_neg (fun h => hxe (of_decide_eq_true h).2)] at hst
          have HS : SgfIs q (30 - (j + 1)) (j + 1) R := ⟨hst⟩
          clear hst hxe
          go_wp2_with fail
          go_round
          case rel => exact ⟨j + 1, by omega, by go_num, HS⟩
          case measure => simp [intOf]; omega
      · have hfi : ¬ (x.size : Int) ≤ (s.size : Int) - (p : Int) := by omega
        rw [if_neg (fun h => hfit (of_decide_eq_true h).1)] at hst
        have HS : SgfIs q (30 - (j + 1)) (j + 1) R := ⟨hst⟩
        clear hst
        go_wp2_with fail
        go_round
        case rel => exact ⟨j + 1, by omega, by go_num, HS⟩
        case measure => simp [intOf]; omega
    · obtain rfl : j = 30 := by omega
      have HS : Hid (none = R) := HF.out
      clear HF HR
      go_wp2_with fail
      refine bodyPost_ret (v := .tuple #[.agg #[.int .i64 0, .int .i64 p, .int .i64 0, .int .i64 0, .int .i64 0, .string { data := #[] }], .int .i64 (p : Int)]) (by simp [results, Tryz.results17, go_sem, z0, z1, z2, z3, z4, z5]) rfl ⟨by rw [← HS.out]; rfl, ?_⟩
      iterate 6 refine Below.setCell ?_ (by simp) _
      exact hB3
end Go.Proofs.YtdlhfiheingibaaGreatDoor

namespace Go.Proofs.YtdlhfiheingibaaGreatDoor
open Go.RowKit Go.Maps Go.WideMaps
set_option linter.unusedVariables false

/-- What the model reads at p, held against what the scanner reads. -/
structure RdOk (R : Rd) (k t n : Int) (x : ByteArray) (bad : Int) : Prop where
  yes : R.ok = true → bad = -1 ∧ k = R.k ∧ t = (R.a : Int) ∧ n = R.n ∧ x = R.x ∧ R.d = (if R.k = 7 then 1 else 0)
  no : R.ok = false → bad = (R.a : Int)
theorem wdP_k (s : ByteArray) (p : Nat) : (wdP s p).1 ≠ 7 := by
  unfold wdP; split
  · simp only; omega
  · simp
theorem nuP_k (s : ByteArray) (p : Nat) : (nuP s p).1 ≠ 7 := by
  unfold nuP; split
  · simp
  · split <;> simp

theorem l1read_any (s : ByteArray) (hm : s.size ≤ 70000) (p : Nat) (hp : p < s.size) (w : World) :
    Calls Tryz.prog 17 #[.string s, .int .i64 p] w fun e w' => ∃ k t n x bad, e = .returned (.tuple #[.agg #[.int .i64 k, .int .i64 p, .int .i64 t, .int .i64 0, .int .i64 n, .string x], .int .i64 bad]) ∧ RdOk (rdI s p) k t n x bad ∧ Below w.heap.size w w' := by
  unfold rdI
  by_cases hl : lettB (bat s p) = true
  · rw [if_pos hl]
    refine (l1read_lett s (by omega) p hp hl w).mono ?_
    rintro e w' ⟨rfl, hb⟩
    rw [wdT_P]
    exact ⟨_, _, _, _, _, rfl, ⟨fun _ => ⟨rfl, rfl, rfl, rfl, rfl, by simp only; rw [if_neg (wdP_k s p)]⟩, fun h => by cases h⟩, hb⟩
  rw [if_neg hl]
  by_cases hd : digB (bat s p) = true
  · rw [if_pos hd]
    refine (l1read_dig s (by omega) p hp hd w).mono ?_
    rintro e w' ⟨rfl, hb⟩
    cases hok : (numN s p).2 with
    | true =>
      obtain ⟨e1, e2⟩ := numA_P s p hok
      rw [e1, e2, if_pos rfl]
      exact ⟨_, _, _, _, _, rfl, ⟨fun _ => ⟨rfl, rfl, rfl, rfl, rfl, by simp only; rw [if_neg (nuP_k s p)]⟩, fun h => by cases h⟩, hb⟩
    | false =>
      obtain ⟨k, t, n, x, e1⟩ := numA_is s p
      rw [e1, numF_bad s p hok, if_neg (by simp)]
      exact ⟨_, _, _, _, _, rfl, ⟨fun h => by (try simp at h), fun h => rfl⟩, hb⟩
  rw [if_neg hd]
  by_cases h34 : bat s p = 34
  · rw [if_pos h34]
    refine (l1read_str s hm p hp h34 w).mono ?_
    rintro e w' ⟨rfl, hb⟩
    generalize rdStr s (s.size + 1) (p + 1) [] = R
    obtain ⟨ok, a, c⟩ := R
    cases ok with
    | true => exact ⟨_, _, _, _, _, rfl, ⟨fun _ => ⟨rfl, rfl, rfl, rfl, rfl, rfl⟩, fun h => by cases h⟩, hb⟩
    | false => exact ⟨_, _, _, _, _, rfl, ⟨fun h => (by cases h), fun h => rfl⟩, hb⟩
  rw [if_neg h34]
  have hb0 : bat (s.extract p s.size) 0 = bat s p := ext_bat s p s.size 0 (Nat.le_refl _) (by omega)
  by_cases h10 : bat s p = 10
  · have hk : skI (s.extract p s.size) = 7 := by unfold skI; rw [hb0, h10]; rfl
    rw [hk, if_neg (by decide)]
    refine (l1read_nl s hm p hp h10 w).mono ?_
    rintro e w' ⟨rfl, hb⟩
    exact ⟨_, _, _, _, _, rfl, ⟨fun _ => ⟨rfl, rfl, rfl, rfl, rfl, rfl⟩, fun h => by cases h⟩, hb⟩
  · have hs := sg_same (s.extract p s.size) (by rw [hb0]; exact h10)
    unfold SgSame at hs
    refine (l1read_sgn s hm p hp h10 (by simpa using hl) (by simpa using hd) h34 w).mono ?_
    rintro e w' ⟨rfl, hb⟩
    generalize sgFq (fun x => Lib.hasPrefix (s.extract p s.size).data.toList x.data.toList) 30 0 = R at hs
    cases R with
    | none =>
      rw [show skI (s.extract p s.size) = 0 from hs, if_pos rfl]
      exact ⟨_, _, _, _, _, rfl, ⟨fun h => (by cases h), fun h => rfl⟩, hb⟩
    | some j =>
      obtain ⟨e1, e2, e3, e4⟩ := (show _ ∧ _ ∧ _ ∧ _ from hs)
      rw [if_neg e3]
      refine ⟨_, _, _, _, _, rfl, ⟨fun _ => ⟨rfl, e1.symm, ?_, rfl, rfl, rfl⟩, fun h => by cases h⟩, hb⟩
      show (p : Int) + ((strAt sgnV j).size : Int) = ((p + (fixI (skI (s.extract p s.size))).size : Nat) : Int)
      rw [e2]; omega
end Go.Proofs.YtdlhfiheingibaaGreatDoor

namespace Go.Proofs.YtdlhfiheingibaaGreatDoor
open Go.RowKit Go.Maps Go.WideMaps
set_option linter.unusedVariables false

structure NlIs (s : ByteArray) (f k e : Nat) : Prop where
  out : runE nnB s f k = e
structure BlkIs (s : ByteArray) (f k e : Nat) : Prop where
  out : blk s f k = e

set_option maxRecDepth 100000 in
set_option maxHeartbeats 3200000 in
theorem l1blanks_any (s : ByteArray) (hm : s.size ≤ 1100000) (p : Nat) (hp : p ≤ s.size) (w : World) : Calls Tryz.prog 16 #[.string s, .int .i64 p] w fun e w' => e = .returned (.int .i64 (blk s (s.size + 1) p)) ∧ w' = w := by
  obtain ⟨R, hR⟩ : ∃ R, blk s (s.size + 1) p = R := ⟨_, rfl⟩
  rw [hR]
  have HR : BlkIs s (s.size + 1) p R := ⟨hR⟩
  clear hR
  go_enter Tryz.func16, Tryz.ntmps16
  go_wp2_with fail
  go_loop [1, 5] (fun i b => ∃ (k f : Nat), k ≤ s.size ∧ s.size < k + f ∧ i = .int .i64 k ∧ BlkIs s f k R) (fun i _ => s.size - (intOf i).toNat)
  case atStart => exact ⟨p, s.size + 1, hp, by omega, rfl, HR⟩
  case round =>
    obtain ⟨k, f, hk, hf, rfl, HF⟩ := hrel
    obtain ⟨f, rfl⟩ : ∃ g, f = g + 1 := ⟨f - 1, by omega⟩
    have hst := HF.out
    rw [blk] at hst
    by_cases hlt : k < s.size
    · have hki : (k : Int) < (s.size : Int) := by omega
      rw [if_neg (by omega)] at hst
      have i1 := fun w => idx_run hlt w
      have nb := bat_in hlt
      by_cases hb : blankB (bat s k) = true
      · rw [if_pos hb] at hst
        have HS : BlkIs s f (k + 1) R := ⟨hst⟩
        have hb' : bat s k = 32 ∨ bat s k = 9 ∨ bat s k = 13 := of_decide_eq_true hb
        generalize bat s k = c at i1 hb' nb
        clear hst HF hb
        rcases hb' with rfl | rfl | rfl
        all_goals
          go_wp2_with fail
          go_round
          case rel => exact ⟨k + 1, f, by omega, by omega, by go_num, HS⟩
          case measure => simp [intOf]; omega
      · rw [if_neg hb] at hst
        have hb' : ¬ (bat s k = 32 ∨ bat s k = 9 ∨ bat s k = 13) := fun h => hb (decide_eq_true h)
        have g1 : (bat s k == 32) = false := by rw [beq_eq_false_iff_ne]; omega
        have g2 : (bat s k == 9) = false := by rw [beq_eq_false_iff_ne]; omega
        have g3 : (bat s k == 13) = false := by rw [beq_eq_false_iff_ne]; omega
        have kl := fun w => l1look_q s hm ((k : Int) + 1) (k + 1) (by omega) w
        have hl1 := lk_eq s (k + 1) 45 (by omega)
        by_cases hd : bat s k = 45 ∧ bat s (k + 1) = 45
        · rw [if_pos hd] at hst
          have HS : BlkIs s f (nlE s k) R := ⟨hst⟩
          rw [hd.2] at hl1
          have hl2 : lk s (k + 1) = 45 := by simpa using hl1
          have h1 := nlE_pos s k hd.1
          have h2 := nlE_bd s k hk
          rw [hd.1] at i1
          rw [hl2] at kl
          have HN : NlIs s (s.size + 1) k (nlE s k) := ⟨rfl⟩
          generalize nlE s k = N at HS h1 h2 HN
          clear hst HF hb hb' g1 g2 g3 hl1 hl2 hd nb
          go_wp2_with (go_at_call 28; refine (kl _).mono ?_; rintro e w' ⟨rfl, rfl⟩)
          go_loop [1] (fun i => ∃ (j g : Nat), j ≤ s.size ∧ s.size < j + g ∧ i = .int .i64 j ∧ NlIs s g j N) (fun i => s.size - (intOf i).toNat)
          case atStart => exact ⟨k, s.size + 1, hk, by omega, rfl, HN⟩
          case round =>
            obtain ⟨j, g, hj, hg, rfl, HJ⟩ := hrel
            obtain ⟨g, rfl⟩ : ∃ q, g = q + 1 := ⟨g - 1, by omega⟩
            have hst := HJ.out
            rw [runE] at hst
            clear i1 HJ
            by_cases hjl : j < s.size
            · have hji : (j : Int) < (s.size : Int) := by omega
              have i2 := fun w => idx_run hjl w
              have nj := bat_in hjl
              by_cases h10 : bat s j = 10
              · rw [if_neg (by rw [h10]; decide)] at hst
                rw [h10] at i2
                have HK : Hid (j = N) := hst
                clear hst h10 nj
                go_wp2_with fail
                go_round
                case rel => exact ⟨j, f, by omega, by have := HK.out; omega, by go_num, by rw [HK.out]; exact HS⟩
                case measure => have := HK.out; simp [intOf]; omega
              · rw [if_pos (by unfold nnB; rw [decide_eq_true_iff]; exact ⟨h10, by omega⟩)] at hst
                have HK : NlIs s g (j + 1) N := ⟨hst⟩
                have g10 : (bat s j == 10) = false := by rw [beq_eq_false_iff_ne]; exact h10
                generalize bat s j = c at i2 g10
                clear hst h10 nj
                go_wp2_with fail
                go_round
                case rel => exact ⟨j + 1, g, by omega, by omega, by go_num, HK⟩
                case measure => simp [intOf]; omega
            · obtain rfl : j = s.size := by omega
              rw [if_neg (by rw [bat_out (Nat.lt_irrefl _)]; decide)] at hst
              have HK : Hid (s.size = N) := hst
              clear hst
              go_wp2_with fail
              go_round
              case rel => exact ⟨s.size, f, by omega, by omega, by go_num, by rw [HK.out]; exact HS⟩
              case measure => simp [intOf]; omega
        · rw [if_neg hd] at hst
          have HS : Hid (k = R) := hst
          clear hst HF
          by_cases h45 : bat s k = 45
          · have hn : bat s (k + 1) ≠ 45 := fun h => hd ⟨h45, h⟩
            rw [decide_eq_false hn] at hl1
            rw [h45] at i1
            generalize lk s (k + 1) = x at kl hl1
            clear hb hb' g1 g2 g3 hd nb hn h45
            go_wp2_with (go_at_call 28; refine (kl _).mono ?_; rintro e w' ⟨rfl, rfl⟩)
            go_ret
            exact ⟨by rw [← HS.out]; rfl, rfl⟩
          · have g4 : (bat s k == 45) = false := by rw [beq_eq_false_iff_ne]; exact h45
            have g5 : (bat s k != 45) = true := by rw [bne_iff_ne]; exact h45
            generalize bat s k = c at i1 g1 g2 g3 g4 g5
            clear hb hb' hd nb h45 kl hl1
            go_wp2_with fail
            go_ret
            exact ⟨by rw [← HS.out]; rfl, rfl⟩
    · obtain rfl : k = s.size := by omega
      rw [if_pos (Nat.le_refl _)] at hst
      have HS : Hid (s.size = R) := hst
      clear hst HF
      go_wp2_with fail
      go_ret
      exact ⟨by rw [← HS.out]; rfl, rfl⟩
end Go.Proofs.YtdlhfiheingibaaGreatDoor
