import Derived.Test.YtcnhhhfedakepaaGreatDoorMM08
import Derived.Lib.ItoaNum
import Derived.Test.YtcnhhhfedakepaaGreatDoorMM05
namespace Go.Proofs.YtcnhhhfedakepaaGreatDoor
open Go.RowKit Go.Maps Go.WideMaps
set_option linter.unusedVariables false

theorem hxA_is (s : ByteArray) (p : Nat) : ∃ (t n : Int), hxA s p = .agg #[.int .i64 2, .int .i64 p, .int .i64 t, .int .i64 0, .int .i64 n, .string { data := #[] }] := by
  unfold hxA; split <;> exact ⟨_, _, rfl⟩
def numA (s : ByteArray) (p : Nat) : Value := if bat s p = 48 ∧ bat s (p + 1) = 120 then hxA s p else nmA s p
def numF (s : ByteArray) (p : Nat) : Int := if bat s p = 48 ∧ bat s (p + 1) = 120 then hxF s p else nmF s p
theorem nmA_is (s : ByteArray) (p : Nat) : ∃ (k t n : Int) (x : ByteArray), nmA s p = .agg #[.int .i64 k, .int .i64 p, .int .i64 t, .int .i64 0, .int .i64 n, .string x] := by
  unfold nmA decV; split
  · split
    · exact ⟨_, _, _, _, rfl⟩
    · split <;> exact ⟨_, _, _, _, rfl⟩
  · exact ⟨_, _, _, _, rfl⟩
theorem numA_is (s : ByteArray) (p : Nat) : ∃ (k t n : Int) (x : ByteArray), numA s p = .agg #[.int .i64 k, .int .i64 p, .int .i64 t, .int .i64 0, .int .i64 n, .string x] := by
  unfold numA; split
  · obtain ⟨t, n, h⟩ := hxA_is s p; exact ⟨_, _, _, _, h⟩
  · exact nmA_is s p

set_option maxRecDepth 100000 in
set_option maxHeartbeats 3200000 in
theorem l1number_hex (s : ByteArray) (hm : s.size ≤ 1100000) (p : Nat) (h0 : bat s p = 48) (h1 : bat s (p + 1) = 120) (w : World) : Calls Tryz.prog 113 #[.string s, .agg #[.int .i64 0, .int .i64 p, .int .i64 0, .int .i64 0, .int .i64 0, .string { data := #[] }]] w fun e w' => e = .returned (.tuple #[hxA s p, .int .i64 (hxF s p)]) ∧ Below w.heap.size w w' := by
  have hp1 := lt_of_bat h1 (by omega)
  have i0 := fun w => idx_run (s := s) (i := p) (by omega) w
  rw [h0] at i0
  have kk : ∀ w, Calls Tryz.prog 130 #[.string s, .int .i64 ((p : Int) + 1)] w fun e w' => e = .returned (.int .u8 120) ∧ w' = w := fun w => by
    have := l1look_q s hm ((p : Int) + 1) (p + 1) (by omega) w
    rw [lk_bat hp1, h1] at this
    exact this
  have kh := fun w => l1hexed_any s hm p (by omega) w
  obtain ⟨t, n, hA⟩ := hxA_is s p
  rw [hA] at kh ⊢
  generalize hxF s p = F at kh
  clear hA h0 h1
  have hZ0 : TkAt (w.heap.size + 1) ((w.alloc (.cells #[.int .i64 2, .int .i64 p, .int .i64 0, .int .i64 0, .int .i64 0, .string { data := #[] }] 161)).alloc (.cells #[.int .i64 0, .int .i64 0, .int .i64 0, .int .i64 0, .int .i64 0, .string { data := #[] }] 161)) 0 0 0 0 0 { data := #[] } := by
    have := heap_alloc_new (w.alloc (.cells #[.int .i64 2, .int .i64 p, .int .i64 0, .int .i64 0, .int .i64 0, .string { data := #[] }] 161)) (.cells #[.int .i64 0, .int .i64 0, .int .i64 0, .int .i64 0, .int .i64 0, .string { data := #[] }] 161)
    rw [World.size_alloc] at this
    exact this
  have hB0 : Below w.heap.size w ((w.alloc (.cells #[.int .i64 2, .int .i64 p, .int .i64 0, .int .i64 0, .int .i64 0, .string { data := #[] }] 161)).alloc (.cells #[.int .i64 0, .int .i64 0, .int .i64 0, .int .i64 0, .int .i64 0, .string { data := #[] }] 161)) := (((Below.refl _ w).alloc (Nat.le_refl _) _).alloc (by simp) _)
  go_enter Tryz.func113, Tryz.ntmps113
  go_wp2_with (first | (go_at_call 130; refine (kk _).mono ?_; rintro e w' ⟨rfl, rfl⟩) | (go_at_call 132; fail))
  refine (kh _).mono ?_
  rintro e w3 ⟨rfl, hb3⟩
  have hZ3 := hZ0.below hb3 (by simp)
  have hB3 := hB0.trans (hb3.mono (by simp; omega))
  clear hb3 hZ0 hB0 kh kk i0
  obtain ⟨z0, z1, z2, z3, z4, z5, zf⟩ := tk_cells hZ3
  have hx1 : w.heap.size + 1 < w3.heap.size := lt_of_block hZ3
  go_wp2
  refine bodyPost_ret (v := .tuple #[.agg #[.int .i64 2, .int .i64 p, .int .i64 t, .int .i64 0, .int .i64 n, .string { data := #[] }], .int .i64 F]) (by simp [results, Tryz.results113, go_sem, z0, z1, z2, z3, z4, z5]) rfl ⟨rfl, ?_⟩
  iterate 6 refine Below.setCell ?_ (by simp) _
  exact hB3

theorem l1number_any (s : ByteArray) (hm : s.size ≤ 1100000) (p : Nat) (hp : p < s.size) (hd : digB (bat s p) = true) (w : World) : Calls Tryz.prog 113 #[.string s, .agg #[.int .i64 0, .int .i64 p, .int .i64 0, .int .i64 0, .int .i64 0, .string { data := #[] }]] w fun e w' => e = .returned (.tuple #[numA s p, .int .i64 (numF s p)]) ∧ Below w.heap.size w w' := by
  unfold numA numF
  split
  · rename_i hx; exact l1number_hex s hm p hx.1 hx.2 w
  · rename_i hx; exact l1number_dec s hm p hp hd hx w

theorem l1letter_q {c : Int} {b : Bool} (h : lettB c = b) (w : World) : Calls Tryz.prog 97 #[.int .u8 c] w fun e w' => e = .returned (.bool b) ∧ w' = w := (l1letter_any c w).mono fun e w' g => ⟨by rw [g.1, h], g.2.symm⟩

set_option maxRecDepth 100000 in
set_option maxHeartbeats 3200000 in
/-- l1read at a digit. -/
theorem l1read_dig (s : ByteArray) (hm : s.size ≤ 1100000) (p : Nat) (hp : p < s.size) (hd : digB (bat s p) = true) (w : World) : Calls Tryz.prog 96 #[.string s, .int .i64 p] w fun e w' => e = .returned (.tuple #[numA s p, .int .i64 (numF s p)]) ∧ Below w.heap.size w w' := by
  have i1 := fun w => idx_run hp w
  have hr := dig_range hd
  have hl : lettB (bat s p) = false := by simp [lettB]; omega
  have kl := fun w => l1letter_q hl w
  have kd := fun w => l1digit_q hd w
  have kw := fun w => l1number_any s hm p hp hd w
  obtain ⟨k, t, n, x, hT⟩ := numA_is s p
  rw [hT] at kw ⊢
  generalize numF s p = F at kw
  generalize bat s p = c at i1 kl kd hr
  have h10 : (c == 10) = false := by rw [beq_eq_false_iff_ne]; omega
  clear hl hd hT
  have hZ0 : TkAt w.heap.size ((w.alloc (.cells #[.int .i64 0, .int .i64 0, .int .i64 0, .int .i64 0, .int .i64 0, .string { data := #[] }] 161)).alloc (.cells #[.int .i64 0, .int .i64 p, .int .i64 0, .int .i64 0, .int .i64 0, .string { data := #[] }] 161)) 0 0 0 0 0 { data := #[] } := (Below.heap_alloc _ _ _ (by simp)).trans (heap_alloc_new w _)
  have hB0 : Below w.heap.size w ((w.alloc (.cells #[.int .i64 0, .int .i64 0, .int .i64 0, .int .i64 0, .int .i64 0, .string { data := #[] }] 161)).alloc (.cells #[.int .i64 0, .int .i64 p, .int .i64 0, .int .i64 0, .int .i64 0, .string { data := #[] }] 161)) := (((Below.refl _ w).alloc (Nat.le_refl _) _).alloc (by simp) _)
  go_enter Tryz.func96, Tryz.ntmps96
  go_wp2_with (first | (go_at_call 97; refine (kl _).mono ?_; rintro e w' ⟨rfl, rfl⟩) | (go_at_call 95; refine (kd _).mono ?_; rintro e w' ⟨rfl, rfl⟩))
  refine (kw _).mono ?_
  rintro e w3 ⟨rfl, hb3⟩
  have hZ3 := hZ0.below hb3 (by simp; omega)
  have hB3 := hB0.trans (hb3.mono (by simp; omega))
  clear hb3 hZ0 hB0 kw kl kd i1
  obtain ⟨z0, z1, z2, z3, z4, z5, zf⟩ := tk_cells hZ3
  have hx1 : w.heap.size < w3.heap.size := lt_of_block hZ3
  go_wp2
  refine bodyPost_ret (v := .tuple #[.agg #[.int .i64 k, .int .i64 p, .int .i64 t, .int .i64 0, .int .i64 n, .string x], .int .i64 F]) (by simp [results, Tryz.results96, go_sem, z0, z1, z2, z3, z4, z5]) rfl ⟨rfl, ?_⟩
  iterate 6 refine Below.setCell ?_ (by simp) _
  exact hB3

/-- l1fltok, by what l1read answers. -/
theorem numN_num (s : ByteArray) (p : Nat) : (numF s p < 0 ↔ (numN s p).2 = true) ∧ ∃ (k t n : Int) (x : ByteArray), numA s p = .agg #[.int .i64 k, .int .i64 p, .int .i64 t, .int .i64 0, .int .i64 n, .string x] ∧ ((numN s p).2 = true → t = ((numN s p).1 : Int) ∧ ((k == 3) = decide (¬ (bat s p = 48 ∧ bat s (p + 1) = 120) ∧ (nKd s p = true ∨ dcS s p ((numN s p).1 - p) = none)))) := by
  unfold numF numA numN
  by_cases hx : bat s p = 48 ∧ bat s (p + 1) = 120
  · simp only [if_pos hx]
    unfold hxF hxA
    cases hh : (hexN s (p + 2)).2 with
    | true =>
      simp only [if_true]
      refine ⟨⟨fun _ => trivial, fun _ => by omega⟩, 2, _, _, _, rfl, fun _ => ⟨rfl, ?_⟩⟩
      simp [hx]
    | false =>
      simp only [if_neg (show ¬ false = true by simp)]
      refine ⟨⟨fun h => by omega, fun h => by cases h⟩, 2, _, _, _, rfl, fun h => by cases h⟩
  · simp only [if_neg hx]
    unfold nmF nmA decV
    cases hh : (nEx s (nA1 s (nA0 s p))).2 with
    | true =>
      simp only [if_true]
      refine ⟨⟨fun _ => trivial, fun _ => by omega⟩, ?_⟩
      cases hk : nKd s p with
      | true =>
        simp only [if_true]
        exact ⟨3, _, _, _, rfl, fun _ => ⟨rfl, by simp [hx]⟩⟩
      | false =>
        simp only [if_neg (show ¬ false = true by simp)]
        cases hc : dcS s p ((nEx s (nA1 s (nA0 s p))).1 - p) with
        | none => exact ⟨3, _, _, _, rfl, fun _ => ⟨rfl, by simp [hx]⟩⟩
        | some u => exact ⟨2, _, _, _, rfl, fun _ => ⟨rfl, by simp⟩⟩
    | false =>
      simp only [if_neg (show ¬ false = true by simp)]
      refine ⟨⟨fun h => by omega, fun h => by cases h⟩, 3, _, _, _, rfl, fun h => by cases h⟩
end Go.Proofs.YtcnhhhfedakepaaGreatDoor

namespace Go.Proofs.YtcnhhhfedakepaaGreatDoor
open Go.RowKit Go.Maps Go.WideMaps
set_option linter.unusedVariables false

theorem dec_flt (q : ByteArray) (hd : digB (bat q 0) = true) (hN : nEx q (nA1 q (nA0 q 0)) = (q.size, true)) : decI q = none ↔ (nKd q 0 = true ∨ dcS q 0 q.size = none) := by
  cases hk : nKd q 0 with
  | false =>
    obtain ⟨h1, h2⟩ := dec_all q 0 hd hk
    have e : nA0 q 0 = q.size := by rw [hN] at h1; exact (Prod.mk.inj h1).1.symm
    rw [decI_dig q (dig_lt hd) (fun i hi => h2 i (by omega) (by omega))]
    simp
  | true =>
    simp only [true_or, iff_true]
    unfold nKd at hk
    rcases of_decide_eq_true hk with h | h
    · exact decI_bad q hd _ (lt_of_bat h.1 (by omega)) (by rw [h.1]; decide)
    · exact decI_bad q hd _ (lt_of_bat h (by omega)) (by rw [h]; decide)

def fok (q : ByteArray) : Bool := decide (q.size ≤ 40) && fltI q

set_option maxRecDepth 100000 in
set_option maxHeartbeats 3200000 in
theorem l1fltok_any (s : ByteArray) (hm : s.size ≤ 1100000) (w : World) : Calls Tryz.prog 79 #[.string s] w fun e w' => e = .returned (.bool (fok s)) ∧ Below w.heap.size w w' := by
  unfold fok
  by_cases h0 : 0 < s.size
  · have n0 : ((s.size : Int) == 0) = false := by rw [beq_eq_false_iff_ne]; omega
    by_cases h40 : s.size ≤ 40
    · have n40 : ¬ (40 : Int) < (s.size : Int) := by omega
      have i1 : ∀ w, (Instr.index 9 (.string s) (.int .i64 0)).run Tryz.prog w = .ok (.int .u8 (bat s 0)) w := fun w => idx_run h0 w
      by_cases hd : digB (bat s 0) = true
      · have kd := fun w => l1digit_q hd w
        have kr : ∀ w, Calls Tryz.prog 96 #[.string s, .int .i64 0] w fun e w' => e = .returned (.tuple #[numA s 0, .int .i64 (numF s 0)]) ∧ Below w.heap.size w w' := fun w => l1read_dig s hm 0 h0 hd w
        obtain ⟨hF, k, t, n, x, hA, hok⟩ := numN_num s 0
        rw [hA] at kr
        have hres : (decide (s.size ≤ 40) && fltI s) = (decide (numF s 0 < 0) && ((k == 3) && (t == (s.size : Int)))) := by
          rw [decide_eq_true h40, Bool.true_and]
          unfold fltI
          cases h2 : (numN s 0).2 with
          | false =>
            rw [decide_eq_false (show ¬ numF s 0 < 0 by rw [hF, h2]; simp), Bool.false_and, decide_eq_false_iff_not]
            rintro ⟨_, h, _⟩
            rw [h] at h2; cases h2
          | true =>
            obtain ⟨ht, hk⟩ := hok h2
            rw [decide_eq_true (hF.2 h2), Bool.true_and, hk, ht]
            by_cases he : (numN s 0).1 = s.size
            · have hN : numN s 0 = (s.size, true) := Prod.ext he h2
              rw [hN]
              simp only [Nat.sub_zero, beq_self_eq_true, Bool.and_true]
              rw [decide_eq_decide]
              constructor
              · rintro ⟨_, _, g1, g2⟩
                have hx : nEx s (nA1 s (nA0 s 0)) = (s.size, true) := by rw [← hN]; unfold numN; rw [if_neg g1]
                exact ⟨g1, (dec_flt s hd hx).1 g2⟩
              · rintro ⟨g1, g2⟩
                have hx : nEx s (nA1 s (nA0 s 0)) = (s.size, true) := by rw [← hN]; unfold numN; rw [if_neg g1]
                exact ⟨hd, trivial, g1, (dec_flt s hd hx).2 g2⟩
            · rw [show ((((numN s 0).1 : Nat) : Int) == (s.size : Int)) = false by rw [beq_eq_false_iff_ne]; omega, Bool.and_false, decide_eq_false_iff_not]
              rintro ⟨_, h, _⟩
              rw [h] at he; exact he rfl
        rw [hres]
        clear hres hok hA hF
        generalize numF s 0 = F at kr
        generalize bat s 0 = c at i1 kd
        clear hd
        by_cases hF : F < 0
        · by_cases hk : k = 3
          · subst hk
            go_enter Tryz.func79, Tryz.ntmps79
            go_wp2_with (first | (go_at_call 95; refine (kd _).mono ?_; rintro e w' ⟨rfl, rfl⟩) | (go_at_call 96; refine (kr _).mono ?_; rintro e w3 ⟨rfl, hb3⟩))
            go_ret
            exact ⟨by simp [hF], hb3.alloc hb3.size _⟩
          · have hk' : (k == 3) = false := by simp [hk]
            clear hk
            go_enter Tryz.func79, Tryz.ntmps79
            go_wp2_with (first | (go_at_call 95; refine (kd _).mono ?_; rintro e w' ⟨rfl, rfl⟩) | (go_at_call 96; refine (kr _).mono ?_; rintro e w3 ⟨rfl, hb3⟩))
            go_ret
            exact ⟨by simp [hk'], hb3.alloc hb3.size _⟩
        · go_enter Tryz.func79, Tryz.ntmps79
          go_wp2_with (first | (go_at_call 95; refine (kd _).mono ?_; rintro e w' ⟨rfl, rfl⟩) | (go_at_call 96; refine (kr _).mono ?_; rintro e w3 ⟨rfl, hb3⟩))
          go_ret
          exact ⟨by rw [decide_eq_false (show ¬ F < 0 by omega)]; simp, hb3.alloc hb3.size _⟩
      · have hd' : digB (bat s 0) = false := by simpa using hd
        have kd := fun w => l1digit_q hd' w
        rw [show fltI s = false by unfold fltI; simp [hd'], Bool.and_false]
        clear hd hd'
        generalize bat s 0 = c at i1 kd
        go_enter Tryz.func79, Tryz.ntmps79
        go_wp2_with (first | (go_at_call 95; refine (kd _).mono ?_; rintro e w' ⟨rfl, rfl⟩))
        go_ret
        exact ⟨rfl, Below.refl _ _⟩
    · have n40 : (40 : Int) < (s.size : Int) := by omega
      rw [decide_eq_false h40, Bool.false_and]
      go_enter Tryz.func79, Tryz.ntmps79
      go_wp2
      go_ret
      exact ⟨rfl, Below.refl _ _⟩
  · have n0 : ((s.size : Int) == 0) = true := by rw [beq_iff_eq]; omega
    rw [show fltI s = false by unfold fltI; rw [bat_out h0]; simp [dig_neg], Bool.and_false]
    go_enter Tryz.func79, Tryz.ntmps79
    go_wp2
    go_ret
    exact ⟨rfl, Below.refl _ _⟩
end Go.Proofs.YtcnhhhfedakepaaGreatDoor

namespace Go.Proofs.YtcnhhhfedakepaaGreatDoor
open Go.RowKit Go.Maps Go.WideMaps
set_option linter.unusedVariables false

/-- The hexadecimal digit of u at 16^j. -/
def hxd (u : Nat) (j : Nat) : Int := hexd ((u / 16 ^ j % 16 : Nat) : Int)
/-- '0x' and the first r of the sixteen digits of u. -/
def hxO (u : Nat) : Nat → ByteArray
  | 0 => { data := #[48, 120] }
  | r + 1 => hxO u r ++ strI [hxd u (15 - r)]

theorem Nat.pow_mul_two16 (k : Nat) : (2 : Int) ^ (4 * k) = (16 : Int) ^ k := by rw [Int.pow_mul]; rfl
theorem hxO_size (u : Nat) : ∀ r, (hxO u r).size = r + 2
  | 0 => rfl
  | r + 1 => by show (hxO u r ++ strI [hxd u (15 - r)]).size = _; rw [ByteArray.size_append, hxO_size u r]; rfl
theorem DG_run64 (d : Int) (h0 : 0 ≤ d) (h1 : d < 16) (w : World) : (Instr.index 9 (.string { data := #[48, 49, 50, 51, 52, 53, 54, 55, 56, 57, 97, 98, 99, 100, 101, 102] }) (.int .u64 d)).run Tryz.prog w = .ok (.int .u8 (hexd d)) w := by
  have h : d.toNat < DG.size := by simp only [DG]; show d.toNat < 16; omega
  have q := DG_at d h0 h1 h
  go_simp
  exact q
theorem low64 (c : Int) (h0 : 0 ≤ c) (h1 : c < 18446744073709551616) : bits .and .u64 c 15 = c % 16 := by
  have := bits_mask .u64 64 (by decide) (fun n a b => by rw [IntKind.wrap_u64]; omega) 4 (by decide) c h0 h1
  simpa using this

end Go.Proofs.YtcnhhhfedakepaaGreatDoor

namespace Go.Proofs.YtcnhhhfedakepaaGreatDoor
open Go.RowKit Go.Maps Go.WideMaps
set_option linter.unusedVariables false

theorem tz_and : bits .and .u64 16 (IntKind.u64.wrap (-16)) = 16 := by decide +kernel
theorem tz_mul : IntKind.u64.wrap 4573923408821661840 = 4573923408821661840 := by decide +kernel
set_option maxHeartbeats 400000 in
theorem tz64 (w : World) (h : w.cell? ⟨6, 15, none⟩ = some (.int .u8 4)) : Calls Tryz.prog 129 #[.int .u64 16] w fun e w' => e = .returned (.int .i64 4) ∧ w' = w := by
  have ha := tz_and
  have hb := tz_mul
  go_enter Tryz.func129, Tryz.ntmps129
  go_wp2
  go_ret
  exact ⟨rfl, rfl⟩
set_option maxHeartbeats 400000 in
theorem tz (w : World) (h : w.cell? ⟨6, 15, none⟩ = some (.int .u8 4)) : Calls Tryz.prog 110 #[.int .u64 16] w fun e w' => e = .returned (.int .i64 4) ∧ w' = w := by
  go_enter Tryz.func110, Tryz.ntmps110
  go_wp2_with (go_at_call 129; refine (tz64 _ h).mono ?_; rintro e w' ⟨rfl, rfl⟩)
  go_ret
  exact ⟨rfl, rfl⟩
theorem p2_and : bits .and .i64 16 15 = 0 := by decide +kernel
set_option maxHeartbeats 400000 in
theorem p2 (w : World) : Calls Tryz.prog 109 #[.int .i64 16] w fun e w' => e = .returned (.bool true) ∧ w' = w := by
  have ha := p2_and
  go_enter Tryz.func109, Tryz.ntmps109
  go_wp2
  go_ret
  exact ⟨rfl, rfl⟩

/-- The digits of the library's table. -/
def D36 : ByteArray := { data := #[48, 49, 50, 51, 52, 53, 54, 55, 56, 57, 97, 98, 99, 100, 101, 102, 103, 104, 105, 106, 107, 108, 109, 110, 111, 112, 113, 114, 115, 116, 117, 118, 119, 120, 121, 122] }
theorem D36_nat : ∀ i : Fin 16, ((D36[i.val]'(by have := i.isLt; show i.val < 36; omega)).toNat : Int) = hexd (i.val : Int) := by decide
theorem D36_at (d : Int) (h0 : 0 ≤ d) (h1 : d < 16) (h : d.toNat < D36.size) : ((D36[d.toNat]'h).toNat : Int) = hexd d := by
  have := D36_nat ⟨d.toNat, by omega⟩
  have e : ((d.toNat : Nat) : Int) = d := by omega
  simp only [e] at this
  exact this
theorem D36_run (d : Int) (h0 : 0 ≤ d) (h1 : d < 16) (w : World) : (Instr.index 9 (.string { data := #[48, 49, 50, 51, 52, 53, 54, 55, 56, 57, 97, 98, 99, 100, 101, 102, 103, 104, 105, 106, 107, 108, 109, 110, 111, 112, 113, 114, 115, 116, 117, 118, 119, 120, 121, 122] }) (.int .u64 d)).run Tryz.prog w = .ok (.int .u8 (hexd d)) w := by
  have h : d.toNat < D36.size := by simp only [D36]; show d.toNat < 36; omega
  have q := D36_at d h0 h1 h
  have h36 : d < 36 := by omega
  go_simp
  exact q

/-- The row of 65 bytes: the last r hold the digits of u, the lowest last. -/
structure Rw (B : Nat) (w : World) (u r : Nat) : Prop where
  ex : ∃ arr, w.heap[B]? = some (.cells arr 175 (0, 0)) ∧ arr.size = 65 ∧ ∀ j, j < r → arr[64 - j]? = some (.int .u8 (hxd u j))
theorem Rw.step {B : Nat} {w : World} {u r : Nat} (h : Rw B w u r) (hr : r < 65) (x : Int) (hx : x = hxd u r) : Rw B (w.setCell ⟨B, 64 - r, none⟩ (.int .u8 x)) u (r + 1) := by
  obtain ⟨arr, h1, h2, h3⟩ := h.ex
  refine ⟨_, heap_setCell_same w B (64 - r) _ _ _ h1, by simp [h2], fun j hj => ?_⟩
  rw [Array.getElem?_setIfInBounds]
  by_cases e : j = r
  · subst e; rw [if_pos rfl, if_pos (by omega), hx]
  · rw [if_neg (by omega)]; exact h3 j (by omega)

theorem Rw.conv {B : Nat} {w : World} {u : Nat} (h : Rw B w u 16) : (convert 63 9 (.slice (some ⟨B, 49, none⟩) 16 16)).run Tryz.prog w = .ok (.string (strI ((List.range 16).map fun j => hxd u (15 - j)))) w := by
  obtain ⟨arr, h1, h2, h3⟩ := h.ex
  rw [run_convert_bytes_string w 63 9 5 _ _ _ Tryz.underlying63 Tryz.underlying5 Tryz.underlying9]
  refine run_bytesToString w _ 16 16 _ ?_
  have := run_loadCells_list (P := Tryz.prog) w ⟨B, 49, none⟩ (B8 ((List.range 16).map fun j => hxd u (15 - j))) (fun j x hj => by
    have hj16 : j < 16 := by
      rcases Nat.lt_or_ge j 16 with g | g
      · exact g
      · rw [List.getElem?_eq_none (by simpa [B8] using g)] at hj; cases hj
    have e : x = .int .u8 (hxd u (15 - j)) := by
      simp [B8, hj16] at hj
      exact hj.symm
    subst e
    rw [show (⟨B, 49, none⟩ : Addr).add j = ⟨B, 49 + j, none⟩ by unfold Addr.add; split <;> simp_all, cell_of_row _ _ _ _ _ _ h1]
    have := h3 (15 - j) (by omega)
    rw [show 64 - (15 - j) = 49 + j by omega] at this
    exact this)
  exact this

set_option maxRecDepth 100000 in
set_option maxHeartbeats 3200000 in
theorem fmtBits (u : Nat) (h0 : 9223372036854775808 ≤ u) (h1 : u < 18446744073709551616) (w : World) (h : w.cell? ⟨6, 15, none⟩ = some (.int .u8 4)) : Calls Tryz.prog 92 #[.slice none 0 0, .int .u64 (u : Int), .int .i64 16, .bool false, .bool false] w fun e w' => e = .returned (.tuple #[.slice none 0 0, .string (strI ((List.range 16).map fun j => hxd u (15 - j)))]) ∧ Below w.heap.size w w' := by
  have hlt := World.block_lt_of_cell? w _ h
  have kt : ∀ o, Calls Tryz.prog 110 #[.int .u64 16] (w.alloc o) fun e w' => e = .returned (.int .i64 4) ∧ w' = w.alloc o := fun o => tz _ ((cell_below (((Below.refl w.heap.size w).alloc (Nat.le_refl _) o)) hlt).trans h)
  have hR0 : Rw w.heap.size (w.alloc (.cells Tryz.zeroCells175 175)) u 0 := ⟨_, heap_alloc_new w _, by kernel_rfl, fun j hj => by omega⟩
  have hB0 : Below w.heap.size w (w.alloc (.cells Tryz.zeroCells175 175)) := (Below.refl _ w).alloc (Nat.le_refl _) _
  obtain ⟨L, hL⟩ : ∃ L, (List.range 16).map (fun j => hxd u (15 - j)) = L := ⟨_, rfl⟩
  rw [hL]
  have HL : Hid ((List.range 16).map (fun j => hxd u (15 - j)) = L) := hL
  clear hL
  go_enter Tryz.func92, Tryz.ntmps92
  go_wp2_with (first | (go_at_call 109; refine (p2 _).mono ?_; rintro e w' ⟨rfl, rfl⟩) | (go_at_call 110; refine (kt _).mono ?_; rintro e w' ⟨rfl, rfl⟩))
  generalize w.alloc (.cells Tryz.zeroCells175 175) = W at hR0 hB0
  go_loopw [1, 13] (fun v i wr => ∃ (r : Nat) (U : Int), r ≤ 15 ∧ i = .int .i64 (65 - (r : Int)) ∧ v = .int .u64 U ∧ Hid (U = ((u / 16 ^ r : Nat) : Int)) ∧ Rw w.heap.size wr u r ∧ Below w.heap.size w wr) (fun _ i _ => (intOf i).toNat)
  case atStart => exact ⟨0, (u : Int), by omega, rfl, rfl, by show (u : Int) = _; simp, hR0, hB0⟩
  case round =>
    obtain ⟨r, U, hr, rfl, rfl, HU, hRw, hb⟩ := hrel
    obtain ⟨arr, g1, g2, g3⟩ := hRw.ex
    have hBlt : w.heap.size < wr.heap.size := lt_of_block g1
    have hU0 : 0 ≤ U := by rw [HU.out]; exact Int.natCast_nonneg _
    have hU1 : U < 18446744073709551616 := by
      rw [HU.out]
      have := Nat.div_le_self u (16 ^ r)
      omega
    have hD0 : 0 ≤ U % 16 := by omega
    have hD1 : U % 16 < 16 := by omega
    have HD : Hid (hexd (U % 16) = hxd u r) := by show _ = _; unfold hxd; rw [HU.out]; rfl
    by_cases hlt : r < 15
    · have hge : 16 ≤ U := by
        rw [HU.out]
        have e1 : 16 ^ (r + 1) ≤ 16 ^ 15 := Nat.pow_le_pow_right (by omega) (by omega)
        have e2 : 16 ^ 15 = 1152921504606846976 := by decide
        have e3 : 16 ≤ u / 16 ^ r := by
          rw [Nat.le_div_iff_mul_le (Nat.pow_pos (by omega))]
          rw [Nat.pow_succ] at e1
          omega
        omega
      have HN : Hid (U / 16 = ((u / 16 ^ (r + 1) : Nat) : Int)) := by
        show _ = _
        rw [HU.out, Nat.pow_succ, ← Nat.div_div_eq_div_mul]
        rfl
      have hbit : bits .and .u64 U 15 = U % 16 := low64 U hU0 hU1
      have hix := fun w => D36_run (U % 16) hD0 hD1 w
      generalize U % 16 = D at hD0 hD1 hbit hix HD
      obtain ⟨I, hI⟩ : ∃ I : Nat, 64 - r = I := ⟨_, rfl⟩
      have hci : ∃ x, wr.cell? ⟨w.heap.size, I, none⟩ = some x := by
        rw [cell_of_row _ _ _ _ _ _ g1]
        exact ⟨_, Array.getElem?_eq_getElem (by omega)⟩
      obtain ⟨x, hcx⟩ := hci
      have hfz : wr.frozen? ⟨w.heap.size, I, none⟩ = false := frozen_of_row _ _ _ _ _ g1
      have hRn := hRw.step (by omega) (hexd D) HD.out
      rw [hI] at hRn
      obtain ⟨ii, hii⟩ : ∃ ii : Int, 65 - (r : Int) = ii := ⟨_, rfl⟩
      have hi1 : ii - 1 = (I : Int) := by omega
      have hi2 : ii ≤ 65 := by omega
      have hi3 : I ≤ 64 := by omega
      have HI : Hid (65 - (r : Int) = ii) := hii
      rw [hii]
      clear hii HU g3
      go_wp2
      go_roundw
      case rel => exact ⟨r + 1, U / 16, by omega, by have := HI.out; congr 1; omega, rfl, HN, hRn, hb.setCell (by simp) _⟩
      case measure => simp [intOf]; omega
    · obtain rfl : r = 15 := by omega
      have hlt16 : U < 16 := by
        rw [HU.out]
        have e2 : 16 ^ 15 = 1152921504606846976 := by decide
        rw [e2]
        omega
      have hix := fun w => D36_run U hU0 hlt16 w
      rw [Int.emod_eq_of_lt hU0 hlt16] at HD
      obtain ⟨x, hcx⟩ : ∃ x, wr.cell? ⟨w.heap.size, 49, none⟩ = some x := by
        rw [cell_of_row _ _ _ _ _ _ g1]
        exact ⟨_, Array.getElem?_eq_getElem (by omega)⟩
      have hfz : wr.frozen? ⟨w.heap.size, 49, none⟩ = false := frozen_of_row _ _ _ _ _ g1
      have hRn : Rw w.heap.size (wr.setCell ⟨w.heap.size, 49, none⟩ (.int .u8 (hexd U))) u 16 := hRw.step (r := 15) (by omega) (hexd U) HD.out
      have hcv := hRn.conv
      rw [HL.out] at hcv
      have hge : ¬ 16 ≤ U := by omega
      clear HU g3 hRn
      go_wp2
      go_ret2
      exact ⟨rfl, hb.setCell (by simp) _⟩

theorem strI_app (a b : List Int) : strI (a ++ b) = strI a ++ strI b := by
  have key : ∀ (l : List Int) (x : ByteArray), l.foldl (fun r n => r.push (UInt8.ofNat n.toNat)) x = x ++ l.foldl (fun r n => r.push (UInt8.ofNat n.toNat)) ByteArray.empty := by
    intro l
    induction l with
    | nil => intro x; simp
    | cons a r ih =>
      intro x
      rw [List.foldl_cons, List.foldl_cons, ih (x.push _), ih (ByteArray.empty.push _)]
      apply ByteArray.ext
      simp [ByteArray.push, ByteArray.data_append]
  unfold strI
  rw [List.foldl_append]
  exact key b _
theorem hxO_all (u : Nat) : hxO u 16 = { data := #[48, 120] } ++ strI ((List.range 16).map fun j => hxd u (15 - j)) := by
  have key : ∀ r, hxO u r = { data := #[48, 120] } ++ strI ((List.range r).map fun j => hxd u (15 - j)) := by
    intro r
    induction r with
    | zero => rfl
    | succ r ih => rw [hxO, ih, List.range_succ, List.map_append, strI_app, ByteArray.append_assoc]; rfl
  exact key 16

end Go.Proofs.YtcnhhhfedakepaaGreatDoor

namespace Go.Proofs.YtcnhhhfedakepaaGreatDoor
open Go.RowKit Go.Maps Go.WideMaps
set_option linter.unusedVariables false

def ints (d : List UInt8) : List Int := d.map fun b => (b.toNat : Int)
theorem strI_ints (d : List UInt8) : strI (ints d) = ⟨d.toArray⟩ := by
  have key : ∀ (d : List UInt8) (x : ByteArray), (ints d).foldl (fun r n => r.push (UInt8.ofNat n.toNat)) x = ⟨x.data ++ d.toArray⟩ := by
    intro d
    induction d with
    | nil => intro x; simp [ints]
    | cons a r ih =>
      intro x
      show (ints r).foldl _ (x.push (UInt8.ofNat ((a.toNat : Int)).toNat)) = _
      rw [ih]
      have e : UInt8.ofNat ((a.toNat : Int)).toNat = a := by simp
      rw [e]
      simp [ByteArray.push]
  have := key d ByteArray.empty
  unfold strI
  rw [this]
  simp
def pre (c : Nat) : List Int := if c = 0 then [] else ints (Lib.decDigits c)
theorem pre_step (c : Nat) (h : c ≠ 0) : pre c = pre (c / 10) ++ [48 + ((c % 10 : Nat) : Int)] := by
  have h8 : ∀ k, k < 10 → (((UInt8.ofNat (48 + k)).toNat : Nat) : Int) = 48 + (k : Int) := fun k hk => by
    rw [UInt8.toNat_ofNat', Nat.mod_eq_of_lt (by omega)]; omega
  unfold pre
  rw [if_neg h]
  by_cases h10 : c < 10
  · rw [if_pos (by omega), Lib.decDigits, dif_pos h10, Nat.mod_eq_of_lt h10]
    show [(((UInt8.ofNat (48 + c)).toNat : Nat) : Int)] = _
    rw [h8 c h10]; rfl
  · rw [if_neg (by omega), Lib.decDigits, dif_neg h10]
    show List.map _ (_ ++ _) = _
    rw [List.map_append]
    show ints (Lib.decDigits (c / 10)) ++ [(((UInt8.ofNat (48 + c % 10)).toNat : Nat) : Int)] = _
    rw [h8 _ (by omega)]

set_option maxRecDepth 100000 in
set_option maxHeartbeats 3200000 in
theorem l1decimal_pos (N : Nat) (h0 : N ≠ 0) (h1 : N ≤ 9223372036854775807) (w : World) : Calls Tryz.prog 46 #[.int .i64 (N : Int)] w fun e w' => e = .returned (.string ⟨(Lib.decDigits N).toArray⟩) ∧ Below w.heap.size w w' := by
  obtain ⟨n, hn⟩ : ∃ n : Int, (N : Int) = n := ⟨_, rfl⟩
  rw [hn]
  have n0 : 0 < n := by omega
  have n1 : n ≤ 9223372036854775807 := by omega
  have nz : (n == 0) = false := by rw [beq_eq_false_iff_ne]; omega
  have nn : ¬ n < 0 := by omega
  have HN : Hid ((N : Int) = n) := hn
  clear hn
  go_enter Tryz.func46, Tryz.ntmps46
  go_wp2_with fail
  go_loopw [0, 4, 5] (fun vn vd v5 wr => ∃ (c : Int) (l : List Int), vn = .int .i64 c ∧ 0 ≤ c ∧ c ≤ 9223372036854775807 ∧ Hid (c.toNat < 10 ^ (19 - l.length) ∧ l.length ≤ 19 ∧ ints (Lib.decDigits N) = pre c.toNat ++ l.reverse) ∧ wr.ownsRow w.heap.size 5 1 vd l.length (B8 l) ∧ Below w.heap.size w wr) (fun vn _ _ _ => (intOf vn).toNat)
  case atStart =>
    refine ⟨n, [], rfl, by omega, n1, ⟨?_, by simp, ?_⟩, World.ownsRow_nil _ _ _ _, Below.refl _ _⟩
    · have : (10 : Nat) ^ (19 - ([] : List Int).length) = 10000000000000000000 := by decide
      rw [this]; omega
    · rw [show n.toNat = N by have := HN.out; omega]; unfold pre; rw [if_neg h0]; simp
  case round =>
    obtain ⟨c, l, rfl, c0, c1, HH, hown, hb⟩ := hrel
    by_cases hc : c = 0
    · subst hc
      obtain ⟨_, hl19, hfin⟩ := HH.out
      have hfin' : ints (Lib.decDigits N) = l.reverse := hfin
      have hlpos : 0 < l.length := by
        have e := congrArg List.length hfin'
        rw [List.length_reverse] at e
        have : 0 < (ints (Lib.decDigits N)).length := by
          rw [Lib.decDigits]
          split <;> simp [ints]
        omega
      have HL : Hid (strI l.reverse = ⟨(Lib.decDigits N).toArray⟩) := by show _ = _; rw [← hfin', strI_ints]
      rcases hown.2 with ⟨h, hz⟩ | ⟨g, cap, cur, hv, hg, hh, _, hmx, hsz, htk⟩
      · have : l = [] := by
          have hB : (B8 l).length = l.length := B8_len l
          have := hown.1
          simp at hz
          omega
        rw [this] at hlpos; simp at hlpos
      · have hcell : ∀ j, j < l.length → wr.cell? ⟨g, j, none⟩ = some (.int .u8 (l.getD j 0)) := fun j hj => by
          rw [cell_of_row _ _ _ _ _ _ hh]
          have e1 : (B8 l)[j]? = some (.int .u8 (l.getD j 0)) := by simp [B8, hj, List.getD]
          rw [← htk, List.getElem?_take] at e1
          split at e1
          · simpa using e1
          · cases e1
        have hglt : g < wr.heap.size := lt_of_block hh
        obtain ⟨Ln, hLn⟩ : ∃ Ln, l.length = Ln := ⟨_, rfl⟩
        rw [hLn] at hlpos hl19 hcell hv
        subst hv
        clear HH hfin hfin' hown hh htk hsz hmx
        have hrev : ∀ t, t < Ln → l.reverse.take (t + 1) = l.reverse.take t ++ [l.getD (Ln - 1 - t) 0] := fun t ht => by
          have e : l.reverse[t]? = some (l.getD (Ln - 1 - t) 0) := by
            rw [List.getElem?_reverse (by omega), List.getD, hLn, List.getElem?_eq_getElem (by omega)]
            rfl
          rw [List.take_add_one, e]; rfl
        have hsz : ∀ t, t ≤ Ln → (strI (l.reverse.take t)).size = t := fun t ht => by
          have : ∀ x : List Int, (strI x).size = x.length := by
            intro x
            induction x with
            | nil => rfl
            | cons a b ih => rw [show a :: b = [a] ++ b from rfl, strI_app, ByteArray.size_append, ih, List.length_append]; rfl
          rw [this, List.length_take, List.length_reverse]; omega
        have HREV : Hid (∀ t, t < Ln → l.reverse.take (t + 1) = l.reverse.take t ++ [l.getD (Ln - 1 - t) 0]) := hrev
        have HLL : Hid (l.length = Ln) := hLn
        clear hrev hLn
        go_wp2_with fail
        go_loopw [6, 7] (fun out i wq => ∃ t : Nat, t ≤ Ln ∧ i = .int .i64 ((Ln : Int) - 1 - (t : Int)) ∧ out = .string (strI (l.reverse.take t)) ∧ Below wr.heap.size wr wq) (fun _ i _ => (intOf i + 1).toNat)
        case atStart => exact ⟨0, by omega, by first | rfl | (congr 1; omega), rfl, Below.refl _ _⟩
        case round =>
          obtain ⟨t, ht, rfl, rfl, hbq⟩ := hrel
          have hs1 := hsz t ht
          by_cases htl : t < Ln
          · obtain ⟨I, hI⟩ : ∃ I : Nat, Ln - 1 - t = I := ⟨_, rfl⟩
            have hci := (cell_below hbq hglt).trans (hcell I (by omega))
            have HT := HREV.out t htl
            rw [hI] at HT
            have HS : Hid (strI (l.reverse.take t) ++ strI [l.getD I 0] = strI (l.reverse.take (t + 1))) := by show _ = _; rw [HT, strI_app]
            generalize l.getD I 0 = x at hci HS
            have hcv := fun w => conv_own (own_first w x)
            have hs2 : (strI [x]).size = 1 := rfl
            have hii : (Ln : Int) - 1 - (t : Int) = (I : Int) := by omega
            have hIl : I < Ln := by omega
            generalize strI (l.reverse.take t) = o at hs1 HS ⊢
            rw [hii]
            clear hsz HT hcell
            go_wp2
            go_roundw
            case rel => exact ⟨t + 1, by omega, by first | rfl | (congr 1; omega), by rw [HS.out], hbq.alloc hbq.size _⟩
            case measure => simp [intOf]
          · obtain rfl : t = Ln := by omega
            have hneg : ¬ (0 : Int) ≤ (t : Int) - 1 - (t : Int) := by omega
            rw [List.take_of_length_le (by rw [List.length_reverse, HLL.out]; exact Nat.le_refl _)]
            have HR := HL.out
            generalize strI l.reverse = o at HR ⊢
            subst HR
            clear hs1 hsz HL HREV
            go_wp2
            go_ret
            exact ⟨rfl, hb.trans (hbq.mono hb.size)⟩
    · have hcz : (c == 0) = false := by rw [beq_eq_false_iff_ne]; exact hc
      have hcn : (c != 0) = true := by rw [bne_iff_ne]; exact hc
      have hm : ¬ c % 10 < 0 := by omega
      have hl19 : l.length ≤ 18 := by
        obtain ⟨e1, e2, _⟩ := HH.out
        rcases Nat.lt_or_ge l.length 19 with h | h
        · omega
        · rw [show 19 - l.length = 0 by omega] at e1; simp at e1; omega
      have HN2 : Hid ((c / 10).toNat < 10 ^ (19 - (l ++ [48 + c % 10]).length) ∧ (l ++ [48 + c % 10]).length ≤ 19 ∧ ints (Lib.decDigits N) = pre (c / 10).toNat ++ (l ++ [48 + c % 10]).reverse) := by
        obtain ⟨e1, e2, e3⟩ := HH.out
        have el : (l ++ [48 + c % 10]).length = l.length + 1 := by simp
        refine ⟨?_, by omega, ?_⟩
        · rw [el]
          have e4 : 10 ^ (19 - l.length) = 10 ^ (19 - (l.length + 1)) * 10 := by rw [← Nat.pow_succ]; congr 1; omega
          rw [e4] at e1
          have : (c / 10).toNat = c.toNat / 10 := by omega
          rw [this]
          omega
        · rw [e3, pre_step c.toNat (by omega), show (c / 10).toNat = c.toNat / 10 by omega, show ((c.toNat % 10 : Nat) : Int) = c % 10 by omega]
          simp
      clear HH
      go_wp2_with (at_builtin; refine ap_law rfl (.tmp 20) (.tmp 24) rfl w.heap.size u4 l.length l rfl hown hb.size (by omega) [48 + c % 10] 1 rfl (by decide) (by decide) _ rfl rfl ?_; intro g cap w1 hown1 hb1)
      go_roundw
      case rel => exact ⟨c / 10, l ++ [48 + c % 10], by first | rfl | (congr 1; omega), by omega, by omega, HN2, by rw [List.length_append]; exact hown1, hb.trans (hb1.mono (by omega))⟩
      case measure => simp [intOf]; omega
end Go.Proofs.YtcnhhhfedakepaaGreatDoor

namespace Go.Proofs.YtcnhhhfedakepaaGreatDoor
open Go.RowKit
set_option linter.unusedVariables false

def sumN : List Nd → Nat
  | [] => 0
  | N :: l => bulkN N + sumN l
theorem sumN_app (a b : List Nd) : sumN (a ++ b) = sumN a + sumN b := by
  induction a with
  | nil => simp [sumN]
  | cons x r ih => simp [sumN, ih]; omega
theorem sumN_take (l : List Nd) (k : Nat) (s : Nd) (h : l[k]? = some s) : sumN (l.take (k + 1)) = sumN (l.take k) + bulkN s := by
  rw [List.take_add_one, h, sumN_app]; simp [sumN]
theorem sumN_le (l : List Nd) (k : Nat) : sumN (l.take k) ≤ sumN l := by
  have h := sumN_app (l.take k) (l.drop k)
  rw [List.take_append_drop] at h
  omega
def bulkT (l : List Nd) : Nat := l.length + sumN l

set_option maxRecDepth 100000 in
set_option maxHeartbeats 1600000 in
theorem szNodeS_any (w : World) (v : Value) (l : List Nd) (left : Int) (h : NdsAt w v l) (hs : ∀ N ∈ l, NdLen N) (hl : l.length ≤ 9223372036854775807) (h0 : 0 ≤ left) (h1 : left ≤ 1048576) :
    Calls Tryz.prog 16 #[v, .int .i64 left] w fun e w' => e = .returned (.int .i64 (lessI left (bulkT l))) ∧ Below w.heap.size w w' := by
  obtain ⟨a, c, rfl⟩ := h.form
  obtain ⟨n, hn⟩ : ∃ n, l.length = n := ⟨_, rfl⟩
  have HN : Hid (l.length = n) := hn
  rw [hn] at hl ⊢
  by_cases g1 : left < (n : Int)
  · have hneg : left - (n : Int) < 0 := by omega
    have hb : ¬ ((bulkT l : Nat) : Int) ≤ left := by unfold bulkT; omega
    rw [lessI_no hb]
    clear hn HN
    go_enter Tryz.func16, Tryz.ntmps16
    go_wp2
    go_ret
    exact ⟨rfl, Below.refl _ _⟩
  · have hneg : ¬ left - (n : Int) < 0 := by omega
    have HS : Hid (∀ N ∈ l, NdLen N) := hs
    have HA : Hid (NdsAt w (.slice a n c) l) := by rw [← hn]; exact h
    clear hs h hn
    go_enter Tryz.func16, Tryz.ntmps16
    go_wp2_with fail
    go_loopw [1, 5] (fun vl vi wr => ∃ (k : Nat) (z : Int), k ≤ n ∧ vi = .int .i64 k ∧ vl = .int .i64 z ∧ 0 ≤ z ∧ z ≤ 1048576 ∧ Hid (z = left - (n : Int) - (sumN (l.take k) : Int)) ∧ Below w.heap.size w wr) (fun _ vi _ => n - (intOf vi).toNat)
    case atStart => exact ⟨0, left - n, by omega, rfl, rfl, by omega, by omega, by show _ = _; simp [sumN], Below.refl _ _⟩
    case round =>
      obtain ⟨k, z, hk, rfl, rfl, z0, z1, HZ, hb⟩ := hrel
      by_cases hlt : k < n
      · obtain ⟨N, hsk⟩ := some_at HN.out hlt
        have hss := HS.out N (List.mem_of_getElem? hsk)
        have hst := sumN_take l k N hsk
        have hle := sumN_le l (k + 1)
        obtain ⟨a', rfl, vn, vk, hNd⟩ := (HA.out.below hb).get hsk
        have hki : (k : Int) < (n : Int) := by omega
        have hk0 : (0 : Int) ≤ (k : Int) := by omega
        obtain ⟨c0, c1, c2, c3, c4, c5, c6, c7, c8, hn, hkk⟩ := hNd
        have kz := fun w hn hkk => szNode_any w N vn vk z hn hkk hss z0 z1
        obtain ⟨b, hB⟩ : ∃ b, bulkN N = b := ⟨_, rfl⟩
        rw [hB] at hst kz
        have HB : Hid (bulkN N = b) := hB
        obtain ⟨av, cv, rfl⟩ := hn.form
        obtain ⟨ak, ck, rfl⟩ := hkk.form
        unfold vNd at kz
        by_cases hfit : (b : Int) ≤ z
        · rw [lessI_yes hfit] at kz
          have hng : ¬ z - (b : Int) < 0 := by omega
          have HR : Hid (z - (b : Int) = left - (n : Int) - (sumN (l.take (k + 1)) : Int)) := by show _ = _; have := HZ.out; omega
          have kz' := kz wr hn hkk
          clear hst hle HZ hsk kz hB hn hkk hss
          go_wp2_with (go_at_call 34; refine kz'.mono ?_; rintro e w3 ⟨rfl, hb3⟩)
          exact ⟨⟨k + 1, z - b, by omega, by go_num, by go_num, by omega, by omega, HR, hb.trans (hb3.mono hb.size)⟩, by simp [intOf]; omega⟩
        · rw [lessI_no hfit] at kz
          have HR : Hid (lessI left (bulkT l) = -1) := by show _ = _; have := HZ.out; have := HN.out; exact lessI_no (by unfold bulkT; omega)
          have kz' := kz wr hn hkk
          clear hst hle HZ hsk kz hB hn hkk hss
          go_wp2_with (go_at_call 34; refine kz'.mono ?_; rintro e w3 ⟨rfl, hb3⟩)
          go_ret
          exact ⟨by rw [HR.out]; rfl, hb.trans (hb3.mono hb.size)⟩
      · obtain rfl : k = n := by omega
        have hz : z = lessI left (bulkT l) := by
          have := HZ.out
          have hn := HN.out
          rw [List.take_of_length_le (by omega)] at this
          rw [lessI_yes (by unfold bulkT; omega)]
          unfold bulkT; omega
        have HF : Hid (z = lessI left (bulkT l)) := hz
        clear hz
        go_wp2_with fail
        go_ret
        exact ⟨by rw [← HF.out]; rfl, hb⟩

set_option maxHeartbeats 800000 in
theorem szTree_any (w : World) (v : Value) (l : List Nd) (left : Int) (h : NdsAt w v l) (hs : ∀ N ∈ l, NdLen N) (hl : l.length ≤ 9223372036854775807) (h0 : 0 ≤ left) (h1 : left ≤ 1048576) :
    Calls Tryz.prog 5 #[.agg #[v], .int .i64 left] w fun e w' => e = .returned (.int .i64 (lessI left (bulkT l))) ∧ Below w.heap.size w w' := by
  have hb0 : ∀ o, Below w.heap.size w (w.alloc o) := fun o => (Below.refl _ w).alloc (Nat.le_refl _) o
  have kz := fun o => szNodeS_any (w.alloc o) v l left (h.below (hb0 o)) hs hl h0 h1
  obtain ⟨a, c, rfl⟩ := h.form
  generalize l.length = n at kz
  have f3 : ∃ R, lessI left (bulkT l) = R ∧ -1 ≤ R := ⟨_, rfl, by unfold lessI; split <;> omega⟩
  obtain ⟨R, hR, hR1⟩ := f3
  rw [hR] at kz ⊢
  clear hR h hs hl
  by_cases f4 : R < 0
  · obtain rfl : R = -1 := by omega
    go_enter Tryz.func5, Tryz.ntmps5
    go_wp2_with (go_at_call 16; refine (kz _).mono ?_; rintro e w3 ⟨rfl, hb3⟩)
    go_ret
    exact ⟨rfl, (hb0 _).trans (hb3.mono (by simp))⟩
  · go_enter Tryz.func5, Tryz.ntmps5
    go_wp2_with (go_at_call 16; refine (kz _).mono ?_; rintro e w3 ⟨rfl, hb3⟩)
    go_ret
    exact ⟨rfl, (hb0 _).trans (hb3.mono (by simp))⟩
end Go.Proofs.YtcnhhhfedakepaaGreatDoor
