import Derived.Test.YtlmkmihbbnjngaaDoorTL1n
namespace Go.Proofs.YtlmkmihbbnjngaaDoor
open Go.RowKit Go.Maps Go.WideMaps
set_option linter.unusedVariables false

theorem hxA_is (s : ByteArray) (p : Nat) : ∃ (t n : Int), hxA s p = .agg #[.int .i64 2, .int .i64 p, .int .i64 t, .int .i64 0, .int .i64 n, .string { data := #[] }] := by
  unfold hxA; split <;> exact ⟨_, _, rfl⟩
def numA (s : ByteArray) (p : Nat) : Value := if bat s p = 48 ∧ bat s (p + 1) = 120 then hxA s p else nmA s p
def numF (s : ByteArray) (p : Nat) : Int := if bat s p = 48 ∧ bat s (p + 1) = 120 then hxF s p else nmF s p
theorem nmA_is (s : ByteArray) (p : Nat) : ∃ (k t n : Int) (x : ByteArray), nmA s p = .agg #[.int .i64 k, .int .i64 p, .int .i64 t, .int .i64 0, .int .i64 n, .string x] := by
  unfold nmA decV; split
  · split
    · exact ⟨_, _, _, _, rfl⟩
    · split <;> exact ⟨_, _, _, _, rfl⟩
  · exact ⟨_, _, _, _, rfl⟩
theorem numA_is (s : ByteArray) (p : Nat) : ∃ (k t n : Int) (x : ByteArray), numA s p = .agg #[.int .i64 k, .int .i64 p, .int .i64 t, .int .i64 0, .int .i64 n, .string x] := by
  unfold numA; split
  · obtain ⟨t, n, h⟩ := hxA_is s p; exact ⟨_, _, _, _, h⟩
  · exact nmA_is s p

set_option maxRecDepth 100000 in
set_option maxHeartbeats 3200000 in
theorem l1number_hex (s : ByteArray) (hm : s.size ≤ 1100000) (p : Nat) (h0 : bat s p = 48) (h1 : bat s (p + 1) = 120) (w : World) : Calls Tryd.prog 31 #[.string s, .agg #[.int .i64 0, .int .i64 p, .int .i64 0, .int .i64 0, .int .i64 0, .string { data := #[] }]] w fun e w' => e = .returned (.tuple #[hxA s p, .int .i64 (hxF s p)]) ∧ Below w.heap.size w w' := by
  have hp1 := lt_of_bat h1 (by omega)
  have i0 := fun w => idx_run (s := s) (i := p) (by omega) w
  rw [h0] at i0
  have kk : ∀ w, Calls Tryd.prog 27 #[.string s, .int .i64 ((p : Int) + 1)] w fun e w' => e = .returned (.int .u8 120) ∧ w' = w := fun w => by
    have := l1look_q s hm ((p : Int) + 1) (p + 1) (by omega) w
    rw [lk_bat hp1, h1] at this
    exact this
  have kh := fun w => l1hexed_any s hm p (by omega) w
  obtain ⟨t, n, hA⟩ := hxA_is s p
  rw [hA] at kh ⊢
  generalize hxF s p = F at kh
  clear hA h0 h1
  have hZ0 : TkAt (w.heap.size + 1) ((w.alloc (.cells #[.int .i64 2, .int .i64 p, .int .i64 0, .int .i64 0, .int .i64 0, .string { data := #[] }] 30)).alloc (.cells #[.int .i64 0, .int .i64 0, .int .i64 0, .int .i64 0, .int .i64 0, .string { data := #[] }] 30)) 0 0 0 0 0 { data := #[] } := by
    have := heap_alloc_new (w.alloc (.cells #[.int .i64 2, .int .i64 p, .int .i64 0, .int .i64 0, .int .i64 0, .string { data := #[] }] 30)) (.cells #[.int .i64 0, .int .i64 0, .int .i64 0, .int .i64 0, .int .i64 0, .string { data := #[] }] 30)
    rw [World.size_alloc] at this
    exact this
  have hB0 : Below w.heap.size w ((w.alloc (.cells #[.int .i64 2, .int .i64 p, .int .i64 0, .int .i64 0, .int .i64 0, .string { data := #[] }] 30)).alloc (.cells #[.int .i64 0, .int .i64 0, .int .i64 0, .int .i64 0, .int .i64 0, .string { data := #[] }] 30)) := (((Below.refl _ w).alloc (Nat.le_refl _) _).alloc (by simp) _)
  go_enter Tryd.func31, Tryd.ntmps31
  go_wp2_with (first | (go_at_call 27; refine (kk _).mono ?_; rintro e w' ⟨rfl, rfl⟩) | (go_at_call 45; fail))
  refine (kh _).mono ?_
  rintro e w3 ⟨rfl, hb3⟩
  have hZ3 := hZ0.below hb3 (by simp)
  have hB3 := hB0.trans (hb3.mono (by simp; omega))
  clear hb3 hZ0 hB0 kh kk i0
  obtain ⟨z0, z1, z2, z3, z4, z5, zf⟩ := tk_cells hZ3
  have hx1 : w.heap.size + 1 < w3.heap.size := lt_of_block hZ3
  go_wp2
  refine bodyPost_ret (v := .tuple #[.agg #[.int .i64 2, .int .i64 p, .int .i64 t, .int .i64 0, .int .i64 n, .string { data := #[] }], .int .i64 F]) (by simp [results, Tryd.results31, go_sem, z0, z1, z2, z3, z4, z5]) rfl ⟨rfl, ?_⟩
  iterate 6 refine Below.setCell ?_ (by simp) _
  exact hB3

theorem l1number_any (s : ByteArray) (hm : s.size ≤ 1100000) (p : Nat) (hp : p < s.size) (hd : digB (bat s p) = true) (w : World) : Calls Tryd.prog 31 #[.string s, .agg #[.int .i64 0, .int .i64 p, .int .i64 0, .int .i64 0, .int .i64 0, .string { data := #[] }]] w fun e w' => e = .returned (.tuple #[numA s p, .int .i64 (numF s p)]) ∧ Below w.heap.size w w' := by
  unfold numA numF
  split
  · rename_i hx; exact l1number_hex s hm p hx.1 hx.2 w
  · rename_i hx; exact l1number_dec s hm p hp hd hx w

theorem l1letter_q {c : Int} {b : Bool} (h : lettB c = b) (w : World) : Calls Tryd.prog 28 #[.int .u8 c] w fun e w' => e = .returned (.bool b) ∧ w' = w := (l1letter_any c w).mono fun e w' g => ⟨by rw [g.1, h], g.2.symm⟩

set_option maxRecDepth 100000 in
set_option maxHeartbeats 3200000 in
/-- l1read at a digit. -/
theorem l1read_dig (s : ByteArray) (hm : s.size ≤ 1100000) (p : Nat) (hp : p < s.size) (hd : digB (bat s p) = true) (w : World) : Calls Tryd.prog 19 #[.string s, .int .i64 p] w fun e w' => e = .returned (.tuple #[numA s p, .int .i64 (numF s p)]) ∧ Below w.heap.size w w' := by
  have i1 := fun w => idx_run hp w
  have hr := dig_range hd
  have hl : lettB (bat s p) = false := by simp [lettB]; omega
  have kl := fun w => l1letter_q hl w
  have kd := fun w => l1digit_q hd w
  have kw := fun w => l1number_any s hm p hp hd w
  obtain ⟨k, t, n, x, hT⟩ := numA_is s p
  rw [hT] at kw ⊢
  generalize numF s p = F at kw
  generalize bat s p = c at i1 kl kd hr
  have h10 : (c == 10) = false := by rw [beq_eq_false_iff_ne]; omega
  clear hl hd hT
  have hZ0 : TkAt w.heap.size ((w.alloc (.cells #[.int .i64 0, .int .i64 0, .int .i64 0, .int .i64 0, .int .i64 0, .string { data := #[] }] 30)).alloc (.cells #[.int .i64 0, .int .i64 p, .int .i64 0, .int .i64 0, .int .i64 0, .string { data := #[] }] 30)) 0 0 0 0 0 { data := #[] } := (Below.heap_alloc _ _ _ (by simp)).trans (heap_alloc_new w _)
  have hB0 : Below w.heap.size w ((w.alloc (.cells #[.int .i64 0, .int .i64 0, .int .i64 0, .int .i64 0, .int .i64 0, .string { data := #[] }] 30)).alloc (.cells #[.int .i64 0, .int .i64 p, .int .i64 0, .int .i64 0, .int .i64 0, .string { data := #[] }] 30)) := (((Below.refl _ w).alloc (Nat.le_refl _) _).alloc (by simp) _)
  go_enter Tryd.func19, Tryd.ntmps19
  go_wp2_with (first | (go_at_call 28; refine (kl _).mono ?_; rintro e w' ⟨rfl, rfl⟩) | (go_at_call 30; refine (kd _).mono ?_; rintro e w' ⟨rfl, rfl⟩))
  refine (kw _).mono ?_
  rintro e w3 ⟨rfl, hb3⟩
  have hZ3 := hZ0.below hb3 (by simp; omega)
  have hB3 := hB0.trans (hb3.mono (by simp; omega))
  clear hb3 hZ0 hB0 kw kl kd i1
  obtain ⟨z0, z1, z2, z3, z4, z5, zf⟩ := tk_cells hZ3
  have hx1 : w.heap.size < w3.heap.size := lt_of_block hZ3
  go_wp2
  refine bodyPost_ret (v := .tuple #[.agg #[.int .i64 k, .int .i64 p, .int .i64 t, .int .i64 0, .int .i64 n, .string x], .int .i64 F]) (by simp [results, Tryd.results19, go_sem, z0, z1, z2, z3, z4, z5]) rfl ⟨rfl, ?_⟩
  iterate 6 refine Below.setCell ?_ (by simp) _
  exact hB3

/-- l1fltok, by what l1read answers. -/
theorem numN_num (s : ByteArray) (p : Nat) : (numF s p < 0 ↔ (numN s p).2 = true) ∧ ∃ (k t n : Int) (x : ByteArray), numA s p = .agg #[.int .i64 k, .int .i64 p, .int .i64 t, .int .i64 0, .int .i64 n, .string x] ∧ ((numN s p).2 = true → t = ((numN s p).1 : Int) ∧ ((k == 3) = decide (¬ (bat s p = 48 ∧ bat s (p + 1) = 120) ∧ (nKd s p = true ∨ dcS s p ((numN s p).1 - p) = none)))) := by
  unfold numF numA numN
  by_cases hx : bat s p = 48 ∧ bat s (p + 1) = 120
  · simp only [if_pos hx]
    unfold hxF hxA
    cases hh : (hexN s (p + 2)).2 with
    | true =>
      simp only [if_true]
      refine ⟨⟨fun _ => trivial, fun _ => by omega⟩, 2, _, _, _, rfl, fun _ => ⟨rfl, ?_⟩⟩
      simp [hx]
    | false =>
      simp only [if_neg (show ¬ false = true by simp)]
      refine ⟨⟨fun h => by omega, fun h => by cases h⟩, 2, _, _, _, rfl, fun h => by cases h⟩
  · simp only [if_neg hx]
    unfold nmF nmA decV
    cases hh : (nEx s (nA1 s (nA0 s p))).2 with
    | true =>
      simp only [if_true]
      refine ⟨⟨fun _ => trivial, fun _ => by omega⟩, ?_⟩
      cases hk : nKd s p with
      | true =>
        simp only [if_true]
        exact ⟨3, _, _, _, rfl, fun _ => ⟨rfl, by simp [hx]⟩⟩
      | false =>
        simp only [if_neg (show ¬ false = true by simp)]
        cases hc : dcS s p ((nEx s (nA1 s (nA0 s p))).1 - p) with
        | none => exact ⟨3, _, _, _, rfl, fun _ => ⟨rfl, by simp [hx]⟩⟩
        | some u => exact ⟨2, _, _, _, rfl, fun _ => ⟨rfl, by simp⟩⟩
    | false =>
      simp only [if_neg (show ¬ false = true by simp)]
      refine ⟨⟨fun h => by omega, fun h => by cases h⟩, 3, _, _, _, rfl, fun h => by cases h⟩
end Go.Proofs.YtlmkmihbbnjngaaDoor
