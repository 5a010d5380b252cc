import Derived.Test.YtlmkmihbbnjngaaDoorTWord
namespace Go.Proofs.YtlmkmihbbnjngaaDoor
open Go.RowKit Go.Maps Go.WideMaps
set_option linter.unusedVariables false

/-- What l1word answers at p. -/
def wdT (s : ByteArray) (p : Nat) : Value :=
  match fnd wordV (s.extract p (nmE s (s.size + 1) p)) 22 0 with
  | some k => .agg #[.int .i64 (10 + (k : Int)), .int .i64 p, .int .i64 (nmE s (s.size + 1) p), .int .i64 0, .int .i64 0, .string { data := #[] }]
  | none => .agg #[.int .i64 1, .int .i64 p, .int .i64 (nmE s (s.size + 1) p), .int .i64 0, .int .i64 0, .string (s.extract p (nmE s (s.size + 1) p))]

set_option maxRecDepth 100000 in
set_option maxHeartbeats 3200000 in
theorem l1word_any (s : ByteArray) (hm : s.size ≤ 1100000) (p : Nat) (hp : p ≤ s.size) (w : World) : Calls Tryd.prog 29 #[.string s, .agg #[.int .i64 0, .int .i64 p, .int .i64 0, .int .i64 0, .int .i64 0, .string { data := #[] }]] w fun e w' => e = .returned (.tuple #[wdT s p, .int .i64 (-1)]) ∧ Below w.heap.size w w' := by
  unfold wdT
  obtain ⟨E, hE⟩ : ∃ E, nmE s (s.size + 1) p = E := ⟨_, rfl⟩
  have bd := nmE_bd s (s.size + 1) p hp
  rw [hE] at bd ⊢
  have HE : Hid (nmE s (s.size + 1) p = E) := hE
  clear hE
  obtain ⟨R, hR⟩ : ∃ R, fnd wordV (s.extract p E) 22 0 = R := ⟨_, rfl⟩
  rw [hR]
  have HR : Hid (fnd wordV (s.extract p E) 22 0 = R) := hR
  clear hR
  have hT0 : TkAt w.heap.size ((w.alloc (.cells #[.int .i64 0, .int .i64 p, .int .i64 0, .int .i64 0, .int .i64 0, .string { data := #[] }] 30)).alloc (.cells #[.int .i64 0, .int .i64 0, .int .i64 0, .int .i64 0, .int .i64 0, .string { data := #[] }] 30)) 0 p 0 0 0 { data := #[] } := (Below.heap_alloc _ _ _ (by simp)).trans (heap_alloc_new w _)
  have hZ0 : TkAt (w.heap.size + 1) ((w.alloc (.cells #[.int .i64 0, .int .i64 p, .int .i64 0, .int .i64 0, .int .i64 0, .string { data := #[] }] 30)).alloc (.cells #[.int .i64 0, .int .i64 0, .int .i64 0, .int .i64 0, .int .i64 0, .string { data := #[] }] 30)) 0 0 0 0 0 { data := #[] } := by
    have := heap_alloc_new (w.alloc (.cells #[.int .i64 0, .int .i64 p, .int .i64 0, .int .i64 0, .int .i64 0, .string { data := #[] }] 30)) (.cells #[.int .i64 0, .int .i64 0, .int .i64 0, .int .i64 0, .int .i64 0, .string { data := #[] }] 30)
    rw [World.size_alloc] at this
    exact this
  have hB0 : Below w.heap.size w ((w.alloc (.cells #[.int .i64 0, .int .i64 p, .int .i64 0, .int .i64 0, .int .i64 0, .string { data := #[] }] 30)).alloc (.cells #[.int .i64 0, .int .i64 0, .int .i64 0, .int .i64 0, .int .i64 0, .string { data := #[] }] 30)) := (((Below.refl _ w).alloc (Nat.le_refl _) _).alloc (by simp) _)
  go_enter Tryd.func29, Tryd.ntmps29
  go_wp2_with fail
  generalize (w.alloc (.cells #[.int .i64 0, .int .i64 p, .int .i64 0, .int .i64 0, .int .i64 0, .string { data := #[] }] 30)).alloc (.cells #[.int .i64 0, .int .i64 0, .int .i64 0, .int .i64 0, .int .i64 0, .string { data := #[] }] 30) = W at hT0 hZ0 hB0
  have hsW : w.heap.size + 1 < W.heap.size := lt_of_block hZ0
  go_loop [6] (fun i => ∃ (k f : Nat), k ≤ s.size ∧ s.size < k + f ∧ i = .int .i64 k ∧ Hid (nmE s f k = E)) (fun i => s.size - (intOf i).toNat)
  case atStart => exact ⟨p, s.size + 1, hp, by omega, rfl, HE⟩
  case round =>
    obtain ⟨k, f, hk, hf, rfl, HF⟩ := hrel
    obtain ⟨f, rfl⟩ : ∃ g, f = g + 1 := ⟨f - 1, by omega⟩
    have hst := HF.out
    unfold nmE at hst
    have kk := fun w => l1look_any s hm k w
    have kl := fun w => l1letter_any (lk s k) w
    have kd := fun w => l1digit_any (lk s k) w
    have hlt : lettB (bat s k) = true ∨ digB (bat s k) = true → k < s.size := by
      intro h
      rcases Nat.lt_or_ge k s.size with h1 | h1
      · exact h1
      · exact absurd h (ld_out (by omega))
    rw [lett_lk] at kl
    rw [dig_lk] at kd
    generalize lk s k = c at kk kl kd
    generalize bat s k = c' at hst kl kd hlt
    by_cases h1 : lettB c' = true
    · rw [if_pos (.inl h1)] at hst
      have HS : Hid (nmE s f (k + 1) = E) := hst
      have hlt' := hlt (.inl h1)
      clear hst hlt
      rw [h1] at kl
      clear h1
      go_wp2_with (first | (go_at_call 27; refine (kk _).mono ?_; rintro e w' ⟨rfl, rfl⟩) | (go_at_call 28; refine (kl _).mono ?_; rintro e w' ⟨rfl, rfl⟩))
      go_round
      case rel => exact ⟨k + 1, f, by omega, by omega, by go_num, HS⟩
      case measure => simp [intOf]; omega
    · have h1' : lettB c' = false := by simpa using h1
      rw [h1'] at kl
      by_cases h2 : digB c' = true
      · rw [if_pos (.inr h2)] at hst
        have HS : Hid (nmE s f (k + 1) = E) := hst
        have hlt' := hlt (.inr h2)
        clear hst hlt
        rw [h2] at kd
        clear h1 h1' h2
        go_wp2_with (first | (go_at_call 27; refine (kk _).mono ?_; rintro e w' ⟨rfl, rfl⟩) | (go_at_call 28; refine (kl _).mono ?_; rintro e w' ⟨rfl, rfl⟩) | (go_at_call 30; refine (kd _).mono ?_; rintro e w' ⟨rfl, rfl⟩))
        go_round
        case rel => exact ⟨k + 1, f, by omega, by omega, by go_num, HS⟩
        case measure => simp [intOf]; omega
      · have h2' : digB c' = false := by simpa using h2
        rw [if_neg (by rw [h1', h2']; simp)] at hst
        rw [h2'] at kd
        clear h1 h1' h2 h2' hlt HF HE
        subst hst
        obtain ⟨t0, t1, t2, t3, t4, t5, tf⟩ := tk_cells hT0
        have hT1 := (hT0.setKind 1).setTo (k : Int)
        have hZ1 := (hZ0.other (a := ⟨w.heap.size, 0, none⟩) (by simp) (.int .i64 1)).other (a := ⟨w.heap.size, 2, none⟩) (by simp) (.int .i64 (k : Int))
        have hB1 : Below w.heap.size w ((W.setCell ⟨w.heap.size, 0, none⟩ (.int .i64 1)).setCell ⟨w.heap.size, 2, none⟩ (.int .i64 (k : Int))) := (hB0.setCell (by simp) _).setCell (by simp) _
        obtain ⟨W2, hW2⟩ : ∃ W2, (W.setCell ⟨w.heap.size, 0, none⟩ (.int .i64 1)).setCell ⟨w.heap.size, 2, none⟩ (.int .i64 (k : Int)) = W2 := ⟨_, rfl⟩
        have c1 : ((W.setCell ⟨w.heap.size, 0, none⟩ (.int .i64 1)).setCell ⟨w.heap.size, 2, none⟩ (.int .i64 (k : Int))).cell? ⟨w.heap.size, 1, none⟩ = some (.int .i64 p) := (tk_cells hT1).2.1
        rw [hW2] at hT1 hZ1 hB1
        have HW2 : Hid ((W.setCell ⟨w.heap.size, 0, none⟩ (.int .i64 1)).setCell ⟨w.heap.size, 2, none⟩ (.int .i64 (k : Int)) = W2) := hW2
        clear hW2
        go_wp2_with (first | (go_at_call 27; refine (kk _).mono ?_; rintro e w' ⟨rfl, rfl⟩) | (go_at_call 28; refine (kl _).mono ?_; rintro e w' ⟨rfl, rfl⟩) | (go_at_call 30; refine (kd _).mono ?_; rintro e w' ⟨rfl, rfl⟩))
        rw [show (W.setCell ⟨w.heap.size, 0, none⟩ (.int .i64 1)).setCell ⟨w.heap.size, 2, none⟩ (.int .i64 (k : Int)) = W2 from HW2.out]
        refine (l1words_any W2).mono ?_
        rintro e w3 ⟨rfl, hw3⟩
        have hT3 : TkAt w.heap.size w3 1 p k 0 0 { data := #[] } := by rw [hw3]; exact (Below.heap_alloc _ _ _ (lt_of_block hT1)).trans hT1
        have hZ3 : TkAt (w.heap.size + 1) w3 0 0 0 0 0 { data := #[] } := by rw [hw3]; exact (Below.heap_alloc _ _ _ (lt_of_block hZ1)).trans hZ1
        have hB3 : Below w.heap.size w w3 := by rw [hw3]; exact hB1.alloc hB1.size _
        have hblk : w3.heap[W2.heap.size]? = some (.cells wordV 9 (0, 0)) := by rw [hw3]; exact heap_alloc_new W2 _
        clear hw3 hT1 hZ1 hB1 hT0 hZ0 hB0 c1 t0 t1 t2 t3 t4 t5 tf kk kl kd
        go_wp2_with fail
        obtain ⟨t0, t1, t2, t3, t4, t5, tf⟩ := tk_cells hT3
        obtain ⟨z0, z1, z2, z3, z4, z5, zf⟩ := tk_cells hZ3
        have hx1 : w.heap.size < w3.heap.size := lt_of_block hT3
        have hx2 : w.heap.size + 1 < w3.heap.size := lt_of_block hZ3
        go_loop [34] (fun i => ∃ j : Nat, j ≤ 22 ∧ i = .int .i64 j ∧ Hid (fnd wordV (s.extract p k) (22 - j) j = R)) (fun i => 22 - (intOf i).toNat)
        case atStart => exact ⟨0, by omega, rfl, HR⟩
        case round =>
          obtain ⟨j, hj, rfl, HF⟩ := hrel
          by_cases hlt : j < 22
          · have hck : w3.cell? ⟨W2.heap.size, j, none⟩ = some (.string (strAt wordV j)) := by rw [cell_of_row _ _ _ _ _ _ hblk]; exact word_at ⟨j, hlt⟩
            have hst := HF.out
            rw [show 22 - j = (22 - (j + 1)) + 1 by omega] at hst
            unfold fnd at hst
            generalize strAt wordV j = x at hck hst
            by_cases hx : (x.toList == (s.extract p k).toList) = true
            · rw [if_pos hx] at hst
              subst hst
              go_wp2
              refine bodyPost_ret (v := .tuple #[.agg #[.int .i64 (10 + (j : Int)), .int .i64 p, .int .i64 k, .int .i64 0, .int .i64 0, .string { data := #[] }], .int .i64 (-1)]) (by simp [results, Tryd.results29, go_sem, z0, z1, z2, z3, z4, z5]) rfl ⟨rfl, ?_⟩
              iterate 7 refine Below.setCell ?_ (by simp) _
              exact hB3
            · rw [if_neg hx] at hst
              have HS : Hid (fnd wordV (s.extract p k) (22 - (j + 1)) (j + 1) = R) := hst
              have hx' : (x.toList == (s.extract p k).toList) = false := by simpa using hx
              clear hst hx
              go_wp2
              go_round
              case rel => exact ⟨j + 1, by omega, by go_num, HS⟩
              case measure => simp [intOf]; omega
          · obtain rfl : j = 22 := by omega
            have hst := HF.out
            simp only [Nat.sub_self, fnd] at hst
            subst hst
            go_wp2
            refine bodyPost_ret (v := .tuple #[.agg #[.int .i64 1, .int .i64 p, .int .i64 k, .int .i64 0, .int .i64 0, .string (s.extract p k)], .int .i64 (-1)]) (by simp [results, Tryd.results29, go_sem, z0, z1, z2, z3, z4, z5]) rfl ⟨rfl, ?_⟩
            iterate 7 refine Below.setCell ?_ (by simp) _
            exact hB3
end Go.Proofs.YtlmkmihbbnjngaaDoor
