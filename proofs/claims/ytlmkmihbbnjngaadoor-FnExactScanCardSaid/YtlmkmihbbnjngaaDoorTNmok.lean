import Derived.Test.YtlmkmihbbnjngaaDoorTL1w
namespace Go.Proofs.YtlmkmihbbnjngaaDoor
open Go.RowKit Go.Maps Go.WideMaps
set_option linter.unusedVariables false

theorem lett_range {c : Int} (h : lettB c = true) : 65 ≤ c ∧ c ≤ 122 := by simp [lettB] at h; omega
theorem dig_range {c : Int} (h : digB c = true) : 48 ≤ c ∧ c ≤ 57 := by simpa [digB] using h
theorem wdT_is (s : ByteArray) (p : Nat) : ∃ (k : Int) (x : ByteArray), wdT s p = .agg #[.int .i64 k, .int .i64 p, .int .i64 (nmE s (s.size + 1) p), .int .i64 0, .int .i64 0, .string x] ∧ ((k == 1) = !(isWd (s.extract p (nmE s (s.size + 1) p)))) := by
  unfold wdT isWd
  cases h : fnd wordV (s.extract p (nmE s (s.size + 1) p)) 22 0 with
  | none => exact ⟨1, _, rfl, rfl⟩
  | some k => exact ⟨10 + (k : Int), _, rfl, by simp; omega⟩

set_option maxRecDepth 100000 in
set_option maxHeartbeats 3200000 in
/-- l1read at a letter. -/
theorem l1read_lett (s : ByteArray) (hm : s.size ≤ 1100000) (p : Nat) (hp : p < s.size) (hl : lettB (bat s p) = true) (w : World) : Calls Tryd.prog 19 #[.string s, .int .i64 p] w fun e w' => e = .returned (.tuple #[wdT s p, .int .i64 (-1)]) ∧ Below w.heap.size w w' := by
  have i1 := fun w => idx_run hp w
  have kl := fun w => l1letter_any (bat s p) w
  have kw := fun w => l1word_any s hm p (Nat.le_of_lt hp) w
  have hr := lett_range hl
  rw [hl] at kl
  generalize bat s p = c at i1 kl hr
  obtain ⟨k, x, hT, hk⟩ := wdT_is s p
  rw [hT] at kw ⊢
  generalize nmE s (s.size + 1) p = E at kw hk
  have h10 : (c == 10) = false := by simp; omega
  clear hl hk hT
  have hZ0 : TkAt w.heap.size ((w.alloc (.cells #[.int .i64 0, .int .i64 0, .int .i64 0, .int .i64 0, .int .i64 0, .string { data := #[] }] 30)).alloc (.cells #[.int .i64 0, .int .i64 p, .int .i64 0, .int .i64 0, .int .i64 0, .string { data := #[] }] 30)) 0 0 0 0 0 { data := #[] } := (Below.heap_alloc _ _ _ (by simp)).trans (heap_alloc_new w _)
  have hB0 : Below w.heap.size w ((w.alloc (.cells #[.int .i64 0, .int .i64 0, .int .i64 0, .int .i64 0, .int .i64 0, .string { data := #[] }] 30)).alloc (.cells #[.int .i64 0, .int .i64 p, .int .i64 0, .int .i64 0, .int .i64 0, .string { data := #[] }] 30)) := (((Below.refl _ w).alloc (Nat.le_refl _) _).alloc (by simp) _)
  go_enter Tryd.func19, Tryd.ntmps19
  go_wp2_with (first | (go_at_call 28; refine (kl _).mono ?_; rintro e w' ⟨rfl, rfl⟩))
  refine (kw _).mono ?_
  rintro e w3 ⟨rfl, hb3⟩
  have hZ3 := hZ0.below hb3 (by simp; omega)
  have hB3 := hB0.trans (hb3.mono (by simp; omega))
  clear hb3 hZ0 hB0 kw kl i1
  obtain ⟨z0, z1, z2, z3, z4, z5, zf⟩ := tk_cells hZ3
  have hx1 : w.heap.size < w3.heap.size := lt_of_block hZ3
  go_wp2
  refine bodyPost_ret (v := .tuple #[.agg #[.int .i64 k, .int .i64 p, .int .i64 E, .int .i64 0, .int .i64 0, .string x], .int .i64 (-1)]) (by simp [results, Tryd.results19, go_sem, z0, z1, z2, z3, z4, z5]) rfl ⟨rfl, ?_⟩
  iterate 6 refine Below.setCell ?_ (by simp) _
  exact hB3

theorem extract_all (s : ByteArray) : s.extract 0 s.size = s := by
  simp

def nmok (s : ByteArray) : Bool := decide (s.size ≤ 40 ∧ lettB (bat s 0) = true ∧ nmE s (s.size + 1) 0 = s.size ∧ isWd s = false)

end Go.Proofs.YtlmkmihbbnjngaaDoor
