import Derived.Test.YtpllcogpohcbiaaDoorSRead
import Derived.BigRegion
namespace Go.Proofs.YtpllcogpohcbiaaDoor
open Go.RowKit
set_option linter.unusedVariables false

def vTok (k f t l n : Int) (x : ByteArray) : Value := .agg #[.int .i64 k, .int .i64 f, .int .i64 t, .int .i64 l, .int .i64 n, .string x]

theorem gr_new {w x : World} {b : Nat} {a : Addr} (h : w.grownBy x (some b)) (v : Value) (ha : w.heap.size ≤ a.block) : w.grownBy (x.setCell a v) (some b) :=
  ⟨h.os, h.tape, h.output, by simpa [World.setCell] using h.size, fun k hk hne => by rw [heap_setCell_other _ _ _ _ (by omega)]; exact h.block k hk hne⟩
theorem gr_fr2 {w x y : World} {b t : Nat} (h : Below w.heap.size w x) (k : Fr2 b t x y) (ht : w.heap.size ≤ t) : w.grownBy y (some b) :=
  ⟨k.os.trans h.os, k.tape.trans h.tape, k.output.trans h.output, Nat.le_trans h.size k.size, fun i hi hne => (k.block i (Nat.lt_of_lt_of_le hi h.size) (fun e => hne (by rw [e])) (by omega)).trans (h.block i hi)⟩

set_option maxRecDepth 100000 in
set_option maxHeartbeats 3200000 in
theorem token_str (s : ByteArray) (hm : s.size ≤ 70000) (b : Nat) (w : World) (m : Value) (p : Nat) (l : Int) (hp : p < s.size) (hc34 : bat s p = 34) (hS : ScAt b w s m p l false) (hok : (rdStr s (s.size + 1) (p + 1) []).1 = true) :
    Calls Tryd.prog 41 #[.pointer (some ⟨b, 0, none⟩)] w fun e w' => e = .returned (vTok 4 p (rdStr s (s.size + 1) (p + 1) []).2.1 l 0 (strI (rdStr s (s.size + 1) (p + 1) []).2.2)) ∧ w.grownBy w' (some b) ∧ ScAt b w' s m (rdStr s (s.size + 1) (p + 1) []).2.1 l false := by
  have hbw : b < w.heap.size := lt_of_block hS
  have i1 := fun w => idx_run hp w
  rw [hc34] at i1
  obtain ⟨R, hR⟩ : ∃ R, rdStr s (s.size + 1) (p + 1) [] = R := ⟨_, rfl⟩
  rw [hR] at hok ⊢
  have HR : Hid (rdStr s (s.size + 1) (p + 1) [] = R) := hR
  clear hR hc34
  obtain ⟨c0, c1, c2, c3, c4, f2, f3, f4⟩ := sc_cells hS
  go_enter Tryd.func41, Tryd.ntmps41
  go_wp2_with fail
  go_region
  have hZ : ∀ x : World, TkAt x.heap.size (x.alloc (.cells #[.int .i64 0, .int .i64 0, .int .i64 0, .int .i64 0, .int .i64 0, .string { data := #[] }] 30)) 0 0 0 0 0 ByteArray.empty := fun x => heap_alloc_new x _
  have hB2 : Below w.heap.size w ((w.alloc (.cells #[.int .i64 0, .int .i64 0, .int .i64 0, .int .i64 0, .int .i64 0, .string { data := #[] }] 30)).alloc (.cells #[.int .i64 0, .int .i64 p, .int .i64 0, .int .i64 l, .int .i64 0, .string { data := #[] }] 30)) :=
    (((Below.refl _ w).alloc (Nat.le_refl _) _).alloc (by simp) _)
  have hZ2 : TkAt w.heap.size ((w.alloc (.cells #[.int .i64 0, .int .i64 0, .int .i64 0, .int .i64 0, .int .i64 0, .string { data := #[] }] 30)).alloc (.cells #[.int .i64 0, .int .i64 p, .int .i64 0, .int .i64 l, .int .i64 0, .string { data := #[] }] 30)) 0 0 0 0 0 ByteArray.empty :=
    (Below.heap_alloc _ _ _ (by simp)).trans (hZ w)
  have hT2 : TkAt (w.heap.size + 1) ((w.alloc (.cells #[.int .i64 0, .int .i64 0, .int .i64 0, .int .i64 0, .int .i64 0, .string { data := #[] }] 30)).alloc (.cells #[.int .i64 0, .int .i64 p, .int .i64 0, .int .i64 l, .int .i64 0, .string { data := #[] }] 30)) 0 p 0 l 0 ByteArray.empty := by
    have := heap_alloc_new (w.alloc (.cells #[.int .i64 0, .int .i64 0, .int .i64 0, .int .i64 0, .int .i64 0, .string { data := #[] }] 30)) (.cells #[.int .i64 0, .int .i64 p, .int .i64 0, .int .i64 l, .int .i64 0, .string { data := #[] }] 30)
    rw [World.size_alloc] at this
    exact this
  have hS2 := hS.below hB2 hbw
  obtain ⟨W2, hW2⟩ : ∃ W2, ((w.alloc (.cells #[.int .i64 0, .int .i64 0, .int .i64 0, .int .i64 0, .int .i64 0, .string { data := #[] }] 30)).alloc (.cells #[.int .i64 0, .int .i64 p, .int .i64 0, .int .i64 l, .int .i64 0, .string { data := #[] }] 30)) = W2 := ⟨_, rfl⟩
  rw [hW2] at hB2 hZ2 hT2 hS2 ⊢
  clear hW2 hZ c0 c1 c2 c3 c4 f2 f3 f4
  obtain ⟨c0, c1, c2, c3, c4, f2, f3, f4⟩ := sc_cells hS2
  have hne : b ≠ w.heap.size + 1 := by omega
  go_wp2_with fail
  go_quiet (fail)
  go_wp2_with (first
    | (go_at_call 55; refine (isLetter_any 34 _).mono ?_; rintro e w' ⟨rfl, rfl⟩)
    | (go_at_call 60; refine (isDigit_any 34 _).mono ?_; rintro e w' ⟨rfl, rfl⟩)
    | (go_at_call 66; refine (readString_any s hm b (w.heap.size + 1) _ m p l p l hp hne (by exact hS2) (by exact hT2)).mono ?_; rintro e w3 ⟨rfl, hfr, hend⟩; refine Hid.out ?_))
  refine hidI ?_
  rw [HR.out] at hend
  unfold StrEnd at hend
  rw [if_pos hok] at hend
  obtain ⟨hS3, hT3⟩ := hend
  have hZ3 : TkAt w.heap.size w3 0 0 0 0 0 ByteArray.empty := (hfr.block w.heap.size (lt_of_block hZ2) (by omega) (by omega)).trans hZ2
  have hfr' : Fr2 b (w.heap.size + 1) W2 w3 := ⟨hfr.os, hfr.tape, hfr.output, hfr.size, hfr.block⟩
  clear hfr c0 c1 c2 c3 c4 f2 f3 f4 hS2 hT2 hZ2
  obtain ⟨p0, e, a⟩ := R
  simp only at hS3 hT3 ⊢
  obtain ⟨c0, c1, c2, c3, c4, f2, f3, f4⟩ := sc_cells hS3
  obtain ⟨t0, t1, t2, t3, t4, t5, tf⟩ := tk_cells hT3
  obtain ⟨z0, z1, z2, z3, z4, z5, zf⟩ := tk_cells hZ3
  have hzlt : w.heap.size < w3.heap.size := lt_of_block hZ3
  go_wp2
  refine bodyPost_ret (v := vTok 4 p e l 0 (strI a)) (by simp [results, Tryd.results41, go_sem, vTok, z0, z1, z2, z3, z4, z5]) rfl ⟨rfl, ?_, ?_⟩
  · exact gr_new (gr_new (gr_new (gr_new (gr_new (gr_new (gr_new (gr_fr2 hB2 hfr' (by omega)) _ (by simp)) _ (by simp)) _ (by simp)) _ (by simp)) _ (by simp)) _ (by simp)) _ (by simp)
  · exact ((((((hS3.other (by simp; omega) _).other (by simp; omega) _).other (by simp; omega) _).other (by simp; omega) _).other (by simp; omega) _).other (by simp; omega) _).other (by simp; omega) _
end Go.Proofs.YtpllcogpohcbiaaDoor
