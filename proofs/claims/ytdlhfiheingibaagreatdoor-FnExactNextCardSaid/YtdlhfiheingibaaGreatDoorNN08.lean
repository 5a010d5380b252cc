import Derived.Test.YtdlhfiheingibaaGreatDoorNN07
import Derived.Lib.ItoaNum
import Derived.Test.YtdlhfiheingibaaGreatDoorNN01
import Derived.LaidLaws
import Derived.Lib.LaidTab
import Derived.Test.YtdlhfiheingibaaGreatDoorProg
namespace Go.Proofs.YtdlhfiheingibaaGreatDoor
open Go.RowKit Go.Maps Go.WideMaps
set_option linter.unusedVariables false

theorem hxA_is (s : ByteArray) (p : Nat) : ∃ (t n : Int), hxA s p = .agg #[.int .i64 2, .int .i64 p, .int .i64 t, .int .i64 0, .int .i64 n, .string { data := #[] }] := by
  unfold hxA; split <;> exact ⟨_, _, rfl⟩
def numA (s : ByteArray) (p : Nat) : Value := if bat s p = 48 ∧ bat s (p + 1) = 120 then hxA s p else nmA s p
def numF (s : ByteArray) (p : Nat) : Int := if bat s p = 48 ∧ bat s (p + 1) = 120 then hxF s p else nmF s p
theorem nmA_is (s : ByteArray) (p : Nat) : ∃ (k t n : Int) (x : ByteArray), nmA s p = .agg #[.int .i64 k, .int .i64 p, .int .i64 t, .int .i64 0, .int .i64 n, .string x] := by
  unfold nmA decV; split
  · split
    · exact ⟨_, _, _, _, rfl⟩
    · split <;> exact ⟨_, _, _, _, rfl⟩
  · exact ⟨_, _, _, _, rfl⟩
theorem numA_is (s : ByteArray) (p : Nat) : ∃ (k t n : Int) (x : ByteArray), numA s p = .agg #[.int .i64 k, .int .i64 p, .int .i64 t, .int .i64 0, .int .i64 n, .string x] := by
  unfold numA; split
  · obtain ⟨t, n, h⟩ := hxA_is s p; exact ⟨_, _, _, _, h⟩
  · exact nmA_is s p

set_option maxRecDepth 100000 in
set_option maxHeartbeats 3200000 in
theorem l1number_hex (s : ByteArray) (hm : s.size ≤ 1100000) (p : Nat) (h0 : bat s p = 48) (h1 : bat s (p + 1) = 120) (w : World) : Calls Tryz.prog 32 #[.string s, .agg #[.int .i64 0, .int .i64 p, .int .i64 0, .int .i64 0, .int .i64 0, .string { data := #[] }]] w fun e w' => e = .returned (.tuple #[hxA s p, .int .i64 (hxF s p)]) ∧ Below w.heap.size w w' := by
  have hp1 := lt_of_bat h1 (by omega)
  have i0 := fun w => idx_run (s := s) (i := p) (by omega) w
  rw [h0] at i0
  have kk : ∀ w, Calls Tryz.prog 28 #[.string s, .int .i64 ((p : Int) + 1)] w fun e w' => e = .returned (.int .u8 120) ∧ w' = w := fun w => by
    have := l1look_q s hm ((p : Int) + 1) (p + 1) (by omega) w
    rw [lk_bat hp1, h1] at this
    exact this
  have kh := fun w => l1hexed_any s hm p (by omega) w
  obtain ⟨t, n, hA⟩ := hxA_is s p
  rw [hA] at kh ⊢
  generalize hxF s p = F at kh
  clear hA h0 h1
  have hZ0 : TkAt (w.heap.size + 1) ((w.alloc (.cells #[.int .i64 2, .int .i64 p, .int .i64 0, .int .i64 0, .int .i64 0, .string { data := #[] }] 45)).alloc (.cells #[.int .i64 0, .int .i64 0, .int .i64 0, .int .i64 0, .int .i64 0, .string { data := #[] }] 45)) 0 0 0 0 0 { data := #[] } := by
    have := heap_alloc_new (w.alloc (.cells #[.int .i64 2, .int .i64 p, .int .i64 0, .int .i64 0, .int .i64 0, .string { data := #[] }] 45)) (.cells #[.int .i64 0, .int .i64 0, .int .i64 0, .int .i64 0, .int .i64 0, .string { data := #[] }] 45)
    rw [World.size_alloc] at this
    exact this
  have hB0 : Below w.heap.size w ((w.alloc (.cells #[.int .i64 2, .int .i64 p, .int .i64 0, .int .i64 0, .int .i64 0, .string { data := #[] }] 45)).alloc (.cells #[.int .i64 0, .int .i64 0, .int .i64 0, .int .i64 0, .int .i64 0, .string { data := #[] }] 45)) := (((Below.refl _ w).alloc (Nat.le_refl _) _).alloc (by simp) _)
  go_enter Tryz.func32, Tryz.ntmps32
  go_wp2_with (first | (go_at_call 28; refine (kk _).mono ?_; rintro e w' ⟨rfl, rfl⟩) | (go_at_call 51; fail))
  refine (kh _).mono ?_
  rintro e w3 ⟨rfl, hb3⟩
  have hZ3 := hZ0.below hb3 (by simp)
  have hB3 := hB0.trans (hb3.mono (by simp; omega))
  clear hb3 hZ0 hB0 kh kk i0
  obtain ⟨z0, z1, z2, z3, z4, z5, zf⟩ := tk_cells hZ3
  have hx1 : w.heap.size + 1 < w3.heap.size := lt_of_block hZ3
  go_wp2
  refine bodyPost_ret (v := .tuple #[.agg #[.int .i64 2, .int .i64 p, .int .i64 t, .int .i64 0, .int .i64 n, .string { data := #[] }], .int .i64 F]) (by simp [results, Tryz.results32, go_sem, z0, z1, z2, z3, z4, z5]) rfl ⟨rfl, ?_⟩
  iterate 6 refine Below.setCell ?_ (by simp) _
  exact hB3

theorem l1number_any (s : ByteArray) (hm : s.size ≤ 1100000) (p : Nat) (hp : p < s.size) (hd : digB (bat s p) = true) (w : World) : Calls Tryz.prog 32 #[.string s, .agg #[.int .i64 0, .int .i64 p, .int .i64 0, .int .i64 0, .int .i64 0, .string { data := #[] }]] w fun e w' => e = .returned (.tuple #[numA s p, .int .i64 (numF s p)]) ∧ Below w.heap.size w w' := by
  unfold numA numF
  split
  · rename_i hx; exact l1number_hex s hm p hx.1 hx.2 w
  · rename_i hx; exact l1number_dec s hm p hp hd hx w

theorem l1letter_q {c : Int} {b : Bool} (h : lettB c = b) (w : World) : Calls Tryz.prog 29 #[.int .u8 c] w fun e w' => e = .returned (.bool b) ∧ w' = w := (l1letter_any c w).mono fun e w' g => ⟨by rw [g.1, h], g.2.symm⟩

set_option maxRecDepth 100000 in
set_option maxHeartbeats 3200000 in
/-- l1read at a digit. -/
theorem l1read_dig (s : ByteArray) (hm : s.size ≤ 1100000) (p : Nat) (hp : p < s.size) (hd : digB (bat s p) = true) (w : World) : Calls Tryz.prog 17 #[.string s, .int .i64 p] w fun e w' => e = .returned (.tuple #[numA s p, .int .i64 (numF s p)]) ∧ Below w.heap.size w w' := by
  have i1 := fun w => idx_run hp w
  have hr := dig_range hd
  have hl : lettB (bat s p) = false := by simp [lettB]; omega
  have kl := fun w => l1letter_q hl w
  have kd := fun w => l1digit_q hd w
  have kw := fun w => l1number_any s hm p hp hd w
  obtain ⟨k, t, n, x, hT⟩ := numA_is s p
  rw [hT] at kw ⊢
  generalize numF s p = F at kw
  generalize bat s p = c at i1 kl kd hr
  have h10 : (c == 10) = false := by rw [beq_eq_false_iff_ne]; omega
  clear hl hd hT
  have hZ0 : TkAt w.heap.size ((w.alloc (.cells #[.int .i64 0, .int .i64 0, .int .i64 0, .int .i64 0, .int .i64 0, .string { data := #[] }] 45)).alloc (.cells #[.int .i64 0, .int .i64 p, .int .i64 0, .int .i64 0, .int .i64 0, .string { data := #[] }] 45)) 0 0 0 0 0 { data := #[] } := (Below.heap_alloc _ _ _ (by simp)).trans (heap_alloc_new w _)
  have hB0 : Below w.heap.size w ((w.alloc (.cells #[.int .i64 0, .int .i64 0, .int .i64 0, .int .i64 0, .int .i64 0, .string { data := #[] }] 45)).alloc (.cells #[.int .i64 0, .int .i64 p, .int .i64 0, .int .i64 0, .int .i64 0, .string { data := #[] }] 45)) := (((Below.refl _ w).alloc (Nat.le_refl _) _).alloc (by simp) _)
  go_enter Tryz.func17, Tryz.ntmps17
  go_wp2_with (first | (go_at_call 29; refine (kl _).mono ?_; rintro e w' ⟨rfl, rfl⟩) | (go_at_call 31; refine (kd _).mono ?_; rintro e w' ⟨rfl, rfl⟩))
  refine (kw _).mono ?_
  rintro e w3 ⟨rfl, hb3⟩
  have hZ3 := hZ0.below hb3 (by simp; omega)
  have hB3 := hB0.trans (hb3.mono (by simp; omega))
  clear hb3 hZ0 hB0 kw kl kd i1
  obtain ⟨z0, z1, z2, z3, z4, z5, zf⟩ := tk_cells hZ3
  have hx1 : w.heap.size < w3.heap.size := lt_of_block hZ3
  go_wp2
  refine bodyPost_ret (v := .tuple #[.agg #[.int .i64 k, .int .i64 p, .int .i64 t, .int .i64 0, .int .i64 n, .string x], .int .i64 F]) (by simp [results, Tryz.results17, go_sem, z0, z1, z2, z3, z4, z5]) rfl ⟨rfl, ?_⟩
  iterate 6 refine Below.setCell ?_ (by simp) _
  exact hB3

/-- l1fltok, by what l1read answers. -/
theorem numN_num (s : ByteArray) (p : Nat) : (numF s p < 0 ↔ (numN s p).2 = true) ∧ ∃ (k t n : Int) (x : ByteArray), numA s p = .agg #[.int .i64 k, .int .i64 p, .int .i64 t, .int .i64 0, .int .i64 n, .string x] ∧ ((numN s p).2 = true → t = ((numN s p).1 : Int) ∧ ((k == 3) = decide (¬ (bat s p = 48 ∧ bat s (p + 1) = 120) ∧ (nKd s p = true ∨ dcS s p ((numN s p).1 - p) = none)))) := by
  unfold numF numA numN
  by_cases hx : bat s p = 48 ∧ bat s (p + 1) = 120
  · simp only [if_pos hx]
    unfold hxF hxA
    cases hh : (hexN s (p + 2)).2 with
    | true =>
      simp only [if_true]
      refine ⟨⟨fun _ => trivial, fun _ => by omega⟩, 2, _, _, _, rfl, fun _ => ⟨rfl, ?_⟩⟩
      simp [hx]
    | false =>
      simp only [if_neg (show ¬ false = true by simp)]
      refine ⟨⟨fun h => by omega, fun h => by cases h⟩, 2, _, _, _, rfl, fun h => by cases h⟩
  · simp only [if_neg hx]
    unfold nmF nmA decV
    cases hh : (nEx s (nA1 s (nA0 s p))).2 with
    | true =>
      simp only [if_true]
      refine ⟨⟨fun _ => trivial, fun _ => by omega⟩, ?_⟩
      cases hk : nKd s p with
      | true =>
        simp only [if_true]
        exact ⟨3, _, _, _, rfl, fun _ => ⟨rfl, by simp [hx]⟩⟩
      | false =>
        simp only [if_neg (show ¬ false = true by simp)]
        cases hc : dcS s p ((nEx s (nA1 s (nA0 s p))).1 - p) with
        | none => exact ⟨3, _, _, _, rfl, fun _ => ⟨rfl, by simp [hx]⟩⟩
        | some u => exact ⟨2, _, _, _, rfl, fun _ => ⟨rfl, by simp⟩⟩
    | false =>
      simp only [if_neg (show ¬ false = true by simp)]
      refine ⟨⟨fun h => by omega, fun h => by cases h⟩, 3, _, _, _, rfl, fun h => by cases h⟩
end Go.Proofs.YtdlhfiheingibaaGreatDoor

namespace Go.Proofs.YtdlhfiheingibaaGreatDoor
open Go.RowKit Go.Maps Go.WideMaps
set_option linter.unusedVariables false

theorem dec_flt (q : ByteArray) (hd : digB (bat q 0) = true) (hN : nEx q (nA1 q (nA0 q 0)) = (q.size, true)) : decI q = none ↔ (nKd q 0 = true ∨ dcS q 0 q.size = none) := by
  cases hk : nKd q 0 with
  | false =>
    obtain ⟨h1, h2⟩ := dec_all q 0 hd hk
    have e : nA0 q 0 = q.size := by rw [hN] at h1; exact (Prod.mk.inj h1).1.symm
    rw [decI_dig q (dig_lt hd) (fun i hi => h2 i (by omega) (by omega))]
    simp
  | true =>
    simp only [true_or, iff_true]
    unfold nKd at hk
    rcases of_decide_eq_true hk with h | h
    · exact decI_bad q hd _ (lt_of_bat h.1 (by omega)) (by rw [h.1]; decide)
    · exact decI_bad q hd _ (lt_of_bat h (by omega)) (by rw [h]; decide)

def fok (q : ByteArray) : Bool := decide (q.size ≤ 40) && fltI q

end Go.Proofs.YtdlhfiheingibaaGreatDoor

namespace Go.Proofs.YtdlhfiheingibaaGreatDoor
open Go.RowKit Go.Maps Go.WideMaps
set_option linter.unusedVariables false

/-- The hexadecimal digit of u at 16^j. -/
def hxd (u : Nat) (j : Nat) : Int := hexd ((u / 16 ^ j % 16 : Nat) : Int)
/-- '0x' and the first r of the sixteen digits of u. -/
def hxO (u : Nat) : Nat → ByteArray
  | 0 => { data := #[48, 120] }
  | r + 1 => hxO u r ++ strI [hxd u (15 - r)]

theorem Nat.pow_mul_two16 (k : Nat) : (2 : Int) ^ (4 * k) = (16 : Int) ^ k := by rw [Int.pow_mul]; rfl
theorem hxO_size (u : Nat) : ∀ r, (hxO u r).size = r + 2
  | 0 => rfl
  | r + 1 => by show (hxO u r ++ strI [hxd u (15 - r)]).size = _; rw [ByteArray.size_append, hxO_size u r]; rfl
theorem DG_run64 (d : Int) (h0 : 0 ≤ d) (h1 : d < 16) (w : World) : (Instr.index 9 (.string { data := #[48, 49, 50, 51, 52, 53, 54, 55, 56, 57, 97, 98, 99, 100, 101, 102] }) (.int .u64 d)).run Tryz.prog w = .ok (.int .u8 (hexd d)) w := by
  have h : d.toNat < DG.size := by simp only [DG]; show d.toNat < 16; omega
  have q := DG_at d h0 h1 h
  go_simp
  exact q
theorem low64 (c : Int) (h0 : 0 ≤ c) (h1 : c < 18446744073709551616) : bits .and .u64 c 15 = c % 16 := by
  have := bits_mask .u64 64 (by decide) (fun n a b => by rw [IntKind.wrap_u64]; omega) 4 (by decide) c h0 h1
  simpa using this

end Go.Proofs.YtdlhfiheingibaaGreatDoor

namespace Go.Proofs.YtdlhfiheingibaaGreatDoor
open Go.RowKit Go.Maps Go.WideMaps
set_option linter.unusedVariables false

theorem tz_and : bits .and .u64 16 (IntKind.u64.wrap (-16)) = 16 := by decide +kernel
theorem tz_mul : IntKind.u64.wrap 4573923408821661840 = 4573923408821661840 := by decide +kernel
set_option maxHeartbeats 400000 in
theorem tz64 (w : World) (h : w.cell? ⟨9, 15, none⟩ = some (.int .u8 4)) : Calls Tryz.prog 118 #[.int .u64 16] w fun e w' => e = .returned (.int .i64 4) ∧ w' = w := by
  have ha := tz_and
  have hb := tz_mul
  go_enter Tryz.func118, Tryz.ntmps118
  go_wp2
  go_ret
  exact ⟨rfl, rfl⟩
set_option maxHeartbeats 400000 in
theorem tz (w : World) (h : w.cell? ⟨9, 15, none⟩ = some (.int .u8 4)) : Calls Tryz.prog 116 #[.int .u64 16] w fun e w' => e = .returned (.int .i64 4) ∧ w' = w := by
  go_enter Tryz.func116, Tryz.ntmps116
  go_wp2_with (go_at_call 118; refine (tz64 _ h).mono ?_; rintro e w' ⟨rfl, rfl⟩)
  go_ret
  exact ⟨rfl, rfl⟩
theorem p2_and : bits .and .i64 16 15 = 0 := by decide +kernel
set_option maxHeartbeats 400000 in
theorem p2 (w : World) : Calls Tryz.prog 115 #[.int .i64 16] w fun e w' => e = .returned (.bool true) ∧ w' = w := by
  have ha := p2_and
  go_enter Tryz.func115, Tryz.ntmps115
  go_wp2
  go_ret
  exact ⟨rfl, rfl⟩

/-- The digits of the library's table. -/
def D36 : ByteArray := { data := #[48, 49, 50, 51, 52, 53, 54, 55, 56, 57, 97, 98, 99, 100, 101, 102, 103, 104, 105, 106, 107, 108, 109, 110, 111, 112, 113, 114, 115, 116, 117, 118, 119, 120, 121, 122] }
theorem D36_nat : ∀ i : Fin 16, ((D36[i.val]'(by have := i.isLt; show i.val < 36; omega)).toNat : Int) = hexd (i.val : Int) := by decide
theorem D36_at (d : Int) (h0 : 0 ≤ d) (h1 : d < 16) (h : d.toNat < D36.size) : ((D36[d.toNat]'h).toNat : Int) = hexd d := by
  have := D36_nat ⟨d.toNat, by omega⟩
  have e : ((d.toNat : Nat) : Int) = d := by omega
  simp only [e] at this
  exact this
theorem D36_run (d : Int) (h0 : 0 ≤ d) (h1 : d < 16) (w : World) : (Instr.index 9 (.string { data := #[48, 49, 50, 51, 52, 53, 54, 55, 56, 57, 97, 98, 99, 100, 101, 102, 103, 104, 105, 106, 107, 108, 109, 110, 111, 112, 113, 114, 115, 116, 117, 118, 119, 120, 121, 122] }) (.int .u64 d)).run Tryz.prog w = .ok (.int .u8 (hexd d)) w := by
  have h : d.toNat < D36.size := by simp only [D36]; show d.toNat < 36; omega
  have q := D36_at d h0 h1 h
  have h36 : d < 36 := by omega
  go_simp
  exact q

/-- The row of 65 bytes: the last r hold the digits of u, the lowest last. -/
structure Rw (B : Nat) (w : World) (u r : Nat) : Prop where
  ex : ∃ arr, w.heap[B]? = some (.cells arr 156 (0, 0)) ∧ arr.size = 65 ∧ ∀ j, j < r → arr[64 - j]? = some (.int .u8 (hxd u j))
theorem Rw.step {B : Nat} {w : World} {u r : Nat} (h : Rw B w u r) (hr : r < 65) (x : Int) (hx : x = hxd u r) : Rw B (w.setCell ⟨B, 64 - r, none⟩ (.int .u8 x)) u (r + 1) := by
  obtain ⟨arr, h1, h2, h3⟩ := h.ex
  refine ⟨_, heap_setCell_same w B (64 - r) _ _ _ h1, by simp [h2], fun j hj => ?_⟩
  rw [Array.getElem?_setIfInBounds]
  by_cases e : j = r
  · subst e; rw [if_pos rfl, if_pos (by omega), hx]
  · rw [if_neg (by omega)]; exact h3 j (by omega)

theorem Rw.conv {B : Nat} {w : World} {u : Nat} (h : Rw B w u 16) : (convert 94 9 (.slice (some ⟨B, 49, none⟩) 16 16)).run Tryz.prog w = .ok (.string (strI ((List.range 16).map fun j => hxd u (15 - j)))) w := by
  obtain ⟨arr, h1, h2, h3⟩ := h.ex
  rw [run_convert_bytes_string w 94 9 5 _ _ _ Tryz.underlying94 Tryz.underlying5 Tryz.underlying9]
  refine run_bytesToString w _ 16 16 _ ?_
  have := run_loadCells_list (P := Tryz.prog) w ⟨B, 49, none⟩ (B8 ((List.range 16).map fun j => hxd u (15 - j))) (fun j x hj => by
    have hj16 : j < 16 := by
      rcases Nat.lt_or_ge j 16 with g | g
      · exact g
      · rw [List.getElem?_eq_none (by simpa [B8] using g)] at hj; cases hj
    have e : x = .int .u8 (hxd u (15 - j)) := by
      simp [B8, hj16] at hj
      exact hj.symm
    subst e
    rw [show (⟨B, 49, none⟩ : Addr).add j = ⟨B, 49 + j, none⟩ by unfold Addr.add; split <;> simp_all, cell_of_row _ _ _ _ _ _ h1]
    have := h3 (15 - j) (by omega)
    rw [show 64 - (15 - j) = 49 + j by omega] at this
    exact this)
  exact this

set_option maxRecDepth 100000 in
set_option maxHeartbeats 3200000 in
theorem fmtBits (u : Nat) (h0 : 9223372036854775808 ≤ u) (h1 : u < 18446744073709551616) (w : World) (h : w.cell? ⟨9, 15, none⟩ = some (.int .u8 4)) : Calls Tryz.prog 111 #[.slice none 0 0, .int .u64 (u : Int), .int .i64 16, .bool false, .bool false] w fun e w' => e = .returned (.tuple #[.slice none 0 0, .string (strI ((List.range 16).map fun j => hxd u (15 - j)))]) ∧ Below w.heap.size w w' := by
  have hlt := World.block_lt_of_cell? w _ h
  have kt : ∀ o, Calls Tryz.prog 116 #[.int .u64 16] (w.alloc o) fun e w' => e = .returned (.int .i64 4) ∧ w' = w.alloc o := fun o => tz _ ((cell_below (((Below.refl w.heap.size w).alloc (Nat.le_refl _) o)) hlt).trans h)
  have hR0 : Rw w.heap.size (w.alloc (.cells Tryz.zeroCells156 156)) u 0 := ⟨_, heap_alloc_new w _, by kernel_rfl, fun j hj => by omega⟩
  have hB0 : Below w.heap.size w (w.alloc (.cells Tryz.zeroCells156 156)) := (Below.refl _ w).alloc (Nat.le_refl _) _
  obtain ⟨L, hL⟩ : ∃ L, (List.range 16).map (fun j => hxd u (15 - j)) = L := ⟨_, rfl⟩
  rw [hL]
  have HL : Hid ((List.range 16).map (fun j => hxd u (15 - j)) = L) := hL
  clear hL
  go_enter Tryz.func111, Tryz.ntmps111
  go_wp2_with (first | (go_at_call 115; refine (p2 _).mono ?_; rintro e w' ⟨rfl, rfl⟩) | (go_at_call 116; refine (kt _).mono ?_; rintro e w' ⟨rfl, rfl⟩))
  generalize w.alloc (.cells Tryz.zeroCells156 156) = W at hR0 hB0
  go_loopw [1, 13] (fun v i wr => ∃ (r : Nat) (U : Int), r ≤ 15 ∧ i = .int .i64 (65 - (r : Int)) ∧ v = .int .u64 U ∧ Hid (U = ((u / 16 ^ r : Nat) : Int)) ∧ Rw w.heap.size wr u r ∧ Below w.heap.size w wr) (fun _ i _ => (intOf i).toNat)
  case atStart => exact ⟨0, (u : Int), by omega, rfl, rfl, by show (u : Int) = _; simp, hR0, hB0⟩
  case round =>
    obtain ⟨r, U, hr, rfl, rfl, HU, hRw, hb⟩ := hrel
    obtain ⟨arr, g1, g2, g3⟩ := hRw.ex
    have hBlt : w.heap.size < wr.heap.size := lt_of_block g1
    have hU0 : 0 ≤ U := by rw [HU.out]; exact Int.natCast_nonneg _
    have hU1 : U < 18446744073709551616 := by
      rw [HU.out]
      have := Nat.div_le_self u (16 ^ r)
      omega
    have hD0 : 0 ≤ U % 16 := by omega
    have hD1 : U % 16 < 16 := by omega
    have HD : Hid (hexd (U % 16) = hxd u r) := by show _ = _; unfold hxd; rw [HU.out]; rfl
    by_cases hlt : r < 15
    · have hge : 16 ≤ U := by
        rw [HU.out]
        have e1 : 16 ^ (r + 1) ≤ 16 ^ 15 := Nat.pow_le_pow_right (by omega) (by omega)
        have e2 : 16 ^ 15 = 1152921504606846976 := by decide
        have e3 : 16 ≤ u / 16 ^ r := by
          rw [Nat.le_div_iff_mul_le (Nat.pow_pos (by omega))]
          rw [Nat.pow_succ] at e1
          omega
        omega
      have HN : Hid (U / 16 = ((u / 16 ^ (r + 1) : Nat) : Int)) := by
        show _ = _
        rw [HU.out, Nat.pow_succ, ← Nat.div_div_eq_div_mul]
        rfl
      have hbit : bits .and .u64 U 15 = U % 16 := low64 U hU0 hU1
      have hix := fun w => D36_run (U % 16) hD0 hD1 w
      generalize U % 16 = D at hD0 hD1 hbit hix HD
      obtain ⟨I, hI⟩ : ∃ I : Nat, 64 - r = I := ⟨_, rfl⟩
      have hci : ∃ x, wr.cell? ⟨w.heap.size, I, none⟩ = some x := by
        rw [cell_of_row _ _ _ _ _ _ g1]
        exact ⟨_, Array.getElem?_eq_getElem (by omega)⟩
      obtain ⟨x, hcx⟩ := hci
      have hfz : wr.frozen? ⟨w.heap.size, I, none⟩ = false := frozen_of_row _ _ _ _ _ g1
      have hRn := hRw.step (by omega) (hexd D) HD.out
      rw [hI] at hRn
      obtain ⟨ii, hii⟩ : ∃ ii : Int, 65 - (r : Int) = ii := ⟨_, rfl⟩
      have hi1 : ii - 1 = (I : Int) := by omega
      have hi2 : ii ≤ 65 := by omega
      have hi3 : I ≤ 64 := by omega
      have HI : Hid (65 - (r : Int) = ii) := hii
      rw [hii]
      clear hii HU g3
      go_wp2
      go_roundw
      case rel => exact ⟨r + 1, U / 16, by omega, by have := HI.out; congr 1; omega, rfl, HN, hRn, hb.setCell (by simp) _⟩
      case measure => simp [intOf]; omega
    · obtain rfl : r = 15 := by omega
      have hlt16 : U < 16 := by
        rw [HU.out]
        have e2 : 16 ^ 15 = 1152921504606846976 := by decide
        rw [e2]
        omega
      have hix := fun w => D36_run U hU0 hlt16 w
      rw [Int.emod_eq_of_lt hU0 hlt16] at HD
      obtain ⟨x, hcx⟩ : ∃ x, wr.cell? ⟨w.heap.size, 49, none⟩ = some x := by
        rw [cell_of_row _ _ _ _ _ _ g1]
        exact ⟨_, Array.getElem?_eq_getElem (by omega)⟩
      have hfz : wr.frozen? ⟨w.heap.size, 49, none⟩ = false := frozen_of_row _ _ _ _ _ g1
      have hRn : Rw w.heap.size (wr.setCell ⟨w.heap.size, 49, none⟩ (.int .u8 (hexd U))) u 16 := hRw.step (r := 15) (by omega) (hexd U) HD.out
      have hcv := hRn.conv
      rw [HL.out] at hcv
      have hge : ¬ 16 ≤ U := by omega
      clear HU g3 hRn
      go_wp2
      go_ret2
      exact ⟨rfl, hb.setCell (by simp) _⟩

theorem strI_app (a b : List Int) : strI (a ++ b) = strI a ++ strI b := by
  have key : ∀ (l : List Int) (x : ByteArray), l.foldl (fun r n => r.push (UInt8.ofNat n.toNat)) x = x ++ l.foldl (fun r n => r.push (UInt8.ofNat n.toNat)) ByteArray.empty := by
    intro l
    induction l with
    | nil => intro x; simp
    | cons a r ih =>
      intro x
      rw [List.foldl_cons, List.foldl_cons, ih (x.push _), ih (ByteArray.empty.push _)]
      apply ByteArray.ext
      simp [ByteArray.push, ByteArray.data_append]
  unfold strI
  rw [List.foldl_append]
  exact key b _
theorem hxO_all (u : Nat) : hxO u 16 = { data := #[48, 120] } ++ strI ((List.range 16).map fun j => hxd u (15 - j)) := by
  have key : ∀ r, hxO u r = { data := #[48, 120] } ++ strI ((List.range r).map fun j => hxd u (15 - j)) := by
    intro r
    induction r with
    | zero => rfl
    | succ r ih => rw [hxO, ih, List.range_succ, List.map_append, strI_app, ByteArray.append_assoc]; rfl
  exact key 16

end Go.Proofs.YtdlhfiheingibaaGreatDoor

namespace Go.Proofs.YtdlhfiheingibaaGreatDoor
open Go.RowKit Go.Maps Go.WideMaps
set_option linter.unusedVariables false

def ints (d : List UInt8) : List Int := d.map fun b => (b.toNat : Int)
theorem strI_ints (d : List UInt8) : strI (ints d) = ⟨d.toArray⟩ := by
  have key : ∀ (d : List UInt8) (x : ByteArray), (ints d).foldl (fun r n => r.push (UInt8.ofNat n.toNat)) x = ⟨x.data ++ d.toArray⟩ := by
    intro d
    induction d with
    | nil => intro x; simp [ints]
    | cons a r ih =>
      intro x
      show (ints r).foldl _ (x.push (UInt8.ofNat ((a.toNat : Int)).toNat)) = _
      rw [ih]
      have e : UInt8.ofNat ((a.toNat : Int)).toNat = a := by simp
      rw [e]
      simp [ByteArray.push]
  have := key d ByteArray.empty
  unfold strI
  rw [this]
  simp
def pre (c : Nat) : List Int := if c = 0 then [] else ints (Lib.decDigits c)
theorem pre_step (c : Nat) (h : c ≠ 0) : pre c = pre (c / 10) ++ [48 + ((c % 10 : Nat) : Int)] := by
  have h8 : ∀ k, k < 10 → (((UInt8.ofNat (48 + k)).toNat : Nat) : Int) = 48 + (k : Int) := fun k hk => by
    rw [UInt8.toNat_ofNat', Nat.mod_eq_of_lt (by omega)]; omega
  unfold pre
  rw [if_neg h]
  by_cases h10 : c < 10
  · rw [if_pos (by omega), Lib.decDigits, dif_pos h10, Nat.mod_eq_of_lt h10]
    show [(((UInt8.ofNat (48 + c)).toNat : Nat) : Int)] = _
    rw [h8 c h10]; rfl
  · rw [if_neg (by omega), Lib.decDigits, dif_neg h10]
    show List.map _ (_ ++ _) = _
    rw [List.map_append]
    show ints (Lib.decDigits (c / 10)) ++ [(((UInt8.ofNat (48 + c % 10)).toNat : Nat) : Int)] = _
    rw [h8 _ (by omega)]

end Go.Proofs.YtdlhfiheingibaaGreatDoor

namespace Go.Proofs.YtdlhfiheingibaaGreatDoor
open Go.RowKit

end Go.Proofs.YtdlhfiheingibaaGreatDoor

namespace Go.Proofs.YtdlhfiheingibaaGreatDoor
open Go.RowKit Go.Maps Go.WideMaps
set_option linter.unusedVariables false

/-- The package's variables lie as the text lays them. -/
structure Lay (w : World) : Prop where
  tabs : Tabs w
  errs : Errs w
  pow : Lib.TabIs Tryz.prog w "internal/strconv.uint64pow10" .u64 Lib.pow10Tab
  brj : w.cell? ⟨9, 15, none⟩ = some (.int .u8 4)
theorem var_below {P : Program} {w w' : World} {B : Nat} {n : String} {cs : Array Value} (h : w.var? P n = some cs) (hb : Below B w w') (hB : w.heap.size ≤ B) : w'.var? P n = some cs := by
  unfold World.var? at h ⊢
  cases hg : P.globalNamed n with
  | none => simp [hg] at h
  | some g =>
    simp only [hg, Option.bind_some] at h ⊢
    have hlt : g < w.heap.size := by
      rcases Nat.lt_or_ge g w.heap.size with h' | h'
      · exact h'
      · simp [Array.getElem?_eq_none h'] at h
    rw [hb.block g (Nat.lt_of_lt_of_le hlt hB)]
    exact h
theorem Lay.below {w w' : World} {B : Nat} (h : Lay w) (hb : Below B w w') (hB : w.heap.size ≤ B) : Lay w' :=
  ⟨h.tabs.below hb hB, h.errs.below hb hB, var_below h.pow hb hB, (cell_below hb (Nat.lt_of_lt_of_le (World.block_lt_of_cell? w _ h.brj) hB)).trans h.brj⟩

theorem bel_grow (w : World) (q : Nat) (os : Array Obj) : Below w.heap.size w (Sort.grow (w.drewN q) os) :=
  ⟨rfl, rfl, rfl, by show w.heap.size ≤ (w.heap ++ os).size; simp, fun k hk => by show (w.heap ++ os)[k]? = _; rw [Array.getElem?_append_left hk]⟩

def intS (n : Int) : ByteArray := if n < 0 then hxO (n + 18446744073709551616).toNat 16 else ⟨(Lib.decDigits n.toNat).toArray⟩

def quS (s : ByteArray) : ByteArray := if 4000 < s.size then emptyS else strI (quoteI s)
theorem sgn_in : ∀ k : Fin 30, 5 ≤ sgnI (strAt sgnV k.val) ∧ sgnI (strAt sgnV k.val) ≤ 78 := by decide +kernel
theorem fndS_out (kind : Int) (h : kind < 5 ∨ 78 < kind) : ∀ (f k : Nat), k + f ≤ 30 → fndS kind f k = emptyS
  | 0, k, _ => rfl
  | f + 1, k, hk => by
    have := sgn_in ⟨k, by omega⟩
    unfold fndS
    rw [if_neg (by simp only at this; omega)]
    exact fndS_out kind h f (k + 1) (by omega)
theorem txt_fix_nat : ∀ k : Fin 79, k.val ≠ 7 → txtI (k.val : Int) = fixI (k.val : Int) := by decide +kernel
theorem txt_fix (kind : Int) (h7 : kind ≠ 7) : txtI kind = fixI kind := by
  by_cases h : 0 ≤ kind ∧ kind ≤ 78
  · have := txt_fix_nat ⟨kind.toNat, by omega⟩ (by simp only; omega)
    simp only [show ((kind.toNat : Nat) : Int) = kind by omega] at this
    exact this
  · unfold txtI fixI
    rw [if_neg (by omega), if_neg (by omega), if_neg (by omega), if_neg (by omega), if_neg (by omega), if_neg (by omega), if_neg (by omega)]
    exact fndS_out kind (by omega) 30 0 (by omega)

def tokS (k n : Int) (x : ByteArray) : ByteArray := if k = 1 then (if nmok x = true then x else emptyS) else if k = 2 then intS n else if k = 3 then (if fok x = true then x else emptyS) else if k = 4 then quS x else fixI k

theorem clone_any (s : ByteArray) (hm : s.size ≤ 1100000) (w : World) : Calls Tryz.prog 77 #[.string s] w fun e w' => e = .returned (.string s) ∧ Below w.heap.size w w' := by
  have kc := fun w => Tryz.stringslite_Clone s w (by omega)
  go_enter Tryz.func77, Tryz.ntmps77
  go_wp2_with (go_at_call 83; refine (kc _).mono ?_; rintro e w' ⟨rfl, hb⟩)
  go_ret
  exact ⟨rfl, hb⟩

end Go.Proofs.YtdlhfiheingibaaGreatDoor

namespace Go.Proofs.YtdlhfiheingibaaGreatDoor
open Go.ChangeShapes Go.WideShapes Go.ChangeAt Go.WideMaps Go.WideElems Go.RowKit
set_option linter.unusedVariables false

theorem trodVars3 {H : Type} {enc : TypeId × Value → H} {P : Program} {w : World} {sp : Nat → Bool} {a b c : String} {gs : List (DataW H)} {ps : List MemPlace} (h : DataW.TrodVars enc P w sp [a, b, c] gs ps) : ∃ g1 g2 g3, gs = [g1, g2, g3] := by
  match gs, h with
  | [g1, g2, g3], _ => exact ⟨g1, g2, g3, rfl⟩
  | [], h => exact h.elim
  | [_], h => obtain ⟨_, _, _, _, _, _, _, _, _, _, h, _⟩ := h; exact h.elim
  | [_, _], h => obtain ⟨_, _, _, _, _, _, _, _, _, _, h, _⟩ := h; obtain ⟨_, _, _, _, _, _, _, _, _, _, h, _⟩ := h; exact h.elim
  | _ :: _ :: _ :: _ :: _, h => obtain ⟨_, _, _, _, _, _, _, _, _, _, h, _⟩ := h; obtain ⟨_, _, _, _, _, _, _, _, _, _, h, _⟩ := h; obtain ⟨_, _, _, _, _, _, _, _, _, _, h, _⟩ := h; exact h.elim

def strL (V : Array Value) : List (List UInt8) := V.toList.map fun v => match v with | .string s => s.data.toList | _ => []

/-- A table of texts, as the condition says it. -/
theorem strs_of {W : World} {name : String} {d : DataW Unit} {g : Nat} {t : TypeId} {n : Nat} {V : Array Value} (hpl : ([(name, d)].all fun x => x.2.handleName?.isNone) = true)
    (hg : Tryz.prog.globalNamed name = some g) (hT : (Tryz.prog.globals[g]?).map (·.type) = some t) (ht : Tryz.prog.underlying t = some (.array n 9)) (hce : Tryz.prog.cellsOf 9 = 1) (hct : Tryz.prog.cellsOf t = n)
    (hd : d = .agg ((strL V).map fun b => .lit (.string b))) (hV : (strL V).map (fun b => Value.string ⟨b.toArray⟩) = V.toList) (h : laidMetH Tryz.prog [(name, d)] W) : ∃ tt fr, W.heap[g]? = some (.cells V tt fr) := by
  rw [MakeChecks.laidMetH_plain _ _ _ hpl] at h
  obtain ⟨ps, ⟨g0, t0, cs0, f0, p0, q0, hg0, ht0, hv0, hd0, _, _⟩, _, _⟩ := h
  obtain rfl := Option.some.inj (hg.symm.trans hg0)
  obtain rfl := Option.some.inj (hT.symm.trans ht0)
  subst hd
  have e := cells_of_strs ht Tryz.underlying9 hce hct hd0
  have e2 : cs0 = V := by
    apply Array.toList_inj.1
    rw [e, hV]
  simp only [World.var?, hg0, Option.bind_some] at hv0
  split at hv0
  · rename_i cs tt fr hh
    cases hv0
    exact ⟨tt, fr, by rw [← e2]; exact hh⟩
  · cases hv0

theorem err_of {W : World} {name nm : String} {d : DataW Unit} {g : Nat} {t : TypeId} {ms : Array (String × TypeId)} (hpl : ([(name, DataW.iface nm d)].all fun x => x.2.handleName?.isNone) = true)
    (hg : Tryz.prog.globalNamed name = some g) (hT : (Tryz.prog.globals[g]?).map (·.type) = some t) (ht : Tryz.prog.underlying t = some (.interface ms)) (h : laidMetH Tryz.prog [(name, .iface nm d)] W) : ∃ te pe, W.cell? ⟨g, 0, none⟩ = some (.iface te pe) := by
  rw [MakeChecks.laidMetH_plain _ _ _ hpl] at h
  obtain ⟨ps, ⟨g0, t0, cs0, f0, p0, q0, hg0, ht0, hv0, hd0, _, _⟩, _, _⟩ := h
  obtain rfl := Option.some.inj (hg.symm.trans hg0)
  obtain rfl := Option.some.inj (hT.symm.trans ht0)
  obtain ⟨f', u, v, e, _, _⟩ := iface_of_trod ht hd0
  refine ⟨u, v, ?_⟩
  have := World.var?_cell hg0 hv0 0
  rw [this]
  have e2 : cs0.toList[0]? = some (.iface u v) := by rw [e]; rfl
  simpa using e2

def brjTab : List Int := [0, 1, 56, 2, 57, 49, 28, 3, 61, 58, 42, 50, 38, 29, 17, 4, 62, 47, 59, 36, 45, 43, 51, 22, 53, 39, 33, 30, 24, 18, 12, 5, 63, 55, 48, 27, 60, 41, 37, 16, 46, 35, 44, 21, 52, 32, 23, 11, 54, 26, 40, 15, 34, 20, 31, 10, 25, 14, 19, 9, 13, 8, 7, 6]
theorem gBrj : Tryz.prog.globalNamed "math/bits.deBruijn64tab" = some 9 := by kernel_rfl
theorem gPow : Tryz.prog.globalNamed "internal/strconv.uint64pow10" = some 7 := by kernel_rfl
theorem gSyn : Tryz.prog.globalNamed "strconv.ErrSyntax" = some 4 := by kernel_rfl
theorem gRng : Tryz.prog.globalNamed "strconv.ErrRange" = some 5 := by kernel_rfl
theorem gWrd : Tryz.prog.globalNamed "loop.example/warp/impl.wordTexts" = some 0 := by kernel_rfl
theorem gMrk : Tryz.prog.globalNamed "loop.example/warp/impl.markTexts" = some 2 := by kernel_rfl
theorem gBin : Tryz.prog.globalNamed "loop.example/warp/impl.binaryTexts" = some 3 := by kernel_rfl

/-- What the condition says of all the tables. -/
theorem lay_of {W : World} (h : laidMetH Tryz.prog [("math/bits.deBruijn32tab", Rows.laid_math_bits_deBruijn32tab), ("math/bits.deBruijn64tab", Rows.laid_math_bits_deBruijn64tab), ("internal/strconv.uint64pow10", Rows.laid_internal_strconv_uint64pow10), ("strconv.ErrRange", Rows.laid_strconv_ErrRange), ("strconv.ErrSyntax", Rows.laid_strconv_ErrSyntax), ("loop.example/warp/impl.wordTexts", Rows.laid_loop_example_warp_impl_wordTexts), ("loop.example/warp/impl.markTexts", Rows.laid_loop_example_warp_impl_markTexts), ("loop.example/warp/impl.binaryTexts", Rows.laid_loop_example_warp_impl_binaryTexts)] W) : Lay W := by
  have h1 : laidMetH Tryz.prog [("loop.example/warp/impl.wordTexts", Rows.laid_loop_example_warp_impl_wordTexts)] W := h.filter fun x => x.1 == "loop.example/warp/impl.wordTexts"
  have h2 : laidMetH Tryz.prog [("loop.example/warp/impl.markTexts", Rows.laid_loop_example_warp_impl_markTexts)] W := h.filter fun x => x.1 == "loop.example/warp/impl.markTexts"
  have h3 : laidMetH Tryz.prog [("loop.example/warp/impl.binaryTexts", Rows.laid_loop_example_warp_impl_binaryTexts)] W := h.filter fun x => x.1 == "loop.example/warp/impl.binaryTexts"
  have h4 : laidMetH Tryz.prog [("strconv.ErrSyntax", Rows.laid_strconv_ErrSyntax)] W := h.filter fun x => x.1 == "strconv.ErrSyntax"
  have h5 : laidMetH Tryz.prog [("strconv.ErrRange", Rows.laid_strconv_ErrRange)] W := h.filter fun x => x.1 == "strconv.ErrRange"
  have h6 : laidMetH Tryz.prog [("internal/strconv.uint64pow10", Rows.laid_internal_strconv_uint64pow10)] W := h.filter fun x => x.1 == "internal/strconv.uint64pow10"
  have h7 : laidMetH Tryz.prog [("math/bits.deBruijn64tab", Rows.laid_math_bits_deBruijn64tab)] W := h.filter fun x => x.1 == "math/bits.deBruijn64tab"
  refine ⟨⟨?_, ?_, ?_⟩, ⟨?_, ?_⟩, ?_, ?_⟩
  · exact strs_of (V := wordV) (by kernel_rfl) gWrd (t := 81) (by kernel_rfl) Tryz.underlying81 (by kernel_rfl) (by kernel_rfl) rfl rfl h1
  · exact strs_of (V := othV) (by kernel_rfl) gMrk (t := 121) (by kernel_rfl) Tryz.underlying121 (by kernel_rfl) (by kernel_rfl) rfl rfl h2
  · exact strs_of (V := binV) (by kernel_rfl) gBin (t := 122) (by kernel_rfl) Tryz.underlying122 (by kernel_rfl) (by kernel_rfl) rfl rfl h3
  · exact err_of (by kernel_rfl) gSyn (t := 126) (by kernel_rfl) Tryz.underlying126 h4
  · exact err_of (by kernel_rfl) gRng (t := 126) (by kernel_rfl) Tryz.underlying126 h5
  · rw [MakeChecks.laidMetH_plain _ _ _ (by kernel_rfl)] at h6
    exact Lib.tabIs_of_head gPow (t := 154) (by kernel_rfl) Tryz.underlying154 Tryz.underlying93 (by kernel_rfl) (by kernel_rfl) h6
  · rw [MakeChecks.laidMetH_plain _ _ _ (by kernel_rfl)] at h7
    have h8 : laidMet Tryz.prog [("math/bits.deBruijn64tab", Lib.tabData .u8 brjTab)] W := h7
    exact (Lib.tabIs_of_head gBrj (t := 160) (by kernel_rfl) Tryz.underlying160 Tryz.underlying5 (by kernel_rfl) (by kernel_rfl) h8).cell gBrj 15 (by decide)
end Go.Proofs.YtdlhfiheingibaaGreatDoor

namespace Go.Proofs.YtdlhfiheingibaaGreatDoor
set_option linter.unusedVariables false

/-! The model's machine of chapter 3 as data: what a symbol becomes when a token comes. -/
def xPrefix (t : Int) : Bool := decide (t = 25 ∨ t = 50 ∨ t = 62 ∨ t = 69)
def xInfix (t : Int) : Bool := decide (t = 10 ∨ t = 26 ∨ 60 < t)
def xBegins (t : Int) : Bool := decide (t = 1 ∨ t = 2 ∨ t = 3 ∨ t = 4 ∨ t = 24 ∨ t = 29 ∨ t = 17 ∨ t = 49 ∨ t = 18 ∨ t = 40 ∨ t = 42) || xPrefix t
def xStat (t : Int) : List Int × Bool := if t = 22 then ([t, 1, 104, 103], true) else if t = 13 then ([t, 1, 47, 119], true) else if t = 18 then ([t, 1, 133], true) else if t = 20 then ([t, 119, 132, 105], true) else if t = 31 then ([t, 119, 132], true) else if t = 19 then ([t, 1, 106], true) else if t = 11 then ([t], true) else if t = 23 then ([t], true) else if t = 27 then ([t, 108], true) else if t = 30 then ([t, 132, 12, 1, 109, 132], true) else if t = 28 then ([t, 119], true) else if t = 14 then ([t, 116], true) else if t = 42 then ([132], true) else if t = 1 then ([t, 110], true) else if t = 40 then ([t, 119, 41, 112], true) else ([], false)
def xSuffix (t a c : Int) : List Int := if t = 48 then [t, 1, a] else if t = 44 then [t, 119, 45, a] else if t = 40 then [t, 123, 41, c] else []
def xUnit (t : Int) : List Int × Bool := if xPrefix t = true then ([t, 120], true) else if t = 1 then ([t, 122], true) else if t = 40 then ([t, 119, 41, 122], true) else if t = 42 then ([t, 129, 43], true) else if t = 18 then ([t, 133], true) else ([t], xBegins t)
def x100 (t : Int) : List Int × Bool := if t = 5 then ([t, 100], true) else if (xStat t).2 = true then ((xStat t).1 ++ [101], true) else ([], true)
def x101 (t : Int) : List Int × Bool := if t = 5 then ([t, 100], true) else ([], true)
def x102 (t : Int) : List Int × Bool := ([40, 126, 41, 132], decide (t = 40))
def x103 (t : Int) : List Int × Bool := if t = 47 then ([t, 124], true) else ([], true)
def x104 (t : Int) : List Int × Bool := if t = 46 then ([t, 1, 104], true) else ([], true)
def x105 (t : Int) : List Int × Bool := if t = 15 then ([t, 119, 132, 105], true) else if t = 16 then ([t, 132], true) else ([], true)
def x106 (t : Int) : List Int × Bool := if t = 47 then ([t, 119, 46, 119, 107, 132], true) else ([104, 21, 119, 132], decide (t = 46 ∨ t = 21))
def x107 (t : Int) : List Int × Bool := if t = 46 then ([t, 119], true) else ([], true)
def x108 (t : Int) : List Int × Bool := if xBegins t = true then ([124], true) else ([], true)
def x109 (t : Int) : List Int × Bool := if t = 46 then ([t, 1], true) else ([], true)
def x110 (t : Int) : List Int × Bool := if t = 48 then ([t, 1, 110], true) else if t = 44 then ([t, 119, 45, 110], true) else if t = 40 then ([t, 123, 41, 111], true) else if t = 46 then ([t, 113], true) else if t = 47 then ([t, 124], true) else ([], false)
def x111 (t : Int) : List Int × Bool := if t = 48 then ([t, 1, 110], true) else if t = 44 then ([t, 119, 45, 110], true) else if t = 40 then ([t, 123, 41, 111], true) else ([], true)
def x112 (t : Int) : List Int × Bool := if t = 48 then ([t, 1, 110], true) else if t = 44 then ([t, 119, 45, 110], true) else if t = 40 then ([t, 123, 41, 111], true) else ([], false)
def x113 (t : Int) : List Int × Bool := if t = 1 then ([t, 114], true) else if t = 40 then ([t, 119, 41, 115], true) else ([], false)
def x114 (t : Int) : List Int × Bool := if t = 48 then ([t, 1, 114], true) else if t = 44 then ([t, 119, 45, 114], true) else if t = 40 then ([t, 123, 41, 115], true) else if t = 46 then ([t, 113], true) else if t = 47 then ([t, 124], true) else ([], false)
def x115 (t : Int) : List Int × Bool := if t = 48 then ([t, 1, 114], true) else if t = 44 then ([t, 119, 45, 114], true) else if t = 40 then ([t, 123, 41, 115], true) else ([], false)
def x116 (t : Int) : List Int × Bool := if t = 1 then ([t, 117], true) else if t = 40 then ([t, 119, 41, 117], true) else ([], false)
def x117 (t : Int) : List Int × Bool := if t = 48 then ([t, 1, 117], true) else if t = 44 then ([t, 119, 45, 117], true) else if t = 40 then ([t, 123, 41, 118], true) else ([], false)
def x118 (t : Int) : List Int × Bool := if t = 48 then ([t, 1, 117], true) else if t = 44 then ([t, 119, 45, 117], true) else if t = 40 then ([t, 123, 41, 118], true) else ([], true)
def x119 (t : Int) : List Int × Bool := ([120, 121], xBegins t)
def x120 (t : Int) : List Int × Bool := xUnit t
def x121 (t : Int) : List Int × Bool := if xInfix t = true then ([t, 119], true) else ([], true)
def x122 (t : Int) : List Int × Bool := (xSuffix t 122 122, true)
def x123 (t : Int) : List Int × Bool := if xBegins t = true then ([124], true) else ([], true)
def x124 (t : Int) : List Int × Bool := ([119, 125], xBegins t)
def x125 (t : Int) : List Int × Bool := if t = 46 then ([t, 119, 125], true) else ([], true)
def x126 (t : Int) : List Int × Bool := if t = 1 then ([t, 127], true) else if t = 49 then ([t], true) else ([], true)
def x127 (t : Int) : List Int × Bool := if t = 46 then ([t, 128], true) else ([], true)
def x128 (t : Int) : List Int × Bool := if t = 1 then ([t, 127], true) else if t = 49 then ([t], true) else ([], false)
def x129 (t : Int) : List Int × Bool := if xBegins t = true then ([131, 130], true) else if t = 48 then ([131, 130], true) else if t = 44 then ([131, 130], true) else ([], true)
def x130 (t : Int) : List Int × Bool := if t = 46 then ([t, 129], true) else ([], true)
def x131 (t : Int) : List Int × Bool := if t = 48 then ([t, 1, 47, 119], true) else if t = 44 then ([t, 119, 45, 47, 119], true) else ([119], xBegins t)
def x132 (t : Int) : List Int × Bool := ([42, 100, 43], decide (t = 42))
def x133 (t : Int) : List Int × Bool := ([40, 126, 41, 132], decide (t = 40))
def xE (s t : Int) : List Int × Bool :=
  if s = 100 then x100 t else if s = 101 then x101 t else if s = 102 then x102 t else if s = 103 then x103 t else if s = 104 then x104 t else if s = 105 then x105 t else if s = 106 then x106 t else if s = 107 then x107 t else if s = 108 then x108 t else if s = 109 then x109 t else if s = 110 then x110 t else if s = 111 then x111 t else if s = 112 then x112 t else if s = 113 then x113 t else if s = 114 then x114 t else if s = 115 then x115 t else if s = 116 then x116 t else if s = 117 then x117 t else if s = 118 then x118 t else if s = 119 then x119 t else if s = 120 then x120 t else if s = 121 then x121 t else if s = 122 then x122 t else if s = 123 then x123 t else if s = 124 then x124 t else if s = 125 then x125 t else if s = 126 then x126 t else if s = 127 then x127 t else if s = 128 then x128 t else if s = 129 then x129 t else if s = 130 then x130 t else if s = 131 then x131 t else if s = 132 then x132 t else x133 t
end Go.Proofs.YtdlhfiheingibaaGreatDoor
