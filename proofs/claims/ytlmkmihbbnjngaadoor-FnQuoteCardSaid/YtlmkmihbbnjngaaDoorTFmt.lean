import Derived.Test.YtlmkmihbbnjngaaDoorTL1i
import Derived.Lib.ItoaNum
namespace Go.Proofs.YtlmkmihbbnjngaaDoor
open Go.RowKit Go.Maps Go.WideMaps
set_option linter.unusedVariables false

theorem tz_and : bits .and .u64 16 (IntKind.u64.wrap (-16)) = 16 := by decide +kernel
theorem tz_mul : IntKind.u64.wrap 4573923408821661840 = 4573923408821661840 := by decide +kernel
set_option maxHeartbeats 400000 in
theorem tz64 (w : World) (h : w.cell? ⟨8, 15, none⟩ = some (.int .u8 4)) : Calls Tryd.prog 89 #[.int .u64 16] w fun e w' => e = .returned (.int .i64 4) ∧ w' = w := by
  have ha := tz_and
  have hb := tz_mul
  go_enter Tryd.func89, Tryd.ntmps89
  go_wp2
  go_ret
  exact ⟨rfl, rfl⟩
set_option maxHeartbeats 400000 in
theorem tz (w : World) (h : w.cell? ⟨8, 15, none⟩ = some (.int .u8 4)) : Calls Tryd.prog 87 #[.int .u64 16] w fun e w' => e = .returned (.int .i64 4) ∧ w' = w := by
  go_enter Tryd.func87, Tryd.ntmps87
  go_wp2_with (go_at_call 89; refine (tz64 _ h).mono ?_; rintro e w' ⟨rfl, rfl⟩)
  go_ret
  exact ⟨rfl, rfl⟩
theorem p2_and : bits .and .i64 16 15 = 0 := by decide +kernel
set_option maxHeartbeats 400000 in
theorem p2 (w : World) : Calls Tryd.prog 86 #[.int .i64 16] w fun e w' => e = .returned (.bool true) ∧ w' = w := by
  have ha := p2_and
  go_enter Tryd.func86, Tryd.ntmps86
  go_wp2
  go_ret
  exact ⟨rfl, rfl⟩

/-- The digits of the library's table. -/
def D36 : ByteArray := { data := #[48, 49, 50, 51, 52, 53, 54, 55, 56, 57, 97, 98, 99, 100, 101, 102, 103, 104, 105, 106, 107, 108, 109, 110, 111, 112, 113, 114, 115, 116, 117, 118, 119, 120, 121, 122] }
theorem D36_nat : ∀ i : Fin 16, ((D36[i.val]'(by have := i.isLt; show i.val < 36; omega)).toNat : Int) = hexd (i.val : Int) := by decide
theorem D36_at (d : Int) (h0 : 0 ≤ d) (h1 : d < 16) (h : d.toNat < D36.size) : ((D36[d.toNat]'h).toNat : Int) = hexd d := by
  have := D36_nat ⟨d.toNat, by omega⟩
  have e : ((d.toNat : Nat) : Int) = d := by omega
  simp only [e] at this
  exact this
theorem D36_run (d : Int) (h0 : 0 ≤ d) (h1 : d < 16) (w : World) : (Instr.index 9 (.string { data := #[48, 49, 50, 51, 52, 53, 54, 55, 56, 57, 97, 98, 99, 100, 101, 102, 103, 104, 105, 106, 107, 108, 109, 110, 111, 112, 113, 114, 115, 116, 117, 118, 119, 120, 121, 122] }) (.int .u64 d)).run Tryd.prog w = .ok (.int .u8 (hexd d)) w := by
  have h : d.toNat < D36.size := by simp only [D36]; show d.toNat < 36; omega
  have q := D36_at d h0 h1 h
  have h36 : d < 36 := by omega
  go_simp
  exact q

/-- The row of 65 bytes: the last r hold the digits of u, the lowest last. -/
structure Rw (B : Nat) (w : World) (u r : Nat) : Prop where
  ex : ∃ arr, w.heap[B]? = some (.cells arr 109 (0, 0)) ∧ arr.size = 65 ∧ ∀ j, j < r → arr[64 - j]? = some (.int .u8 (hxd u j))
theorem Rw.step {B : Nat} {w : World} {u r : Nat} (h : Rw B w u r) (hr : r < 65) (x : Int) (hx : x = hxd u r) : Rw B (w.setCell ⟨B, 64 - r, none⟩ (.int .u8 x)) u (r + 1) := by
  obtain ⟨arr, h1, h2, h3⟩ := h.ex
  refine ⟨_, heap_setCell_same w B (64 - r) _ _ _ h1, by simp [h2], fun j hj => ?_⟩
  rw [Array.getElem?_setIfInBounds]
  by_cases e : j = r
  · subst e; rw [if_pos rfl, if_pos (by omega), hx]
  · rw [if_neg (by omega)]; exact h3 j (by omega)

theorem Rw.conv {B : Nat} {w : World} {u : Nat} (h : Rw B w u 16) : (convert 22 9 (.slice (some ⟨B, 49, none⟩) 16 16)).run Tryd.prog w = .ok (.string (strI ((List.range 16).map fun j => hxd u (15 - j)))) w := by
  obtain ⟨arr, h1, h2, h3⟩ := h.ex
  rw [run_convert_bytes_string w 22 9 5 _ _ _ Tryd.underlying22 Tryd.underlying5 Tryd.underlying9]
  refine run_bytesToString w _ 16 16 _ ?_
  have := run_loadCells_list (P := Tryd.prog) w ⟨B, 49, none⟩ (B8 ((List.range 16).map fun j => hxd u (15 - j))) (fun j x hj => by
    have hj16 : j < 16 := by
      rcases Nat.lt_or_ge j 16 with g | g
      · exact g
      · rw [List.getElem?_eq_none (by simpa [B8] using g)] at hj; cases hj
    have e : x = .int .u8 (hxd u (15 - j)) := by
      simp [B8, hj16] at hj
      exact hj.symm
    subst e
    rw [show (⟨B, 49, none⟩ : Addr).add j = ⟨B, 49 + j, none⟩ by unfold Addr.add; split <;> simp_all, cell_of_row _ _ _ _ _ _ h1]
    have := h3 (15 - j) (by omega)
    rw [show 64 - (15 - j) = 49 + j by omega] at this
    exact this)
  exact this

set_option maxRecDepth 100000 in
set_option maxHeartbeats 3200000 in
theorem fmtBits (u : Nat) (h0 : 9223372036854775808 ≤ u) (h1 : u < 18446744073709551616) (w : World) (h : w.cell? ⟨8, 15, none⟩ = some (.int .u8 4)) : Calls Tryd.prog 82 #[.slice none 0 0, .int .u64 (u : Int), .int .i64 16, .bool false, .bool false] w fun e w' => e = .returned (.tuple #[.slice none 0 0, .string (strI ((List.range 16).map fun j => hxd u (15 - j)))]) ∧ Below w.heap.size w w' := by
  have hlt := World.block_lt_of_cell? w _ h
  have kt : ∀ o, Calls Tryd.prog 87 #[.int .u64 16] (w.alloc o) fun e w' => e = .returned (.int .i64 4) ∧ w' = w.alloc o := fun o => tz _ ((cell_below (((Below.refl w.heap.size w).alloc (Nat.le_refl _) o)) hlt).trans h)
  have hR0 : Rw w.heap.size (w.alloc (.cells Tryd.zeroCells109 109)) u 0 := ⟨_, heap_alloc_new w _, by kernel_rfl, fun j hj => by omega⟩
  have hB0 : Below w.heap.size w (w.alloc (.cells Tryd.zeroCells109 109)) := (Below.refl _ w).alloc (Nat.le_refl _) _
  obtain ⟨L, hL⟩ : ∃ L, (List.range 16).map (fun j => hxd u (15 - j)) = L := ⟨_, rfl⟩
  rw [hL]
  have HL : Hid ((List.range 16).map (fun j => hxd u (15 - j)) = L) := hL
  clear hL
  go_enter Tryd.func82, Tryd.ntmps82
  go_wp2_with (first | (go_at_call 86; refine (p2 _).mono ?_; rintro e w' ⟨rfl, rfl⟩) | (go_at_call 87; refine (kt _).mono ?_; rintro e w' ⟨rfl, rfl⟩))
  generalize w.alloc (.cells Tryd.zeroCells109 109) = W at hR0 hB0
  go_loopw [1, 13] (fun v i wr => ∃ (r : Nat) (U : Int), r ≤ 15 ∧ i = .int .i64 (65 - (r : Int)) ∧ v = .int .u64 U ∧ Hid (U = ((u / 16 ^ r : Nat) : Int)) ∧ Rw w.heap.size wr u r ∧ Below w.heap.size w wr) (fun _ i _ => (intOf i).toNat)
  case atStart => exact ⟨0, (u : Int), by omega, rfl, rfl, by show (u : Int) = _; simp, hR0, hB0⟩
  case round =>
    obtain ⟨r, U, hr, rfl, rfl, HU, hRw, hb⟩ := hrel
    obtain ⟨arr, g1, g2, g3⟩ := hRw.ex
    have hBlt : w.heap.size < wr.heap.size := lt_of_block g1
    have hU0 : 0 ≤ U := by rw [HU.out]; exact Int.natCast_nonneg _
    have hU1 : U < 18446744073709551616 := by
      rw [HU.out]
      have := Nat.div_le_self u (16 ^ r)
      omega
    have hD0 : 0 ≤ U % 16 := by omega
    have hD1 : U % 16 < 16 := by omega
    have HD : Hid (hexd (U % 16) = hxd u r) := by show _ = _; unfold hxd; rw [HU.out]; rfl
    by_cases hlt : r < 15
    · have hge : 16 ≤ U := by
        rw [HU.out]
        have e1 : 16 ^ (r + 1) ≤ 16 ^ 15 := Nat.pow_le_pow_right (by omega) (by omega)
        have e2 : 16 ^ 15 = 1152921504606846976 := by decide
        have e3 : 16 ≤ u / 16 ^ r := by
          rw [Nat.le_div_iff_mul_le (Nat.pow_pos (by omega))]
          rw [Nat.pow_succ] at e1
          omega
        omega
      have HN : Hid (U / 16 = ((u / 16 ^ (r + 1) : Nat) : Int)) := by
        show _ = _
        rw [HU.out, Nat.pow_succ, ← Nat.div_div_eq_div_mul]
        rfl
      have hbit : bits .and .u64 U 15 = U % 16 := low64 U hU0 hU1
      have hix := fun w => D36_run (U % 16) hD0 hD1 w
      generalize U % 16 = D at hD0 hD1 hbit hix HD
      obtain ⟨I, hI⟩ : ∃ I : Nat, 64 - r = I := ⟨_, rfl⟩
      have hci : ∃ x, wr.cell? ⟨w.heap.size, I, none⟩ = some x := by
        rw [cell_of_row _ _ _ _ _ _ g1]
        exact ⟨_, Array.getElem?_eq_getElem (by omega)⟩
      obtain ⟨x, hcx⟩ := hci
      have hfz : wr.frozen? ⟨w.heap.size, I, none⟩ = false := frozen_of_row _ _ _ _ _ g1
      have hRn := hRw.step (by omega) (hexd D) HD.out
      rw [hI] at hRn
      obtain ⟨ii, hii⟩ : ∃ ii : Int, 65 - (r : Int) = ii := ⟨_, rfl⟩
      have hi1 : ii - 1 = (I : Int) := by omega
      have hi2 : ii ≤ 65 := by omega
      have hi3 : I ≤ 64 := by omega
      have HI : Hid (65 - (r : Int) = ii) := hii
      rw [hii]
      clear hii HU g3
      go_wp2
      go_roundw
      case rel => exact ⟨r + 1, U / 16, by omega, by have := HI.out; congr 1; omega, rfl, HN, hRn, hb.setCell (by simp) _⟩
      case measure => simp [intOf]; omega
    · obtain rfl : r = 15 := by omega
      have hlt16 : U < 16 := by
        rw [HU.out]
        have e2 : 16 ^ 15 = 1152921504606846976 := by decide
        rw [e2]
        omega
      have hix := fun w => D36_run U hU0 hlt16 w
      rw [Int.emod_eq_of_lt hU0 hlt16] at HD
      obtain ⟨x, hcx⟩ : ∃ x, wr.cell? ⟨w.heap.size, 49, none⟩ = some x := by
        rw [cell_of_row _ _ _ _ _ _ g1]
        exact ⟨_, Array.getElem?_eq_getElem (by omega)⟩
      have hfz : wr.frozen? ⟨w.heap.size, 49, none⟩ = false := frozen_of_row _ _ _ _ _ g1
      have hRn : Rw w.heap.size (wr.setCell ⟨w.heap.size, 49, none⟩ (.int .u8 (hexd U))) u 16 := hRw.step (r := 15) (by omega) (hexd U) HD.out
      have hcv := hRn.conv
      rw [HL.out] at hcv
      have hge : ¬ 16 ≤ U := by omega
      clear HU g3 hRn
      go_wp2
      go_ret2
      exact ⟨rfl, hb.setCell (by simp) _⟩

theorem strI_app (a b : List Int) : strI (a ++ b) = strI a ++ strI b := by
  have key : ∀ (l : List Int) (x : ByteArray), l.foldl (fun r n => r.push (UInt8.ofNat n.toNat)) x = x ++ l.foldl (fun r n => r.push (UInt8.ofNat n.toNat)) ByteArray.empty := by
    intro l
    induction l with
    | nil => intro x; simp
    | cons a r ih =>
      intro x
      rw [List.foldl_cons, List.foldl_cons, ih (x.push _), ih (ByteArray.empty.push _)]
      apply ByteArray.ext
      simp [ByteArray.push, ByteArray.data_append]
  unfold strI
  rw [List.foldl_append]
  exact key b _
theorem hxO_all (u : Nat) : hxO u 16 = { data := #[48, 120] } ++ strI ((List.range 16).map fun j => hxd u (15 - j)) := by
  have key : ∀ r, hxO u r = { data := #[48, 120] } ++ strI ((List.range r).map fun j => hxd u (15 - j)) := by
    intro r
    induction r with
    | zero => rfl
    | succ r ih => rw [hxO, ih, List.range_succ, List.map_append, strI_app, ByteArray.append_assoc]; rfl
  exact key 16

end Go.Proofs.YtlmkmihbbnjngaaDoor
