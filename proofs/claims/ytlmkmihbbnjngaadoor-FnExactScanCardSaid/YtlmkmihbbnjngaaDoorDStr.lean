import Derived.Test.YtlmkmihbbnjngaaDoorDPick

namespace Go.Proofs.YtlmkmihbbnjngaaDoor
open Go.RowKit
set_option linter.unusedVariables false

theorem hidI {p : Prop} (h : p) : Hid p := h

/-- The drawer, wherever it stands. -/
def Drw (base b : Nat) (w0 w : World) (P : Int) : Prop := ∃ a0 len cap p q r, CurAt b w a0 len cap p q r ∧ Code base w a0 len ∧ len ≤ 1048576 ∧ 0 ≤ p ∧ p ≤ P ∧ 0 ≤ r ∧ r ≤ 3 ∧ Below base w0 w ∧ base ≤ b ∧ base ≤ w0.heap.size

theorem pick_drw (k : Int) (hk1 : 2 ≤ k) (hk2 : k ≤ 200) (base b : Nat) (w0 w : World) (P : Int) (h : Drw base b w0 w P) (hP : P ≤ 1500000) :
    Calls Tryd.prog 12 #[.pointer (some ⟨b, 0, none⟩), .int .i64 k] w fun e w' => ∃ z : Int, 0 ≤ z ∧ z < k ∧ e = .returned (.int .i64 z) ∧ Drw base b w0 w' (P + 1) := by
  obtain ⟨a0, len, cap, p, q, r, hc, hcode, hlen, p0, p1, r0, r1, hbel, hbb, hb0⟩ := h
  refine (pick_any k hk1 hk2 b base w a0 len cap p q r hc hcode p0 (by omega) hlen).mono ?_
  rintro e w' ⟨z, z0, z1, he, q', hc', hg⟩
  have hb := gr_below hg hbb (Nat.le_trans hb0 hbel.size)
  exact ⟨z, z0, z1, he, a0, len, cap, p + 1, q', r, hc', hcode.below hb, hlen, by omega, by omega, r0, r1, hbel.trans hb, hbb, hb0⟩

theorem bytes_drw (n : Int) (hn0 : 0 ≤ n) (hn : n ≤ 100) (base b : Nat) (w0 w : World) (P : Int) (h : Drw base b w0 w P) (hP : P ≤ 1500000) :
    Calls Tryd.prog 14 #[.pointer (some ⟨b, 0, none⟩), .int .i64 n] w fun e w' => ∃ s : ByteArray, s.size ≤ 100 ∧ e = .returned (.string s) ∧ Drw base b w0 w' (P + 100) := by
  obtain ⟨a0, len, cap, p, q, r, hc, hcode, hlen, p0, p1, r0, r1, hbel, hbb, hb0⟩ := h
  obtain ⟨m, rfl⟩ := Int.eq_ofNat_of_zero_le hn0
  refine (bytes_any m (by omega) b base w a0 len cap p q r hbb hc hcode p0 (by omega) hlen).mono ?_
  rintro e w' ⟨s, hs, he, p', q', p0', p1', hc', hb⟩
  exact ⟨s, by omega, he, a0, len, cap, p', q', r, hc', hcode.below hb, hlen, by omega, by omega, r0, r1, hbel.trans hb, hbb, hb0⟩

def Ten (n : Nat) : Prop := n = 10 ∨ n = 20 ∨ n = 40 ∨ n = 80 ∨ n = 160 ∨ n = 320 ∨ n = 640 ∨ n = 1280 ∨ n = 2560 ∨ n = 5120
theorem ten_twice {t : ByteArray} (h : Ten t.size) (hl : t.size < 4000) : Ten (t ++ t).size := by
  rw [ByteArray.size_append]; unfold Ten at *; omega
theorem ten_end {n : Nat} (h : Ten n) (hl : ¬ n < 4000) : 4001 ≤ n := by unfold Ten at h; omega
theorem ten_max {n : Nat} (h : Ten n) : n ≤ 5120 := by unfold Ten at h; omega
theorem ten_min {n : Nat} (h : Ten n) : 10 ≤ n := by unfold Ten at h; omega
def szOf : Value → Nat | .string t => t.size | _ => 0

set_option maxRecDepth 100000 in
set_option maxHeartbeats 1600000 in
theorem str_any (base b : Nat) (w0 w : World) (P : Int) (h : Drw base b w0 w P) (hP : P ≤ 1000000) :
    Calls Tryd.prog 13 #[.pointer (some ⟨b, 0, none⟩)] w fun e w' => ∃ s : ByteArray, s.size ≤ 4001 ∧ e = .returned (.string s) ∧ Drw base b w0 w' (P + 200) := by
  go_enter Tryd.func13, Tryd.ntmps13
  go_wp2_with (go_at_call 12; refine (pick_drw 6 (by omega) (by omega) base b w0 _ P h (by omega)).mono ?_; rintro e w1 ⟨z, z0, z1, rfl, hd1⟩; refine Hid.out ?_)
  refine hidI ?_
  have mono : ∀ {W : World} {Q : Int}, Drw base b w0 W Q → Q ≤ P + 200 → Drw base b w0 W (P + 200) := by
    rintro W Q ⟨a0, len, cap, p, q, r, hc, hcode, hlen, p0, p1, rest⟩ hQ
    exact ⟨a0, len, cap, p, q, r, hc, hcode, hlen, p0, by omega, rest⟩
  rcases (show z = 0 ∨ z = 1 ∨ z = 2 ∨ z = 3 ∨ z = 4 ∨ z = 5 by omega) with rfl | rfl | rfl | rfl | rfl | rfl
  · go_wp2
    go_ret
    exact ⟨_, by decide, rfl, mono hd1 (by omega)⟩
  · go_wp2_with (first
      | (go_at_call 12; refine (pick_drw 6 (by omega) (by omega) base b w0 _ _ hd1 (by omega)).mono ?_; rintro e w2 ⟨y, y0, y1, rfl, hd2⟩)
      | (go_at_call 14; refine (bytes_drw y (by omega) (by omega) base b w0 _ _ hd2 (by omega)).mono ?_; rintro e w3 ⟨s, hs, rfl, hd3⟩))
    go_ret
    exact ⟨_, by omega, rfl, mono hd3 (by omega)⟩
  · go_wp2
    go_ret
    exact ⟨_, by decide, rfl, mono hd1 (by omega)⟩
  · go_wp2_with (go_at_call 12; refine (pick_drw 20 (by omega) (by omega) base b w0 _ _ hd1 (by omega)).mono ?_; rintro e w2 ⟨y, y0, y1, rfl, hd2⟩; refine Hid.out ?_)
    refine hidI ?_
    have hd2' := hd2
    obtain ⟨a0, len, cap, p, q, r, hc, hcode, hlen, p0, p1, r0, r1, hbel, hbb, hb0⟩ := hd2
    obtain ⟨c0, c1, c2, c3, f1, f2, f3⟩ := cur_cells hc
    by_cases hy : y = 0
    · subst hy
      by_cases hr : r < 3
      · go_wp2_with fail
        go_loop [3] (fun sv => ∃ t : ByteArray, sv = .string t ∧ Ten t.size) (fun sv => 6000 - szOf sv)
        case atStart => exact ⟨_, rfl, .inl rfl⟩
        case round =>
          obtain ⟨t, rfl, ht⟩ := hrel
          have HT : Hid (Ten t.size) := ht
          clear ht
          by_cases hlt : t.size < 4000
          · go_wp2
            go_round
            case rel => exact ⟨_, rfl, ten_twice HT.out hlt⟩
            case measure => have h10 := ten_min HT.out; show 6000 - (t ++ t).size < 6000 - t.size; rw [ByteArray.size_append]; omega
          · have hge : 4001 ≤ t.size := ten_end HT.out hlt
            have hle : t.size ≤ 5120 := ten_max HT.out
            have hd3 : Drw base b w0 (w2.setCell ⟨b, 3, none⟩ (.int .i64 (r + 1))) (P + 1 + 1) := ⟨a0, len, cap, p, q, r + 1, hc.set3 _, hcode.below ((Below.refl base w2).setCell hbb _), hlen, p0, p1, by omega, by omega, hbel.setCell hbb _, hbb, hb0⟩
            go_wp2_with (go_at_call 12; refine (pick_drw 3 (by omega) (by omega) base b w0 _ _ hd3 (by omega)).mono ?_; rintro e w3 ⟨x, x0, x1, rfl, hd4⟩; refine Hid.out ?_)
            refine hidI ?_
            rcases (show x = 0 ∨ x = 1 ∨ x = 2 by omega) with rfl | rfl | rfl
            all_goals
              go_wp2
              go_ret
              exact ⟨_, by simp; omega, rfl, mono hd4 (by omega)⟩
      · go_wp2
        go_ret
        exact ⟨_, by decide, rfl, mono hd2' (by omega)⟩
    · have hy' : (y == 0) = false := by simp [hy]
      go_wp2
      go_ret
      exact ⟨_, by decide, rfl, mono hd2' (by omega)⟩
  · go_wp2
    go_ret
    exact ⟨_, by decide, rfl, mono hd1 (by omega)⟩
  · go_wp2
    go_ret
    exact ⟨_, by decide, rfl, mono hd1 (by omega)⟩
set_option maxHeartbeats 1600000 in
theorem draw_any (w : World) (a0 : Option Addr) (len cap : Nat) (hlen : len ≤ 1048576) (hcode : Code w.heap.size w a0 len) :
    Calls Tryd.prog 5 #[.slice a0 len cap] w fun e w' => ∃ s : ByteArray, s.size ≤ 4001 ∧ e = .returned (.string s) ∧ Below w.heap.size w w' := by
  have hd0 : Drw w.heap.size w.heap.size w (w.alloc (.cells #[.slice a0 len cap, .int .i64 0, .int .u64 0, .int .i64 0] 38)) 0 :=
    ⟨a0, len, cap, 0, 0, 0, heap_alloc_new w _, hcode.below ((Below.refl _ w).alloc (Nat.le_refl _) _), hlen, by omega, by omega, by omega, by omega, (Below.refl _ w).alloc (Nat.le_refl _) _, Nat.le_refl _, Nat.le_refl _⟩
  have out : ∀ {W : World} {Q : Int}, Drw w.heap.size w.heap.size w W Q → Below w.heap.size w W := by
    rintro W Q ⟨a0, len, cap, p, q, r, hc, hcode, hlen, p0, p1, r0, r1, hbel, rest⟩
    exact hbel
  go_enter Tryd.func5, Tryd.ntmps5
  go_wp2_with (go_at_call 12; refine (pick_drw 3 (by omega) (by omega) w.heap.size w.heap.size w _ 0 hd0 (by omega)).mono ?_; rintro e w1 ⟨z, z0, z1, rfl, hd1⟩; refine Hid.out ?_)
  refine hidI ?_
  by_cases hz : z = 0
  · subst hz
    go_wp2_with (go_at_call 13; refine (str_any w.heap.size w.heap.size w _ _ hd1 (by omega)).mono ?_; rintro e w2 ⟨s, hs, rfl, hd2⟩)
    go_ret
    exact ⟨s, hs, rfl, out hd2⟩
  · have hz' : (z == 0) = false := by simp [hz]
    go_wp2_with (first
      | (go_at_call 12; refine (pick_drw 40 (by omega) (by omega) w.heap.size w.heap.size w _ _ hd1 (by omega)).mono ?_; rintro e w2 ⟨y, y0, y1, rfl, hd2⟩)
      | (go_at_call 14; refine (bytes_drw y (by omega) (by omega) w.heap.size w.heap.size w _ _ hd2 (by omega)).mono ?_; rintro e w3 ⟨s, hs, rfl, hd3⟩))
    go_ret
    exact ⟨s, by omega, rfl, out hd3⟩
end Go.Proofs.YtlmkmihbbnjngaaDoor
