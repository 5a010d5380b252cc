import Derived.Test.YtpllcogpohcbiaaDoorTSign
namespace Go.Proofs.YtpllcogpohcbiaaDoor
open Go.RowKit
set_option linter.unusedVariables false

def semiS : ByteArray := { data := #[59] }
def lineS : ByteArray := { data := #[10] }
def emptyS : ByteArray := { data := #[] }
/-- The first sign from k on, f looked at, whose kind this is. -/
def fndS (kind : Int) : Nat → Nat → ByteArray
  | 0, _ => emptyS
  | f + 1, k => if sgnI (strAt sgnV k) = kind then strAt sgnV k else fndS kind f (k + 1)
def txtI (kind : Int) : ByteArray := if kind = 5 then semiS else if 10 ≤ kind ∧ kind < 32 then strAt wordV (kind - 10).toNat else fndS kind 30 0

def binV : Array Value := #[.string { data := #[43] }, .string { data := #[45] }, .string { data := #[42] }, .string { data := #[47] }, .string { data := #[47, 47] }, .string { data := #[37] }, .string { data := #[38] }, .string { data := #[124] }, .string { data := #[126] }, .string { data := #[60, 60] }, .string { data := #[62, 62] }, .string { data := #[46, 46] }, .string { data := #[61, 61] }, .string { data := #[126, 61] }, .string { data := #[60] }, .string { data := #[60, 61] }, .string { data := #[62] }, .string { data := #[62, 61] }]
theorem bin_at : ∀ k : Fin 18, binV[k.val]? = some (.string (strAt binV k.val)) := by
  intro ⟨k, hk⟩
  rcases (show k = 0 ∨ k = 1 ∨ k = 2 ∨ k = 3 ∨ k = 4 ∨ k = 5 ∨ k = 6 ∨ k = 7 ∨ k = 8 ∨ k = 9 ∨ k = 10 ∨ k = 11 ∨ k = 12 ∨ k = 13 ∨ k = 14 ∨ k = 15 ∨ k = 16 ∨ k = 17 by omega) with rfl | rfl | rfl | rfl | rfl | rfl | rfl | rfl | rfl | rfl | rfl | rfl | rfl | rfl | rfl | rfl | rfl | rfl
  all_goals rfl

/-- The three tables of texts lie as the program's text lays them. -/
structure Tabs (w : World) : Prop where
  word : ∃ tt fr, w.heap[0]? = some (.cells wordV tt fr)
  mark : ∃ tt fr, w.heap[1]? = some (.cells othV tt fr)
  bin : ∃ tt fr, w.heap[2]? = some (.cells binV tt fr)
theorem Tabs.below {w w' : World} {B : Nat} (h : Tabs w) (hb : Below B w w') (hB : w.heap.size ≤ B) : Tabs w' := by
  obtain ⟨⟨t1, f1, h1⟩, ⟨t2, f2, h2⟩, ⟨t3, f3, h3⟩⟩ := h
  exact ⟨⟨t1, f1, (hb.block _ (Nat.lt_of_lt_of_le (lt_of_block h1) hB)).trans h1⟩, ⟨t2, f2, (hb.block _ (Nat.lt_of_lt_of_le (lt_of_block h2) hB)).trans h2⟩, ⟨t3, f3, (hb.block _ (Nat.lt_of_lt_of_le (lt_of_block h3) hB)).trans h3⟩⟩

def fixI (kind : Int) : ByteArray := if kind = 5 then semiS else if kind = 7 then lineS else if 10 ≤ kind ∧ kind ≤ 31 then strAt wordV (kind - 10).toNat else if 40 ≤ kind ∧ kind ≤ 50 then strAt othV (kind - 40).toNat else if 61 ≤ kind ∧ kind ≤ 78 then strAt binV (kind - 61).toNat else emptyS

set_option maxRecDepth 100000 in
set_option maxHeartbeats 3200000 in
theorem fixedText_any (kind : Int) (h0 : -9223372036854775808 ≤ kind) (h1 : kind ≤ 9223372036854775807) (w : World) (hT : Tabs w) : Calls Tryd.prog 37 #[.int .i64 kind] w fun e w' => e = .returned (.string (fixI kind)) ∧ w' = w := by
  obtain ⟨⟨t1, f1, hw⟩, ⟨t2, f2, hmk⟩, ⟨t3, f3, hbn⟩⟩ := hT
  unfold fixI
  by_cases e5 : kind = 5
  · subst e5
    go_enter Tryd.func37, Tryd.ntmps37
    go_wp2
    go_ret
    exact ⟨rfl, rfl⟩
  by_cases e7 : kind = 7
  · subst e7
    go_enter Tryd.func37, Tryd.ntmps37
    go_wp2
    go_ret
    exact ⟨rfl, rfl⟩
  rw [if_neg e5, if_neg e7]
  have g5 : (kind == 5) = false := by simp [e5]
  have g7 : (kind == 7) = false := by simp [e7]
  by_cases c1 : 10 ≤ kind ∧ kind ≤ 31
  · rw [if_pos c1]
    obtain ⟨k, hk⟩ : ∃ k : Nat, kind = 10 + (k : Int) := ⟨(kind - 10).toNat, by omega⟩
    subst hk
    rw [show ((10 + (k : Int)) - 10).toNat = k by omega]
    have hk22 : k < 22 := by omega
    have hck : w.cell? ⟨0, k, none⟩ = some (.string (strAt wordV k)) := by rw [cell_of_row _ _ _ _ _ _ hw]; exact word_at ⟨k, hk22⟩
    clear c1 e5 e7
    go_enter Tryd.func37, Tryd.ntmps37
    go_wp2
    go_ret
    exact ⟨rfl, rfl⟩
  by_cases c2 : 40 ≤ kind ∧ kind ≤ 50
  · rw [if_neg c1, if_pos c2]
    obtain ⟨k, hk⟩ : ∃ k : Nat, kind = 40 + (k : Int) := ⟨(kind - 40).toNat, by omega⟩
    subst hk
    rw [show ((40 + (k : Int)) - 40).toNat = k by omega]
    have hk11 : k < 11 := by omega
    have hck : w.cell? ⟨1, k, none⟩ = some (.string (strAt othV k)) := by rw [cell_of_row _ _ _ _ _ _ hmk]; exact oth_at ⟨k, hk11⟩
    clear c1 c2 e5 e7
    go_enter Tryd.func37, Tryd.ntmps37
    go_wp2
    go_ret
    exact ⟨rfl, rfl⟩
  by_cases c3 : 61 ≤ kind ∧ kind ≤ 78
  · rw [if_neg c1, if_neg c2, if_pos c3]
    obtain ⟨k, hk⟩ : ∃ k : Nat, kind = 61 + (k : Int) := ⟨(kind - 61).toNat, by omega⟩
    subst hk
    rw [show ((61 + (k : Int)) - 61).toNat = k by omega]
    have hk18 : k < 18 := by omega
    have hck : w.cell? ⟨2, 61 + k - 60 - 1, none⟩ = some (.string (strAt binV k)) := by rw [show 61 + k - 60 - 1 = k by omega, cell_of_row _ _ _ _ _ _ hbn]; exact bin_at ⟨k, hk18⟩
    clear c1 c2 c3 e5 e7
    go_enter Tryd.func37, Tryd.ntmps37
    go_wp2
    go_ret
    exact ⟨rfl, rfl⟩
  rw [if_neg c1, if_neg c2, if_neg c3]
  rcases (show kind < 10 ∨ (31 < kind ∧ kind < 40) ∨ (50 < kind ∧ kind ≤ 60) ∨ 78 < kind by omega) with h | ⟨h, h'⟩ | ⟨h, h'⟩ | h
  all_goals
    clear c1 c2 c3 e5 e7
    go_enter Tryd.func37, Tryd.ntmps37
    go_wp2
    go_ret
    exact ⟨rfl, rfl⟩

set_option maxRecDepth 100000 in
set_option maxHeartbeats 3200000 in
theorem l1text_any (kind : Int) (w : World) : Calls Tryd.prog 32 #[.int .i64 kind] w fun e w' => e = .returned (.string (txtI kind)) ∧ Below w.heap.size w w' := by
  unfold txtI
  by_cases h5 : kind = 5
  · subst h5
    go_enter Tryd.func32, Tryd.ntmps32
    go_wp2
    go_ret
    exact ⟨rfl, Below.refl _ _⟩
  rw [if_neg h5]
  have g5 : (kind == 5) = false := by simp [h5]
  by_cases hw : 10 ≤ kind ∧ kind < 32
  · rw [if_pos hw]
    obtain ⟨k, hk⟩ : ∃ k : Nat, kind = 10 + (k : Int) := ⟨(kind - 10).toNat, by omega⟩
    subst hk
    have hk22 : k < 22 := by omega
    have hh : ((10 + (k : Int)) - 10).toNat = k := by omega
    rw [hh]
    have hbel : Below w.heap.size w (w.alloc (.cells wordV 9)) := (Below.refl _ w).alloc (Nat.le_refl _) _
    have hck : (w.alloc (.cells wordV 9)).cell? ⟨w.heap.size, k, none⟩ = some (.string (strAt wordV k)) := by rw [cell_of_row _ _ _ _ _ _ (heap_alloc_new w _)]; exact word_at ⟨k, hk22⟩
    obtain ⟨W1, hW1⟩ : ∃ W1, W1 = w.alloc (.cells wordV 9) := ⟨_, rfl⟩
    rw [← hW1] at hck hbel
    have k1 : Calls Tryd.prog 54 #[] w fun e w' => e = .returned (.slice (some ⟨w.heap.size, 0, none⟩) 22 22) ∧ W1 = w' := by rw [hW1]; exact (l1words_any w).mono fun e w' h => ⟨h.1, h.2.symm⟩
    clear hW1
    go_enter Tryd.func32, Tryd.ntmps32
    go_wp2_with (go_at_call 54; refine k1.mono ?_; rintro e w1 ⟨rfl, rfl⟩)
    go_ret
    exact ⟨rfl, hbel⟩
  · rw [if_neg hw]
    obtain ⟨W1, hW1⟩ : ∃ W1, W1 = w.alloc (.cells wordV 9) := ⟨_, rfl⟩
    have k1 : Calls Tryd.prog 54 #[] w fun e w' => e = .returned (.slice (some ⟨w.heap.size, 0, none⟩) 22 22) ∧ W1 = w' := by rw [hW1]; exact (l1words_any w).mono fun e w' h => ⟨h.1, h.2.symm⟩
    have hbel : Below w.heap.size w W1 := by rw [hW1]; exact (Below.refl _ w).alloc (Nat.le_refl _) _
    clear hW1
    obtain ⟨W2, hW2⟩ : ∃ W2, W2 = W1.alloc (.cells sgnV 9) := ⟨_, rfl⟩
    have k2 : Calls Tryd.prog 48 #[] W1 fun e w' => e = .returned (.slice (some ⟨W1.heap.size, 0, none⟩) 30 30) ∧ W2 = w' := by rw [hW2]; exact (l1signs_any W1).mono fun e w' h => ⟨h.1, h.2.symm⟩
    have hblk : W2.heap[W1.heap.size]? = some (.cells sgnV 9 (0, 0)) := by rw [hW2]; exact heap_alloc_new W1 _
    have hbel2 : Below W1.heap.size W1 W2 := by rw [hW2]; exact (Below.refl _ W1).alloc (Nat.le_refl _) _
    have hs2 : W1.heap.size < W2.heap.size := lt_of_block hblk
    clear hW2
    obtain ⟨R, hR⟩ : ∃ R, fndS kind 30 0 = R := ⟨_, rfl⟩
    rw [hR]
    have HR : Hid (fndS kind 30 0 = R) := hR
    clear hR
    have hs1 := hbel.size
    rcases (show ¬ 10 ≤ kind ∨ (10 ≤ kind ∧ ¬ kind < 10 + 22) by omega) with g10 | ⟨g9, g10⟩
    all_goals
      go_enter Tryd.func32, Tryd.ntmps32
      go_wp2_with (first | (go_at_call 54; refine k1.mono ?_; rintro e w1 ⟨rfl, rfl⟩) | (go_at_call 48; refine k2.mono ?_; rintro e w2 ⟨rfl, rfl⟩))
      go_loopw [25] (fun i wr => ∃ k : Nat, k ≤ 30 ∧ i = .int .i64 k ∧ Hid (fndS kind (30 - k) k = R) ∧ wr.heap[W1.heap.size]? = some (.cells sgnV 9 (0, 0)) ∧ Below w.heap.size w wr) (fun i _ => 30 - (intOf i).toNat)
      case atStart => exact ⟨0, by omega, rfl, HR, hblk, hbel.trans (hbel2.mono hs1)⟩
      case round =>
        obtain ⟨k, hk, rfl, HF, hbr, hbelr⟩ := hrel
        have hsr := hbelr.size
        by_cases hlt : k < 30
        · have hck : wr.cell? ⟨W1.heap.size, k, none⟩ = some (.string (strAt sgnV k)) := by rw [cell_of_row _ _ _ _ _ _ hbr]; exact sgn_at ⟨k, hlt⟩
          have hst := HF.out
          rw [show 30 - k = (30 - (k + 1)) + 1 by omega] at hst
          unfold fndS at hst
          have hlb : W1.heap.size < wr.heap.size := lt_of_block hbr
          generalize strAt sgnV k = x at hck hst
          by_cases hx : sgnI x = kind
          · rw [if_pos hx] at hst
            have HS : Hid (x = R) := hst
            have hx' : (sgnI x == kind) = true := by simp [hx]
            clear hst hx
            go_wp2_with (go_at_call 49; refine (l1sign_any x _).mono ?_; rintro e w3 ⟨rfl, hb3⟩)
            go_ret
            exact ⟨by rw [← HS.out]; rfl, hbelr.trans (hb3.mono hsr)⟩
          · rw [if_neg hx] at hst
            have HS : Hid (fndS kind (30 - (k + 1)) (k + 1) = R) := hst
            have hx' : (sgnI x == kind) = false := by simp [hx]
            clear hst hx
            go_wp2_with (go_at_call 49; refine (l1sign_any x _).mono ?_; rintro e w3 ⟨rfl, hb3⟩)
            go_roundw
            case rel => exact ⟨k + 1, by omega, by go_num, HS, (hb3.block _ hlb).trans hbr, hbelr.trans (hb3.mono hsr)⟩
            case measure => simp [intOf]; omega
        · obtain rfl : k = 30 := by omega
          have HS : Hid (emptyS = R) := HF.out
          go_wp2
          go_ret
          exact ⟨by rw [← HS.out]; rfl, hbelr⟩

end Go.Proofs.YtpllcogpohcbiaaDoor
