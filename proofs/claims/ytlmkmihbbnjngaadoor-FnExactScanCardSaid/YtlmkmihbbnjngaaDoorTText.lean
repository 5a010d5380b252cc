import Derived.Test.YtlmkmihbbnjngaaDoorTSign
namespace Go.Proofs.YtlmkmihbbnjngaaDoor
open Go.RowKit
set_option linter.unusedVariables false

def semiS : ByteArray := { data := #[59] }
def lineS : ByteArray := { data := #[10] }
def emptyS : ByteArray := { data := #[] }
/-- The first sign from k on, f looked at, whose kind this is. -/
def fndS (kind : Int) : Nat → Nat → ByteArray
  | 0, _ => emptyS
  | f + 1, k => if sgnI (strAt sgnV k) = kind then strAt sgnV k else fndS kind f (k + 1)
def txtI (kind : Int) : ByteArray := if kind = 5 then semiS else if 10 ≤ kind ∧ kind < 32 then strAt wordV (kind - 10).toNat else fndS kind 30 0

def binV : Array Value := #[.string { data := #[43] }, .string { data := #[45] }, .string { data := #[42] }, .string { data := #[47] }, .string { data := #[47, 47] }, .string { data := #[37] }, .string { data := #[38] }, .string { data := #[124] }, .string { data := #[126] }, .string { data := #[60, 60] }, .string { data := #[62, 62] }, .string { data := #[46, 46] }, .string { data := #[61, 61] }, .string { data := #[126, 61] }, .string { data := #[60] }, .string { data := #[60, 61] }, .string { data := #[62] }, .string { data := #[62, 61] }]
theorem bin_at : ∀ k : Fin 18, binV[k.val]? = some (.string (strAt binV k.val)) := by
  intro ⟨k, hk⟩
  rcases (show k = 0 ∨ k = 1 ∨ k = 2 ∨ k = 3 ∨ k = 4 ∨ k = 5 ∨ k = 6 ∨ k = 7 ∨ k = 8 ∨ k = 9 ∨ k = 10 ∨ k = 11 ∨ k = 12 ∨ k = 13 ∨ k = 14 ∨ k = 15 ∨ k = 16 ∨ k = 17 by omega) with rfl | rfl | rfl | rfl | rfl | rfl | rfl | rfl | rfl | rfl | rfl | rfl | rfl | rfl | rfl | rfl | rfl | rfl
  all_goals rfl

/-- The three tables of texts lie as the program's text lays them. -/
structure Tabs (w : World) : Prop where
  word : ∃ tt fr, w.heap[0]? = some (.cells wordV tt fr)
  mark : ∃ tt fr, w.heap[1]? = some (.cells othV tt fr)
  bin : ∃ tt fr, w.heap[2]? = some (.cells binV tt fr)
theorem Tabs.below {w w' : World} {B : Nat} (h : Tabs w) (hb : Below B w w') (hB : w.heap.size ≤ B) : Tabs w' := by
  obtain ⟨⟨t1, f1, h1⟩, ⟨t2, f2, h2⟩, ⟨t3, f3, h3⟩⟩ := h
  exact ⟨⟨t1, f1, (hb.block _ (Nat.lt_of_lt_of_le (lt_of_block h1) hB)).trans h1⟩, ⟨t2, f2, (hb.block _ (Nat.lt_of_lt_of_le (lt_of_block h2) hB)).trans h2⟩, ⟨t3, f3, (hb.block _ (Nat.lt_of_lt_of_le (lt_of_block h3) hB)).trans h3⟩⟩

def fixI (kind : Int) : ByteArray := if kind = 5 then semiS else if kind = 7 then lineS else if 10 ≤ kind ∧ kind ≤ 31 then strAt wordV (kind - 10).toNat else if 40 ≤ kind ∧ kind ≤ 50 then strAt othV (kind - 40).toNat else if 61 ≤ kind ∧ kind ≤ 78 then strAt binV (kind - 61).toNat else emptyS

set_option maxRecDepth 100000 in
set_option maxHeartbeats 3200000 in
theorem fixedText_any (kind : Int) (h0 : -9223372036854775808 ≤ kind) (h1 : kind ≤ 9223372036854775807) (w : World) (hT : Tabs w) : Calls Tryd.prog 53 #[.int .i64 kind] w fun e w' => e = .returned (.string (fixI kind)) ∧ w' = w := by
  obtain ⟨⟨t1, f1, hw⟩, ⟨t2, f2, hmk⟩, ⟨t3, f3, hbn⟩⟩ := hT
  unfold fixI
  by_cases e5 : kind = 5
  · subst e5
    go_enter Tryd.func53, Tryd.ntmps53
    go_wp2
    go_ret
    exact ⟨rfl, rfl⟩
  by_cases e7 : kind = 7
  · subst e7
    go_enter Tryd.func53, Tryd.ntmps53
    go_wp2
    go_ret
    exact ⟨rfl, rfl⟩
  rw [if_neg e5, if_neg e7]
  have g5 : (kind == 5) = false := by simp [e5]
  have g7 : (kind == 7) = false := by simp [e7]
  by_cases c1 : 10 ≤ kind ∧ kind ≤ 31
  · rw [if_pos c1]
    obtain ⟨k, hk⟩ : ∃ k : Nat, kind = 10 + (k : Int) := ⟨(kind - 10).toNat, by omega⟩
    subst hk
    rw [show ((10 + (k : Int)) - 10).toNat = k by omega]
    have hk22 : k < 22 := by omega
    have hck : w.cell? ⟨0, k, none⟩ = some (.string (strAt wordV k)) := by rw [cell_of_row _ _ _ _ _ _ hw]; exact word_at ⟨k, hk22⟩
    clear c1 e5 e7
    go_enter Tryd.func53, Tryd.ntmps53
    go_wp2
    go_ret
    exact ⟨rfl, rfl⟩
  by_cases c2 : 40 ≤ kind ∧ kind ≤ 50
  · rw [if_neg c1, if_pos c2]
    obtain ⟨k, hk⟩ : ∃ k : Nat, kind = 40 + (k : Int) := ⟨(kind - 40).toNat, by omega⟩
    subst hk
    rw [show ((40 + (k : Int)) - 40).toNat = k by omega]
    have hk11 : k < 11 := by omega
    have hck : w.cell? ⟨1, k, none⟩ = some (.string (strAt othV k)) := by rw [cell_of_row _ _ _ _ _ _ hmk]; exact oth_at ⟨k, hk11⟩
    clear c1 c2 e5 e7
    go_enter Tryd.func53, Tryd.ntmps53
    go_wp2
    go_ret
    exact ⟨rfl, rfl⟩
  by_cases c3 : 61 ≤ kind ∧ kind ≤ 78
  · rw [if_neg c1, if_neg c2, if_pos c3]
    obtain ⟨k, hk⟩ : ∃ k : Nat, kind = 61 + (k : Int) := ⟨(kind - 61).toNat, by omega⟩
    subst hk
    rw [show ((61 + (k : Int)) - 61).toNat = k by omega]
    have hk18 : k < 18 := by omega
    have hck : w.cell? ⟨2, 61 + k - 60 - 1, none⟩ = some (.string (strAt binV k)) := by rw [show 61 + k - 60 - 1 = k by omega, cell_of_row _ _ _ _ _ _ hbn]; exact bin_at ⟨k, hk18⟩
    clear c1 c2 c3 e5 e7
    go_enter Tryd.func53, Tryd.ntmps53
    go_wp2
    go_ret
    exact ⟨rfl, rfl⟩
  rw [if_neg c1, if_neg c2, if_neg c3]
  rcases (show kind < 10 ∨ (31 < kind ∧ kind < 40) ∨ (50 < kind ∧ kind ≤ 60) ∨ 78 < kind by omega) with h | ⟨h, h'⟩ | ⟨h, h'⟩ | h
  all_goals
    clear c1 c2 c3 e5 e7
    go_enter Tryd.func53, Tryd.ntmps53
    go_wp2
    go_ret
    exact ⟨rfl, rfl⟩

end Go.Proofs.YtlmkmihbbnjngaaDoor
