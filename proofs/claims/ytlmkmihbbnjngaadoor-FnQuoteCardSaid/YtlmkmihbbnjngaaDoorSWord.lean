import Derived.Test.YtlmkmihbbnjngaaDoorSTok
import Derived.Maps.Own
namespace Go.Proofs.YtlmkmihbbnjngaaDoor
open Go.RowKit Go.Maps Go.WideMaps
set_option linter.unusedVariables false

def wordV : Array Value := #[.string { data := #[97, 110, 100] }, .string { data := #[98, 114, 101, 97, 107] }, .string { data := #[99, 97, 116, 99, 104] }, .string { data := #[99, 111, 110, 115, 116] }, .string { data := #[100, 101, 102, 101, 114] }, .string { data := #[101, 108, 105, 102] }, .string { data := #[101, 108, 115, 101] }, .string { data := #[102, 97, 108, 115, 101] }, .string { data := #[102, 110] }, .string { data := #[102, 111, 114] }, .string { data := #[105, 102] }, .string { data := #[105, 110] }, .string { data := #[108, 101, 116] }, .string { data := #[110, 101, 120, 116] }, .string { data := #[110, 105, 108] }, .string { data := #[110, 111, 116] }, .string { data := #[111, 114] }, .string { data := #[114, 101, 116, 117, 114, 110] }, .string { data := #[116, 104, 114, 111, 119] }, .string { data := #[116, 114, 117, 101] }, .string { data := #[116, 114, 121] }, .string { data := #[119, 104, 105, 108, 101] }]
def wordAt (k : Nat) : ByteArray := match wordV[k]? with | some (.string s) => s | _ => ByteArray.empty
theorem widx (k : Nat) (hk : k < 22) (w : World) : (Instr.index 55 (.agg wordV) (.int .i64 (k : Int))).run Tryd.prog w = .ok (.string (wordAt k)) w := by
  rcases (show k = 0 ∨ k = 1 ∨ k = 2 ∨ k = 3 ∨ k = 4 ∨ k = 5 ∨ k = 6 ∨ k = 7 ∨ k = 8 ∨ k = 9 ∨ k = 10 ∨ k = 11 ∨ k = 12 ∨ k = 13 ∨ k = 14 ∨ k = 15 ∨ k = 16 ∨ k = 17 ∨ k = 18 ∨ k = 19 ∨ k = 20 ∨ k = 21 by omega) with rfl | rfl | rfl | rfl | rfl | rfl | rfl | rfl | rfl | rfl | rfl | rfl | rfl | rfl | rfl | rfl | rfl | rfl | rfl | rfl | rfl | rfl
  all_goals kernel_rfl
theorem wordAt_size : ∀ k : Fin 22, (wordAt k.val).size ≤ 100 := by decide
def wkD {H : Type} : Nat → DataW H
  | 0 => .map []
  | k + 1 => (wkD k).put (.string (wordAt k).data.toList) (.lit (.int .i64 (10 + (k : Int))))
theorem kLaw : Keyed Tryd.prog 9 := string_keyed Tryd.underlying9

set_option maxRecDepth 100000 in
set_option maxHeartbeats 1600000 in
theorem wordKinds_any {H : Type} (w : World) (fr : Nat × Nat) (tt : TypeId) (hG : w.heap[0]? = some (.cells wordV tt fr)) :
    Calls Tryd.prog 16 #[] w fun e w' => e = .returned (.map (some w.heap.size)) ∧ w'.ownsMap Tryd.prog 9 (plainElem (H := H) Tryd.prog 3) w.heap.size 22 (wkD 22) ∧ Below w.heap.size w w' := by
  have hlt : 0 < w.heap.size := lt_of_block hG
  have hmm : ∀ w : World, (Instr.makeMap 43 (some (.int .i64 22))).run Tryd.prog w = .ok (.map (some w.heap.size)) (w.alloc (.map #[] 0)) := fun w => by kernel_rfl
  have hG1 : (w.alloc (.map #[] 0)).heap[0]? = some (.cells wordV tt fr) := (Below.heap_alloc w _ _ hlt).trans hG
  go_enter Tryd.func16, Tryd.ntmps16
  go_wp2_with (refine wpList_load_row rfl 55 _ rfl 0 rfl tt _ fr _ hG1 Tryd.underlying55 rfl (by kernel_rfl) ?_)
  go_loopw [6] (fun i wr => ∃ k : Nat, k ≤ 22 ∧ i = .int .i64 k ∧ wr.ownsMap Tryd.prog 9 (plainElem (H := H) Tryd.prog 3) w.heap.size k (wkD k) ∧ Below w.heap.size w wr) (fun i _ => 22 - (intOf i).toNat)
  case atStart => exact ⟨0, by omega, rfl, World.ownsMap_made _ _ _ _, (Below.refl _ _).alloc (Nat.le_refl _) _⟩
  case round =>
    obtain ⟨k, hk, rfl, hown, hnx⟩ := hrel
    by_cases hlt : k < 22
    · have hix := fun w => widx k hlt w
      have hsz : (wordAt k).size ≤ 100 := wordAt_size ⟨k, hlt⟩
      have hkey : keyOf Tryd.prog 9 (.string (wordAt k)) = some (.string (wordAt k).data.toList) := keyOf_string_mk Tryd.underlying9 (by unfold maxLen; omega)
      have hst : Hid (wkD (H := H) (k + 1) = (wkD k).put (.string (wordAt k).data.toList) (.lit (.int .i64 (10 + (k : Int))))) := rfl
      go_wp2_with (at_mapUpdate; refine wpList_mapUpdate_own _ rfl _ _ _ 43 rfl 9 3 kLaw Tryd.underlying43 _ w.heap.size k _ rfl hown (by unfold maxLen; omega) _ _ _ rfl rfl hkey _ [] (plainElem_int Tryd.underlying3 (WalkArith.wf_i64 (by omega))) ?_; intro w1 hown1 hgrow1)
      go_roundw
      case rel => exact ⟨k + 1, by omega, by go_num, by rw [hst.out]; exact hown1, hnx.grown hgrow1 hnx.size (fun j hj => by cases hj; exact Nat.le_refl _)⟩
      case measure => simp [intOf]; omega
    · obtain rfl : k = 22 := by omega
      go_wp2
      go_ret
      exact ⟨rfl, hown, hnx⟩
end Go.Proofs.YtlmkmihbbnjngaaDoor
