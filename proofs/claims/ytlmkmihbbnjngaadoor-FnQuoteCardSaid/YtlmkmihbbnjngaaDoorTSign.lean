import Derived.Test.YtlmkmihbbnjngaaDoorSWord
namespace Go.Proofs.YtlmkmihbbnjngaaDoor
open Go.RowKit
set_option linter.unusedVariables false

def opsV : Array Value := #[.string { data := #[] }, .string { data := #[43] }, .string { data := #[45] }, .string { data := #[42] }, .string { data := #[47] }, .string { data := #[47, 47] }, .string { data := #[37] }, .string { data := #[38] }, .string { data := #[124] }, .string { data := #[126] }, .string { data := #[60, 60] }, .string { data := #[62, 62] }, .string { data := #[46, 46] }, .string { data := #[61, 61] }, .string { data := #[126, 61] }, .string { data := #[60] }, .string { data := #[60, 61] }, .string { data := #[62] }, .string { data := #[62, 61] }]
def othV : Array Value := #[.string { data := #[40] }, .string { data := #[41] }, .string { data := #[123] }, .string { data := #[125] }, .string { data := #[91] }, .string { data := #[93] }, .string { data := #[44] }, .string { data := #[61] }, .string { data := #[46] }, .string { data := #[46, 46, 46] }, .string { data := #[35] }]
def sgnV : Array Value := #[.string { data := #[46, 46, 46] }, .string { data := #[46, 46] }, .string { data := #[46] }, .string { data := #[60, 60] }, .string { data := #[60, 61] }, .string { data := #[60] }, .string { data := #[62, 62] }, .string { data := #[62, 61] }, .string { data := #[62] }, .string { data := #[61, 61] }, .string { data := #[61] }, .string { data := #[126, 61] }, .string { data := #[126] }, .string { data := #[47, 47] }, .string { data := #[47] }, .string { data := #[40] }, .string { data := #[41] }, .string { data := #[123] }, .string { data := #[125] }, .string { data := #[91] }, .string { data := #[93] }, .string { data := #[44] }, .string { data := #[59] }, .string { data := #[35] }, .string { data := #[43] }, .string { data := #[45] }, .string { data := #[42] }, .string { data := #[37] }, .string { data := #[38] }, .string { data := #[124] }]
theorem opsV_eq : (#[.string { data := #[] }, .string { data := #[43] }, .string { data := #[45] }, .string { data := #[42] }, .string { data := #[47] }, .string { data := #[47, 47] }, .string { data := #[37] }, .string { data := #[38] }, .string { data := #[124] }, .string { data := #[126] }, .string { data := #[60, 60] }, .string { data := #[62, 62] }, .string { data := #[46, 46] }, .string { data := #[61, 61] }, .string { data := #[126, 61] }, .string { data := #[60] }, .string { data := #[60, 61] }, .string { data := #[62] }, .string { data := #[62, 61] }] : Array Value) = opsV := rfl
theorem othV_eq : (#[.string { data := #[40] }, .string { data := #[41] }, .string { data := #[123] }, .string { data := #[125] }, .string { data := #[91] }, .string { data := #[93] }, .string { data := #[44] }, .string { data := #[61] }, .string { data := #[46] }, .string { data := #[46, 46, 46] }, .string { data := #[35] }] : Array Value) = othV := rfl
theorem sgnV_eq : (#[.string { data := #[46, 46, 46] }, .string { data := #[46, 46] }, .string { data := #[46] }, .string { data := #[60, 60] }, .string { data := #[60, 61] }, .string { data := #[60] }, .string { data := #[62, 62] }, .string { data := #[62, 61] }, .string { data := #[62] }, .string { data := #[61, 61] }, .string { data := #[61] }, .string { data := #[126, 61] }, .string { data := #[126] }, .string { data := #[47, 47] }, .string { data := #[47] }, .string { data := #[40] }, .string { data := #[41] }, .string { data := #[123] }, .string { data := #[125] }, .string { data := #[91] }, .string { data := #[93] }, .string { data := #[44] }, .string { data := #[59] }, .string { data := #[35] }, .string { data := #[43] }, .string { data := #[45] }, .string { data := #[42] }, .string { data := #[37] }, .string { data := #[38] }, .string { data := #[124] }] : Array Value) = sgnV := rfl
theorem wordV_eq : (#[.string { data := #[97, 110, 100] }, .string { data := #[98, 114, 101, 97, 107] }, .string { data := #[99, 97, 116, 99, 104] }, .string { data := #[99, 111, 110, 115, 116] }, .string { data := #[100, 101, 102, 101, 114] }, .string { data := #[101, 108, 105, 102] }, .string { data := #[101, 108, 115, 101] }, .string { data := #[102, 97, 108, 115, 101] }, .string { data := #[102, 110] }, .string { data := #[102, 111, 114] }, .string { data := #[105, 102] }, .string { data := #[105, 110] }, .string { data := #[108, 101, 116] }, .string { data := #[110, 101, 120, 116] }, .string { data := #[110, 105, 108] }, .string { data := #[110, 111, 116] }, .string { data := #[111, 114] }, .string { data := #[114, 101, 116, 117, 114, 110] }, .string { data := #[116, 104, 114, 111, 119] }, .string { data := #[116, 114, 117, 101] }, .string { data := #[116, 114, 121] }, .string { data := #[119, 104, 105, 108, 101] }] : Array Value) = wordV := rfl
def strAt (V : Array Value) (k : Nat) : ByteArray := match V[k]? with | some (.string s) => s | _ => ByteArray.empty
theorem ops_at : ∀ k : Fin 19, opsV[k.val]? = some (.string (strAt opsV k.val)) := by
  intro ⟨k, hk⟩
  rcases (show k = 0 ∨ k = 1 ∨ k = 2 ∨ k = 3 ∨ k = 4 ∨ k = 5 ∨ k = 6 ∨ k = 7 ∨ k = 8 ∨ k = 9 ∨ k = 10 ∨ k = 11 ∨ k = 12 ∨ k = 13 ∨ k = 14 ∨ k = 15 ∨ k = 16 ∨ k = 17 ∨ k = 18 by omega) with rfl | rfl | rfl | rfl | rfl | rfl | rfl | rfl | rfl | rfl | rfl | rfl | rfl | rfl | rfl | rfl | rfl | rfl | rfl
  all_goals rfl
theorem oth_at : ∀ k : Fin 11, othV[k.val]? = some (.string (strAt othV k.val)) := by
  intro ⟨k, hk⟩
  rcases (show k = 0 ∨ k = 1 ∨ k = 2 ∨ k = 3 ∨ k = 4 ∨ k = 5 ∨ k = 6 ∨ k = 7 ∨ k = 8 ∨ k = 9 ∨ k = 10 by omega) with rfl | rfl | rfl | rfl | rfl | rfl | rfl | rfl | rfl | rfl | rfl
  all_goals rfl
theorem sgn_at : ∀ k : Fin 30, sgnV[k.val]? = some (.string (strAt sgnV k.val)) := by
  intro ⟨k, hk⟩
  rcases (show k = 0 ∨ k = 1 ∨ k = 2 ∨ k = 3 ∨ k = 4 ∨ k = 5 ∨ k = 6 ∨ k = 7 ∨ k = 8 ∨ k = 9 ∨ k = 10 ∨ k = 11 ∨ k = 12 ∨ k = 13 ∨ k = 14 ∨ k = 15 ∨ k = 16 ∨ k = 17 ∨ k = 18 ∨ k = 19 ∨ k = 20 ∨ k = 21 ∨ k = 22 ∨ k = 23 ∨ k = 24 ∨ k = 25 ∨ k = 26 ∨ k = 27 ∨ k = 28 ∨ k = 29 by omega) with rfl | rfl | rfl | rfl | rfl | rfl | rfl | rfl | rfl | rfl | rfl | rfl | rfl | rfl | rfl | rfl | rfl | rfl | rfl | rfl | rfl | rfl | rfl | rfl | rfl | rfl | rfl | rfl | rfl | rfl
  all_goals rfl
theorem word_at : ∀ k : Fin 22, wordV[k.val]? = some (.string (strAt wordV k.val)) := by
  intro ⟨k, hk⟩
  rcases (show k = 0 ∨ k = 1 ∨ k = 2 ∨ k = 3 ∨ k = 4 ∨ k = 5 ∨ k = 6 ∨ k = 7 ∨ k = 8 ∨ k = 9 ∨ k = 10 ∨ k = 11 ∨ k = 12 ∨ k = 13 ∨ k = 14 ∨ k = 15 ∨ k = 16 ∨ k = 17 ∨ k = 18 ∨ k = 19 ∨ k = 20 ∨ k = 21 by omega) with rfl | rfl | rfl | rfl | rfl | rfl | rfl | rfl | rfl | rfl | rfl | rfl | rfl | rfl | rfl | rfl | rfl | rfl | rfl | rfl | rfl | rfl
  all_goals rfl

/-- The first place from k on, f places looked at, that holds s. -/
def fnd (V : Array Value) (s : ByteArray) : Nat → Nat → Option Nat
  | 0, _ => none
  | f + 1, k => if ((strAt V k).toList == s.toList) = true then some k else fnd V s f (k + 1)
def sgnI (s : ByteArray) : Int := match fnd opsV s 18 1 with | some k => 60 + (k : Int) | none => (match fnd othV s 11 0 with | some k => 40 + (k : Int) | none => 5)

theorem l1words_any (w : World) : Calls Tryd.prog 44 #[] w fun e w' => e = .returned (.slice (some ⟨w.heap.size, 0, none⟩) 22 22) ∧ w' = w.alloc (.cells wordV 9) := by
  go_enter Tryd.func44, Tryd.ntmps44
  go_wp2
  go_ret
  exact ⟨rfl, rfl⟩
theorem l1signs_any (w : World) : Calls Tryd.prog 33 #[] w fun e w' => e = .returned (.slice (some ⟨w.heap.size, 0, none⟩) 30 30) ∧ w' = w.alloc (.cells sgnV 9) := by
  go_enter Tryd.func33, Tryd.ntmps33
  go_wp2
  go_ret
  exact ⟨rfl, rfl⟩

set_option maxRecDepth 100000 in
set_option maxHeartbeats 3200000 in
theorem l1sign_any (s : ByteArray) (w : World) : Calls Tryd.prog 34 #[.string s] w fun e w' => e = .returned (.int .i64 (sgnI s)) ∧ Below w.heap.size w w' := by
  go_enter Tryd.func34, Tryd.ntmps34
  go_wp2_with fail
  rw [opsV_eq]
  have hblk := heap_alloc_new w (.cells opsV 9)
  have hbel : Below w.heap.size w (w.alloc (.cells opsV 9)) := (Below.refl _ w).alloc (Nat.le_refl _) _
  generalize w.alloc (.cells opsV 9) = W1 at hblk hbel ⊢
  obtain ⟨R, hR⟩ : ∃ R, fnd opsV s 18 1 = R := ⟨_, rfl⟩
  have HR : Hid (fnd opsV s 18 1 = R) := hR
  clear hR
  go_loop [4] (fun i => ∃ k : Nat, 1 ≤ k ∧ k ≤ 19 ∧ i = .int .i64 k ∧ Hid (fnd opsV s (19 - k) k = R)) (fun i => 19 - (intOf i).toNat)
  case atStart => exact ⟨1, by omega, by omega, rfl, HR⟩
  case round =>
    obtain ⟨k, hk1, hk2, rfl, HF⟩ := hrel
    by_cases hlt : k < 19
    · have hck : W1.cell? ⟨w.heap.size, k, none⟩ = some (.string (strAt opsV k)) := by rw [cell_of_row _ _ _ _ _ _ hblk]; exact ops_at ⟨k, hlt⟩
      have hst := HF.out
      rw [show 19 - k = (19 - (k + 1)) + 1 by omega] at hst
      unfold fnd at hst
      generalize strAt opsV k = x at hck hst
      by_cases hx : (x.toList == s.toList) = true
      · rw [if_pos hx] at hst
        have HS : Hid (some k = R) := hst
        clear hst
        go_wp2
        go_ret
        refine ⟨?_, hbel⟩
        unfold sgnI
        rw [HR.out, ← HS.out]
        rfl
      · rw [if_neg hx] at hst
        have HS : Hid (fnd opsV s (19 - (k + 1)) (k + 1) = R) := hst
        have hx' : (x.toList == s.toList) = false := by simpa using hx
        clear hst hx
        go_wp2
        go_round
        case rel => exact ⟨k + 1, by omega, by omega, by go_num, HS⟩
        case measure => simp [intOf]; omega
    · obtain rfl : k = 19 := by omega
      have HS : Hid (none = R) := HF.out
      go_wp2_with fail
      rw [othV_eq]
      have hblk2 := heap_alloc_new W1 (.cells othV 9)
      have hsz := hbel.size
      have hbel2 : Below w.heap.size w (W1.alloc (.cells othV 9)) := hbel.alloc hsz _
      generalize W1.alloc (.cells othV 9) = W2 at hblk2 hbel2 ⊢
      obtain ⟨R2, hR2⟩ : ∃ R, fnd othV s 11 0 = R := ⟨_, rfl⟩
      have HR2 : Hid (fnd othV s 11 0 = R2) := hR2
      clear hR2
      go_loop [26] (fun i => ∃ k : Nat, k ≤ 11 ∧ i = .int .i64 k ∧ Hid (fnd othV s (11 - k) k = R2)) (fun i => 11 - (intOf i).toNat)
      case atStart => exact ⟨0, by omega, rfl, HR2⟩
      case round =>
        obtain ⟨k, hk2, rfl, HF⟩ := hrel
        by_cases hlt : k < 11
        · have hck : W2.cell? ⟨W1.heap.size, k, none⟩ = some (.string (strAt othV k)) := by rw [cell_of_row _ _ _ _ _ _ hblk2]; exact oth_at ⟨k, hlt⟩
          have hst := HF.out
          rw [show 11 - k = (11 - (k + 1)) + 1 by omega] at hst
          unfold fnd at hst
          generalize strAt othV k = x at hck hst
          by_cases hx : (x.toList == s.toList) = true
          · rw [if_pos hx] at hst
            have HS2 : Hid (some k = R2) := hst
            clear hst
            go_wp2
            go_ret
            refine ⟨?_, hbel2⟩
            unfold sgnI
            rw [HR.out, ← HS.out, HR2.out, ← HS2.out]
            rfl
          · rw [if_neg hx] at hst
            have HS2 : Hid (fnd othV s (11 - (k + 1)) (k + 1) = R2) := hst
            have hx' : (x.toList == s.toList) = false := by simpa using hx
            clear hst hx
            go_wp2
            go_round
            case rel => exact ⟨k + 1, by omega, by go_num, HS2⟩
            case measure => simp [intOf]; omega
        · obtain rfl : k = 11 := by omega
          have HS2 : Hid (none = R2) := HF.out
          go_wp2
          go_ret
          refine ⟨?_, hbel2⟩
          unfold sgnI
          rw [HR.out, ← HS.out, HR2.out, ← HS2.out]
          rfl
end Go.Proofs.YtlmkmihbbnjngaaDoor
