import Derived.Test.YtdgbmihokecmhaaGreatDoorMM01
import Derived.Maps.OwnSet
namespace Go.Proofs.YtdgbmihokecmhaaGreatDoor
open Go.RowKit
set_option linter.unusedVariables false

def opsV : Array Value := #[.string { data := #[] }, .string { data := #[43] }, .string { data := #[45] }, .string { data := #[42] }, .string { data := #[47] }, .string { data := #[47, 47] }, .string { data := #[37] }, .string { data := #[38] }, .string { data := #[124] }, .string { data := #[126] }, .string { data := #[60, 60] }, .string { data := #[62, 62] }, .string { data := #[46, 46] }, .string { data := #[61, 61] }, .string { data := #[126, 61] }, .string { data := #[60] }, .string { data := #[60, 61] }, .string { data := #[62] }, .string { data := #[62, 61] }]
def othV : Array Value := #[.string { data := #[40] }, .string { data := #[41] }, .string { data := #[123] }, .string { data := #[125] }, .string { data := #[91] }, .string { data := #[93] }, .string { data := #[44] }, .string { data := #[61] }, .string { data := #[46] }, .string { data := #[46, 46, 46] }, .string { data := #[35] }]
def sgnV : Array Value := #[.string { data := #[46, 46, 46] }, .string { data := #[46, 46] }, .string { data := #[46] }, .string { data := #[60, 60] }, .string { data := #[60, 61] }, .string { data := #[60] }, .string { data := #[62, 62] }, .string { data := #[62, 61] }, .string { data := #[62] }, .string { data := #[61, 61] }, .string { data := #[61] }, .string { data := #[126, 61] }, .string { data := #[126] }, .string { data := #[47, 47] }, .string { data := #[47] }, .string { data := #[40] }, .string { data := #[41] }, .string { data := #[123] }, .string { data := #[125] }, .string { data := #[91] }, .string { data := #[93] }, .string { data := #[44] }, .string { data := #[59] }, .string { data := #[35] }, .string { data := #[43] }, .string { data := #[45] }, .string { data := #[42] }, .string { data := #[37] }, .string { data := #[38] }, .string { data := #[124] }]
theorem opsV_eq : (#[.string { data := #[] }, .string { data := #[43] }, .string { data := #[45] }, .string { data := #[42] }, .string { data := #[47] }, .string { data := #[47, 47] }, .string { data := #[37] }, .string { data := #[38] }, .string { data := #[124] }, .string { data := #[126] }, .string { data := #[60, 60] }, .string { data := #[62, 62] }, .string { data := #[46, 46] }, .string { data := #[61, 61] }, .string { data := #[126, 61] }, .string { data := #[60] }, .string { data := #[60, 61] }, .string { data := #[62] }, .string { data := #[62, 61] }] : Array Value) = opsV := rfl
theorem othV_eq : (#[.string { data := #[40] }, .string { data := #[41] }, .string { data := #[123] }, .string { data := #[125] }, .string { data := #[91] }, .string { data := #[93] }, .string { data := #[44] }, .string { data := #[61] }, .string { data := #[46] }, .string { data := #[46, 46, 46] }, .string { data := #[35] }] : Array Value) = othV := rfl
theorem sgnV_eq : (#[.string { data := #[46, 46, 46] }, .string { data := #[46, 46] }, .string { data := #[46] }, .string { data := #[60, 60] }, .string { data := #[60, 61] }, .string { data := #[60] }, .string { data := #[62, 62] }, .string { data := #[62, 61] }, .string { data := #[62] }, .string { data := #[61, 61] }, .string { data := #[61] }, .string { data := #[126, 61] }, .string { data := #[126] }, .string { data := #[47, 47] }, .string { data := #[47] }, .string { data := #[40] }, .string { data := #[41] }, .string { data := #[123] }, .string { data := #[125] }, .string { data := #[91] }, .string { data := #[93] }, .string { data := #[44] }, .string { data := #[59] }, .string { data := #[35] }, .string { data := #[43] }, .string { data := #[45] }, .string { data := #[42] }, .string { data := #[37] }, .string { data := #[38] }, .string { data := #[124] }] : Array Value) = sgnV := rfl
theorem wordV_eq : (#[.string { data := #[97, 110, 100] }, .string { data := #[98, 114, 101, 97, 107] }, .string { data := #[99, 97, 116, 99, 104] }, .string { data := #[99, 111, 110, 115, 116] }, .string { data := #[100, 101, 102, 101, 114] }, .string { data := #[101, 108, 105, 102] }, .string { data := #[101, 108, 115, 101] }, .string { data := #[102, 97, 108, 115, 101] }, .string { data := #[102, 110] }, .string { data := #[102, 111, 114] }, .string { data := #[105, 102] }, .string { data := #[105, 110] }, .string { data := #[108, 101, 116] }, .string { data := #[110, 101, 120, 116] }, .string { data := #[110, 105, 108] }, .string { data := #[110, 111, 116] }, .string { data := #[111, 114] }, .string { data := #[114, 101, 116, 117, 114, 110] }, .string { data := #[116, 104, 114, 111, 119] }, .string { data := #[116, 114, 117, 101] }, .string { data := #[116, 114, 121] }, .string { data := #[119, 104, 105, 108, 101] }] : Array Value) = wordV := rfl
def strAt (V : Array Value) (k : Nat) : ByteArray := match V[k]? with | some (.string s) => s | _ => ByteArray.empty
theorem ops_at : ∀ k : Fin 19, opsV[k.val]? = some (.string (strAt opsV k.val)) := by
  intro ⟨k, hk⟩
  rcases (show k = 0 ∨ k = 1 ∨ k = 2 ∨ k = 3 ∨ k = 4 ∨ k = 5 ∨ k = 6 ∨ k = 7 ∨ k = 8 ∨ k = 9 ∨ k = 10 ∨ k = 11 ∨ k = 12 ∨ k = 13 ∨ k = 14 ∨ k = 15 ∨ k = 16 ∨ k = 17 ∨ k = 18 by omega) with rfl | rfl | rfl | rfl | rfl | rfl | rfl | rfl | rfl | rfl | rfl | rfl | rfl | rfl | rfl | rfl | rfl | rfl | rfl
  all_goals rfl
theorem oth_at : ∀ k : Fin 11, othV[k.val]? = some (.string (strAt othV k.val)) := by
  intro ⟨k, hk⟩
  rcases (show k = 0 ∨ k = 1 ∨ k = 2 ∨ k = 3 ∨ k = 4 ∨ k = 5 ∨ k = 6 ∨ k = 7 ∨ k = 8 ∨ k = 9 ∨ k = 10 by omega) with rfl | rfl | rfl | rfl | rfl | rfl | rfl | rfl | rfl | rfl | rfl
  all_goals rfl
theorem sgn_at : ∀ k : Fin 30, sgnV[k.val]? = some (.string (strAt sgnV k.val)) := by
  intro ⟨k, hk⟩
  rcases (show k = 0 ∨ k = 1 ∨ k = 2 ∨ k = 3 ∨ k = 4 ∨ k = 5 ∨ k = 6 ∨ k = 7 ∨ k = 8 ∨ k = 9 ∨ k = 10 ∨ k = 11 ∨ k = 12 ∨ k = 13 ∨ k = 14 ∨ k = 15 ∨ k = 16 ∨ k = 17 ∨ k = 18 ∨ k = 19 ∨ k = 20 ∨ k = 21 ∨ k = 22 ∨ k = 23 ∨ k = 24 ∨ k = 25 ∨ k = 26 ∨ k = 27 ∨ k = 28 ∨ k = 29 by omega) with rfl | rfl | rfl | rfl | rfl | rfl | rfl | rfl | rfl | rfl | rfl | rfl | rfl | rfl | rfl | rfl | rfl | rfl | rfl | rfl | rfl | rfl | rfl | rfl | rfl | rfl | rfl | rfl | rfl | rfl
  all_goals rfl
theorem word_at : ∀ k : Fin 22, wordV[k.val]? = some (.string (strAt wordV k.val)) := by
  intro ⟨k, hk⟩
  rcases (show k = 0 ∨ k = 1 ∨ k = 2 ∨ k = 3 ∨ k = 4 ∨ k = 5 ∨ k = 6 ∨ k = 7 ∨ k = 8 ∨ k = 9 ∨ k = 10 ∨ k = 11 ∨ k = 12 ∨ k = 13 ∨ k = 14 ∨ k = 15 ∨ k = 16 ∨ k = 17 ∨ k = 18 ∨ k = 19 ∨ k = 20 ∨ k = 21 by omega) with rfl | rfl | rfl | rfl | rfl | rfl | rfl | rfl | rfl | rfl | rfl | rfl | rfl | rfl | rfl | rfl | rfl | rfl | rfl | rfl | rfl | rfl
  all_goals rfl

/-- The first place from k on, f places looked at, that holds s. -/
def fnd (V : Array Value) (s : ByteArray) : Nat → Nat → Option Nat
  | 0, _ => none
  | f + 1, k => if ((strAt V k).toList == s.toList) = true then some k else fnd V s f (k + 1)
def sgnI (s : ByteArray) : Int := match fnd opsV s 18 1 with | some k => 60 + (k : Int) | none => (match fnd othV s 11 0 with | some k => 40 + (k : Int) | none => 5)

theorem l1words_any (w : World) : Calls Tryz.prog 103 #[] w fun e w' => e = .returned (.slice (some ⟨w.heap.size, 0, none⟩) 22 22) ∧ w' = w.alloc (.cells wordV 9) := by
  go_enter Tryz.func103, Tryz.ntmps103
  go_wp2
  go_ret
  exact ⟨rfl, rfl⟩
theorem l1signs_any (w : World) : Calls Tryz.prog 87 #[] w fun e w' => e = .returned (.slice (some ⟨w.heap.size, 0, none⟩) 30 30) ∧ w' = w.alloc (.cells sgnV 9) := by
  go_enter Tryz.func87, Tryz.ntmps87
  go_wp2
  go_ret
  exact ⟨rfl, rfl⟩

set_option maxRecDepth 100000 in
set_option maxHeartbeats 3200000 in
theorem l1sign_any (s : ByteArray) (w : World) : Calls Tryz.prog 88 #[.string s] w fun e w' => e = .returned (.int .i64 (sgnI s)) ∧ Below w.heap.size w w' := by
  go_enter Tryz.func88, Tryz.ntmps88
  go_wp2_with fail
  rw [opsV_eq]
  have hblk := heap_alloc_new w (.cells opsV 9)
  have hbel : Below w.heap.size w (w.alloc (.cells opsV 9)) := (Below.refl _ w).alloc (Nat.le_refl _) _
  generalize w.alloc (.cells opsV 9) = W1 at hblk hbel ⊢
  obtain ⟨R, hR⟩ : ∃ R, fnd opsV s 18 1 = R := ⟨_, rfl⟩
  have HR : Hid (fnd opsV s 18 1 = R) := hR
  clear hR
  go_loop [4] (fun i => ∃ k : Nat, 1 ≤ k ∧ k ≤ 19 ∧ i = .int .i64 k ∧ Hid (fnd opsV s (19 - k) k = R)) (fun i => 19 - (intOf i).toNat)
  case atStart => exact ⟨1, by omega, by omega, rfl, HR⟩
  case round =>
    obtain ⟨k, hk1, hk2, rfl, HF⟩ := hrel
    by_cases hlt : k < 19
    · have hck : W1.cell? ⟨w.heap.size, k, none⟩ = some (.string (strAt opsV k)) := by rw [cell_of_row _ _ _ _ _ _ hblk]; exact ops_at ⟨k, hlt⟩
      have hst := HF.out
      rw [show 19 - k = (19 - (k + 1)) + 1 by omega] at hst
      unfold fnd at hst
      generalize strAt opsV k = x at hck hst
      by_cases hx : (x.toList == s.toList) = true
      · rw [if_pos hx] at hst
        have HS : Hid (some k = R) := hst
        clear hst
        go_wp2
        go_ret
        refine ⟨?_, hbel⟩
        unfold sgnI
        rw [HR.out, ← HS.out]
        rfl
      · rw [if_neg hx] at hst
        have HS : Hid (fnd opsV s (19 - (k + 1)) (k + 1) = R) := hst
        have hx' : (x.toList == s.toList) = false := by simpa using hx
        clear hst hx
        go_wp2
        go_round
        case rel => exact ⟨k + 1, by omega, by omega, by go_num, HS⟩
        case measure => simp [intOf]; omega
    · obtain rfl : k = 19 := by omega
      have HS : Hid (none = R) := HF.out
      go_wp2_with fail
      rw [othV_eq]
      have hblk2 := heap_alloc_new W1 (.cells othV 9)
      have hsz := hbel.size
      have hbel2 : Below w.heap.size w (W1.alloc (.cells othV 9)) := hbel.alloc hsz _
      generalize W1.alloc (.cells othV 9) = W2 at hblk2 hbel2 ⊢
      obtain ⟨R2, hR2⟩ : ∃ R, fnd othV s 11 0 = R := ⟨_, rfl⟩
      have HR2 : Hid (fnd othV s 11 0 = R2) := hR2
      clear hR2
      go_loop [26] (fun i => ∃ k : Nat, k ≤ 11 ∧ i = .int .i64 k ∧ Hid (fnd othV s (11 - k) k = R2)) (fun i => 11 - (intOf i).toNat)
      case atStart => exact ⟨0, by omega, rfl, HR2⟩
      case round =>
        obtain ⟨k, hk2, rfl, HF⟩ := hrel
        by_cases hlt : k < 11
        · have hck : W2.cell? ⟨W1.heap.size, k, none⟩ = some (.string (strAt othV k)) := by rw [cell_of_row _ _ _ _ _ _ hblk2]; exact oth_at ⟨k, hlt⟩
          have hst := HF.out
          rw [show 11 - k = (11 - (k + 1)) + 1 by omega] at hst
          unfold fnd at hst
          generalize strAt othV k = x at hck hst
          by_cases hx : (x.toList == s.toList) = true
          · rw [if_pos hx] at hst
            have HS2 : Hid (some k = R2) := hst
            clear hst
            go_wp2
            go_ret
            refine ⟨?_, hbel2⟩
            unfold sgnI
            rw [HR.out, ← HS.out, HR2.out, ← HS2.out]
            rfl
          · rw [if_neg hx] at hst
            have HS2 : Hid (fnd othV s (11 - (k + 1)) (k + 1) = R2) := hst
            have hx' : (x.toList == s.toList) = false := by simpa using hx
            clear hst hx
            go_wp2
            go_round
            case rel => exact ⟨k + 1, by omega, by go_num, HS2⟩
            case measure => simp [intOf]; omega
        · obtain rfl : k = 11 := by omega
          have HS2 : Hid (none = R2) := HF.out
          go_wp2
          go_ret
          refine ⟨?_, hbel2⟩
          unfold sgnI
          rw [HR.out, ← HS.out, HR2.out, ← HS2.out]
          rfl
end Go.Proofs.YtdgbmihokecmhaaGreatDoor

namespace Go.Proofs.YtdgbmihokecmhaaGreatDoor
open Go.RowKit
set_option linter.unusedVariables false

def semiS : ByteArray := { data := #[59] }
def lineS : ByteArray := { data := #[10] }
def emptyS : ByteArray := { data := #[] }
/-- The first sign from k on, f looked at, whose kind this is. -/
def fndS (kind : Int) : Nat → Nat → ByteArray
  | 0, _ => emptyS
  | f + 1, k => if sgnI (strAt sgnV k) = kind then strAt sgnV k else fndS kind f (k + 1)
def txtI (kind : Int) : ByteArray := if kind = 5 then semiS else if 10 ≤ kind ∧ kind < 32 then strAt wordV (kind - 10).toNat else fndS kind 30 0

def binV : Array Value := #[.string { data := #[43] }, .string { data := #[45] }, .string { data := #[42] }, .string { data := #[47] }, .string { data := #[47, 47] }, .string { data := #[37] }, .string { data := #[38] }, .string { data := #[124] }, .string { data := #[126] }, .string { data := #[60, 60] }, .string { data := #[62, 62] }, .string { data := #[46, 46] }, .string { data := #[61, 61] }, .string { data := #[126, 61] }, .string { data := #[60] }, .string { data := #[60, 61] }, .string { data := #[62] }, .string { data := #[62, 61] }]
theorem bin_at : ∀ k : Fin 18, binV[k.val]? = some (.string (strAt binV k.val)) := by
  intro ⟨k, hk⟩
  rcases (show k = 0 ∨ k = 1 ∨ k = 2 ∨ k = 3 ∨ k = 4 ∨ k = 5 ∨ k = 6 ∨ k = 7 ∨ k = 8 ∨ k = 9 ∨ k = 10 ∨ k = 11 ∨ k = 12 ∨ k = 13 ∨ k = 14 ∨ k = 15 ∨ k = 16 ∨ k = 17 by omega) with rfl | rfl | rfl | rfl | rfl | rfl | rfl | rfl | rfl | rfl | rfl | rfl | rfl | rfl | rfl | rfl | rfl | rfl
  all_goals rfl

def fixI (kind : Int) : ByteArray := if kind = 5 then semiS else if kind = 7 then lineS else if 10 ≤ kind ∧ kind ≤ 31 then strAt wordV (kind - 10).toNat else if 40 ≤ kind ∧ kind ≤ 50 then strAt othV (kind - 40).toNat else if 61 ≤ kind ∧ kind ≤ 78 then strAt binV (kind - 61).toNat else emptyS

end Go.Proofs.YtdgbmihokecmhaaGreatDoor

namespace Go.Proofs.YtdgbmihokecmhaaGreatDoor
open Go.RowKit Go.Maps Go.WideMaps
set_option linter.unusedVariables false

set_option maxHeartbeats 400000 in
theorem l1digit_any (c : Int) (w : World) : Calls Tryz.prog 70 #[.int .u8 c] w fun e w' => e = .returned (.bool (digB c)) ∧ w = w' := by
  rcases (show c < 48 ∨ 57 < c ∨ (48 ≤ c ∧ c ≤ 57) by omega) with h | h | ⟨h1, h2⟩
  · have e : digB c = false := by simp [digB]; omega
    rw [e]; clear e
    have h' : ¬ 48 ≤ c := by omega
    go_enter Tryz.func70, Tryz.ntmps70
    go_wp2
    go_ret
    exact ⟨rfl, rfl⟩
  · have e : digB c = false := by simp [digB]; omega
    rw [e]; clear e
    have h' : ¬ c ≤ 57 := by omega
    have h2 : 48 ≤ c := by omega
    go_enter Tryz.func70, Tryz.ntmps70
    go_wp2
    go_ret
    exact ⟨rfl, rfl⟩
  · have e : digB c = true := by simp [digB]; omega
    rw [e]; clear e
    go_enter Tryz.func70, Tryz.ntmps70
    go_wp2
    go_ret
    exact ⟨rfl, rfl⟩

set_option maxHeartbeats 400000 in
theorem l1letter_any (c : Int) (w : World) : Calls Tryz.prog 72 #[.int .u8 c] w fun e w' => e = .returned (.bool (lettB c)) ∧ w = w' := by
  rcases (show (97 ≤ c ∧ c ≤ 122) ∨ (65 ≤ c ∧ c ≤ 90) ∨ c = 95 ∨ c < 65 ∨ (90 < c ∧ c < 97 ∧ c ≠ 95) ∨ 122 < c by omega) with ⟨h1, h2⟩ | ⟨h1, h2⟩ | rfl | h | ⟨h1, h2, h3⟩ | h
  · have e : lettB c = true := by simp [lettB]; omega
    rw [e]; clear e
    go_enter Tryz.func72, Tryz.ntmps72
    go_wp2
    go_ret
    exact ⟨rfl, rfl⟩
  · have e : lettB c = true := by simp [lettB]; omega
    rw [e]; clear e
    have g1 : ¬ 97 ≤ c := by omega
    go_enter Tryz.func72, Tryz.ntmps72
    go_wp2
    go_ret
    exact ⟨rfl, rfl⟩
  · go_enter Tryz.func72, Tryz.ntmps72
    go_wp2
    go_ret
    exact ⟨rfl, rfl⟩
  · have e : lettB c = false := by simp [lettB]; omega
    rw [e]; clear e
    have g1 : ¬ 97 ≤ c := by omega
    have g2 : ¬ 65 ≤ c := by omega
    have g3 : (c == 95) = false := by simp; omega
    go_enter Tryz.func72, Tryz.ntmps72
    go_wp2
    go_ret
    exact ⟨rfl, rfl⟩
  · have e : lettB c = false := by simp [lettB]; omega
    rw [e]; clear e
    have g1 : ¬ 97 ≤ c := by omega
    have g2 : 65 ≤ c := by omega
    have g4 : ¬ c ≤ 90 := by omega
    have g3 : (c == 95) = false := by simp; omega
    go_enter Tryz.func72, Tryz.ntmps72
    go_wp2
    go_ret
    exact ⟨rfl, rfl⟩
  · have e : lettB c = false := by simp [lettB]; omega
    rw [e]; clear e
    have g1 : 97 ≤ c := by omega
    have g2 : ¬ c ≤ 122 := by omega
    have g4 : 65 ≤ c := by omega
    have g5 : ¬ c ≤ 90 := by omega
    have g3 : (c == 95) = false := by simp; omega
    go_enter Tryz.func72, Tryz.ntmps72
    go_wp2
    go_ret
    exact ⟨rfl, rfl⟩


def lk (s : ByteArray) (p : Nat) : Int := if p < s.size then bat s p else 0
theorem lk_in (s : ByteArray) (p : Nat) : 0 ≤ lk s p ∧ lk s p < 256 := by
  unfold lk; split
  · rename_i h; exact bat_in h
  · omega
theorem lett_lk (s : ByteArray) (p : Nat) : lettB (lk s p) = lettB (bat s p) := by
  unfold lk; split
  · rfl
  · rename_i h; rw [bat_out h]; decide
theorem dig_lk (s : ByteArray) (p : Nat) : digB (lk s p) = digB (bat s p) := by
  unfold lk; split
  · rfl
  · rename_i h; rw [bat_out h]; decide

set_option maxHeartbeats 400000 in
theorem l1look_any (s : ByteArray) (hm : s.size ≤ 1100000) (p : Nat) (w : World) : Calls Tryz.prog 102 #[.string s, .int .i64 p] w fun e w' => e = .returned (.int .u8 (lk s p)) ∧ w = w' := by
  unfold lk
  by_cases h : p < s.size
  · rw [if_pos h]
    have i1 := fun w => idx_run h w
    generalize bat s p = c at i1
    go_enter Tryz.func102, Tryz.ntmps102
    go_wp2
    go_ret
    exact ⟨rfl, rfl⟩
  · rw [if_neg h]
    have h' : ¬ (p : Int) < (s.size : Int) := by omega
    go_enter Tryz.func102, Tryz.ntmps102
    go_wp2
    go_ret
    exact ⟨rfl, rfl⟩

/-- Where letters and digits end. -/
def nmE (s : ByteArray) : Nat → Nat → Nat
  | 0, p => p
  | f + 1, p => if lettB (bat s p) = true ∨ digB (bat s p) = true then nmE s f (p + 1) else p
theorem ld_out {s : ByteArray} {p : Nat} (h : ¬ p < s.size) : ¬ (lettB (bat s p) = true ∨ digB (bat s p) = true) := by
  rw [bat_out h]; decide
theorem nmE_bd (s : ByteArray) : ∀ (f p : Nat), p ≤ s.size → p ≤ nmE s f p ∧ nmE s f p ≤ s.size
  | 0, p, h => ⟨Nat.le_refl _, h⟩
  | f + 1, p, h => by
    unfold nmE
    split
    · rename_i hx
      have h0 : p < s.size := by
        rcases Nat.lt_or_ge p s.size with h1 | h1
        · exact h1
        · exact absurd hx (ld_out (by omega))
      have := nmE_bd s f (p + 1) (by omega)
      omega
    · exact ⟨Nat.le_refl _, h⟩

set_option maxHeartbeats 1600000 in
theorem nameEnd_any (s : ByteArray) (hm : s.size ≤ 1100000) (p : Nat) (hp : p ≤ s.size) (w : World) : Calls Tryz.prog 107 #[.string s, .int .i64 p] w fun e w' => e = .returned (.int .i64 (nmE s (s.size + 1) p)) ∧ w' = w := by
  obtain ⟨R, hR⟩ : ∃ R, nmE s (s.size + 1) p = R := ⟨_, rfl⟩
  rw [hR]
  have HR : Hid (nmE s (s.size + 1) p = R) := hR
  clear hR
  go_enter Tryz.func107, Tryz.ntmps107
  go_wp2_with fail
  go_loop [1] (fun i => ∃ (k f : Nat), k ≤ s.size ∧ s.size < k + f ∧ i = .int .i64 k ∧ Hid (nmE s f k = R)) (fun i => s.size - (intOf i).toNat)
  case atStart => exact ⟨p, s.size + 1, hp, by omega, rfl, HR⟩
  case round =>
    obtain ⟨k, f, hk, hf, rfl, HF⟩ := hrel
    obtain ⟨f, rfl⟩ : ∃ g, f = g + 1 := ⟨f - 1, by omega⟩
    have hst := HF.out
    unfold nmE at hst
    by_cases hlt : k < s.size
    · have i1 := fun w => idx_run hlt w
      generalize bat s k = c at i1 hst
      have kl := fun w => isLetter_any c w
      have kd := fun w => isDigit_any c w
      by_cases h1 : lettB c = true
      · rw [if_pos (.inl h1)] at hst
        have HS : Hid (nmE s f (k + 1) = R) := hst
        clear hst
        rw [h1] at kl
        clear h1
        go_wp2_with (go_at_call 106; refine (kl _).mono ?_; rintro e w' ⟨rfl, rfl⟩)
        go_round
        case rel => exact ⟨k + 1, f, by omega, by omega, by go_num, HS⟩
        case measure => simp [intOf]; omega
      · have h1' : lettB c = false := by simpa using h1
        rw [h1'] at kl
        by_cases h2 : digB c = true
        · rw [if_pos (.inr h2)] at hst
          have HS : Hid (nmE s f (k + 1) = R) := hst
          clear hst
          rw [h2] at kd
          clear h1 h1' h2
          go_wp2_with (first | (go_at_call 106; refine (kl _).mono ?_; rintro e w' ⟨rfl, rfl⟩) | (go_at_call 90; refine (kd _).mono ?_; rintro e w' ⟨rfl, rfl⟩))
          go_round
          case rel => exact ⟨k + 1, f, by omega, by omega, by go_num, HS⟩
          case measure => simp [intOf]; omega
        · have h2' : digB c = false := by simpa using h2
          rw [if_neg (by rw [h1', h2']; simp)] at hst
          have HS : Hid (k = R) := hst
          clear hst
          rw [h2'] at kd
          clear h1 h1' h2 h2'
          go_wp2_with (first | (go_at_call 106; refine (kl _).mono ?_; rintro e w' ⟨rfl, rfl⟩) | (go_at_call 90; refine (kd _).mono ?_; rintro e w' ⟨rfl, rfl⟩))
          go_ret
          exact ⟨by rw [← HS.out]; rfl, rfl⟩
    · rw [if_neg (ld_out hlt)] at hst
      have HS : Hid (k = R) := hst
      clear hst
      have h' : ¬ (k : Int) < (s.size : Int) := by omega
      go_wp2
      go_ret
      exact ⟨by rw [← HS.out]; rfl, rfl⟩

end Go.Proofs.YtdgbmihokecmhaaGreatDoor

namespace Go.Proofs.YtdgbmihokecmhaaGreatDoor
open Go.RowKit Go.Maps Go.WideMaps
set_option linter.unusedVariables false

/-- Is this text a word? -/
def isWd (s : ByteArray) : Bool := (fnd wordV s 22 0).isSome
theorem strAt_word (k : Nat) : strAt wordV k = wordAt k := rfl
theorem fnd_some_lt (V : Array Value) (s : ByteArray) : ∀ (f k j : Nat), fnd V s f k = some j → k ≤ j ∧ j < k + f ∧ (strAt V j).toList = s.toList
  | 0, k, j, h => by simp [fnd] at h
  | f + 1, k, j, h => by
    unfold fnd at h
    split at h
    · rename_i hx
      obtain rfl := Option.some.inj h
      exact ⟨Nat.le_refl _, by omega, by simpa using hx⟩
    · have := fnd_some_lt V s f (k + 1) j h
      exact ⟨by omega, by omega, this.2.2⟩
theorem fnd_none (V : Array Value) (s : ByteArray) : ∀ (f k : Nat), fnd V s f k = none → ∀ j, k ≤ j → j < k + f → (strAt V j).toList ≠ s.toList
  | 0, k, h => fun j h1 h2 => by omega
  | f + 1, k, h => fun j h1 h2 => by
    unfold fnd at h
    split at h
    · cases h
    · rename_i hx
      rcases Nat.eq_or_lt_of_le h1 with rfl | h3
      · simpa using hx
      · exact fnd_none V s f (k + 1) h j h3 (by omega)
theorem wk_isMap {H : Type} : ∀ n, IsMap (wkD (H := H) n)
  | 0 => isMap_empty
  | n + 1 => (wk_isMap n).put _ _
theorem wk_none {H : Type} (l : List UInt8) : ∀ n, (∀ j, j < n → (wordAt j).data.toList ≠ l) → Maps.has (wkD (H := H) n) (.string l) = false
  | 0, _ => rfl
  | n + 1, h => by
    show Maps.has ((wkD n).put _ _) _ = false
    rw [has_put_other (by intro e; exact h n (by omega) (by injection e with e; exact e.symm))]
    exact wk_none l n fun j hj => h j (by omega)
theorem wk_some {H : Type} (l : List UInt8) (j : Nat) (hj : (wordAt j).data.toList = l) : ∀ n, j < n → Maps.has (wkD (H := H) n) (.string l) = true
  | 0, h => by omega
  | n + 1, h => by
    show Maps.has ((wkD n).put _ _) _ = true
    by_cases e : (wordAt n).data.toList = l
    · rw [e]; exact has_put_same (wk_isMap n) (by trivial) _
    · rw [has_put_other (by intro e'; injection e' with e'; exact e e'.symm)]
      rcases Nat.eq_or_lt_of_le (Nat.le_of_lt_succ h) with rfl | h3
      · exact absurd hj e
      · exact wk_some l j hj n h3
theorem has_word {H : Type} (s : ByteArray) : Maps.has (wkD (H := H) 22) (.string s.data.toList) = isWd s := by
  unfold isWd
  cases h : fnd wordV s 22 0 with
  | none =>
    have := fnd_none wordV s 22 0 h
    exact wk_none _ 22 fun j hj e => this j (Nat.zero_le _) (by omega) (by rw [strAt_word, ByteArray.toList_eq, ByteArray.toList_eq]; exact e)
  | some k =>
    obtain ⟨h1, h2, h3⟩ := fnd_some_lt wordV s 22 0 k h
    rw [strAt_word, ByteArray.toList_eq, ByteArray.toList_eq] at h3
    exact wk_some _ k h3 22 (by omega)
theorem word_ne : ∀ i j : Fin 22, i ≠ j → (wordAt i.val).data.toList ≠ (wordAt j.val).data.toList := by decide +kernel
theorem wk_at_gen {H : Type} (j : Nat) : ∀ n, n ≤ 22 → j < n → (wkD (H := H) n).atKey (.string (wordAt j).data.toList) (.lit (.int .i64 0)) = .lit (.int .i64 (10 + (j : Int)))
  | 0, _, h => by omega
  | n + 1, hn, h => by
    show ((wkD n).put _ _).atKey _ _ = _
    by_cases e : n = j
    · subst e; exact atKey_put_same (wk_isMap n) (by trivial) _ _
    · rw [atKey_put_other (by intro e'; injection e' with e'; exact word_ne ⟨j, by omega⟩ ⟨n, by omega⟩ (by intro e2; injection e2 with e2; exact e e2.symm) e')]
      exact wk_at_gen j n (by omega) (by omega)
theorem wk_at {H : Type} (k : Fin 22) : (wkD (H := H) 22).atKey (.string (wordAt k.val).data.toList) (.lit (.int .i64 0)) = .lit (.int .i64 (10 + (k.val : Int))) := wk_at_gen k.val 22 (by omega) k.isLt
theorem at_word {H : Type} (s : ByteArray) (k : Nat) (h : fnd wordV s 22 0 = some k) : (wkD (H := H) 22).atKey (.string s.data.toList) (.lit (.int .i64 0)) = .lit (.int .i64 (10 + (k : Int))) := by
  obtain ⟨h1, h2, h3⟩ := fnd_some_lt wordV s 22 0 k h
  rw [strAt_word, ByteArray.toList_eq, ByteArray.toList_eq] at h3
  rw [← h3]
  exact wk_at ⟨k, by omega⟩

set_option maxHeartbeats 1600000 in
/-- isName, over the map of the words. -/
theorem isName_any {H : Type} (s : ByteArray) (hm : s.size ≤ 1100000) (b : Nat) (w : World) (hown : w.ownsMap Tryz.prog 9 (plainElem (H := H) Tryz.prog 3) b 22 (wkD 22)) : Calls Tryz.prog 89 #[.string s, .map (some b)] w fun e w' => e = .returned (.bool (decide (lettB (bat s 0) = true ∧ nmE s (s.size + 1) 0 = s.size ∧ isWd s = false))) ∧ w' = w := by
  have hkey : keyOf Tryz.prog 9 (.string s) = some (.string s.data.toList) := keyOf_string_mk Tryz.underlying9 (by unfold maxLen; omega)
  by_cases h0 : 0 < s.size
  · have hne : (s.toList == []) = false := by
      have : s.toList.length = s.size := by rw [ByteArray.toList_eq]; simp
      cases hs : s.toList with
      | nil => rw [hs] at this; simp at this; omega
      | cons a l => rfl
    have i1 : ∀ w, (Instr.index 9 (.string s) (.int .i64 0)).run Tryz.prog w = .ok (.int .u8 (bat s 0)) w := fun w => idx_run h0 w
    have kl := fun w => isLetter_any (bat s 0) w
    have bd := nmE_bd s (s.size + 1) 0 (by omega)
    have kn := fun w => nameEnd_any s hm 0 (by omega) w
    generalize bat s 0 = c at i1 kl
    generalize nmE s (s.size + 1) 0 = E at kn bd
    by_cases h1 : lettB c = true
    · rw [h1] at kl
      by_cases h2 : E = s.size
      · subst h2
        have hlt : ¬ (s.size : Int) < (s.size : Int) := by omega
        obtain ⟨B, hB⟩ : ∃ B, isWd s = B := ⟨_, rfl⟩
        have hh : Maps.has (wkD (H := H) 22) (.string s.data.toList) = B := by rw [has_word, hB]
        have hr : decide (lettB c = true ∧ s.size = s.size ∧ isWd s = false) = !B := by rw [h1, hB]; cases B <;> simp
        rw [hr]; clear hr hB h1
        go_enter Tryz.func89, Tryz.ntmps89
        go_wp2_with (first | (go_at_call 106; refine (kl _).mono ?_; rintro e w' ⟨rfl, rfl⟩) | (go_at_call 107; refine (kn _).mono ?_; rintro e w' ⟨rfl, rfl⟩) | (at_lookup; refine wpList_lookup_own_ok_int _ rfl _ _ 71 rfl 9 3 .i64 kLaw Tryz.underlying71 Tryz.underlying3 (by kernel_rfl) b 22 _ rfl hown _ _ rfl hkey ?_; intro c2 hat hwc; rw [hh]))
        go_ret
        exact ⟨rfl, rfl⟩
      · have hlt : (E : Int) < (s.size : Int) := by omega
        have hr : decide (lettB c = true ∧ E = s.size ∧ isWd s = false) = false := by simp [h2]
        rw [hr]; clear hr h1
        go_enter Tryz.func89, Tryz.ntmps89
        go_wp2_with (first | (go_at_call 106; refine (kl _).mono ?_; rintro e w' ⟨rfl, rfl⟩) | (go_at_call 107; refine (kn _).mono ?_; rintro e w' ⟨rfl, rfl⟩))
        go_ret
        exact ⟨rfl, rfl⟩
    · have h1' : lettB c = false := by simpa using h1
      rw [h1'] at kl
      have hr : decide (lettB c = true ∧ E = s.size ∧ isWd s = false) = false := by simp [h1']
      rw [hr]; clear hr h1 h1'
      go_enter Tryz.func89, Tryz.ntmps89
      go_wp2_with (first | (go_at_call 106; refine (kl _).mono ?_; rintro e w' ⟨rfl, rfl⟩) | (go_at_call 107; refine (kn _).mono ?_; rintro e w' ⟨rfl, rfl⟩))
      go_ret
      exact ⟨rfl, rfl⟩
  · have hs0 : s.toList = [] := by
      have : s.toList.length = s.size := by rw [ByteArray.toList_eq]; simp
      exact List.length_eq_zero_iff.1 (by omega)
    have hne : (s.toList == []) = true := by rw [hs0]; rfl
    have hr : decide (lettB (bat s 0) = true ∧ nmE s (s.size + 1) 0 = s.size ∧ isWd s = false) = false := by rw [bat_out h0]; simp [lettB]
    rw [hr]; clear hr hs0
    go_enter Tryz.func89, Tryz.ntmps89
    go_wp2
    go_ret
    exact ⟨rfl, rfl⟩
end Go.Proofs.YtdgbmihokecmhaaGreatDoor

namespace Go.Proofs.YtdgbmihokecmhaaGreatDoor
open Go.RowKit Go.Maps Go.WideMaps
set_option linter.unusedVariables false

/-- What l1word answers at p. -/
def wdT (s : ByteArray) (p : Nat) : Value :=
  match fnd wordV (s.extract p (nmE s (s.size + 1) p)) 22 0 with
  | some k => .agg #[.int .i64 (10 + (k : Int)), .int .i64 p, .int .i64 (nmE s (s.size + 1) p), .int .i64 0, .int .i64 0, .string { data := #[] }]
  | none => .agg #[.int .i64 1, .int .i64 p, .int .i64 (nmE s (s.size + 1) p), .int .i64 0, .int .i64 0, .string (s.extract p (nmE s (s.size + 1) p))]

set_option maxRecDepth 100000 in
set_option maxHeartbeats 3200000 in
theorem l1word_any (s : ByteArray) (hm : s.size ≤ 1100000) (p : Nat) (hp : p ≤ s.size) (w : World) : Calls Tryz.prog 84 #[.string s, .agg #[.int .i64 0, .int .i64 p, .int .i64 0, .int .i64 0, .int .i64 0, .string { data := #[] }]] w fun e w' => e = .returned (.tuple #[wdT s p, .int .i64 (-1)]) ∧ Below w.heap.size w w' := by
  unfold wdT
  obtain ⟨E, hE⟩ : ∃ E, nmE s (s.size + 1) p = E := ⟨_, rfl⟩
  have bd := nmE_bd s (s.size + 1) p hp
  rw [hE] at bd ⊢
  have HE : Hid (nmE s (s.size + 1) p = E) := hE
  clear hE
  obtain ⟨R, hR⟩ : ∃ R, fnd wordV (s.extract p E) 22 0 = R := ⟨_, rfl⟩
  rw [hR]
  have HR : Hid (fnd wordV (s.extract p E) 22 0 = R) := hR
  clear hR
  have hT0 : TkAt w.heap.size ((w.alloc (.cells #[.int .i64 0, .int .i64 p, .int .i64 0, .int .i64 0, .int .i64 0, .string { data := #[] }] 136)).alloc (.cells #[.int .i64 0, .int .i64 0, .int .i64 0, .int .i64 0, .int .i64 0, .string { data := #[] }] 136)) 0 p 0 0 0 { data := #[] } := (Below.heap_alloc _ _ _ (by simp)).trans (heap_alloc_new w _)
  have hZ0 : TkAt (w.heap.size + 1) ((w.alloc (.cells #[.int .i64 0, .int .i64 p, .int .i64 0, .int .i64 0, .int .i64 0, .string { data := #[] }] 136)).alloc (.cells #[.int .i64 0, .int .i64 0, .int .i64 0, .int .i64 0, .int .i64 0, .string { data := #[] }] 136)) 0 0 0 0 0 { data := #[] } := by
    have := heap_alloc_new (w.alloc (.cells #[.int .i64 0, .int .i64 p, .int .i64 0, .int .i64 0, .int .i64 0, .string { data := #[] }] 136)) (.cells #[.int .i64 0, .int .i64 0, .int .i64 0, .int .i64 0, .int .i64 0, .string { data := #[] }] 136)
    rw [World.size_alloc] at this
    exact this
  have hB0 : Below w.heap.size w ((w.alloc (.cells #[.int .i64 0, .int .i64 p, .int .i64 0, .int .i64 0, .int .i64 0, .string { data := #[] }] 136)).alloc (.cells #[.int .i64 0, .int .i64 0, .int .i64 0, .int .i64 0, .int .i64 0, .string { data := #[] }] 136)) := (((Below.refl _ w).alloc (Nat.le_refl _) _).alloc (by simp) _)
  go_enter Tryz.func84, Tryz.ntmps84
  go_wp2_with fail
  generalize (w.alloc (.cells #[.int .i64 0, .int .i64 p, .int .i64 0, .int .i64 0, .int .i64 0, .string { data := #[] }] 136)).alloc (.cells #[.int .i64 0, .int .i64 0, .int .i64 0, .int .i64 0, .int .i64 0, .string { data := #[] }] 136) = W at hT0 hZ0 hB0
  have hsW : w.heap.size + 1 < W.heap.size := lt_of_block hZ0
  go_loop [6] (fun i => ∃ (k f : Nat), k ≤ s.size ∧ s.size < k + f ∧ i = .int .i64 k ∧ Hid (nmE s f k = E)) (fun i => s.size - (intOf i).toNat)
  case atStart => exact ⟨p, s.size + 1, hp, by omega, rfl, HE⟩
  case round =>
    obtain ⟨k, f, hk, hf, rfl, HF⟩ := hrel
    obtain ⟨f, rfl⟩ : ∃ g, f = g + 1 := ⟨f - 1, by omega⟩
    have hst := HF.out
    unfold nmE at hst
    have kk := fun w => l1look_any s hm k w
    have kl := fun w => l1letter_any (lk s k) w
    have kd := fun w => l1digit_any (lk s k) w
    have hlt : lettB (bat s k) = true ∨ digB (bat s k) = true → k < s.size := by
      intro h
      rcases Nat.lt_or_ge k s.size with h1 | h1
      · exact h1
      · exact absurd h (ld_out (by omega))
    rw [lett_lk] at kl
    rw [dig_lk] at kd
    generalize lk s k = c at kk kl kd
    generalize bat s k = c' at hst kl kd hlt
    by_cases h1 : lettB c' = true
    · rw [if_pos (.inl h1)] at hst
      have HS : Hid (nmE s f (k + 1) = E) := hst
      have hlt' := hlt (.inl h1)
      clear hst hlt
      rw [h1] at kl
      clear h1
      go_wp2_with (first | (go_at_call 102; refine (kk _).mono ?_; rintro e w' ⟨rfl, rfl⟩) | (go_at_call 72; refine (kl _).mono ?_; rintro e w' ⟨rfl, rfl⟩))
      go_round
      case rel => exact ⟨k + 1, f, by omega, by omega, by go_num, HS⟩
      case measure => simp [intOf]; omega
    · have h1' : lettB c' = false := by simpa using h1
      rw [h1'] at kl
      by_cases h2 : digB c' = true
      · rw [if_pos (.inr h2)] at hst
        have HS : Hid (nmE s f (k + 1) = E) := hst
        have hlt' := hlt (.inr h2)
        clear hst hlt
        rw [h2] at kd
        clear h1 h1' h2
        go_wp2_with (first | (go_at_call 102; refine (kk _).mono ?_; rintro e w' ⟨rfl, rfl⟩) | (go_at_call 72; refine (kl _).mono ?_; rintro e w' ⟨rfl, rfl⟩) | (go_at_call 70; refine (kd _).mono ?_; rintro e w' ⟨rfl, rfl⟩))
        go_round
        case rel => exact ⟨k + 1, f, by omega, by omega, by go_num, HS⟩
        case measure => simp [intOf]; omega
      · have h2' : digB c' = false := by simpa using h2
        rw [if_neg (by rw [h1', h2']; simp)] at hst
        rw [h2'] at kd
        clear h1 h1' h2 h2' hlt HF HE
        subst hst
        obtain ⟨t0, t1, t2, t3, t4, t5, tf⟩ := tk_cells hT0
        have hT1 := (hT0.setKind 1).setTo (k : Int)
        have hZ1 := (hZ0.other (a := ⟨w.heap.size, 0, none⟩) (by simp) (.int .i64 1)).other (a := ⟨w.heap.size, 2, none⟩) (by simp) (.int .i64 (k : Int))
        have hB1 : Below w.heap.size w ((W.setCell ⟨w.heap.size, 0, none⟩ (.int .i64 1)).setCell ⟨w.heap.size, 2, none⟩ (.int .i64 (k : Int))) := (hB0.setCell (by simp) _).setCell (by simp) _
        obtain ⟨W2, hW2⟩ : ∃ W2, (W.setCell ⟨w.heap.size, 0, none⟩ (.int .i64 1)).setCell ⟨w.heap.size, 2, none⟩ (.int .i64 (k : Int)) = W2 := ⟨_, rfl⟩
        have c1 : ((W.setCell ⟨w.heap.size, 0, none⟩ (.int .i64 1)).setCell ⟨w.heap.size, 2, none⟩ (.int .i64 (k : Int))).cell? ⟨w.heap.size, 1, none⟩ = some (.int .i64 p) := (tk_cells hT1).2.1
        rw [hW2] at hT1 hZ1 hB1
        have HW2 : Hid ((W.setCell ⟨w.heap.size, 0, none⟩ (.int .i64 1)).setCell ⟨w.heap.size, 2, none⟩ (.int .i64 (k : Int)) = W2) := hW2
        clear hW2
        go_wp2_with (first | (go_at_call 102; refine (kk _).mono ?_; rintro e w' ⟨rfl, rfl⟩) | (go_at_call 72; refine (kl _).mono ?_; rintro e w' ⟨rfl, rfl⟩) | (go_at_call 70; refine (kd _).mono ?_; rintro e w' ⟨rfl, rfl⟩))
        rw [show (W.setCell ⟨w.heap.size, 0, none⟩ (.int .i64 1)).setCell ⟨w.heap.size, 2, none⟩ (.int .i64 (k : Int)) = W2 from HW2.out]
        refine (l1words_any W2).mono ?_
        rintro e w3 ⟨rfl, hw3⟩
        have hT3 : TkAt w.heap.size w3 1 p k 0 0 { data := #[] } := by rw [hw3]; exact (Below.heap_alloc _ _ _ (lt_of_block hT1)).trans hT1
        have hZ3 : TkAt (w.heap.size + 1) w3 0 0 0 0 0 { data := #[] } := by rw [hw3]; exact (Below.heap_alloc _ _ _ (lt_of_block hZ1)).trans hZ1
        have hB3 : Below w.heap.size w w3 := by rw [hw3]; exact hB1.alloc hB1.size _
        have hblk : w3.heap[W2.heap.size]? = some (.cells wordV 9 (0, 0)) := by rw [hw3]; exact heap_alloc_new W2 _
        clear hw3 hT1 hZ1 hB1 hT0 hZ0 hB0 c1 t0 t1 t2 t3 t4 t5 tf kk kl kd
        go_wp2_with fail
        obtain ⟨t0, t1, t2, t3, t4, t5, tf⟩ := tk_cells hT3
        obtain ⟨z0, z1, z2, z3, z4, z5, zf⟩ := tk_cells hZ3
        have hx1 : w.heap.size < w3.heap.size := lt_of_block hT3
        have hx2 : w.heap.size + 1 < w3.heap.size := lt_of_block hZ3
        go_loop [34] (fun i => ∃ j : Nat, j ≤ 22 ∧ i = .int .i64 j ∧ Hid (fnd wordV (s.extract p k) (22 - j) j = R)) (fun i => 22 - (intOf i).toNat)
        case atStart => exact ⟨0, by omega, rfl, HR⟩
        case round =>
          obtain ⟨j, hj, rfl, HF⟩ := hrel
          by_cases hlt : j < 22
          · have hck : w3.cell? ⟨W2.heap.size, j, none⟩ = some (.string (strAt wordV j)) := by rw [cell_of_row _ _ _ _ _ _ hblk]; exact word_at ⟨j, hlt⟩
            have hst := HF.out
            rw [show 22 - j = (22 - (j + 1)) + 1 by omega] at hst
            unfold fnd at hst
            generalize strAt wordV j = x at hck hst
            by_cases hx : (x.toList == (s.extract p k).toList) = true
            · rw [if_pos hx] at hst
              subst hst
              go_wp2
              refine bodyPost_ret (v := .tuple #[.agg #[.int .i64 (10 + (j : Int)), .int .i64 p, .int .i64 k, .int .i64 0, .int .i64 0, .string { data := #[] }], .int .i64 (-1)]) (by simp [results, Tryz.results84, go_sem, z0, z1, z2, z3, z4, z5]) rfl ⟨rfl, ?_⟩
              iterate 7 refine Below.setCell ?_ (by simp) _
              exact hB3
            · rw [if_neg hx] at hst
              have HS : Hid (fnd wordV (s.extract p k) (22 - (j + 1)) (j + 1) = R) := hst
              have hx' : (x.toList == (s.extract p k).toList) = false := by simpa using hx
              clear hst hx
              go_wp2
              go_round
              case rel => exact ⟨j + 1, by omega, by go_num, HS⟩
              case measure => simp [intOf]; omega
          · obtain rfl : j = 22 := by omega
            have hst := HF.out
            simp only [Nat.sub_self, fnd] at hst
            subst hst
            go_wp2
            refine bodyPost_ret (v := .tuple #[.agg #[.int .i64 1, .int .i64 p, .int .i64 k, .int .i64 0, .int .i64 0, .string (s.extract p k)], .int .i64 (-1)]) (by simp [results, Tryz.results84, go_sem, z0, z1, z2, z3, z4, z5]) rfl ⟨rfl, ?_⟩
            iterate 7 refine Below.setCell ?_ (by simp) _
            exact hB3
end Go.Proofs.YtdgbmihokecmhaaGreatDoor
