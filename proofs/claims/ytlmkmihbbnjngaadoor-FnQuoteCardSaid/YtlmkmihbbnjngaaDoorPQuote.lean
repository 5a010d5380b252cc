import Derived.Test.YtlmkmihbbnjngaaDoorSStr
import Derived.Laws.IdiomStrings
namespace Go.Proofs.YtlmkmihbbnjngaaDoor
open Go.RowKit
set_option linter.unusedVariables false

theorem strI_fold_data (l : List Int) : ∀ r : ByteArray, (l.foldl (fun r n => r.push (UInt8.ofNat n.toNat)) r).data.toList = r.data.toList ++ l.map (fun n => UInt8.ofNat n.toNat) := by
  induction l with
  | nil => intro r; simp
  | cons a l ih => intro r; simp only [List.foldl_cons, List.map_cons]; rw [ih]; simp [ByteArray.push]
theorem strI_data (l : List Int) : (strI l).data.toList = l.map (fun n => UInt8.ofNat n.toNat) := by
  unfold strI; rw [strI_fold_data, show ByteArray.empty.data.toList = [] from rfl, List.nil_append]
theorem bat_listQ (s : ByteArray) (i : Nat) : bat s i = ((s.data.toList[i]?).map (fun b => (b.toNat : Int))).getD (-1) := by
  unfold bat
  by_cases h : i < s.size
  · rw [dif_pos h, List.getElem?_eq_getElem (by simpa using h)]; rfl
  · rw [dif_neg h, List.getElem?_eq_none (by simpa using h)]; rfl
theorem bat_strI (l : List Int) (h : ∀ x ∈ l, 0 ≤ x ∧ x < 256) (i : Nat) : bat (strI l) i = (l[i]?).getD (-1) := by
  rw [bat_listQ, strI_data, List.getElem?_map, Option.map_map]
  by_cases hi : i < l.length
  · rw [List.getElem?_eq_getElem hi]
    have := h _ (List.getElem_mem hi)
    simp only [Option.map_some, Option.getD_some, Function.comp]
    rw [UInt8.toNat_ofNat']
    omega
  · rw [List.getElem?_eq_none (by omega)]; rfl

def bytesI (s : ByteArray) : List Int := s.data.toList.map fun b => (b.toNat : Int)
theorem strI_bytes (s : ByteArray) : strI (bytesI s) = s := by
  apply ByteArray.ext
  apply Array.toList_inj.1
  rw [strI_data]
  unfold bytesI
  rw [List.map_map]
  conv => rhs; rw [← List.map_id s.data.toList]
  apply List.map_congr_left
  intro b _
  simp
theorem bytesI_len (s : ByteArray) : (bytesI s).length = s.size := by simp [bytesI]
theorem bytesI_succ (s : ByteArray) (k : Nat) (h : k < s.size) : (bytesI s).take (k + 1) = (bytesI s).take k ++ [(s[k].toNat : Int)] := by
  have hl : k < (bytesI s).length := by rw [bytesI_len]; exact h
  rw [List.take_succ_eq_append_getElem hl]
  congr 2
  simp [bytesI]
  rfl

theorem hexd_in (d : Int) (h0 : 0 ≤ d) (h1 : d < 16) : 32 ≤ hexd d ∧ hexd d ≤ 126 := by unfold hexd; split <;> omega
theorem esc_in (c : Int) (h0 : 0 ≤ c) (h1 : c < 256) : ∀ x ∈ esc c, 32 ≤ x ∧ x ≤ 126 := by
  unfold esc
  split
  · simp
  split
  · simp
  split
  · rename_i h; simp; omega
  split
  · have a := hexd_in (c / 16) (by omega) (by omega)
    have b := hexd_in (c % 16) (by omega) (by omega)
    simp; omega
  · simp; omega
theorem byte_bd (s : ByteArray) (k : Nat) (h : k < s.size) : 0 ≤ (s[k].toNat : Int) ∧ (s[k].toNat : Int) < 256 := by have := s[k].toNat_lt; omega
theorem qt_in (s : ByteArray) : ∀ k, k ≤ s.size → ∀ x ∈ qt s k, 32 ≤ x ∧ x ≤ 126
  | 0, _ => by simp [qt]
  | k + 1, h => by
    intro x hx
    rw [qt_succ s k (by omega), List.mem_append] at hx
    rcases hx with hx | hx
    · exact qt_in s k (by omega) x hx
    · exact esc_in _ (byte_bd s k (by omega)).1 (byte_bd s k (by omega)).2 x hx
theorem quote_in (s : ByteArray) : ∀ x ∈ quoteI s, 32 ≤ x ∧ x ≤ 126 := by
  intro x hx
  unfold quoteI at hx
  rw [List.mem_append] at hx
  rcases hx with hx | hx
  · exact qt_in s s.size (Nat.le_refl _) x hx
  · simp at hx; omega
theorem qt_split (s : ByteArray) (k : Nat) : ∀ n, k + n ≤ s.size → ∃ tl, qt s (k + n) = qt s k ++ tl
  | 0, _ => ⟨[], by simp⟩
  | n + 1, h => by
    obtain ⟨tl, ht⟩ := qt_split s k n (by omega)
    exact ⟨tl ++ esc (s[k + n].toNat : Int), by rw [show k + (n + 1) = (k + n) + 1 by omega, qt_succ s (k + n) (by omega), ht, List.append_assoc]⟩
theorem quote_at (s : ByteArray) (k : Nat) (h : k < s.size) : ∃ tl, quoteI s = qt s k ++ (esc (s[k].toNat : Int) ++ tl) := by
  obtain ⟨tl, ht⟩ := qt_split s (k + 1) (s.size - (k + 1)) (by omega)
  rw [show k + 1 + (s.size - (k + 1)) = s.size by omega, qt_succ s k h] at ht
  exact ⟨tl ++ [34], by unfold quoteI; rw [ht]; simp⟩
theorem bat_quote (s : ByteArray) (k j : Nat) (h : k < s.size) (hj : j < (esc (s[k].toNat : Int)).length) : bat (strI (quoteI s)) ((qt s k).length + j) = (esc (s[k].toNat : Int))[j] := by
  rw [bat_strI _ (fun x hx => by have := quote_in s x hx; omega)]
  obtain ⟨tl, ht⟩ := quote_at s k h
  rw [ht, List.getElem?_append_right (by omega), show (qt s k).length + j - (qt s k).length = j by omega, List.getElem?_append_left hj, List.getElem?_eq_getElem hj]
  rfl
theorem bat_close (s : ByteArray) : bat (strI (quoteI s)) (qt s s.size).length = 34 := by
  rw [bat_strI _ (fun x hx => by have := quote_in s x hx; omega)]
  unfold quoteI
  rw [List.getElem?_append_right (by omega)]
  simp
theorem bat_open (s : ByteArray) : bat (strI (quoteI s)) 0 = 34 := by
  rw [bat_strI _ (fun x hx => by have := quote_in s x hx; omega)]
  unfold quoteI qt
  simp
theorem quote_len (s : ByteArray) : (quoteI s).length = (qt s s.size).length + 1 := by unfold quoteI; simp

theorem hexv_hexd : ∀ d : Fin 16, hexv (hexd (d.val : Int)) = (d.val : Int) := by decide
theorem hexv_hexd' (d : Int) (h0 : 0 ≤ d) (h1 : d < 16) : hexv (hexd d) = d := by
  have := hexv_hexd ⟨d.toNat, by omega⟩
  have e : ((d.toNat : Nat) : Int) = d := by omega
  simp only [e] at this
  exact this

theorem rd_quote (s : ByteArray) : ∀ (n k f : Nat), k + n = s.size → (strI (quoteI s)).size < (qt s k).length + f →
    rdStr (strI (quoteI s)) f (qt s k).length ((bytesI s).take k) = (true, (strI (quoteI s)).size, bytesI s) := by
  have hsz : (strI (quoteI s)).size = (qt s s.size).length + 1 := by rw [strI_size, quote_len]
  intro n
  induction n with
  | zero =>
    intro k f hk hf
    obtain rfl : k = s.size := by omega
    obtain ⟨f, rfl⟩ : ∃ g, f = g + 1 := ⟨f - 1, by omega⟩
    unfold rdStr
    rw [if_neg (by omega), bat_close, if_pos rfl, hsz, List.take_of_length_le (by rw [bytesI_len]; omega)]
  | succ n ih =>
    intro k f hk hf
    have hlt : k < s.size := by omega
    have hb := byte_bd s k hlt
    have hsucc := qt_succ s k hlt
    have htk := bytesI_succ s k hlt
    have hbat := fun j hj => bat_quote s k j hlt hj
    have hle : (qt s (k + 1)).length ≤ (qt s s.size).length := by
      obtain ⟨tl, ht⟩ := qt_split s (k + 1) n (by omega)
      rw [show k + 1 + n = s.size by omega] at ht
      rw [ht]; simp
    have hrec := fun f' hf' => ih (k + 1) f' (by omega) hf'
    rw [htk] at hrec
    generalize (s[k].toNat : Int) = c at *
    have hlen : (qt s (k + 1)).length = (qt s k).length + (esc c).length := by rw [hsucc]; simp
    generalize hq : strI (quoteI s) = q at *
    generalize hP : (qt s k).length = P at *
    generalize hA : (bytesI s).take k = acc at *
    obtain ⟨f, rfl⟩ : ∃ g, f = g + 1 := ⟨f - 1, by omega⟩
    rw [hlen] at hrec hle
    unfold rdStr
    rw [if_neg (by omega)]
    by_cases e1 : c = 10
    · subst e1
      have b0 : bat q P = 92 := hbat 0 (by decide)
      have b1 : bat q (P + 1) = 110 := hbat 1 (by decide)
      have he : escI q (P + 1) = (10, P + 1 + 1, true) := by unfold escI; rw [b1]; rfl
      rw [b0, if_neg (by decide), if_neg (by decide), if_pos rfl, he, if_pos rfl]
      exact hrec f (by have : (esc 10).length = 2 := rfl; omega)
    by_cases e2 : c = 9
    · subst e2
      have b0 : bat q P = 92 := hbat 0 (by decide)
      have b1 : bat q (P + 1) = 116 := hbat 1 (by decide)
      have he : escI q (P + 1) = (9, P + 1 + 1, true) := by unfold escI; rw [b1]; rfl
      rw [b0, if_neg (by decide), if_neg (by decide), if_pos rfl, he, if_pos rfl]
      exact hrec f (by have : (esc 9).length = 2 := rfl; omega)
    by_cases e3 : c = 34 ∨ c = 92
    · have ee : esc c = [92, c] := by unfold esc; rw [if_neg e1, if_neg e2, if_pos e3]
      rw [ee] at hbat hrec
      have b0 : bat q P = 92 := hbat 0 (by simp)
      have b1 : bat q (P + 1) = c := hbat 1 (by simp)
      have he : escI q (P + 1) = (c, P + 1 + 1, true) := by unfold escI; rw [b1, if_neg (by omega), if_neg (by omega), if_pos e3]
      rw [b0, if_neg (by decide), if_neg (by decide), if_pos rfl, he, if_pos rfl]
      exact hrec f (by simp; omega)
    by_cases e4 : c < 32 ∨ 126 < c
    · have ee : esc c = [92, 120, hexd (c / 16), hexd (c % 16)] := by unfold esc; rw [if_neg e1, if_neg e2, if_neg e3, if_pos e4]
      rw [ee] at hbat hrec
      have b0 : bat q P = 92 := hbat 0 (by simp)
      have b1 : bat q (P + 1) = 120 := hbat 1 (by simp)
      have b2 : bat q (P + 1 + 1) = hexd (c / 16) := hbat 2 (by simp)
      have b3 : bat q (P + 1 + 1 + 1) = hexd (c % 16) := hbat 3 (by simp)
      have v1 := hexv_hexd' (c / 16) (by omega) (by omega)
      have v2 := hexv_hexd' (c % 16) (by omega) (by omega)
      have hx : hexI q (P + 1 + 1) = (c, P + 1 + 1 + 1 + 1, true) := by
        unfold hexI
        rw [b2, b3, v1, v2, if_neg (by omega), if_neg (by omega)]
        congr 1; omega
      have he : escI q (P + 1) = (c, P + 1 + 1 + 1 + 1, true) := by unfold escI; rw [b1, if_neg (by decide), if_neg (by decide), if_neg (by decide), if_pos rfl, hx]
      rw [b0, if_neg (by decide), if_neg (by decide), if_pos rfl, he, if_pos rfl]
      exact hrec f (by simp; omega)
    · have ee : esc c = [c] := by unfold esc; rw [if_neg e1, if_neg e2, if_neg e3, if_neg e4]
      rw [ee] at hbat hrec
      have b0 : bat q P = c := hbat 0 (by simp)
      rw [b0, if_neg (by omega), if_neg (by omega), if_neg (by omega)]
      exact hrec f (by simp; omega)
end Go.Proofs.YtlmkmihbbnjngaaDoor
