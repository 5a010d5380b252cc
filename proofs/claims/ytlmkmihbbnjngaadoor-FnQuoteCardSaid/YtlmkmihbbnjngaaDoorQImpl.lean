import Derived.Test.YtlmkmihbbnjngaaDoorQHex
import Derived.Laws.BytesString
namespace Go.Proofs.YtlmkmihbbnjngaaDoor
open Go.RowKit

/-- Bytes, given as numbers, as a string. -/
def strI (l : List Int) : ByteArray := l.foldl (fun r n => r.push (UInt8.ofNat n.toNat)) ByteArray.empty

theorem conv_own {w : World} {base g n cap : Nat} {l : List Int} (hown : w.ownsRow base 5 1 (.slice (some ⟨g, 0, none⟩) n cap) n (B8 l)) :
    (convert 22 9 (.slice (some ⟨g, 0, none⟩) n cap)).run Tryd.prog w = .ok (.string (strI l)) w := by
  rw [run_convert_bytes_string w 22 9 5 _ _ _ Tryd.underlying22 Tryd.underlying5 Tryd.underlying9]
  have hn := own_len hown
  refine run_bytesToString w _ n cap l ?_
  rcases hown.2 with ⟨h, _⟩ | ⟨g', cap', cur, hv, _, hh, _, _, hsz, htk⟩
  · cases h
  · cases hv
    have := run_loadCells_list (P := Tryd.prog) w ⟨g, 0, none⟩ (B8 l) (fun j u hj => by
      refine World.news_of_block hh j u ?_
      rw [← htk] at hj
      rw [List.getElem?_take] at hj
      split at hj
      · exact hj
      · cases hj)
    rw [B8_len, hn] at this
    exact this

theorem own_first (w : World) (c : Int) : (w.alloc (.cells #[.int .u8 c] 5)).ownsRow w.heap.size 5 1 (.slice (some ⟨w.heap.size, 0, none⟩) 1 1) 1 (B8 [c]) :=
  ⟨rfl, .inr ⟨w.heap.size, 1, #[.int .u8 c], rfl, Nat.le_refl _, heap_alloc_new w _, Nat.le_refl _, by unfold maxLen; omega, rfl, rfl⟩⟩

theorem esc_len (c : Int) : (esc c).length ≤ 4 := by
  unfold esc; split
  · decide
  split
  · decide
  split
  · simp
  split <;> simp

/-- What stands behind the first k bytes. -/
def qt (s : ByteArray) (k : Nat) : List Int := 34 :: (s.data.toList.take k).flatMap fun b => esc (b.toNat : Int)
theorem qt_zero (s : ByteArray) : qt s 0 = [34] := rfl
theorem qt_succ (s : ByteArray) (k : Nat) (h : k < s.size) : qt s (k + 1) = qt s k ++ esc (s[k].toNat : Int) := by
  unfold qt
  rw [List.take_succ_eq_append_getElem (by simpa using h)]
  simp only [List.flatMap_append, List.flatMap_cons, List.flatMap_nil, List.append_nil, List.cons_append]
  rfl
theorem qt_len (s : ByteArray) : ∀ k, k ≤ s.size → (qt s k).length ≤ 1 + 4 * k
  | 0, _ => by simp [qt]
  | k + 1, h => by
    have := qt_len s k (by omega)
    have h4 := esc_len (s[k].toNat : Int)
    rw [qt_succ s k (by omega), List.length_append]
    omega
def quoteI (s : ByteArray) : List Int := qt s s.size ++ [34]

set_option maxHeartbeats 800000 in
theorem implQuote (s : ByteArray) (hs : s.size ≤ 4000) (w : World) :
    Calls Tryd.prog 6 #[.string s] w fun e w' => e = .returned (.string (strI (quoteI s))) ∧ Below w.heap.size w w' := by
  go_enter Tryd.func6, Tryd.ntmps6
  go_wp2_with fail
  go_loopw [3, 11] (fun v i wr => ∃ k n : Nat, k ≤ s.size ∧ i = .int .i64 k ∧ wr.ownsRow w.heap.size 5 1 v n (B8 (qt s k)) ∧ Below w.heap.size w wr) (fun _ i _ => s.size - (intOf i).toNat)
  case atStart => exact ⟨0, 1, Nat.zero_le _, rfl, own_first w 34, (Below.refl _ _).alloc (Nat.le_refl _) _⟩
  case round =>
    obtain ⟨k, n, hk, rfl, hown, hbel⟩ := hrel
    have hlen := own_len hown
    have hql := qt_len s k hk
    have hn : n ≤ 20000 := by omega
    clear hlen hql
    by_cases hlt : k < s.size
    · have hsn : Hid (qt s (k + 1) = qt s k ++ esc (s[k].toNat : Int)) := qt_succ s k hlt
      have hbyte : (s[k].toNat : Int) < 256 := by have := s[k].toNat_lt; omega
      go_wp2_with (go_at_call 15; refine (el_any _ n w.heap.size (qt s k) _ (by omega) (by omega) _ hown hbel.size (by omega)).mono ?_; rintro e w' ⟨g, cap, rfl, hown1, hb1⟩)
      go_roundw
      case rel => exact ⟨k + 1, _, by omega, by go_num, by rw [hsn.out]; exact hown1, hbel.trans hb1⟩
      case measure => simp [intOf]; omega
    · have hk' : k = s.size := by omega
      subst hk'
      go_wp2_with (at_builtin; refine ap_law rfl (.tmp 20) (.tmp 21) rfl w.heap.size _ n (qt s s.size) rfl hown hbel.size (by omega) [34] 1 rfl (by decide) (by decide) _ rfl rfl ?_; intro g cap w1 hown1 hb1; have kc := conv_own hown1)
      go_ret
      exact ⟨rfl, hbel.trans hb1⟩
set_option maxHeartbeats 400000 in
theorem impl_no (s : ByteArray) (hs : 4000 < s.size) (hm : s.size ≤ 1048576) (w : World) :
    Calls Tryd.prog 6 #[.string s] w fun e w' => e = .returned (.string ⟨#[]⟩) ∧ w' = w := by
  go_enter Tryd.func6, Tryd.ntmps6
  go_wp2
  go_ret
  exact ⟨rfl, rfl⟩

end Go.Proofs.YtlmkmihbbnjngaaDoor
