import Derived.Test.YtlmkmihbbnjngaaDoorZScan
import Derived.Test.YtlmkmihbbnjngaaDoorDStr
import Derived.Test.YtlmkmihbbnjngaaDoorPQuote
namespace Go.Proofs.YtlmkmihbbnjngaaDoor
open Go.RowKit
set_option linter.unusedVariables false

theorem tok_cell {w : World} {base g cap : Nat} {xs : List Value} (h : w.ownsRow base 30 6 (.slice (some ⟨g, 0, none⟩) 1 cap) 1 xs) (j : Nat) (u : Value) (hu : xs[j]? = some u) : w.cell? ⟨g, j, none⟩ = some u := by
  have := h.cells (g := g) rfl j u hu
  have hadd : (⟨g, 0, none⟩ : Addr).add j = ⟨g, j, none⟩ := by unfold Addr.add; split <;> simp_all
  rw [hadd] at this
  exact this

/-- A text that is one string is one token. -/
theorem scn_one (s : ByteArray) (c : List Int) (h34 : bat s 0 = 34) (hl : 0 < s.size) (hrd : rdStr s (s.size + 1) 1 [] = (true, s.size, c)) : scn s (s.size + 1) 0 1 = (true, 0, [⟨4, 0, (s.size : Nat), 1, 0, strI c⟩]) := by
  have hb : blk s (s.size + 1) 0 = 0 := blk_tok s 0 (by rw [h34]; decide) (by rw [h34]; intro h; exact absurd h.1 (by decide))
  have hr : rdI s 0 = ⟨true, s.size, 0, 4, 0, strI c⟩ := by
    unfold rdI
    rw [h34, if_neg (by decide), if_neg (by decide), if_pos rfl, show 0 + 1 = 1 from rfl, hrd, if_pos rfl]
  have he : ∀ (f : Nat) (l : Int), 0 < f → scn s f s.size l = (true, 0, []) := by
    intro f l hf
    obtain ⟨f, rfl⟩ : ∃ g, f = g + 1 := ⟨f - 1, by omega⟩
    rw [scn, blk_end s _ (Nat.le_refl _), if_pos (Nat.le_refl _)]
  rw [scn, hb, if_neg (by omega), hr, if_pos rfl, he _ _ hl]
  rfl
theorem scR_one (s : ByteArray) (hm : s.size ≤ 65536) (c : List Int) (h34 : bat s 0 = 34) (hl : 0 < s.size) (hrd : rdStr s (s.size + 1) 1 [] = (true, s.size, c)) : scR s = (true, 0, [⟨4, 0, (s.size : Nat), 1, 0, strI c⟩]) := by
  unfold scR
  rw [if_neg (by omega), scn_one s c h34 hl hrd]
theorem scan_str (s : ByteArray) (hm : s.size ≤ 65536) (c : List Int) (h34 : bat s 0 = 34) (hlen : 0 < s.size) (hrd : rdStr s (s.size + 1) 1 [] = (true, s.size, c)) (w : World) (hL : Lay w) (h9 : 9 ≤ w.heap.size) :
    Calls Tryd.prog 7 #[.string s] w fun e w' => ∃ g cap, e = .returned (.agg #[.bool true, .int .i64 0, .slice (some ⟨g, 0, none⟩) 1 cap]) ∧ w'.ownsRow w.heap.size 30 6 (.slice (some ⟨g, 0, none⟩) 1 cap) 1 [.int .i64 4, .int .i64 0, .int .i64 (s.size : Int), .int .i64 1, .int .i64 0, .string (strI c)] ∧ Below w.heap.size w w' := by
  have h := scan_any s w hL h9
  rw [scR_one s hm c h34 hlen hrd] at h
  refine h.mono ?_
  rintro e w' ⟨v, rfl, ho, hb⟩
  have ho' : w'.ownsRow w.heap.size 30 6 v 1 [.int .i64 4, .int .i64 0, .int .i64 (s.size : Int), .int .i64 1, .int .i64 0, .string (strI c)] := ho
  obtain ⟨g, cap, rfl⟩ := ownsRow_succ ho'
  exact ⟨g, cap, rfl, ho', hb⟩

set_option maxRecDepth 100000 in
set_option maxHeartbeats 3200000 in
theorem quote_walk (w : World) (a0 : Option Addr) (len cap : Nat) (hcode : len ≤ 1048576 → Code w.heap.size w a0 len) (hl63 : len ≤ 9223372036854775807) (hL : Lay w) (h9 : 9 ≤ w.heap.size) :
    Calls Tryd.prog 3 #[.slice a0 len cap] w fun e w' => e = .returned (.bool true) ∧ Below w.heap.size w w' := by
  by_cases hlen : len ≤ 1048576
  · have hc := hcode hlen
    clear hcode
    go_enter Tryd.func3, Tryd.ntmps3
    go_wp2_with (go_at_call 5; refine (draw_any w a0 len cap hlen hc).mono ?_; rintro e w1 ⟨s, hs, rfl, hb1⟩; refine Hid.out ?_)
    refine hidI ?_
    by_cases h4 : 4000 < s.size
    · go_wp2_with (go_at_call 6; refine (impl_no s h4 (by omega) _).mono ?_; rintro e w2 ⟨rfl, rfl⟩)
      go_ret
      exact ⟨rfl, hb1⟩
    · have hq := strI_size (quoteI s)
      have hql := quote_len s
      have hqt := qt_len s s.size (Nat.le_refl _)
      have hrd := rd_quote s s.size 0 ((strI (quoteI s)).size + 1) (by omega) (by simp [qt]; omega)
      have h34 := bat_open s
      have hin : ∀ i, i < (strI (quoteI s)).size → 32 ≤ bat (strI (quoteI s)) i ∧ bat (strI (quoteI s)) i ≤ 126 := by
        intro i hi
        rw [bat_strI _ (fun x hx => by have := quote_in s x hx; omega), List.getElem?_eq_getElem (by omega)]
        exact quote_in s _ (List.getElem_mem _)
      have hsb := strI_bytes s
      have kq := implQuote s (by omega)
      generalize strI (quoteI s) = q at *
      have hq0 : 0 < q.size := by omega
      have hqm : q.size ≤ 65536 := by omega
      have hrd' : rdStr q (q.size + 1) 1 [] = (true, q.size, bytesI s) := hrd
      have HQ : Hid (strI (bytesI s) = s) := hsb
      clear hrd hsb hq hql hqt
      go_wp2_with (go_at_call 6; refine (kq _).mono ?_; rintro e w2 ⟨rfl, hb2⟩)
      go_loop [5] (fun i => ∃ k : Nat, k ≤ q.size ∧ i = .int .i64 k) (fun i => q.size - (intOf i).toNat)
      case atStart => exact ⟨0, by omega, rfl⟩
      case round =>
        obtain ⟨k, hk, rfl⟩ := hrel
        by_cases hlt : k < q.size
        · have i1 := fun w => idx_run hlt w
          have hbd := hin k hlt
          obtain ⟨c, hcc⟩ : ∃ c, bat q k = c := ⟨_, rfl⟩
          rw [hcc] at i1 hbd
          clear hcc
          have n1 : ¬ c < 32 := by omega
          have n2 : ¬ 126 < c := by omega
          go_wp2
          go_round
          case rel => exact ⟨k + 1, by omega, by go_num⟩
          case measure => simp [intOf]; omega
        · have hbw : Below w.heap.size w w2 := hb1.trans (hb2.mono hb1.size)
          have hbws := hbw.size
          have hL2 := hL.below hbw (Nat.le_refl _)
          have h92 : 9 ≤ w2.heap.size := by omega
          go_wp2_with (go_at_call 7; refine (scan_str q hqm (bytesI s) h34 hq0 hrd' _ hL2 h92).mono ?_; rintro e w3 ⟨g, cp, rfl, hown, hb3⟩; refine Hid.out ?_)
          refine hidI ?_
          rw [HQ.out] at hown
          have hbd3 := hb3.size
          have k0 := tok_cell hown 0 _ rfl
          have k2 := tok_cell hown 2 _ rfl
          have k5 := tok_cell hown 5 _ rfl
          have hg : g < w3.heap.size := World.block_lt_of_cell? w3 _ k0
          go_wp2
          go_ret
          exact ⟨rfl, (hbw.trans (hb3.mono hbws)).alloc (by omega) _⟩
  · go_enter Tryd.func3, Tryd.ntmps3
    go_wp2
    go_ret
    exact ⟨rfl, Below.refl _ _⟩
end Go.Proofs.YtlmkmihbbnjngaaDoor
