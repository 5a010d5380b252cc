import Derived.Test.YtpllcogpohcbiaaDoorRScan
import Derived.Test.YtpllcogpohcbiaaDoorPQuote
namespace Go.Proofs.YtpllcogpohcbiaaDoor
open Go.RowKit
set_option linter.unusedVariables false

theorem tok_cell {w : World} {base g cap : Nat} {xs : List Value} (h : w.ownsRow base 30 6 (.slice (some ⟨g, 0, none⟩) 1 cap) 1 xs) (j : Nat) (u : Value) (hu : xs[j]? = some u) : w.cell? ⟨g, j, none⟩ = some u := by
  have := h.cells (g := g) rfl j u hu
  have hadd : (⟨g, 0, none⟩ : Addr).add j = ⟨g, j, none⟩ := by unfold Addr.add; split <;> simp_all
  rw [hadd] at this
  exact this

set_option maxRecDepth 100000 in
set_option maxHeartbeats 3200000 in
theorem quote_walk (w : World) (a0 : Option Addr) (len cap : Nat) (hcode : len ≤ 1048576 → Code w.heap.size w a0 len) (hl63 : len ≤ 9223372036854775807) (fr : Nat × Nat) (tt : TypeId) (hG : w.heap[0]? = some (.cells wordV tt fr)) :
    Calls Tryd.prog 3 #[.slice a0 len cap] w fun e w' => e = .returned (.bool true) ∧ Below w.heap.size w w' := by
  by_cases hlen : len ≤ 1048576
  · have hc := hcode hlen
    clear hcode
    go_enter Tryd.func3, Tryd.ntmps3
    go_wp2_with (go_at_call 6; refine (draw_any w a0 len cap hlen hc).mono ?_; rintro e w1 ⟨s, hs, rfl, hb1⟩; refine Hid.out ?_)
    refine hidI ?_
    by_cases h4 : 4000 < s.size
    · go_wp2_with (go_at_call 7; refine (impl_no s h4 (by omega) _).mono ?_; rintro e w2 ⟨rfl, rfl⟩)
      go_ret
      exact ⟨rfl, hb1⟩
    · have hq := strI_size (quoteI s)
      have hql := quote_len s
      have hqt := qt_len s s.size (Nat.le_refl _)
      have hrd := rd_quote s s.size 0 ((strI (quoteI s)).size + 1) (by omega) (by simp [qt]; omega)
      have h34 := bat_open s
      have hin : ∀ i, i < (strI (quoteI s)).size → 32 ≤ bat (strI (quoteI s)) i ∧ bat (strI (quoteI s)) i ≤ 126 := by
        intro i hi
        rw [bat_strI _ (fun x hx => by have := quote_in s x hx; omega), List.getElem?_eq_getElem (by omega)]
        exact quote_in s _ (List.getElem_mem _)
      have hsb := strI_bytes s
      have kq := implQuote s (by omega)
      generalize strI (quoteI s) = q at *
      have hq0 : 0 < q.size := by omega
      have hqm : q.size ≤ 65536 := by omega
      have hrd' : rdStr q (q.size + 1) 1 [] = (true, q.size, bytesI s) := hrd
      have HQ : Hid (strI (bytesI s) = s) := hsb
      clear hrd hsb hq hql hqt
      go_wp2_with (go_at_call 7; refine (kq _).mono ?_; rintro e w2 ⟨rfl, hb2⟩)
      go_loop [5] (fun i => ∃ k : Nat, k ≤ q.size ∧ i = .int .i64 k) (fun i => q.size - (intOf i).toNat)
      case atStart => exact ⟨0, by omega, rfl⟩
      case round =>
        obtain ⟨k, hk, rfl⟩ := hrel
        by_cases hlt : k < q.size
        · have i1 := fun w => idx_run hlt w
          have hbd := hin k hlt
          obtain ⟨c, hcc⟩ : ∃ c, bat q k = c := ⟨_, rfl⟩
          rw [hcc] at i1 hbd
          clear hcc
          have n1 : ¬ c < 32 := by omega
          have n2 : ¬ 126 < c := by omega
          go_wp2
          go_round
          case rel => exact ⟨k + 1, by omega, by go_num⟩
          case measure => simp [intOf]; omega
        · have hbw : Below w.heap.size w w2 := hb1.trans (hb2.mono hb1.size)
          have hG2 := (hbw.block _ (lt_of_block hG)).trans hG
          have hbws := hbw.size
          go_wp2_with (go_at_call 8; refine (scan_one q hqm (bytesI s) h34 hq0 hrd' _ fr tt hG2).mono ?_; rintro e w3 ⟨g, cp, rfl, hown, hb3⟩; refine Hid.out ?_)
          refine hidI ?_
          rw [HQ.out] at hown
          have hbd3 := hb3.size
          have k0 := tok_cell hown 0 _ rfl
          have k2 := tok_cell hown 2 _ rfl
          have k5 := tok_cell hown 5 _ rfl
          have hg : g < w3.heap.size := World.block_lt_of_cell? w3 _ k0
          go_wp2
          go_ret
          exact ⟨rfl, (hbw.trans (hb3.mono hbws)).alloc (by omega) _⟩
  · go_enter Tryd.func3, Tryd.ntmps3
    go_wp2
    go_ret
    exact ⟨rfl, Below.refl _ _⟩
end Go.Proofs.YtpllcogpohcbiaaDoor
