import Derived.Test.YtlmkmihbbnjngaaDoorSEsc
namespace Go.Proofs.YtlmkmihbbnjngaaDoor
open Go.RowKit
set_option linter.unusedVariables false

def escI (s : ByteArray) (p : Nat) : Int × Nat × Bool :=
  if bat s p = 110 then (10, p + 1, true) else if bat s p = 116 then (9, p + 1, true) else if bat s p = 34 ∨ bat s p = 92 then (bat s p, p + 1, true) else if bat s p = 120 then hexI s (p + 1) else (0, p, false)

set_option maxHeartbeats 1600000 in
theorem escaped_any (s : ByteArray) (hm : s.size ≤ 100000) (p : Nat) (h : p ≤ s.size) (w : World) :
    Calls Tryd.prog 51 #[.string s, .int .i64 p] w fun e w' => e = .returned (vHex (escI s p)) ∧ w' = w := by
  by_cases h0 : p < s.size
  · have i1 := fun w => idx_run (s := s) (i := p) (by omega) w
    have hp0 : ((p : Int) == (s.size : Int)) = false := by simp; omega
    have n1 := bat_in (s := s) (i := p) (by omega)
    have hx := hexByte_any s hm (p + 1) (by omega)
    have e1 : ((p + 1 : Nat) : Int) = (p : Int) + 1 := by omega
    rw [e1] at hx
    unfold escI
    obtain ⟨c, hc⟩ : ∃ c, bat s p = c := ⟨_, rfl⟩
    rw [hc] at i1 n1 ⊢
    clear hc
    by_cases g1 : c = 110
    · subst g1
      go_enter Tryd.func51, Tryd.ntmps51
      go_wp2
      go_ret3
      exact ⟨rfl, rfl⟩
    rw [if_neg g1]
    have k1 : (c == 110) = false := by simp [g1]
    by_cases g2 : c = 116
    · subst g2
      go_enter Tryd.func51, Tryd.ntmps51
      go_wp2
      go_ret3
      exact ⟨rfl, rfl⟩
    rw [if_neg g2]
    have k2 : (c == 116) = false := by simp [g2]
    by_cases g3 : c = 34
    · subst g3
      go_enter Tryd.func51, Tryd.ntmps51
      go_wp2
      go_ret3
      exact ⟨rfl, rfl⟩
    have k3 : (c == 34) = false := by simp [g3]
    by_cases g4 : c = 92
    · subst g4
      go_enter Tryd.func51, Tryd.ntmps51
      go_wp2
      go_ret3
      exact ⟨rfl, rfl⟩
    have k4 : (c == 92) = false := by simp [g4]
    rw [if_neg (by omega)]
    by_cases g5 : c = 120
    · subst g5
      rw [if_pos rfl]
      clear g1 g2 g3 g4 k1 k2 k3 k4
      unfold vHex at hx ⊢
      go_enter Tryd.func51, Tryd.ntmps51
      go_wp2_with (go_at_call 60; refine (hx _).mono ?_; rintro e w' ⟨rfl, rfl⟩)
      go_ret3
      exact ⟨rfl, rfl⟩
    rw [if_neg g5]
    have k5 : (c == 120) = false := by simp [g5]
    clear g1 g2 g3 g4 g5
    go_enter Tryd.func51, Tryd.ntmps51
    go_wp2
    go_ret3
    exact ⟨rfl, rfl⟩
  · have e := bat_out (s := s) (i := p) h0
    have he : escI s p = (0, p, false) := by unfold escI; rw [e]; simp
    rw [he]
    obtain rfl : p = s.size := by omega
    clear e he
    go_enter Tryd.func51, Tryd.ntmps51
    go_wp2
    go_ret3
    exact ⟨rfl, rfl⟩

theorem hexI_bd (s : ByteArray) (p : Nat) (h : p ≤ s.size) : p ≤ (hexI s p).2.1 ∧ (hexI s p).2.1 ≤ s.size ∧ 0 ≤ (hexI s p).1 ∧ (hexI s p).1 < 256 := by
  have hneg : hexv (-1) = -1 := by decide
  have l1 := hexv_lt (bat s p)
  have l2 := hexv_lt (bat s (p + 1))
  unfold hexI
  split
  · simp; omega
  · rename_i hx
    have h0 : p < s.size := by
      rcases Nat.lt_or_ge p s.size with h | h
      · exact h
      · have e := bat_out (s := s) (i := p) (by omega); rw [e, hneg] at hx; omega
    split
    · simp; omega
    · rename_i hy
      have h1 : p + 1 < s.size := by
        rcases Nat.lt_or_ge (p + 1) s.size with h | h
        · exact h
        · have e := bat_out (s := s) (i := p + 1) (by omega); rw [e, hneg] at hy; omega
      simp; omega
theorem escI_bd (s : ByteArray) (p : Nat) (h : p ≤ s.size) : p ≤ (escI s p).2.1 ∧ (escI s p).2.1 ≤ s.size ∧ 0 ≤ (escI s p).1 ∧ (escI s p).1 < 256 := by
  unfold escI
  by_cases h0 : p < s.size
  · have n1 := bat_in h0
    split
    · simp; omega
    split
    · simp; omega
    split
    · simp; omega
    split
    · have := hexI_bd s (p + 1) (by omega); omega
    · simp; omega
  · have e := bat_out (s := s) (i := p) h0
    rw [e]; simp; omega
theorem escI_pos (s : ByteArray) (p : Nat) (h : p ≤ s.size) (hk : (escI s p).2.2 = true) : p + 1 ≤ (escI s p).2.1 := by
  revert hk
  unfold escI
  split
  · simp
  split
  · simp
  split
  · simp
  split
  · rename_i e
    have h0 : p < s.size := by
      rcases Nat.lt_or_ge p s.size with h | h
      · exact h
      · have e' := bat_out (s := s) (i := p) (by omega); rw [e'] at e; omega
    intro _
    exact (hexI_bd s (p + 1) (by omega)).1
  · simp
end Go.Proofs.YtlmkmihbbnjngaaDoor
