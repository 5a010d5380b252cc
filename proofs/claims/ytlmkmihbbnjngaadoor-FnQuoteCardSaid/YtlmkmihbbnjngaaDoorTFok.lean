import Derived.Test.YtlmkmihbbnjngaaDoorTL1r
namespace Go.Proofs.YtlmkmihbbnjngaaDoor
open Go.RowKit Go.Maps Go.WideMaps
set_option linter.unusedVariables false

theorem dec_flt (q : ByteArray) (hd : digB (bat q 0) = true) (hN : nEx q (nA1 q (nA0 q 0)) = (q.size, true)) : decI q = none ↔ (nKd q 0 = true ∨ dcS q 0 q.size = none) := by
  cases hk : nKd q 0 with
  | false =>
    obtain ⟨h1, h2⟩ := dec_all q 0 hd hk
    have e : nA0 q 0 = q.size := by rw [hN] at h1; exact (Prod.mk.inj h1).1.symm
    rw [decI_dig q (dig_lt hd) (fun i hi => h2 i (by omega) (by omega))]
    simp
  | true =>
    simp only [true_or, iff_true]
    unfold nKd at hk
    rcases of_decide_eq_true hk with h | h
    · exact decI_bad q hd _ (lt_of_bat h.1 (by omega)) (by rw [h.1]; decide)
    · exact decI_bad q hd _ (lt_of_bat h (by omega)) (by rw [h]; decide)

def fok (q : ByteArray) : Bool := decide (q.size ≤ 40) && fltI q

end Go.Proofs.YtlmkmihbbnjngaaDoor
