import Derived.Test.YtlmkmihbbnjngaaDoorRows
import Derived.ProofKit
import Derived.LaidMore
import Derived.LaidSub
import Derived.OpenShut
import Derived.OpenVars
import Derived.Stop.Joined
namespace Go.Proofs.YtlmkmihbbnjngaaDoor
open Go.ChangeShapes Go.WideShapes Go.ChangeAt Go.WideMaps Go.WideElems Go.RowKit

/-- An array of strings that reads as these texts holds them, cell for cell. -/
theorem cells_of_strs {H : Type} {enc : TypeId × Value → H} {P : Program} {w : World} {base : Nat} {sp : Nat → Bool} {held : Bool} {fuel : Nat} {t e : TypeId} {n : Nat} {cs : List Value} {ls : List (List UInt8)} {p : List MemPlace}
    (ht : P.underlying t = some (.array n e)) (he : P.underlying e = some .string) (hce : P.cellsOf e = 1) (hct : P.cellsOf t = n)
    (h : DataW.trod enc P w base sp held fuel t cs = some (.agg (ls.map fun b => .lit (.string b)), p)) : cs = ls.map fun b => Value.string ⟨b.toArray⟩ := by
  obtain ⟨xs, m, rfl, hx, hlen, hxl, hel⟩ := DataW.trod_array ht h
  simp only [Prod.mk.injEq, DataW.agg.injEq] at hx
  have hll : ls.length = n := by have := congrArg List.length hx.1; simpa [hxl] using this
  apply List.ext_getElem (by simp [hlen, hct, hll])
  intro i h1 h2
  have hi : i < n := by omega
  have hd := hel i hi
  rw [hce, Nat.mul_one, List.getElem?_eq_getElem (by omega)] at hd
  obtain ⟨s, e1, e2, _⟩ := DataW.trod_string he hd
  have hci : cs[i] = .string s := by
    have : ((cs.drop i).take 1)[0]? = some (.string s) := by rw [e1]; rfl
    simpa [List.getElem?_take, List.getElem?_drop, List.getElem?_eq_getElem h1] using this
  have hls : (xs.map (·.1))[i]? = (ls.map fun b => (DataW.lit (.string b) : DataW H))[i]? := by rw [hx.1]
  rw [List.getElem?_map, List.getElem?_map, List.getElem?_eq_getElem (by omega), List.getElem?_eq_getElem (by omega)] at hls
  simp only [Option.map_some, Option.some.injEq] at hls
  rw [e2] at hls
  simp only [DataW.lit.injEq, Lit.string.injEq] at hls
  rw [hci, List.getElem_map, ← hls]

theorem own : ownKnob Tryd.prog.godebug = none := by kernel_rfl
theorem laidOut : laidOutB Tryd.prog = true := by kernel_rfl
end Go.Proofs.YtlmkmihbbnjngaaDoor
