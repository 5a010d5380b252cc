import Derived.Test.YtlmkmihbbnjngaaDoorKVars
import Derived.Test.YtlmkmihbbnjngaaDoorTTok
import Derived.LaidLaws
import Derived.Lib.LaidTab
namespace Go.Proofs.YtlmkmihbbnjngaaDoor
open Go.ChangeShapes Go.WideShapes Go.ChangeAt Go.WideMaps Go.WideElems Go.RowKit
set_option linter.unusedVariables false

theorem trodVars3 {H : Type} {enc : TypeId × Value → H} {P : Program} {w : World} {sp : Nat → Bool} {a b c : String} {gs : List (DataW H)} {ps : List MemPlace} (h : DataW.TrodVars enc P w sp [a, b, c] gs ps) : ∃ g1 g2 g3, gs = [g1, g2, g3] := by
  match gs, h with
  | [g1, g2, g3], _ => exact ⟨g1, g2, g3, rfl⟩
  | [], h => exact h.elim
  | [_], h => obtain ⟨_, _, _, _, _, _, _, _, _, _, h, _⟩ := h; exact h.elim
  | [_, _], h => obtain ⟨_, _, _, _, _, _, _, _, _, _, h, _⟩ := h; obtain ⟨_, _, _, _, _, _, _, _, _, _, h, _⟩ := h; exact h.elim
  | _ :: _ :: _ :: _ :: _, h => obtain ⟨_, _, _, _, _, _, _, _, _, _, h, _⟩ := h; obtain ⟨_, _, _, _, _, _, _, _, _, _, h, _⟩ := h; obtain ⟨_, _, _, _, _, _, _, _, _, _, h, _⟩ := h; exact h.elim

def strL (V : Array Value) : List (List UInt8) := V.toList.map fun v => match v with | .string s => s.data.toList | _ => []

/-- A table of texts, as the condition says it. -/
theorem strs_of {W : World} {name : String} {d : DataW Unit} {g : Nat} {t : TypeId} {n : Nat} {V : Array Value} (hpl : ([(name, d)].all fun x => x.2.handleName?.isNone) = true)
    (hg : Tryd.prog.globalNamed name = some g) (hT : (Tryd.prog.globals[g]?).map (·.type) = some t) (ht : Tryd.prog.underlying t = some (.array n 9)) (hce : Tryd.prog.cellsOf 9 = 1) (hct : Tryd.prog.cellsOf t = n)
    (hd : d = .agg ((strL V).map fun b => .lit (.string b))) (hV : (strL V).map (fun b => Value.string ⟨b.toArray⟩) = V.toList) (h : laidMetH Tryd.prog [(name, d)] W) : ∃ tt fr, W.heap[g]? = some (.cells V tt fr) := by
  rw [MakeChecks.laidMetH_plain _ _ _ hpl] at h
  obtain ⟨ps, ⟨g0, t0, cs0, f0, p0, q0, hg0, ht0, hv0, hd0, _, _⟩, _, _⟩ := h
  obtain rfl := Option.some.inj (hg.symm.trans hg0)
  obtain rfl := Option.some.inj (hT.symm.trans ht0)
  subst hd
  have e := cells_of_strs ht Tryd.underlying9 hce hct hd0
  have e2 : cs0 = V := by
    apply Array.toList_inj.1
    rw [e, hV]
  simp only [World.var?, hg0, Option.bind_some] at hv0
  split at hv0
  · rename_i cs tt fr hh
    cases hv0
    exact ⟨tt, fr, by rw [← e2]; exact hh⟩
  · cases hv0

theorem err_of {W : World} {name nm : String} {d : DataW Unit} {g : Nat} {t : TypeId} {ms : Array (String × TypeId)} (hpl : ([(name, DataW.iface nm d)].all fun x => x.2.handleName?.isNone) = true)
    (hg : Tryd.prog.globalNamed name = some g) (hT : (Tryd.prog.globals[g]?).map (·.type) = some t) (ht : Tryd.prog.underlying t = some (.interface ms)) (h : laidMetH Tryd.prog [(name, .iface nm d)] W) : ∃ te pe, W.cell? ⟨g, 0, none⟩ = some (.iface te pe) := by
  rw [MakeChecks.laidMetH_plain _ _ _ hpl] at h
  obtain ⟨ps, ⟨g0, t0, cs0, f0, p0, q0, hg0, ht0, hv0, hd0, _, _⟩, _, _⟩ := h
  obtain rfl := Option.some.inj (hg.symm.trans hg0)
  obtain rfl := Option.some.inj (hT.symm.trans ht0)
  obtain ⟨f', u, v, e, _, _⟩ := iface_of_trod ht hd0
  refine ⟨u, v, ?_⟩
  have := World.var?_cell hg0 hv0 0
  rw [this]
  have e2 : cs0.toList[0]? = some (.iface u v) := by rw [e]; rfl
  simpa using e2

def brjTab : List Int := [0, 1, 56, 2, 57, 49, 28, 3, 61, 58, 42, 50, 38, 29, 17, 4, 62, 47, 59, 36, 45, 43, 51, 22, 53, 39, 33, 30, 24, 18, 12, 5, 63, 55, 48, 27, 60, 41, 37, 16, 46, 35, 44, 21, 52, 32, 23, 11, 54, 26, 40, 15, 34, 20, 31, 10, 25, 14, 19, 9, 13, 8, 7, 6]
theorem gBrj : Tryd.prog.globalNamed "math/bits.deBruijn64tab" = some 8 := by kernel_rfl
theorem gPow : Tryd.prog.globalNamed "internal/strconv.uint64pow10" = some 6 := by kernel_rfl
theorem gSyn : Tryd.prog.globalNamed "strconv.ErrSyntax" = some 3 := by kernel_rfl
theorem gRng : Tryd.prog.globalNamed "strconv.ErrRange" = some 4 := by kernel_rfl
theorem gWrd : Tryd.prog.globalNamed "loop.example/warp/impl.wordTexts" = some 0 := by kernel_rfl
theorem gMrk : Tryd.prog.globalNamed "loop.example/warp/impl.markTexts" = some 1 := by kernel_rfl
theorem gBin : Tryd.prog.globalNamed "loop.example/warp/impl.binaryTexts" = some 2 := by kernel_rfl

/-- What the condition says of all the tables. -/
theorem lay_of {W : World} (h : laidMetH Tryd.prog [("math/bits.deBruijn32tab", Rows.laid_math_bits_deBruijn32tab), ("math/bits.deBruijn64tab", Rows.laid_math_bits_deBruijn64tab), ("internal/strconv.uint64pow10", Rows.laid_internal_strconv_uint64pow10), ("strconv.ErrRange", Rows.laid_strconv_ErrRange), ("strconv.ErrSyntax", Rows.laid_strconv_ErrSyntax), ("loop.example/warp/impl.wordTexts", Rows.laid_loop_example_warp_impl_wordTexts), ("loop.example/warp/impl.markTexts", Rows.laid_loop_example_warp_impl_markTexts), ("loop.example/warp/impl.binaryTexts", Rows.laid_loop_example_warp_impl_binaryTexts)] W) : Lay W := by
  have h1 : laidMetH Tryd.prog [("loop.example/warp/impl.wordTexts", Rows.laid_loop_example_warp_impl_wordTexts)] W := h.filter fun x => x.1 == "loop.example/warp/impl.wordTexts"
  have h2 : laidMetH Tryd.prog [("loop.example/warp/impl.markTexts", Rows.laid_loop_example_warp_impl_markTexts)] W := h.filter fun x => x.1 == "loop.example/warp/impl.markTexts"
  have h3 : laidMetH Tryd.prog [("loop.example/warp/impl.binaryTexts", Rows.laid_loop_example_warp_impl_binaryTexts)] W := h.filter fun x => x.1 == "loop.example/warp/impl.binaryTexts"
  have h4 : laidMetH Tryd.prog [("strconv.ErrSyntax", Rows.laid_strconv_ErrSyntax)] W := h.filter fun x => x.1 == "strconv.ErrSyntax"
  have h5 : laidMetH Tryd.prog [("strconv.ErrRange", Rows.laid_strconv_ErrRange)] W := h.filter fun x => x.1 == "strconv.ErrRange"
  have h6 : laidMetH Tryd.prog [("internal/strconv.uint64pow10", Rows.laid_internal_strconv_uint64pow10)] W := h.filter fun x => x.1 == "internal/strconv.uint64pow10"
  have h7 : laidMetH Tryd.prog [("math/bits.deBruijn64tab", Rows.laid_math_bits_deBruijn64tab)] W := h.filter fun x => x.1 == "math/bits.deBruijn64tab"
  refine ⟨⟨?_, ?_, ?_⟩, ⟨?_, ?_⟩, ?_, ?_⟩
  · exact strs_of (V := wordV) (by kernel_rfl) gWrd (t := 55) (by kernel_rfl) Tryd.underlying55 (by kernel_rfl) (by kernel_rfl) rfl rfl h1
  · exact strs_of (V := othV) (by kernel_rfl) gMrk (t := 84) (by kernel_rfl) Tryd.underlying84 (by kernel_rfl) (by kernel_rfl) rfl rfl h2
  · exact strs_of (V := binV) (by kernel_rfl) gBin (t := 85) (by kernel_rfl) Tryd.underlying85 (by kernel_rfl) (by kernel_rfl) rfl rfl h3
  · exact err_of (by kernel_rfl) gSyn (t := 79) (by kernel_rfl) Tryd.underlying79 h4
  · exact err_of (by kernel_rfl) gRng (t := 79) (by kernel_rfl) Tryd.underlying79 h5
  · rw [MakeChecks.laidMetH_plain _ _ _ (by kernel_rfl)] at h6
    exact Lib.tabIs_of_head gPow (t := 107) (by kernel_rfl) Tryd.underlying107 Tryd.underlying36 (by kernel_rfl) (by kernel_rfl) h6
  · rw [MakeChecks.laidMetH_plain _ _ _ (by kernel_rfl)] at h7
    have h8 : laidMet Tryd.prog [("math/bits.deBruijn64tab", Lib.tabData .u8 brjTab)] W := h7
    exact (Lib.tabIs_of_head gBrj (t := 114) (by kernel_rfl) Tryd.underlying114 Tryd.underlying5 (by kernel_rfl) (by kernel_rfl) h8).cell gBrj 15 (by decide)
end Go.Proofs.YtlmkmihbbnjngaaDoor
