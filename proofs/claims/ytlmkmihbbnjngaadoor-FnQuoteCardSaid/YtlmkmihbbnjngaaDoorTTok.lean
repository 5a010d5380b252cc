import Derived.Test.YtlmkmihbbnjngaaDoorTDcm
import Derived.Test.YtlmkmihbbnjngaaDoorQSpec
namespace Go.Proofs.YtlmkmihbbnjngaaDoor
open Go.RowKit Go.Maps Go.WideMaps
set_option linter.unusedVariables false

/-- The package's variables lie as the text lays them. -/
structure Lay (w : World) : Prop where
  tabs : Tabs w
  errs : Errs w
  pow : Lib.TabIs Tryd.prog w "internal/strconv.uint64pow10" .u64 Lib.pow10Tab
  brj : w.cell? ⟨8, 15, none⟩ = some (.int .u8 4)
theorem var_below {P : Program} {w w' : World} {B : Nat} {n : String} {cs : Array Value} (h : w.var? P n = some cs) (hb : Below B w w') (hB : w.heap.size ≤ B) : w'.var? P n = some cs := by
  unfold World.var? at h ⊢
  cases hg : P.globalNamed n with
  | none => simp [hg] at h
  | some g =>
    simp only [hg, Option.bind_some] at h ⊢
    have hlt : g < w.heap.size := by
      rcases Nat.lt_or_ge g w.heap.size with h' | h'
      · exact h'
      · simp [Array.getElem?_eq_none h'] at h
    rw [hb.block g (Nat.lt_of_lt_of_le hlt hB)]
    exact h
theorem Lay.below {w w' : World} {B : Nat} (h : Lay w) (hb : Below B w w') (hB : w.heap.size ≤ B) : Lay w' :=
  ⟨h.tabs.below hb hB, h.errs.below hb hB, var_below h.pow hb hB, (cell_below hb (Nat.lt_of_lt_of_le (World.block_lt_of_cell? w _ h.brj) hB)).trans h.brj⟩

theorem bel_grow (w : World) (q : Nat) (os : Array Obj) : Below w.heap.size w (Sort.grow (w.drewN q) os) :=
  ⟨rfl, rfl, rfl, by show w.heap.size ≤ (w.heap ++ os).size; simp, fun k hk => by show (w.heap ++ os)[k]? = _; rw [Array.getElem?_append_left hk]⟩

def intS (n : Int) : ByteArray := if n < 0 then hxO (n + 18446744073709551616).toNat 16 else ⟨(Lib.decDigits n.toNat).toArray⟩

def quS (s : ByteArray) : ByteArray := if 4000 < s.size then emptyS else strI (quoteI s)
theorem implQ_any (s : ByteArray) (hm : s.size ≤ 1048576) (w : World) : Calls Tryd.prog 6 #[.string s] w fun e w' => e = .returned (.string (quS s)) ∧ Below w.heap.size w w' := by
  unfold quS
  by_cases h : 4000 < s.size
  · rw [if_pos h]
    refine (impl_no s h hm w).mono ?_
    rintro e w' ⟨rfl, rfl⟩
    exact ⟨rfl, Below.refl _ _⟩
  · rw [if_neg h]; exact implQuote s (by omega) w

theorem sgn_in : ∀ k : Fin 30, 5 ≤ sgnI (strAt sgnV k.val) ∧ sgnI (strAt sgnV k.val) ≤ 78 := by decide +kernel
theorem fndS_out (kind : Int) (h : kind < 5 ∨ 78 < kind) : ∀ (f k : Nat), k + f ≤ 30 → fndS kind f k = emptyS
  | 0, k, _ => rfl
  | f + 1, k, hk => by
    have := sgn_in ⟨k, by omega⟩
    unfold fndS
    rw [if_neg (by simp only at this; omega)]
    exact fndS_out kind h f (k + 1) (by omega)
theorem txt_fix_nat : ∀ k : Fin 79, k.val ≠ 7 → txtI (k.val : Int) = fixI (k.val : Int) := by decide +kernel
theorem txt_fix (kind : Int) (h7 : kind ≠ 7) : txtI kind = fixI kind := by
  by_cases h : 0 ≤ kind ∧ kind ≤ 78
  · have := txt_fix_nat ⟨kind.toNat, by omega⟩ (by simp only; omega)
    simp only [show ((kind.toNat : Nat) : Int) = kind by omega] at this
    exact this
  · unfold txtI fixI
    rw [if_neg (by omega), if_neg (by omega), if_neg (by omega), if_neg (by omega), if_neg (by omega), if_neg (by omega), if_neg (by omega)]
    exact fndS_out kind (by omega) 30 0 (by omega)

def tokS (k n : Int) (x : ByteArray) : ByteArray := if k = 1 then (if nmok x = true then x else emptyS) else if k = 2 then intS n else if k = 3 then (if fok x = true then x else emptyS) else if k = 4 then quS x else fixI k

theorem clone_any (s : ByteArray) (hm : s.size ≤ 1100000) (w : World) : Calls Tryd.prog 48 #[.string s] w fun e w' => e = .returned (.string s) ∧ Below w.heap.size w w' := by
  have kc := fun w => Tryd.stringslite_Clone s w (by omega)
  go_enter Tryd.func48, Tryd.ntmps48
  go_wp2_with (go_at_call 54; refine (kc _).mono ?_; rintro e w' ⟨rfl, hb⟩)
  go_ret
  exact ⟨rfl, hb⟩

end Go.Proofs.YtlmkmihbbnjngaaDoor
