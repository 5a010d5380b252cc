import Derived.Test.YtdgbmihokecmhaaGreatDoorRows
import Derived.ProofKit
import Derived.LaidMore
import Derived.LaidSub
import Derived.OpenShut
import Derived.OpenVars
import Derived.Stop.Joined
import Derived.Test.YtdgbmihokecmhaaGreatDoorProg
import Derived.WalkKit
import Derived.WalkSpells
import Derived.StillTactics
import Derived.OwnWalk
import Derived.Laws.Pointers
import Derived.Deep.RegionHeld3
import Derived.Deep.AppendLies
import Derived.KernelRfl
import Derived.Laws.BytesString
import Derived.Deep.QuietTactic
import Derived.BigQuiet
import Derived.OneCell
import Derived.Lib.Bytealg
import Derived.BigRegion
import Derived.Maps.Own
namespace Go.Proofs.YtdgbmihokecmhaaGreatDoor
open Go.ChangeShapes Go.WideShapes Go.ChangeAt Go.WideMaps Go.WideElems Go.RowKit

/-- An array of strings that reads as these texts holds them, cell for cell. -/
theorem cells_of_strs {H : Type} {enc : TypeId × Value → H} {P : Program} {w : World} {base : Nat} {sp : Nat → Bool} {held : Bool} {fuel : Nat} {t e : TypeId} {n : Nat} {cs : List Value} {ls : List (List UInt8)} {p : List MemPlace}
    (ht : P.underlying t = some (.array n e)) (he : P.underlying e = some .string) (hce : P.cellsOf e = 1) (hct : P.cellsOf t = n)
    (h : DataW.trod enc P w base sp held fuel t cs = some (.agg (ls.map fun b => .lit (.string b)), p)) : cs = ls.map fun b => Value.string ⟨b.toArray⟩ := by
  obtain ⟨xs, m, rfl, hx, hlen, hxl, hel⟩ := DataW.trod_array ht h
  simp only [Prod.mk.injEq, DataW.agg.injEq] at hx
  have hll : ls.length = n := by have := congrArg List.length hx.1; simpa [hxl] using this
  apply List.ext_getElem (by simp [hlen, hct, hll])
  intro i h1 h2
  have hi : i < n := by omega
  have hd := hel i hi
  rw [hce, Nat.mul_one, List.getElem?_eq_getElem (by omega)] at hd
  obtain ⟨s, e1, e2, _⟩ := DataW.trod_string he hd
  have hci : cs[i] = .string s := by
    have : ((cs.drop i).take 1)[0]? = some (.string s) := by rw [e1]; rfl
    simpa [List.getElem?_take, List.getElem?_drop, List.getElem?_eq_getElem h1] using this
  have hls : (xs.map (·.1))[i]? = (ls.map fun b => (DataW.lit (.string b) : DataW H))[i]? := by rw [hx.1]
  rw [List.getElem?_map, List.getElem?_map, List.getElem?_eq_getElem (by omega), List.getElem?_eq_getElem (by omega)] at hls
  simp only [Option.map_some, Option.some.injEq] at hls
  rw [e2] at hls
  simp only [DataW.lit.injEq, Lit.string.injEq] at hls
  rw [hci, List.getElem_map, ← hls]

theorem own : ownKnob Tryz.prog.godebug = none := by kernel_rfl
theorem laidOut : laidOutB Tryz.prog = true := by kernel_rfl
end Go.Proofs.YtdgbmihokecmhaaGreatDoor

namespace Go.Proofs.YtdgbmihokecmhaaGreatDoor
open Go.RowKit

theorem Tryz.info5 : (Tryz.prog.info? 5).map (fun i => (i.zero, i.size, i.bytes)) = some (some (.int .u8 0), 1, 1) := by kernel_rfl

/-- A row of bytes as cells. -/
def B8 (l : List Int) : List Value := l.map (Value.int .u8)
theorem B8_app (a b : List Int) : B8 (a ++ b) = B8 a ++ B8 b := by simp [B8]
theorem B8_len (a : List Int) : (B8 a).length = a.length := by simp [B8]

theorem own_len {w : World} {base n : Nat} {v : Value} {l : List Int} (h : w.ownsRow base 5 1 v n (B8 l)) : l.length = n := by
  have := h.1; simpa [B8] using this

/-- 'append' of a few bytes that lie in a block just laid. -/
theorem ap_law {ops : Array Oper} {rest : List Oper} {o : Oper} {a : Act} {Q : Exit → Act → World → Prop} {w : World} (hgd : o.guard = none) (s x : Operand)
    (ho : o.op = .call { callee := .builtin .append, args := #[s, x], argTypes := #[86, 86] }) (base : Nat) (v : Value) (n : Nat) (l : List Int) (hs : a.eval s = v)
    (hown : w.ownsRow base 5 1 v n (B8 l)) (hbase : base ≤ w.heap.size) (hn : n ≤ 100000) (news : List Int) (m : Nat) (hm : news.length = m) (hm0 : 0 < m) (hm1 : m ≤ 100) (cs : Array Value) (hcs : cs.toList = B8 news)
    (hx : a.eval x = .slice (some ⟨w.heap.size, 0, none⟩) m m)
    (h : ∀ g cap w1, w1.ownsRow base 5 1 (.slice (some ⟨g, 0, none⟩) (n + m) cap) (n + m) (B8 (l ++ news)) → Below base w w1 → wpList Tryz.prog ops Q rest (a.put o.dst (.slice (some ⟨g, 0, none⟩) (n + m) cap)) w1) :
    wpList Tryz.prog ops Q (o :: rest) a (w.alloc (.cells cs 5)) := by
  obtain ⟨i0, hi0, hz0, hz1, hz2⟩ := info_parts Tryz.info5
  refine wpList_append_lies _ hgd s x 86 ho base 5 i0 (.int .u8 0) 1 1 Tryz.underlying86 hi0 hz0 hz1 hz2 rfl (by decide) v n (B8 l) hs (hown.alloc _) ⟨w.heap.size, 0, none⟩ m m (B8 news) hx (by simp [B8, hm])
    (by rw [← hcs]; exact World.news_of_block (fr := (0, 0)) (heap_alloc_new w _)) (by intro u hu; simp [B8] at hu; obtain ⟨q, _, rfl⟩ := hu; rfl) hm0 (by unfold maxLen; omega) (by omega) (by simp; omega) (w.heap.size + 1) (by simp) ?_
  intro g cap w1 hown1 hgrow _ _
  refine h g cap w1 (by rw [B8_app]; exact hown1) (((Below.refl base w).alloc hbase _).grown hgrow (by simp; omega) (fun k hk => (hown.lt k hk).1))

def hexd (d : Int) : Int := if d < 10 then 48 + d else 87 + d
def esc (c : Int) : List Int := if c = 10 then [92, 110] else if c = 9 then [92, 116] else if c = 34 ∨ c = 92 then [92, c] else if c < 32 ∨ 126 < c then [92, 120, hexd (c / 16), hexd (c % 16)] else [c]

end Go.Proofs.YtdgbmihokecmhaaGreatDoor

namespace Go.Proofs.YtdgbmihokecmhaaGreatDoor
open Go.RowKit

/-- The digits. -/
def DG : ByteArray := { data := #[48, 49, 50, 51, 52, 53, 54, 55, 56, 57, 97, 98, 99, 100, 101, 102] }
theorem DG_nat : ∀ i : Fin 16, ((DG[i.val]'(by have := i.isLt; exact this)).toNat : Int) = hexd (i.val : Int) := by decide
theorem DG_at (d : Int) (h0 : 0 ≤ d) (h1 : d < 16) (h : d.toNat < DG.size) : ((DG[d.toNat]'h).toNat : Int) = hexd d := by
  have := DG_nat ⟨d.toNat, by omega⟩
  have e : ((d.toNat : Nat) : Int) = d := by omega
  simp only [e] at this
  exact this

theorem DG_run (d : Int) (h0 : 0 ≤ d) (h1 : d < 16) (w : World) : (Instr.index 9 (.string { data := #[48, 49, 50, 51, 52, 53, 54, 55, 56, 57, 97, 98, 99, 100, 101, 102] }) (.int .u8 d)).run Tryz.prog w = .ok (.int .u8 (hexd d)) w := by
  have h : d.toNat < DG.size := by simp only [DG]; show d.toNat < 16; omega
  have q := DG_at d h0 h1 h
  go_simp
  exact q

theorem low4 (c : Int) (h0 : 0 ≤ c) (h1 : c < 256) : bits .and .u8 c 15 = c % 16 := by
  have := bits_mask .u8 8 (by decide) wraps_u8 4 (by decide) c h0 h1
  simpa using this

theorem ap_step {ops : Array Oper} {o : Oper} {a : Act} {K : Act → World → Prop} {Q : Exit → Act → World → Prop} {E : Prop} {w : World} (hgd : o.guard = none) (s x : Operand)
    (ho : o.op = .call { callee := .builtin .append, args := #[s, x], argTypes := #[86, 86] }) (base : Nat) (v : Value) (n : Nat) (l : List Int) (hs : a.eval s = v)
    (hown : w.ownsRow base 5 1 v n (B8 l)) (hbase : base ≤ w.heap.size) (hn : n ≤ 100000) (news : List Int) (m : Nat) (hm : news.length = m) (hm0 : 0 < m) (hm1 : m ≤ 100) (cs : Array Value) (hcs : cs.toList = B8 news)
    (hx : a.eval x = .slice (some ⟨w.heap.size, 0, none⟩) m m)
    (h : ∀ g cap w1, w1.ownsRow base 5 1 (.slice (some ⟨g, 0, none⟩) (n + m) cap) (n + m) (B8 (l ++ news)) → Below base w w1 → K (a.put o.dst (.slice (some ⟨g, 0, none⟩) (n + m) cap)) w1) :
    if Region.wanted o (yielded ops a.tmps) = true then Oper.wp Tryz.prog o a (w.alloc (.cells cs 5)).drew K Q else E := by
  obtain ⟨i0, hi0, hz0, hz1, hz2⟩ := info_parts Tryz.info5
  refine step_append_lies _ hgd s x 86 ho base 5 i0 (.int .u8 0) 1 1 Tryz.underlying86 hi0 hz0 hz1 hz2 rfl (by decide) v n (B8 l) hs ((hown.alloc _).drew) ⟨w.heap.size, 0, none⟩ m m (B8 news) hx (by simp [B8, hm])
    (by rw [← hcs]; exact World.news_of_block (fr := (0, 0)) (heap_alloc_new w _)) (by intro u hu; simp [B8] at hu; obtain ⟨q, _, rfl⟩ := hu; rfl) hm0 (by unfold maxLen; omega) (by omega) (by simp; omega) (w.heap.size + 1) (by simp) ?_
  intro g cap w1 hown1 hgrow _ _
  refine h g cap w1 (by rw [B8_app]; exact hown1) ((((Below.refl base w).alloc hbase _).drew).grown hgrow (by simp; omega) (fun k hk => (hown.lt k hk).1))

end Go.Proofs.YtdgbmihokecmhaaGreatDoor

namespace Go.Proofs.YtdgbmihokecmhaaGreatDoor
open Go.RowKit

/-- Bytes, given as numbers, as a string. -/
def strI (l : List Int) : ByteArray := l.foldl (fun r n => r.push (UInt8.ofNat n.toNat)) ByteArray.empty

theorem conv_own {w : World} {base g n cap : Nat} {l : List Int} (hown : w.ownsRow base 5 1 (.slice (some ⟨g, 0, none⟩) n cap) n (B8 l)) :
    (convert 86 9 (.slice (some ⟨g, 0, none⟩) n cap)).run Tryz.prog w = .ok (.string (strI l)) w := by
  rw [run_convert_bytes_string w 86 9 5 _ _ _ Tryz.underlying86 Tryz.underlying5 Tryz.underlying9]
  have hn := own_len hown
  refine run_bytesToString w _ n cap l ?_
  rcases hown.2 with ⟨h, _⟩ | ⟨g', cap', cur, hv, _, hh, _, _, hsz, htk⟩
  · cases h
  · cases hv
    have := run_loadCells_list (P := Tryz.prog) w ⟨g, 0, none⟩ (B8 l) (fun j u hj => by
      refine World.news_of_block hh j u ?_
      rw [← htk] at hj
      rw [List.getElem?_take] at hj
      split at hj
      · exact hj
      · cases hj)
    rw [B8_len, hn] at this
    exact this

theorem own_first (w : World) (c : Int) : (w.alloc (.cells #[.int .u8 c] 5)).ownsRow w.heap.size 5 1 (.slice (some ⟨w.heap.size, 0, none⟩) 1 1) 1 (B8 [c]) :=
  ⟨rfl, .inr ⟨w.heap.size, 1, #[.int .u8 c], rfl, Nat.le_refl _, heap_alloc_new w _, Nat.le_refl _, by unfold maxLen; omega, rfl, rfl⟩⟩

theorem esc_len (c : Int) : (esc c).length ≤ 4 := by
  unfold esc; split
  · decide
  split
  · decide
  split
  · simp
  split <;> simp

/-- What stands behind the first k bytes. -/
def qt (s : ByteArray) (k : Nat) : List Int := 34 :: (s.data.toList.take k).flatMap fun b => esc (b.toNat : Int)
theorem qt_zero (s : ByteArray) : qt s 0 = [34] := rfl
theorem qt_succ (s : ByteArray) (k : Nat) (h : k < s.size) : qt s (k + 1) = qt s k ++ esc (s[k].toNat : Int) := by
  unfold qt
  rw [List.take_succ_eq_append_getElem (by simpa using h)]
  simp only [List.flatMap_append, List.flatMap_cons, List.flatMap_nil, List.append_nil, List.cons_append]
  rfl
theorem qt_len (s : ByteArray) : ∀ k, k ≤ s.size → (qt s k).length ≤ 1 + 4 * k
  | 0, _ => by simp [qt]
  | k + 1, h => by
    have := qt_len s k (by omega)
    have h4 := esc_len (s[k].toNat : Int)
    rw [qt_succ s k (by omega), List.length_append]
    omega
def quoteI (s : ByteArray) : List Int := qt s s.size ++ [34]

end Go.Proofs.YtdgbmihokecmhaaGreatDoor

namespace Go.Proofs.YtdgbmihokecmhaaGreatDoor
open Go.RowKit
set_option linter.unusedVariables false

/-- The bytes that came in can be read, and lie below the call's own blocks. -/
def Code (base : Nat) (w : World) (a0 : Option Addr) (len : Nat) : Prop :=
  len = 0 ∨ ∃ bx ox, a0 = some ⟨bx, ox, none⟩ ∧ bx < base ∧ ∀ i, i < len → ∃ z : Int, 0 ≤ z ∧ z < 256 ∧ w.cell? ⟨bx, ox + i, none⟩ = some (.int .u8 z)
theorem Code.below {base : Nat} {w w' : World} {a0 : Option Addr} {len : Nat} (h : Code base w a0 len) (hb : Below base w w') : Code base w' a0 len := by
  rcases h with h | ⟨bx, ox, e, hlt, hc⟩
  · exact .inl h
  · exact .inr ⟨bx, ox, e, hlt, fun i hi => by obtain ⟨z, z0, z1, hz⟩ := hc i hi; exact ⟨z, z0, z1, (hb.cell (p := ⟨bx, ox + i, none⟩) hlt).trans hz⟩⟩

/-- Only block b has turned. -/
theorem gr_refl (w : World) (b : Nat) : w.grownBy w (some b) := ⟨rfl, rfl, rfl, Nat.le_refl _, fun _ _ _ => rfl⟩
theorem gr_drewN {w0 w : World} {b : Nat} (h : w0.grownBy w (some b)) (n : Nat) : w0.grownBy (w.drewN n) (some b) := ⟨h.os, h.tape, h.output, h.size, h.block⟩
theorem gr_drew {w0 w : World} {b : Nat} (h : w0.grownBy w (some b)) : w0.grownBy w.drew (some b) := ⟨h.os, h.tape, h.output, h.size, h.block⟩
theorem gr_set {w0 w : World} {b : Nat} (h : w0.grownBy w (some b)) (i : Nat) (v : Value) : w0.grownBy (w.setCell ⟨b, i, none⟩ v) (some b) :=
  ⟨h.os, h.tape, h.output, by simpa [World.setCell] using h.size, fun k hk hne => by rw [heap_setCell_other _ _ _ _ (fun e => hne (by rw [e]))]; exact h.block k hk hne⟩
theorem gr_trans {x y z : World} {b : Nat} (h : x.grownBy y (some b)) (k : y.grownBy z (some b)) : x.grownBy z (some b) :=
  ⟨k.os.trans h.os, k.tape.trans h.tape, k.output.trans h.output, Nat.le_trans h.size k.size, fun i hi hne => (k.block i (Nat.lt_of_lt_of_le hi h.size) hne).trans (h.block i hi hne)⟩
theorem gr_below {x y : World} {b base : Nat} (h : x.grownBy y (some b)) (hb : base ≤ b) (hx : base ≤ x.heap.size) : Below base x y :=
  (Below.refl base x).grown h hx (fun k e => by cases e; exact hb)
theorem bel_drewN (base : Nat) (w : World) (n : Nat) : Below base w (w.drewN n) := ⟨rfl, rfl, rfl, Nat.le_refl _, fun _ _ => rfl⟩

theorem low8 (x : Int) : 0 ≤ wrap64 (bits .and .u64 (IntKind.u64.wrap x / 1099511627776) 255) ∧ wrap64 (bits .and .u64 (IntKind.u64.wrap x / 1099511627776) 255) < 256 := by
  have e : IntKind.u64.wrap x = x % 18446744073709551616 := by simp [IntKind.wrap, IntKind.bits, IntKind.signed]
  have h0 : 0 ≤ IntKind.u64.wrap x / 1099511627776 := by rw [e]; omega
  have h1 : IntKind.u64.wrap x / 1099511627776 < 2 ^ 24 := by rw [e]; omega
  have hk : ∀ n : Int, 0 ≤ n → n < 2 ^ 24 → IntKind.u64.wrap n = n := fun n a b => by
    have e' : IntKind.u64.wrap n = n % 18446744073709551616 := by simp [IntKind.wrap, IntKind.bits, IntKind.signed]
    rw [e']; omega
  have := bits_mask .u64 24 (by decide) hk 8 (by decide) _ h0 h1
  have e2 : ((2 : Int) ^ 8 - 1) = 255 := by decide
  rw [e2] at this
  have e3 : ((2 : Int) ^ 8) = 256 := by decide
  rw [this, e3]
  unfold wrap64
  omega

end Go.Proofs.YtdgbmihokecmhaaGreatDoor

namespace Go.Proofs.YtdgbmihokecmhaaGreatDoor
open Go.RowKit
set_option linter.unusedVariables false

/-- 'append' of one byte that was reckoned: ap_law at a variable list. -/
theorem conv_nil (w : World) : (convert 86 9 (.slice none 0 0)).run Tryz.prog w = .ok (.string ByteArray.empty) w := by
  rw [run_convert_bytes_string w 86 9 5 _ _ _ Tryz.underlying86 Tryz.underlying5 Tryz.underlying9]
  simp [Conv.bytesToString, Sem.run_pure]

theorem strI_fold (l : List Int) : ∀ r : ByteArray, (l.foldl (fun r n => r.push (UInt8.ofNat n.toNat)) r).size = r.size + l.length := by
  induction l with
  | nil => intro r; rfl
  | cons a l ih => intro r; simp only [List.foldl_cons, List.length_cons]; rw [ih, ByteArray.size_push]; omega
theorem strI_size (l : List Int) : (strI l).size = l.length := by
  unfold strI; rw [strI_fold]; simp

theorem own_ne {w : World} {base e size : Nat} {v : Value} {n : Nat} {xs : List Value} {b : Nat} (h : w.ownsRow base e size v n xs) (hb : b < base) : v.ownBlock = none ∨ v.ownBlock ≠ some b := by
  right; intro e; have := (h.lt b e).1; omega

end Go.Proofs.YtdgbmihokecmhaaGreatDoor

namespace Go.Proofs.YtdgbmihokecmhaaGreatDoor
open Go.RowKit
set_option linter.unusedVariables false

theorem hidI {p : Prop} (h : p) : Hid p := h

def Ten (n : Nat) : Prop := n = 10 ∨ n = 20 ∨ n = 40 ∨ n = 80 ∨ n = 160 ∨ n = 320 ∨ n = 640 ∨ n = 1280 ∨ n = 2560 ∨ n = 5120
theorem ten_twice {t : ByteArray} (h : Ten t.size) (hl : t.size < 4000) : Ten (t ++ t).size := by
  rw [ByteArray.size_append]; unfold Ten at *; omega
theorem ten_end {n : Nat} (h : Ten n) (hl : ¬ n < 4000) : 4001 ≤ n := by unfold Ten at h; omega
theorem ten_max {n : Nat} (h : Ten n) : n ≤ 5120 := by unfold Ten at h; omega
theorem ten_min {n : Nat} (h : Ten n) : 10 ≤ n := by unfold Ten at h; omega
def szOf : Value → Nat | .string t => t.size | _ => 0

end Go.Proofs.YtdgbmihokecmhaaGreatDoor

namespace Go.Proofs.YtdgbmihokecmhaaGreatDoor
open Go.RowKit
set_option linter.unusedVariables false

def blankB (c : Int) : Bool := decide (c = 32 ∨ c = 9 ∨ c = 13)
def lettB (c : Int) : Bool := decide ((97 ≤ c ∧ c ≤ 122) ∨ (65 ≤ c ∧ c ≤ 90) ∨ c = 95)
def digB (c : Int) : Bool := decide (48 ≤ c ∧ c ≤ 57)

set_option maxHeartbeats 400000 in
theorem isDigit_any (c : Int) (w : World) : Calls Tryz.prog 90 #[.int .u8 c] w fun e w' => e = .returned (.bool (digB c)) ∧ w = w' := by
  rcases (show c < 48 ∨ 57 < c ∨ (48 ≤ c ∧ c ≤ 57) by omega) with h | h | ⟨h1, h2⟩
  · have e : digB c = false := by simp [digB]; omega
    rw [e]; clear e
    have h' : ¬ 48 ≤ c := by omega
    go_enter Tryz.func90, Tryz.ntmps90
    go_wp2
    go_ret
    exact ⟨rfl, rfl⟩
  · have e : digB c = false := by simp [digB]; omega
    rw [e]; clear e
    have h' : ¬ c ≤ 57 := by omega
    have h2 : 48 ≤ c := by omega
    go_enter Tryz.func90, Tryz.ntmps90
    go_wp2
    go_ret
    exact ⟨rfl, rfl⟩
  · have e : digB c = true := by simp [digB]; omega
    rw [e]; clear e
    go_enter Tryz.func90, Tryz.ntmps90
    go_wp2
    go_ret
    exact ⟨rfl, rfl⟩

set_option maxHeartbeats 400000 in
theorem isLetter_any (c : Int) (w : World) : Calls Tryz.prog 106 #[.int .u8 c] w fun e w' => e = .returned (.bool (lettB c)) ∧ w = w' := by
  rcases (show (97 ≤ c ∧ c ≤ 122) ∨ (65 ≤ c ∧ c ≤ 90) ∨ c = 95 ∨ c < 65 ∨ (90 < c ∧ c < 97 ∧ c ≠ 95) ∨ 122 < c by omega) with ⟨h1, h2⟩ | ⟨h1, h2⟩ | rfl | h | ⟨h1, h2, h3⟩ | h
  · have e : lettB c = true := by simp [lettB]; omega
    rw [e]; clear e
    go_enter Tryz.func106, Tryz.ntmps106
    go_wp2
    go_ret
    exact ⟨rfl, rfl⟩
  · have e : lettB c = true := by simp [lettB]; omega
    rw [e]; clear e
    have g1 : ¬ 97 ≤ c := by omega
    go_enter Tryz.func106, Tryz.ntmps106
    go_wp2
    go_ret
    exact ⟨rfl, rfl⟩
  · go_enter Tryz.func106, Tryz.ntmps106
    go_wp2
    go_ret
    exact ⟨rfl, rfl⟩
  · have e : lettB c = false := by simp [lettB]; omega
    rw [e]; clear e
    have g1 : ¬ 97 ≤ c := by omega
    have g2 : ¬ 65 ≤ c := by omega
    have g3 : (c == 95) = false := by simp; omega
    go_enter Tryz.func106, Tryz.ntmps106
    go_wp2
    go_ret
    exact ⟨rfl, rfl⟩
  · have e : lettB c = false := by simp [lettB]; omega
    rw [e]; clear e
    have g1 : ¬ 97 ≤ c := by omega
    have g2 : 65 ≤ c := by omega
    have g4 : ¬ c ≤ 90 := by omega
    have g3 : (c == 95) = false := by simp; omega
    go_enter Tryz.func106, Tryz.ntmps106
    go_wp2
    go_ret
    exact ⟨rfl, rfl⟩
  · have e : lettB c = false := by simp [lettB]; omega
    rw [e]; clear e
    have g1 : 97 ≤ c := by omega
    have g2 : ¬ c ≤ 122 := by omega
    have g4 : 65 ≤ c := by omega
    have g5 : ¬ c ≤ 90 := by omega
    have g3 : (c == 95) = false := by simp; omega
    go_enter Tryz.func106, Tryz.ntmps106
    go_wp2
    go_ret
    exact ⟨rfl, rfl⟩

def hexv (c : Int) : Int := if 48 ≤ c ∧ c ≤ 57 then c - 48 else if 97 ≤ c ∧ c ≤ 102 then c - 87 else -1

theorem hexv_nat : ∀ n : Fin 256, Lib.indexByte [48, 49, 50, 51, 52, 53, 54, 55, 56, 57, 97, 98, 99, 100, 101, 102] (n.val.toUInt8) = hexv (n.val : Int) := by decide +kernel
theorem hexv_at (c : Int) (h0 : 0 ≤ c) (h1 : c < 256) : Lib.indexByte [48, 49, 50, 51, 52, 53, 54, 55, 56, 57, 97, 98, 99, 100, 101, 102] c.toNat.toUInt8 = hexv c := by
  have := hexv_nat ⟨c.toNat, by omega⟩
  have e : ((c.toNat : Nat) : Int) = c := by omega
  simp only [e] at this
  exact this

set_option maxHeartbeats 400000 in
/-- HasPrefix of '--'. -/
theorem pre2_no (t : ByteArray) (h : ¬ (2 ≤ t.size ∧ (t.extract 0 2).toList = [45, 45])) (hm : t.size ≤ 100000) (w : World) : Calls Tryz.prog 76 #[.string t, .string { data := #[45, 45] }] w fun e w' => e = .returned (.bool false) ∧ w' = w := by
  by_cases h2 : 2 ≤ t.size
  · have h3 : ((t.extract 0 2).toList == [45, 45]) = false := by simp; intro e; exact h ⟨h2, e⟩
    have h4 : (2 : Int) ≤ (t.size : Int) := by omega
    clear h
    go_enter Tryz.func76, Tryz.ntmps76
    go_wp2
    go_ret
    exact ⟨rfl, rfl⟩
  · have h4 : ¬ (2 : Int) ≤ (t.size : Int) := by omega
    clear h
    go_enter Tryz.func76, Tryz.ntmps76
    go_wp2
    go_ret
    exact ⟨rfl, rfl⟩
end Go.Proofs.YtdgbmihokecmhaaGreatDoor

namespace Go.Proofs.YtdgbmihokecmhaaGreatDoor
open Go.RowKit
set_option linter.unusedVariables false

/-- The byte at a place; -1 behind the end. -/
def bat (s : ByteArray) (i : Nat) : Int := if h : i < s.size then (s[i].toNat : Int) else -1
theorem bat_in {s : ByteArray} {i : Nat} (h : i < s.size) : 0 ≤ bat s i ∧ bat s i < 256 := by
  unfold bat; rw [dif_pos h]; have := s[i].toNat_lt; omega
theorem bat_out {s : ByteArray} {i : Nat} (h : ¬ i < s.size) : bat s i = -1 := by unfold bat; rw [dif_neg h]
theorem idx_run {s : ByteArray} {i : Nat} (h : i < s.size) (w : World) : (Instr.index 9 (.string s) (.int .i64 (i : Int))).run Tryz.prog w = .ok (.int .u8 (bat s i)) w := by
  unfold bat; rw [dif_pos h]; go_simp
theorem idx_run1 {s : ByteArray} {i : Nat} (h : i + 1 < s.size) (w : World) : (Instr.index 9 (.string s) (.int .i64 ((i : Int) + 1))).run Tryz.prog w = .ok (.int .u8 (bat s (i + 1))) w := by
  have := idx_run h w
  have e : ((i + 1 : Nat) : Int) = (i : Int) + 1 := by omega
  rw [e] at this; exact this

theorem hexv_lt (c : Int) : hexv c < 16 := by unfold hexv; split; omega; split <;> omega
theorem or4 (a b : Int) (h0 : 0 ≤ a) (h1 : a < 256) (h2 : a % 16 = 0) (b0 : 0 ≤ b) (b1 : b < 16) : bits .or .i64 a b = a + b :=
  bits_join .i64 8 (by decide) (fun n a b => by rw [IntKind.wrap_i64]; omega) 4 a b h0 h2 h1 b0 b1 (by omega)
theorem or0 (b : Int) (b0 : 0 ≤ b) (b1 : b < 16) : bits .or .i64 0 b = b := by
  have := or4 0 b (by omega) (by omega) (by omega) b0 b1
  rw [this]; omega

def hexI (s : ByteArray) (p : Nat) : Int × Nat × Bool :=
  if hexv (bat s p) < 0 then (0, p, false) else if hexv (bat s (p + 1)) < 0 then (0, p + 1, false) else (hexv (bat s p) * 16 + hexv (bat s (p + 1)), p + 1 + 1, true)
def vHex (r : Int × Nat × Bool) : Value := .tuple #[.int .u8 r.1, .int .i64 (r.2.1 : Int), .bool r.2.2]

end Go.Proofs.YtdgbmihokecmhaaGreatDoor

namespace Go.Proofs.YtdgbmihokecmhaaGreatDoor
open Go.RowKit
set_option linter.unusedVariables false

def escI (s : ByteArray) (p : Nat) : Int × Nat × Bool :=
  if bat s p = 110 then (10, p + 1, true) else if bat s p = 116 then (9, p + 1, true) else if bat s p = 34 ∨ bat s p = 92 then (bat s p, p + 1, true) else if bat s p = 120 then hexI s (p + 1) else (0, p, false)

theorem hexI_bd (s : ByteArray) (p : Nat) (h : p ≤ s.size) : p ≤ (hexI s p).2.1 ∧ (hexI s p).2.1 ≤ s.size ∧ 0 ≤ (hexI s p).1 ∧ (hexI s p).1 < 256 := by
  have hneg : hexv (-1) = -1 := by decide
  have l1 := hexv_lt (bat s p)
  have l2 := hexv_lt (bat s (p + 1))
  unfold hexI
  split
  · simp; omega
  · rename_i hx
    have h0 : p < s.size := by
      rcases Nat.lt_or_ge p s.size with h | h
      · exact h
      · have e := bat_out (s := s) (i := p) (by omega); rw [e, hneg] at hx; omega
    split
    · simp; omega
    · rename_i hy
      have h1 : p + 1 < s.size := by
        rcases Nat.lt_or_ge (p + 1) s.size with h | h
        · exact h
        · have e := bat_out (s := s) (i := p + 1) (by omega); rw [e, hneg] at hy; omega
      simp; omega
theorem escI_bd (s : ByteArray) (p : Nat) (h : p ≤ s.size) : p ≤ (escI s p).2.1 ∧ (escI s p).2.1 ≤ s.size ∧ 0 ≤ (escI s p).1 ∧ (escI s p).1 < 256 := by
  unfold escI
  by_cases h0 : p < s.size
  · have n1 := bat_in h0
    split
    · simp; omega
    split
    · simp; omega
    split
    · simp; omega
    split
    · have := hexI_bd s (p + 1) (by omega); omega
    · simp; omega
  · have e := bat_out (s := s) (i := p) h0
    rw [e]; simp; omega
theorem escI_pos (s : ByteArray) (p : Nat) (h : p ≤ s.size) (hk : (escI s p).2.2 = true) : p + 1 ≤ (escI s p).2.1 := by
  revert hk
  unfold escI
  split
  · simp
  split
  · simp
  split
  · simp
  split
  · rename_i e
    have h0 : p < s.size := by
      rcases Nat.lt_or_ge p s.size with h | h
      · exact h
      · have e' := bat_out (s := s) (i := p) (by omega); rw [e'] at e; omega
    intro _
    exact (hexI_bd s (p + 1) (by omega)).1
  · simp
end Go.Proofs.YtdgbmihokecmhaaGreatDoor

namespace Go.Proofs.YtdgbmihokecmhaaGreatDoor
open Go.RowKit
set_option linter.unusedVariables false

def TkAt (b : Nat) (w : World) (k f t l n : Int) (x : ByteArray) : Prop :=
  w.heap[b]? = some (.cells #[.int .i64 k, .int .i64 f, .int .i64 t, .int .i64 l, .int .i64 n, .string x] 136 (0, 0))
theorem tk_cells {b : Nat} {w : World} {k f t l n : Int} {x : ByteArray} (h : TkAt b w k f t l n x) :
    w.cell? ⟨b, 0, none⟩ = some (.int .i64 k) ∧ w.cell? ⟨b, 1, none⟩ = some (.int .i64 f) ∧ w.cell? ⟨b, 2, none⟩ = some (.int .i64 t) ∧ w.cell? ⟨b, 3, none⟩ = some (.int .i64 l) ∧ w.cell? ⟨b, 4, none⟩ = some (.int .i64 n) ∧ w.cell? ⟨b, 5, none⟩ = some (.string x) ∧
    (∀ j, w.frozen? ⟨b, j, none⟩ = false) := by
  unfold TkAt at h
  exact ⟨by rw [cell_of_row _ _ _ _ _ _ h]; rfl, by rw [cell_of_row _ _ _ _ _ _ h]; rfl, by rw [cell_of_row _ _ _ _ _ _ h]; rfl, by rw [cell_of_row _ _ _ _ _ _ h]; rfl, by rw [cell_of_row _ _ _ _ _ _ h]; rfl, by rw [cell_of_row _ _ _ _ _ _ h]; rfl, fun j => frozen_of_row _ _ _ _ _ h⟩
theorem TkAt.other {b : Nat} {w : World} {k f t l n : Int} {x : ByteArray} (h : TkAt b w k f t l n x) {a : Addr} (ha : b ≠ a.block) (v : Value) : TkAt b (w.setCell a v) k f t l n x := (heap_setCell_other w a b v ha).trans h
theorem TkAt.drewN {b : Nat} {w : World} {k f t l n : Int} {x : ByteArray} (h : TkAt b w k f t l n x) (q : Nat) : TkAt b (w.drewN q) k f t l n x := h
theorem TkAt.below {B b : Nat} {w w' : World} {k f t l n : Int} {x : ByteArray} (h : TkAt b w k f t l n x) (hb : Below B w w') (hlt : b < B) : TkAt b w' k f t l n x := (hb.block b hlt).trans h
theorem TkAt.setKind {b : Nat} {w : World} {k f t l n : Int} {x : ByteArray} (h : TkAt b w k f t l n x) (y : Int) : TkAt b (w.setCell ⟨b, 0, none⟩ (.int .i64 y)) y f t l n x := heap_setCell_same w b 0 _ _ _ h
theorem TkAt.setTo {b : Nat} {w : World} {k f t l n : Int} {x : ByteArray} (h : TkAt b w k f t l n x) (y : Int) : TkAt b (w.setCell ⟨b, 2, none⟩ (.int .i64 y)) k f y l n x := heap_setCell_same w b 2 _ _ _ h
theorem TkAt.setNum {b : Nat} {w : World} {k f t l n : Int} {x : ByteArray} (h : TkAt b w k f t l n x) (y : Int) : TkAt b (w.setCell ⟨b, 4, none⟩ (.int .i64 y)) k f t l y x := heap_setCell_same w b 4 _ _ _ h
theorem TkAt.setText {b : Nat} {w : World} {k f t l n : Int} {x : ByteArray} (h : TkAt b w k f t l n x) (y : ByteArray) : TkAt b (w.setCell ⟨b, 5, none⟩ (.string y)) k f t l n y := heap_setCell_same w b 5 _ _ _ h

/-- Reading a string: (ended, the place, the bytes meant). -/
def rdStr (s : ByteArray) : Nat → Nat → List Int → Bool × Nat × List Int
  | 0, p, a => (false, p, a)
  | f + 1, p, a => if s.size ≤ p then (false, p, a) else if bat s p = 34 then (true, p + 1, a) else if bat s p = 10 then (false, p, a) else if bat s p = 92 then
      (if (escI s (p + 1)).2.2 = true then rdStr s f (escI s (p + 1)).2.1 (a ++ [(escI s (p + 1)).1]) else (false, (escI s (p + 1)).2.1, a))
    else rdStr s f (p + 1) (a ++ [bat s p])
theorem rdStr_bd (s : ByteArray) : ∀ (f p : Nat) (a : List Int), p ≤ s.size → p ≤ (rdStr s f p a).2.1 ∧ (rdStr s f p a).2.1 ≤ s.size ∧ (rdStr s f p a).2.2.length ≤ a.length + (s.size - p)
  | 0, p, a, h => by simp [rdStr]; omega
  | f + 1, p, a, h => by
    unfold rdStr
    split
    · simp; omega
    split
    · simp; omega
    split
    · simp; omega
    split
    · have e := escI_bd s (p + 1) (by omega)
      split
      · rename_i hk
        have ep := escI_pos s (p + 1) (by omega) hk
        have := rdStr_bd s f (escI s (p + 1)).2.1 (a ++ [(escI s (p + 1)).1]) e.2.1
        simp at this ⊢; omega
      · simp; omega
    · have := rdStr_bd s f (p + 1) (a ++ [bat s p]) (by omega)
      simp at this ⊢; omega
end Go.Proofs.YtdgbmihokecmhaaGreatDoor

namespace Go.Proofs.YtdgbmihokecmhaaGreatDoor
open Go.RowKit
set_option linter.unusedVariables false

/-- Only the blocks b and t have turned. -/
structure Fr2 (b t : Nat) (w w' : World) : Prop where
  os : w'.os = w.os
  tape : w'.tape = w.tape
  output : w'.output = w.output
  size : w.heap.size ≤ w'.heap.size
  block : ∀ k, k < w.heap.size → k ≠ b → k ≠ t → w'.heap[k]? = w.heap[k]?
theorem Fr2.refl (b t : Nat) (w : World) : Fr2 b t w w := ⟨rfl, rfl, rfl, Nat.le_refl _, fun _ _ _ _ => rfl⟩
theorem Fr2.trans {b t : Nat} {x y z : World} (h : Fr2 b t x y) (k : Fr2 b t y z) : Fr2 b t x z :=
  ⟨k.os.trans h.os, k.tape.trans h.tape, k.output.trans h.output, Nat.le_trans h.size k.size, fun i hi h1 h2 => (k.block i (Nat.lt_of_lt_of_le hi h.size) h1 h2).trans (h.block i hi h1 h2)⟩
theorem Fr2.drewN {b t : Nat} {x y : World} (h : Fr2 b t x y) (n : Nat) : Fr2 b t x (y.drewN n) := ⟨h.os, h.tape, h.output, h.size, h.block⟩
theorem Fr2.drew {b t : Nat} {x y : World} (h : Fr2 b t x y) : Fr2 b t x y.drew := ⟨h.os, h.tape, h.output, h.size, h.block⟩
theorem Fr2.setB {b t : Nat} {x y : World} (h : Fr2 b t x y) (i : Nat) (v : Value) : Fr2 b t x (y.setCell ⟨b, i, none⟩ v) :=
  ⟨h.os, h.tape, h.output, by simpa [World.setCell] using h.size, fun k hk h1 h2 => by rw [heap_setCell_other _ _ _ _ h1]; exact h.block k hk h1 h2⟩
theorem Fr2.setT {b t : Nat} {x y : World} (h : Fr2 b t x y) (i : Nat) (v : Value) : Fr2 b t x (y.setCell ⟨t, i, none⟩ v) :=
  ⟨h.os, h.tape, h.output, by simpa [World.setCell] using h.size, fun k hk h1 h2 => by rw [heap_setCell_other _ _ _ _ h2]; exact h.block k hk h1 h2⟩
theorem Fr2.below {b t : Nat} {x y z : World} (h : Fr2 b t x y) (k : Below x.heap.size y z) : Fr2 b t x z :=
  ⟨k.os.trans h.os, k.tape.trans h.tape, k.output.trans h.output, Nat.le_trans h.size k.size, fun i hi h1 h2 => (k.block i hi).trans (h.block i hi h1 h2)⟩
theorem Fr2.to {b t base : Nat} {x y : World} (h : Fr2 b t x y) (hb : base ≤ b) (ht : base ≤ t) (hs : base ≤ x.heap.size) : Below base x y :=
  ⟨h.os, h.tape, h.output, h.size, fun k hk => h.block k (by omega) (by omega) (by omega)⟩

/-- ap_law where the new block's number is written otherwise. -/
theorem ap_lawH {ops : Array Oper} {rest : List Oper} {o : Oper} {a : Act} {Q : Exit → Act → World → Prop} {w : World} (hgd : o.guard = none) (s x : Operand)
    (ho : o.op = .call { callee := .builtin .append, args := #[s, x], argTypes := #[86, 86] }) (base : Nat) (v : Value) (n : Nat) (l : List Int) (hs : a.eval s = v)
    (hown : w.ownsRow base 5 1 v n (B8 l)) (hbase : base ≤ w.heap.size) (hn : n ≤ 100000) (news : List Int) (m : Nat) (hm : news.length = m) (hm0 : 0 < m) (hm1 : m ≤ 100) (cs : Array Value) (hcs : cs.toList = B8 news)
    (H : Nat) (hx : a.eval x = .slice (some ⟨H, 0, none⟩) m m) (hH : w.heap.size = H)
    (h : ∀ g cap w1, w1.ownsRow base 5 1 (.slice (some ⟨g, 0, none⟩) (n + m) cap) (n + m) (B8 (l ++ news)) → Below base w w1 → wpList Tryz.prog ops Q rest (a.put o.dst (.slice (some ⟨g, 0, none⟩) (n + m) cap)) w1) :
    wpList Tryz.prog ops Q (o :: rest) a (w.alloc (.cells cs 5)) := by
  subst hH
  exact ap_law hgd s x ho base v n l hs hown hbase hn news m hm hm0 hm1 cs hcs hx h
theorem size_set (w : World) (n : Nat) (a : Addr) (v : Value) : ((w.drewN n).setCell a v).heap.size = w.heap.size := by simp [World.setCell, World.drewN]

theorem own2 {w : World} {base e size : Nat} {v : Value} {n : Nat} {xs : List Value} {b : Nat} (h : w.ownsRow base e size v n xs) (hb : b < base) (q r : Nat) (x y : Value) : ((((w.drewN q).setCell ⟨b, 3, none⟩ x).drewN r).setCell ⟨b, 3, none⟩ y).ownsRow base e size v n xs := by
  have h1 : ((w.drewN q).setCell ⟨b, 3, none⟩ x).ownsRow base e size v n xs := ownsRow_setCell_below (w := w.drewN q) (a := ⟨b, 3, none⟩) h hb x
  exact ownsRow_setCell_below (w := ((w.drewN q).setCell ⟨b, 3, none⟩ x).drewN r) (a := ⟨b, 3, none⟩) h1 hb y

def posOf (b : Nat) (w : World) : Nat := match w.cell? ⟨b, 3, none⟩ with | some (.int _ q) => q.toNat | _ => 0
theorem castS (p : Nat) : ((p + 1 : Nat) : Int) = (p : Int) + 1 := by omega

end Go.Proofs.YtdgbmihokecmhaaGreatDoor

namespace Go.Proofs.YtdgbmihokecmhaaGreatDoor
open Go.RowKit
set_option linter.unusedVariables false

def vTok (k f t l n : Int) (x : ByteArray) : Value := .agg #[.int .i64 k, .int .i64 f, .int .i64 t, .int .i64 l, .int .i64 n, .string x]

theorem gr_new {w x : World} {b : Nat} {a : Addr} (h : w.grownBy x (some b)) (v : Value) (ha : w.heap.size ≤ a.block) : w.grownBy (x.setCell a v) (some b) :=
  ⟨h.os, h.tape, h.output, by simpa [World.setCell] using h.size, fun k hk hne => by rw [heap_setCell_other _ _ _ _ (by omega)]; exact h.block k hk hne⟩
theorem gr_fr2 {w x y : World} {b t : Nat} (h : Below w.heap.size w x) (k : Fr2 b t x y) (ht : w.heap.size ≤ t) : w.grownBy y (some b) :=
  ⟨k.os.trans h.os, k.tape.trans h.tape, k.output.trans h.output, Nat.le_trans h.size k.size, fun i hi hne => (k.block i (Nat.lt_of_lt_of_le hi h.size) (fun e => hne (by rw [e])) (by omega)).trans (h.block i hi)⟩

end Go.Proofs.YtdgbmihokecmhaaGreatDoor

namespace Go.Proofs.YtdgbmihokecmhaaGreatDoor
open Go.RowKit Go.Maps Go.WideMaps
set_option linter.unusedVariables false

def wordV : Array Value := #[.string { data := #[97, 110, 100] }, .string { data := #[98, 114, 101, 97, 107] }, .string { data := #[99, 97, 116, 99, 104] }, .string { data := #[99, 111, 110, 115, 116] }, .string { data := #[100, 101, 102, 101, 114] }, .string { data := #[101, 108, 105, 102] }, .string { data := #[101, 108, 115, 101] }, .string { data := #[102, 97, 108, 115, 101] }, .string { data := #[102, 110] }, .string { data := #[102, 111, 114] }, .string { data := #[105, 102] }, .string { data := #[105, 110] }, .string { data := #[108, 101, 116] }, .string { data := #[110, 101, 120, 116] }, .string { data := #[110, 105, 108] }, .string { data := #[110, 111, 116] }, .string { data := #[111, 114] }, .string { data := #[114, 101, 116, 117, 114, 110] }, .string { data := #[116, 104, 114, 111, 119] }, .string { data := #[116, 114, 117, 101] }, .string { data := #[116, 114, 121] }, .string { data := #[119, 104, 105, 108, 101] }]
def wordAt (k : Nat) : ByteArray := match wordV[k]? with | some (.string s) => s | _ => ByteArray.empty
theorem widx (k : Nat) (hk : k < 22) (w : World) : (Instr.index 91 (.agg wordV) (.int .i64 (k : Int))).run Tryz.prog w = .ok (.string (wordAt k)) w := by
  rcases (show k = 0 ∨ k = 1 ∨ k = 2 ∨ k = 3 ∨ k = 4 ∨ k = 5 ∨ k = 6 ∨ k = 7 ∨ k = 8 ∨ k = 9 ∨ k = 10 ∨ k = 11 ∨ k = 12 ∨ k = 13 ∨ k = 14 ∨ k = 15 ∨ k = 16 ∨ k = 17 ∨ k = 18 ∨ k = 19 ∨ k = 20 ∨ k = 21 by omega) with rfl | rfl | rfl | rfl | rfl | rfl | rfl | rfl | rfl | rfl | rfl | rfl | rfl | rfl | rfl | rfl | rfl | rfl | rfl | rfl | rfl | rfl
  all_goals kernel_rfl
theorem wordAt_size : ∀ k : Fin 22, (wordAt k.val).size ≤ 100 := by decide
def wkD {H : Type} : Nat → DataW H
  | 0 => .map []
  | k + 1 => (wkD k).put (.string (wordAt k).data.toList) (.lit (.int .i64 (10 + (k : Int))))
theorem kLaw : Keyed Tryz.prog 9 := string_keyed Tryz.underlying9

set_option maxRecDepth 100000 in
set_option maxHeartbeats 1600000 in
theorem wordKinds_any {H : Type} (w : World) (fr : Nat × Nat) (tt : TypeId) (hG : w.heap[0]? = some (.cells wordV tt fr)) :
    Calls Tryz.prog 30 #[] w fun e w' => e = .returned (.map (some w.heap.size)) ∧ w'.ownsMap Tryz.prog 9 (plainElem (H := H) Tryz.prog 3) w.heap.size 22 (wkD 22) ∧ Below w.heap.size w w' := by
  have hlt : 0 < w.heap.size := lt_of_block hG
  have hmm : ∀ w : World, (Instr.makeMap 71 (some (.int .i64 22))).run Tryz.prog w = .ok (.map (some w.heap.size)) (w.alloc (.map #[] 0)) := fun w => by kernel_rfl
  have hG1 : (w.alloc (.map #[] 0)).heap[0]? = some (.cells wordV tt fr) := (Below.heap_alloc w _ _ hlt).trans hG
  go_enter Tryz.func30, Tryz.ntmps30
  go_wp2_with (refine wpList_load_row rfl 91 _ rfl 0 rfl tt _ fr _ hG1 Tryz.underlying91 rfl (by kernel_rfl) ?_)
  go_loopw [6] (fun i wr => ∃ k : Nat, k ≤ 22 ∧ i = .int .i64 k ∧ wr.ownsMap Tryz.prog 9 (plainElem (H := H) Tryz.prog 3) w.heap.size k (wkD k) ∧ Below w.heap.size w wr) (fun i _ => 22 - (intOf i).toNat)
  case atStart => exact ⟨0, by omega, rfl, World.ownsMap_made _ _ _ _, (Below.refl _ _).alloc (Nat.le_refl _) _⟩
  case round =>
    obtain ⟨k, hk, rfl, hown, hnx⟩ := hrel
    by_cases hlt : k < 22
    · have hix := fun w => widx k hlt w
      have hsz : (wordAt k).size ≤ 100 := wordAt_size ⟨k, hlt⟩
      have hkey : keyOf Tryz.prog 9 (.string (wordAt k)) = some (.string (wordAt k).data.toList) := keyOf_string_mk Tryz.underlying9 (by unfold maxLen; omega)
      have hst : Hid (wkD (H := H) (k + 1) = (wkD k).put (.string (wordAt k).data.toList) (.lit (.int .i64 (10 + (k : Int))))) := rfl
      go_wp2_with (at_mapUpdate; refine wpList_mapUpdate_own _ rfl _ _ _ 71 rfl 9 3 kLaw Tryz.underlying71 _ w.heap.size k _ rfl hown (by unfold maxLen; omega) _ _ _ rfl rfl hkey _ [] (plainElem_int Tryz.underlying3 (WalkArith.wf_i64 (by omega))) ?_; intro w1 hown1 hgrow1)
      go_roundw
      case rel => exact ⟨k + 1, by omega, by go_num, by rw [hst.out]; exact hown1, hnx.grown hgrow1 hnx.size (fun j hj => by cases hj; exact Nat.le_refl _)⟩
      case measure => simp [intOf]; omega
    · obtain rfl : k = 22 := by omega
      go_wp2
      go_ret
      exact ⟨rfl, hown, hnx⟩
end Go.Proofs.YtdgbmihokecmhaaGreatDoor
