import Derived.Test.YtdlhfiheingibaaGreatDoorRows
import Derived.ProofKit
import Derived.LaidMore
import Derived.LaidSub
import Derived.OpenShut
import Derived.OpenVars
import Derived.Stop.Joined
import Derived.Test.YtdlhfiheingibaaGreatDoorProg
import Derived.WalkKit
import Derived.WalkSpells
import Derived.StillTactics
import Derived.OwnWalk
import Derived.Laws.Pointers
import Derived.Deep.RegionHeld3
import Derived.Deep.AppendLies
import Derived.KernelRfl
import Derived.Laws.BytesString
import Derived.Deep.QuietTactic
import Derived.BigQuiet
import Derived.OneCell
import Derived.Lib.Bytealg
namespace Go.Proofs.YtdlhfiheingibaaGreatDoor
open Go.ChangeShapes Go.WideShapes Go.ChangeAt Go.WideMaps Go.WideElems Go.RowKit

/-- An array of strings that reads as these texts holds them, cell for cell. -/
theorem cells_of_strs {H : Type} {enc : TypeId × Value → H} {P : Program} {w : World} {base : Nat} {sp : Nat → Bool} {held : Bool} {fuel : Nat} {t e : TypeId} {n : Nat} {cs : List Value} {ls : List (List UInt8)} {p : List MemPlace}
    (ht : P.underlying t = some (.array n e)) (he : P.underlying e = some .string) (hce : P.cellsOf e = 1) (hct : P.cellsOf t = n)
    (h : DataW.trod enc P w base sp held fuel t cs = some (.agg (ls.map fun b => .lit (.string b)), p)) : cs = ls.map fun b => Value.string ⟨b.toArray⟩ := by
  obtain ⟨xs, m, rfl, hx, hlen, hxl, hel⟩ := DataW.trod_array ht h
  simp only [Prod.mk.injEq, DataW.agg.injEq] at hx
  have hll : ls.length = n := by have := congrArg List.length hx.1; simpa [hxl] using this
  apply List.ext_getElem (by simp [hlen, hct, hll])
  intro i h1 h2
  have hi : i < n := by omega
  have hd := hel i hi
  rw [hce, Nat.mul_one, List.getElem?_eq_getElem (by omega)] at hd
  obtain ⟨s, e1, e2, _⟩ := DataW.trod_string he hd
  have hci : cs[i] = .string s := by
    have : ((cs.drop i).take 1)[0]? = some (.string s) := by rw [e1]; rfl
    simpa [List.getElem?_take, List.getElem?_drop, List.getElem?_eq_getElem h1] using this
  have hls : (xs.map (·.1))[i]? = (ls.map fun b => (DataW.lit (.string b) : DataW H))[i]? := by rw [hx.1]
  rw [List.getElem?_map, List.getElem?_map, List.getElem?_eq_getElem (by omega), List.getElem?_eq_getElem (by omega)] at hls
  simp only [Option.map_some, Option.some.injEq] at hls
  rw [e2] at hls
  simp only [DataW.lit.injEq, Lit.string.injEq] at hls
  rw [hci, List.getElem_map, ← hls]

theorem own : ownKnob Tryz.prog.godebug = none := by kernel_rfl
theorem laidOut : laidOutB Tryz.prog = true := by kernel_rfl
end Go.Proofs.YtdlhfiheingibaaGreatDoor

namespace Go.Proofs.YtdlhfiheingibaaGreatDoor
open Go.RowKit

theorem Tryz.info5 : (Tryz.prog.info? 5).map (fun i => (i.zero, i.size, i.bytes)) = some (some (.int .u8 0), 1, 1) := by kernel_rfl

/-- A row of bytes as cells. -/
def B8 (l : List Int) : List Value := l.map (Value.int .u8)
theorem B8_app (a b : List Int) : B8 (a ++ b) = B8 a ++ B8 b := by simp [B8]
theorem B8_len (a : List Int) : (B8 a).length = a.length := by simp [B8]

theorem own_len {w : World} {base n : Nat} {v : Value} {l : List Int} (h : w.ownsRow base 5 1 v n (B8 l)) : l.length = n := by
  have := h.1; simpa [B8] using this

/-- 'append' of a few bytes that lie in a block just laid. -/
theorem ap_law {ops : Array Oper} {rest : List Oper} {o : Oper} {a : Act} {Q : Exit → Act → World → Prop} {w : World} (hgd : o.guard = none) (s x : Operand)
    (ho : o.op = .call { callee := .builtin .append, args := #[s, x], argTypes := #[94, 94] }) (base : Nat) (v : Value) (n : Nat) (l : List Int) (hs : a.eval s = v)
    (hown : w.ownsRow base 5 1 v n (B8 l)) (hbase : base ≤ w.heap.size) (hn : n ≤ 100000) (news : List Int) (m : Nat) (hm : news.length = m) (hm0 : 0 < m) (hm1 : m ≤ 100) (cs : Array Value) (hcs : cs.toList = B8 news)
    (hx : a.eval x = .slice (some ⟨w.heap.size, 0, none⟩) m m)
    (h : ∀ g cap w1, w1.ownsRow base 5 1 (.slice (some ⟨g, 0, none⟩) (n + m) cap) (n + m) (B8 (l ++ news)) → Below base w w1 → wpList Tryz.prog ops Q rest (a.put o.dst (.slice (some ⟨g, 0, none⟩) (n + m) cap)) w1) :
    wpList Tryz.prog ops Q (o :: rest) a (w.alloc (.cells cs 5)) := by
  obtain ⟨i0, hi0, hz0, hz1, hz2⟩ := info_parts Tryz.info5
  refine wpList_append_lies _ hgd s x 94 ho base 5 i0 (.int .u8 0) 1 1 Tryz.underlying94 hi0 hz0 hz1 hz2 rfl (by decide) v n (B8 l) hs (hown.alloc _) ⟨w.heap.size, 0, none⟩ m m (B8 news) hx (by simp [B8, hm])
    (by rw [← hcs]; exact World.news_of_block (fr := (0, 0)) (heap_alloc_new w _)) (by intro u hu; simp [B8] at hu; obtain ⟨q, _, rfl⟩ := hu; rfl) hm0 (by unfold maxLen; omega) (by omega) (by simp; omega) (w.heap.size + 1) (by simp) ?_
  intro g cap w1 hown1 hgrow _ _
  refine h g cap w1 (by rw [B8_app]; exact hown1) (((Below.refl base w).alloc hbase _).grown hgrow (by simp; omega) (fun k hk => (hown.lt k hk).1))

def hexd (d : Int) : Int := if d < 10 then 48 + d else 87 + d
def esc (c : Int) : List Int := if c = 10 then [92, 110] else if c = 9 then [92, 116] else if c = 34 ∨ c = 92 then [92, c] else if c < 32 ∨ 126 < c then [92, 120, hexd (c / 16), hexd (c % 16)] else [c]

end Go.Proofs.YtdlhfiheingibaaGreatDoor

namespace Go.Proofs.YtdlhfiheingibaaGreatDoor
open Go.RowKit

/-- The digits. -/
def DG : ByteArray := { data := #[48, 49, 50, 51, 52, 53, 54, 55, 56, 57, 97, 98, 99, 100, 101, 102] }
theorem DG_nat : ∀ i : Fin 16, ((DG[i.val]'(by have := i.isLt; exact this)).toNat : Int) = hexd (i.val : Int) := by decide
theorem DG_at (d : Int) (h0 : 0 ≤ d) (h1 : d < 16) (h : d.toNat < DG.size) : ((DG[d.toNat]'h).toNat : Int) = hexd d := by
  have := DG_nat ⟨d.toNat, by omega⟩
  have e : ((d.toNat : Nat) : Int) = d := by omega
  simp only [e] at this
  exact this

theorem DG_run (d : Int) (h0 : 0 ≤ d) (h1 : d < 16) (w : World) : (Instr.index 9 (.string { data := #[48, 49, 50, 51, 52, 53, 54, 55, 56, 57, 97, 98, 99, 100, 101, 102] }) (.int .u8 d)).run Tryz.prog w = .ok (.int .u8 (hexd d)) w := by
  have h : d.toNat < DG.size := by simp only [DG]; show d.toNat < 16; omega
  have q := DG_at d h0 h1 h
  go_simp
  exact q

theorem low4 (c : Int) (h0 : 0 ≤ c) (h1 : c < 256) : bits .and .u8 c 15 = c % 16 := by
  have := bits_mask .u8 8 (by decide) wraps_u8 4 (by decide) c h0 h1
  simpa using this

theorem ap_step {ops : Array Oper} {o : Oper} {a : Act} {K : Act → World → Prop} {Q : Exit → Act → World → Prop} {E : Prop} {w : World} (hgd : o.guard = none) (s x : Operand)
    (ho : o.op = .call { callee := .builtin .append, args := #[s, x], argTypes := #[94, 94] }) (base : Nat) (v : Value) (n : Nat) (l : List Int) (hs : a.eval s = v)
    (hown : w.ownsRow base 5 1 v n (B8 l)) (hbase : base ≤ w.heap.size) (hn : n ≤ 100000) (news : List Int) (m : Nat) (hm : news.length = m) (hm0 : 0 < m) (hm1 : m ≤ 100) (cs : Array Value) (hcs : cs.toList = B8 news)
    (hx : a.eval x = .slice (some ⟨w.heap.size, 0, none⟩) m m)
    (h : ∀ g cap w1, w1.ownsRow base 5 1 (.slice (some ⟨g, 0, none⟩) (n + m) cap) (n + m) (B8 (l ++ news)) → Below base w w1 → K (a.put o.dst (.slice (some ⟨g, 0, none⟩) (n + m) cap)) w1) :
    if Region.wanted o (yielded ops a.tmps) = true then Oper.wp Tryz.prog o a (w.alloc (.cells cs 5)).drew K Q else E := by
  obtain ⟨i0, hi0, hz0, hz1, hz2⟩ := info_parts Tryz.info5
  refine step_append_lies _ hgd s x 94 ho base 5 i0 (.int .u8 0) 1 1 Tryz.underlying94 hi0 hz0 hz1 hz2 rfl (by decide) v n (B8 l) hs ((hown.alloc _).drew) ⟨w.heap.size, 0, none⟩ m m (B8 news) hx (by simp [B8, hm])
    (by rw [← hcs]; exact World.news_of_block (fr := (0, 0)) (heap_alloc_new w _)) (by intro u hu; simp [B8] at hu; obtain ⟨q, _, rfl⟩ := hu; rfl) hm0 (by unfold maxLen; omega) (by omega) (by simp; omega) (w.heap.size + 1) (by simp) ?_
  intro g cap w1 hown1 hgrow _ _
  refine h g cap w1 (by rw [B8_app]; exact hown1) ((((Below.refl base w).alloc hbase _).drew).grown hgrow (by simp; omega) (fun k hk => (hown.lt k hk).1))

end Go.Proofs.YtdlhfiheingibaaGreatDoor

namespace Go.Proofs.YtdlhfiheingibaaGreatDoor
open Go.RowKit

/-- Bytes, given as numbers, as a string. -/
def strI (l : List Int) : ByteArray := l.foldl (fun r n => r.push (UInt8.ofNat n.toNat)) ByteArray.empty

theorem conv_own {w : World} {base g n cap : Nat} {l : List Int} (hown : w.ownsRow base 5 1 (.slice (some ⟨g, 0, none⟩) n cap) n (B8 l)) :
    (convert 94 9 (.slice (some ⟨g, 0, none⟩) n cap)).run Tryz.prog w = .ok (.string (strI l)) w := by
  rw [run_convert_bytes_string w 94 9 5 _ _ _ Tryz.underlying94 Tryz.underlying5 Tryz.underlying9]
  have hn := own_len hown
  refine run_bytesToString w _ n cap l ?_
  rcases hown.2 with ⟨h, _⟩ | ⟨g', cap', cur, hv, _, hh, _, _, hsz, htk⟩
  · cases h
  · cases hv
    have := run_loadCells_list (P := Tryz.prog) w ⟨g, 0, none⟩ (B8 l) (fun j u hj => by
      refine World.news_of_block hh j u ?_
      rw [← htk] at hj
      rw [List.getElem?_take] at hj
      split at hj
      · exact hj
      · cases hj)
    rw [B8_len, hn] at this
    exact this

theorem own_first (w : World) (c : Int) : (w.alloc (.cells #[.int .u8 c] 5)).ownsRow w.heap.size 5 1 (.slice (some ⟨w.heap.size, 0, none⟩) 1 1) 1 (B8 [c]) :=
  ⟨rfl, .inr ⟨w.heap.size, 1, #[.int .u8 c], rfl, Nat.le_refl _, heap_alloc_new w _, Nat.le_refl _, by unfold maxLen; omega, rfl, rfl⟩⟩

theorem esc_len (c : Int) : (esc c).length ≤ 4 := by
  unfold esc; split
  · decide
  split
  · decide
  split
  · simp
  split <;> simp

/-- What stands behind the first k bytes. -/
def qt (s : ByteArray) (k : Nat) : List Int := 34 :: (s.data.toList.take k).flatMap fun b => esc (b.toNat : Int)
theorem qt_zero (s : ByteArray) : qt s 0 = [34] := rfl
theorem qt_succ (s : ByteArray) (k : Nat) (h : k < s.size) : qt s (k + 1) = qt s k ++ esc (s[k].toNat : Int) := by
  unfold qt
  rw [List.take_succ_eq_append_getElem (by simpa using h)]
  simp only [List.flatMap_append, List.flatMap_cons, List.flatMap_nil, List.append_nil, List.cons_append]
  rfl
theorem qt_len (s : ByteArray) : ∀ k, k ≤ s.size → (qt s k).length ≤ 1 + 4 * k
  | 0, _ => by simp [qt]
  | k + 1, h => by
    have := qt_len s k (by omega)
    have h4 := esc_len (s[k].toNat : Int)
    rw [qt_succ s k (by omega), List.length_append]
    omega
def quoteI (s : ByteArray) : List Int := qt s s.size ++ [34]

end Go.Proofs.YtdlhfiheingibaaGreatDoor

namespace Go.Proofs.YtdlhfiheingibaaGreatDoor
open Go.RowKit
set_option linter.unusedVariables false

/-- The bytes that came in can be read, and lie below the call's own blocks. -/
def Code (base : Nat) (w : World) (a0 : Option Addr) (len : Nat) : Prop :=
  len = 0 ∨ ∃ bx ox, a0 = some ⟨bx, ox, none⟩ ∧ bx < base ∧ ∀ i, i < len → ∃ z : Int, 0 ≤ z ∧ z < 256 ∧ w.cell? ⟨bx, ox + i, none⟩ = some (.int .u8 z)
theorem Code.below {base : Nat} {w w' : World} {a0 : Option Addr} {len : Nat} (h : Code base w a0 len) (hb : Below base w w') : Code base w' a0 len := by
  rcases h with h | ⟨bx, ox, e, hlt, hc⟩
  · exact .inl h
  · exact .inr ⟨bx, ox, e, hlt, fun i hi => by obtain ⟨z, z0, z1, hz⟩ := hc i hi; exact ⟨z, z0, z1, (hb.cell (p := ⟨bx, ox + i, none⟩) hlt).trans hz⟩⟩

/-- Only block b has turned. -/
theorem gr_refl (w : World) (b : Nat) : w.grownBy w (some b) := ⟨rfl, rfl, rfl, Nat.le_refl _, fun _ _ _ => rfl⟩
theorem gr_drewN {w0 w : World} {b : Nat} (h : w0.grownBy w (some b)) (n : Nat) : w0.grownBy (w.drewN n) (some b) := ⟨h.os, h.tape, h.output, h.size, h.block⟩
theorem gr_drew {w0 w : World} {b : Nat} (h : w0.grownBy w (some b)) : w0.grownBy w.drew (some b) := ⟨h.os, h.tape, h.output, h.size, h.block⟩
theorem gr_set {w0 w : World} {b : Nat} (h : w0.grownBy w (some b)) (i : Nat) (v : Value) : w0.grownBy (w.setCell ⟨b, i, none⟩ v) (some b) :=
  ⟨h.os, h.tape, h.output, by simpa [World.setCell] using h.size, fun k hk hne => by rw [heap_setCell_other _ _ _ _ (fun e => hne (by rw [e]))]; exact h.block k hk hne⟩
theorem gr_trans {x y z : World} {b : Nat} (h : x.grownBy y (some b)) (k : y.grownBy z (some b)) : x.grownBy z (some b) :=
  ⟨k.os.trans h.os, k.tape.trans h.tape, k.output.trans h.output, Nat.le_trans h.size k.size, fun i hi hne => (k.block i (Nat.lt_of_lt_of_le hi h.size) hne).trans (h.block i hi hne)⟩
theorem gr_below {x y : World} {b base : Nat} (h : x.grownBy y (some b)) (hb : base ≤ b) (hx : base ≤ x.heap.size) : Below base x y :=
  (Below.refl base x).grown h hx (fun k e => by cases e; exact hb)
theorem bel_drewN (base : Nat) (w : World) (n : Nat) : Below base w (w.drewN n) := ⟨rfl, rfl, rfl, Nat.le_refl _, fun _ _ => rfl⟩

theorem low8 (x : Int) : 0 ≤ wrap64 (bits .and .u64 (IntKind.u64.wrap x / 1099511627776) 255) ∧ wrap64 (bits .and .u64 (IntKind.u64.wrap x / 1099511627776) 255) < 256 := by
  have e : IntKind.u64.wrap x = x % 18446744073709551616 := by simp [IntKind.wrap, IntKind.bits, IntKind.signed]
  have h0 : 0 ≤ IntKind.u64.wrap x / 1099511627776 := by rw [e]; omega
  have h1 : IntKind.u64.wrap x / 1099511627776 < 2 ^ 24 := by rw [e]; omega
  have hk : ∀ n : Int, 0 ≤ n → n < 2 ^ 24 → IntKind.u64.wrap n = n := fun n a b => by
    have e' : IntKind.u64.wrap n = n % 18446744073709551616 := by simp [IntKind.wrap, IntKind.bits, IntKind.signed]
    rw [e']; omega
  have := bits_mask .u64 24 (by decide) hk 8 (by decide) _ h0 h1
  have e2 : ((2 : Int) ^ 8 - 1) = 255 := by decide
  rw [e2] at this
  have e3 : ((2 : Int) ^ 8) = 256 := by decide
  rw [this, e3]
  unfold wrap64
  omega

end Go.Proofs.YtdlhfiheingibaaGreatDoor

namespace Go.Proofs.YtdlhfiheingibaaGreatDoor
open Go.RowKit
set_option linter.unusedVariables false

/-- 'append' of one byte that was reckoned: ap_law at a variable list. -/
theorem conv_nil (w : World) : (convert 94 9 (.slice none 0 0)).run Tryz.prog w = .ok (.string ByteArray.empty) w := by
  rw [run_convert_bytes_string w 94 9 5 _ _ _ Tryz.underlying94 Tryz.underlying5 Tryz.underlying9]
  simp [Conv.bytesToString, Sem.run_pure]

theorem strI_fold (l : List Int) : ∀ r : ByteArray, (l.foldl (fun r n => r.push (UInt8.ofNat n.toNat)) r).size = r.size + l.length := by
  induction l with
  | nil => intro r; rfl
  | cons a l ih => intro r; simp only [List.foldl_cons, List.length_cons]; rw [ih, ByteArray.size_push]; omega
theorem strI_size (l : List Int) : (strI l).size = l.length := by
  unfold strI; rw [strI_fold]; simp

theorem own_ne {w : World} {base e size : Nat} {v : Value} {n : Nat} {xs : List Value} {b : Nat} (h : w.ownsRow base e size v n xs) (hb : b < base) : v.ownBlock = none ∨ v.ownBlock ≠ some b := by
  right; intro e; have := (h.lt b e).1; omega

end Go.Proofs.YtdlhfiheingibaaGreatDoor

namespace Go.Proofs.YtdlhfiheingibaaGreatDoor
open Go.RowKit
set_option linter.unusedVariables false

theorem hidI {p : Prop} (h : p) : Hid p := h

def Ten (n : Nat) : Prop := n = 10 ∨ n = 20 ∨ n = 40 ∨ n = 80 ∨ n = 160 ∨ n = 320 ∨ n = 640 ∨ n = 1280 ∨ n = 2560 ∨ n = 5120
theorem ten_twice {t : ByteArray} (h : Ten t.size) (hl : t.size < 4000) : Ten (t ++ t).size := by
  rw [ByteArray.size_append]; unfold Ten at *; omega
theorem ten_end {n : Nat} (h : Ten n) (hl : ¬ n < 4000) : 4001 ≤ n := by unfold Ten at h; omega
theorem ten_max {n : Nat} (h : Ten n) : n ≤ 5120 := by unfold Ten at h; omega
theorem ten_min {n : Nat} (h : Ten n) : 10 ≤ n := by unfold Ten at h; omega
def szOf : Value → Nat | .string t => t.size | _ => 0

end Go.Proofs.YtdlhfiheingibaaGreatDoor

namespace Go.Proofs.YtdlhfiheingibaaGreatDoor
open Go.RowKit
set_option linter.unusedVariables false

def blankB (c : Int) : Bool := decide (c = 32 ∨ c = 9 ∨ c = 13)
def lettB (c : Int) : Bool := decide ((97 ≤ c ∧ c ≤ 122) ∨ (65 ≤ c ∧ c ≤ 90) ∨ c = 95)
def digB (c : Int) : Bool := decide (48 ≤ c ∧ c ≤ 57)

set_option maxHeartbeats 400000 in
theorem isBlank_any (c : Int) (w : World) : Calls Tryz.prog 41 #[.int .u8 c] w fun e w' => e = .returned (.bool (blankB c)) ∧ w = w' := by
  rcases (show c = 32 ∨ c = 9 ∨ c = 13 ∨ (c ≠ 32 ∧ c ≠ 9 ∧ c ≠ 13) by omega) with rfl | rfl | rfl | ⟨h1, h2, h3⟩
  · go_enter Tryz.func41, Tryz.ntmps41
    go_wp2
    go_ret
    exact ⟨rfl, rfl⟩
  · go_enter Tryz.func41, Tryz.ntmps41
    go_wp2
    go_ret
    exact ⟨rfl, rfl⟩
  · go_enter Tryz.func41, Tryz.ntmps41
    go_wp2
    go_ret
    exact ⟨rfl, rfl⟩
  · have g1 : (c == 32) = false := by simp [h1]
    have g2 : (c == 9) = false := by simp [h2]
    have g3 : (c == 13) = false := by simp [h3]
    have e : blankB c = false := by simp [blankB, h1, h2, h3]
    rw [e]
    clear e h1 h2 h3
    go_enter Tryz.func41, Tryz.ntmps41
    go_wp2
    go_ret
    exact ⟨rfl, rfl⟩

set_option maxHeartbeats 400000 in
theorem isDigit_any (c : Int) (w : World) : Calls Tryz.prog 63 #[.int .u8 c] w fun e w' => e = .returned (.bool (digB c)) ∧ w = w' := by
  rcases (show c < 48 ∨ 57 < c ∨ (48 ≤ c ∧ c ≤ 57) by omega) with h | h | ⟨h1, h2⟩
  · have e : digB c = false := by simp [digB]; omega
    rw [e]; clear e
    have h' : ¬ 48 ≤ c := by omega
    go_enter Tryz.func63, Tryz.ntmps63
    go_wp2
    go_ret
    exact ⟨rfl, rfl⟩
  · have e : digB c = false := by simp [digB]; omega
    rw [e]; clear e
    have h' : ¬ c ≤ 57 := by omega
    have h2 : 48 ≤ c := by omega
    go_enter Tryz.func63, Tryz.ntmps63
    go_wp2
    go_ret
    exact ⟨rfl, rfl⟩
  · have e : digB c = true := by simp [digB]; omega
    rw [e]; clear e
    go_enter Tryz.func63, Tryz.ntmps63
    go_wp2
    go_ret
    exact ⟨rfl, rfl⟩

set_option maxHeartbeats 400000 in
theorem isLetter_any (c : Int) (w : World) : Calls Tryz.prog 61 #[.int .u8 c] w fun e w' => e = .returned (.bool (lettB c)) ∧ w = w' := by
  rcases (show (97 ≤ c ∧ c ≤ 122) ∨ (65 ≤ c ∧ c ≤ 90) ∨ c = 95 ∨ c < 65 ∨ (90 < c ∧ c < 97 ∧ c ≠ 95) ∨ 122 < c by omega) with ⟨h1, h2⟩ | ⟨h1, h2⟩ | rfl | h | ⟨h1, h2, h3⟩ | h
  · have e : lettB c = true := by simp [lettB]; omega
    rw [e]; clear e
    go_enter Tryz.func61, Tryz.ntmps61
    go_wp2
    go_ret
    exact ⟨rfl, rfl⟩
  · have e : lettB c = true := by simp [lettB]; omega
    rw [e]; clear e
    have g1 : ¬ 97 ≤ c := by omega
    go_enter Tryz.func61, Tryz.ntmps61
    go_wp2
    go_ret
    exact ⟨rfl, rfl⟩
  · go_enter Tryz.func61, Tryz.ntmps61
    go_wp2
    go_ret
    exact ⟨rfl, rfl⟩
  · have e : lettB c = false := by simp [lettB]; omega
    rw [e]; clear e
    have g1 : ¬ 97 ≤ c := by omega
    have g2 : ¬ 65 ≤ c := by omega
    have g3 : (c == 95) = false := by simp; omega
    go_enter Tryz.func61, Tryz.ntmps61
    go_wp2
    go_ret
    exact ⟨rfl, rfl⟩
  · have e : lettB c = false := by simp [lettB]; omega
    rw [e]; clear e
    have g1 : ¬ 97 ≤ c := by omega
    have g2 : 65 ≤ c := by omega
    have g4 : ¬ c ≤ 90 := by omega
    have g3 : (c == 95) = false := by simp; omega
    go_enter Tryz.func61, Tryz.ntmps61
    go_wp2
    go_ret
    exact ⟨rfl, rfl⟩
  · have e : lettB c = false := by simp [lettB]; omega
    rw [e]; clear e
    have g1 : 97 ≤ c := by omega
    have g2 : ¬ c ≤ 122 := by omega
    have g4 : 65 ≤ c := by omega
    have g5 : ¬ c ≤ 90 := by omega
    have g3 : (c == 95) = false := by simp; omega
    go_enter Tryz.func61, Tryz.ntmps61
    go_wp2
    go_ret
    exact ⟨rfl, rfl⟩

def hexv (c : Int) : Int := if 48 ≤ c ∧ c ≤ 57 then c - 48 else if 97 ≤ c ∧ c ≤ 102 then c - 87 else -1

theorem hexv_nat : ∀ n : Fin 256, Lib.indexByte [48, 49, 50, 51, 52, 53, 54, 55, 56, 57, 97, 98, 99, 100, 101, 102] (n.val.toUInt8) = hexv (n.val : Int) := by decide +kernel
theorem hexv_at (c : Int) (h0 : 0 ≤ c) (h1 : c < 256) : Lib.indexByte [48, 49, 50, 51, 52, 53, 54, 55, 56, 57, 97, 98, 99, 100, 101, 102] c.toNat.toUInt8 = hexv c := by
  have := hexv_nat ⟨c.toNat, by omega⟩
  have e : ((c.toNat : Nat) : Int) = c := by omega
  simp only [e] at this
  exact this

set_option maxRecDepth 100000 in
set_option maxHeartbeats 400000 in
theorem idxl_any (c : Int) (h0 : 0 ≤ c) (h1 : c < 256) (w : World) : Calls Tryz.prog 102 #[.string { data := #[48, 49, 50, 51, 52, 53, 54, 55, 56, 57, 97, 98, 99, 100, 101, 102] }, .int .u8 c] w fun e w' => e = .returned (.int .i64 (hexv c)) ∧ w' = w := by
  rw [← hexv_at c h0 h1]
  go_enter Tryz.func102, Tryz.ntmps102
  go_wp2
  rw [run_callFunc_extern Tryz.func105 (by kernel_rfl) (by kernel_rfl) (by kernel_rfl) (e := Extern.BytealgIndexByte.indexByte) (by kernel_rfl), Lib.run_indexByteString]
  simp only [Result.andThen]
  rw [Oper.upon_value]
  go_wp2
  go_ret
  exact ⟨rfl, rfl⟩

set_option maxHeartbeats 400000 in
theorem idx_any (c : Int) (h0 : 0 ≤ c) (h1 : c < 256) (w : World) : Calls Tryz.prog 95 #[.string { data := #[48, 49, 50, 51, 52, 53, 54, 55, 56, 57, 97, 98, 99, 100, 101, 102] }, .int .u8 c] w fun e w' => e = .returned (.int .i64 (hexv c)) ∧ w' = w := by
  go_enter Tryz.func95, Tryz.ntmps95
  go_wp2_with (go_at_call 102; refine (idxl_any c h0 h1 _).mono ?_; rintro e w' ⟨rfl, rfl⟩)
  go_ret
  exact ⟨rfl, rfl⟩

set_option maxHeartbeats 400000 in
/-- HasPrefix of '--'. -/
theorem pre2_no (t : ByteArray) (h : ¬ (2 ≤ t.size ∧ (t.extract 0 2).toList = [45, 45])) (hm : t.size ≤ 100000) (w : World) : Calls Tryz.prog 42 #[.string t, .string { data := #[45, 45] }] w fun e w' => e = .returned (.bool false) ∧ w' = w := by
  by_cases h2 : 2 ≤ t.size
  · have h3 : ((t.extract 0 2).toList == [45, 45]) = false := by simp; intro e; exact h ⟨h2, e⟩
    have h4 : (2 : Int) ≤ (t.size : Int) := by omega
    clear h
    go_enter Tryz.func42, Tryz.ntmps42
    go_wp2
    go_ret
    exact ⟨rfl, rfl⟩
  · have h4 : ¬ (2 : Int) ≤ (t.size : Int) := by omega
    clear h
    go_enter Tryz.func42, Tryz.ntmps42
    go_wp2
    go_ret
    exact ⟨rfl, rfl⟩
end Go.Proofs.YtdlhfiheingibaaGreatDoor

namespace Go.Proofs.YtdlhfiheingibaaGreatDoor
open Go.RowKit
set_option linter.unusedVariables false

/-- The byte at a place; -1 behind the end. -/
def bat (s : ByteArray) (i : Nat) : Int := if h : i < s.size then (s[i].toNat : Int) else -1
theorem bat_in {s : ByteArray} {i : Nat} (h : i < s.size) : 0 ≤ bat s i ∧ bat s i < 256 := by
  unfold bat; rw [dif_pos h]; have := s[i].toNat_lt; omega
theorem bat_out {s : ByteArray} {i : Nat} (h : ¬ i < s.size) : bat s i = -1 := by unfold bat; rw [dif_neg h]
theorem idx_run {s : ByteArray} {i : Nat} (h : i < s.size) (w : World) : (Instr.index 9 (.string s) (.int .i64 (i : Int))).run Tryz.prog w = .ok (.int .u8 (bat s i)) w := by
  unfold bat; rw [dif_pos h]; go_simp
theorem idx_run1 {s : ByteArray} {i : Nat} (h : i + 1 < s.size) (w : World) : (Instr.index 9 (.string s) (.int .i64 ((i : Int) + 1))).run Tryz.prog w = .ok (.int .u8 (bat s (i + 1))) w := by
  have := idx_run h w
  have e : ((i + 1 : Nat) : Int) = (i : Int) + 1 := by omega
  rw [e] at this; exact this

theorem hexv_lt (c : Int) : hexv c < 16 := by unfold hexv; split; omega; split <;> omega
theorem or4 (a b : Int) (h0 : 0 ≤ a) (h1 : a < 256) (h2 : a % 16 = 0) (b0 : 0 ≤ b) (b1 : b < 16) : bits .or .i64 a b = a + b :=
  bits_join .i64 8 (by decide) (fun n a b => by rw [IntKind.wrap_i64]; omega) 4 a b h0 h2 h1 b0 b1 (by omega)
theorem or0 (b : Int) (b0 : 0 ≤ b) (b1 : b < 16) : bits .or .i64 0 b = b := by
  have := or4 0 b (by omega) (by omega) (by omega) b0 b1
  rw [this]; omega

def hexI (s : ByteArray) (p : Nat) : Int × Nat × Bool :=
  if hexv (bat s p) < 0 then (0, p, false) else if hexv (bat s (p + 1)) < 0 then (0, p + 1, false) else (hexv (bat s p) * 16 + hexv (bat s (p + 1)), p + 1 + 1, true)
def vHex (r : Int × Nat × Bool) : Value := .tuple #[.int .u8 r.1, .int .i64 (r.2.1 : Int), .bool r.2.2]

set_option maxHeartbeats 800000 in
theorem hexByte_two (s : ByteArray) (hm : s.size ≤ 100000) (p : Nat) (h1 : p + 1 < s.size) (x y : Int) (hx : hexv (bat s p) = x) (hy : hexv (bat s (p + 1)) = y) (x0 : 0 ≤ x) (y0 : 0 ≤ y) (w : World) :
    Calls Tryz.prog 89 #[.string s, .int .i64 p] w fun e w' => e = .returned (.tuple #[.int .u8 (x * 16 + y), .int .i64 ((p : Int) + 1 + 1), .bool true]) ∧ w' = w := by
  have x1 : x < 16 := by rw [← hx]; exact hexv_lt _
  have y1 : y < 16 := by rw [← hy]; exact hexv_lt _
  have i1 := fun w => idx_run (s := s) (i := p) (by omega) w
  have i2 := fun w => idx_run1 (s := s) (i := p) (by omega) w
  have hp0 : ((p : Int) == (s.size : Int)) = false := by simp; omega
  have hp1 : ((p : Int) + 1 == (s.size : Int)) = false := by simp; omega
  have b1 : bits .or .i64 0 x = x := or0 x x0 x1
  have b2 : bits .or .i64 (x * 16) y = x * 16 + y := or4 (x * 16) y (by omega) (by omega) (by omega) y0 y1
  have n1 := bat_in (s := s) (i := p) (by omega)
  have n2 := bat_in (s := s) (i := p + 1) h1
  obtain ⟨c, hc⟩ : ∃ c, bat s p = c := ⟨_, rfl⟩
  obtain ⟨d, hd⟩ : ∃ d, bat s (p + 1) = d := ⟨_, rfl⟩
  rw [hc] at hx i1 n1
  rw [hd] at hy i2 n2
  clear hc hd
  go_enter Tryz.func89, Tryz.ntmps89
  go_wp2_with fail
  refine wp_loop_rounds 3 ?_
  rw [rounds_succ]
  go_wp2_with (go_at_call 95; refine (idx_any c n1.1 n1.2 _).mono ?_; rintro e w' ⟨rfl, rfl⟩)
  rw [rounds_succ]
  go_wp2_with (go_at_call 95; refine (idx_any d n2.1 n2.2 _).mono ?_; rintro e w2 ⟨rfl, rfl⟩)
  rw [rounds_succ]
  go_wp2
  go_ret3
  exact ⟨rfl, rfl⟩

set_option maxHeartbeats 800000 in
theorem hexByte_first (s : ByteArray) (hm : s.size ≤ 100000) (p : Nat) (h1 : p < s.size) (x : Int) (hx : hexv (bat s p) = x) (x0 : x < 0) (w : World) :
    Calls Tryz.prog 89 #[.string s, .int .i64 p] w fun e w' => e = .returned (.tuple #[.int .u8 0, .int .i64 (p : Int), .bool false]) ∧ w' = w := by
  have i1 := fun w => idx_run (s := s) (i := p) (by omega) w
  have hp0 : ((p : Int) == (s.size : Int)) = false := by simp; omega
  have n1 := bat_in (s := s) (i := p) (by omega)
  obtain ⟨c, hc⟩ : ∃ c, bat s p = c := ⟨_, rfl⟩
  rw [hc] at hx i1 n1
  clear hc
  go_enter Tryz.func89, Tryz.ntmps89
  go_wp2_with fail
  refine wp_loop_rounds 1 ?_
  rw [rounds_succ]
  go_wp2_with (go_at_call 95; refine (idx_any c n1.1 n1.2 _).mono ?_; rintro e w' ⟨rfl, rfl⟩)
  go_ret3
  exact ⟨rfl, rfl⟩

set_option maxHeartbeats 800000 in
theorem hexByte_end (s : ByteArray) (hm : s.size ≤ 100000) (p : Nat) (h1 : p = s.size) (w : World) :
    Calls Tryz.prog 89 #[.string s, .int .i64 p] w fun e w' => e = .returned (.tuple #[.int .u8 0, .int .i64 (p : Int), .bool false]) ∧ w' = w := by
  subst h1
  go_enter Tryz.func89, Tryz.ntmps89
  go_wp2_with fail
  refine wp_loop_rounds 1 ?_
  rw [rounds_succ]
  go_wp2
  go_ret3
  exact ⟨rfl, rfl⟩

set_option maxHeartbeats 800000 in
theorem hexByte_second (s : ByteArray) (hm : s.size ≤ 100000) (p : Nat) (h1 : p + 1 < s.size) (x y : Int) (hx : hexv (bat s p) = x) (hy : hexv (bat s (p + 1)) = y) (x0 : 0 ≤ x) (y0 : y < 0) (w : World) :
    Calls Tryz.prog 89 #[.string s, .int .i64 p] w fun e w' => e = .returned (.tuple #[.int .u8 0, .int .i64 ((p : Int) + 1), .bool false]) ∧ w' = w := by
  have x1 : x < 16 := by rw [← hx]; exact hexv_lt _
  have i1 := fun w => idx_run (s := s) (i := p) (by omega) w
  have i2 := fun w => idx_run1 (s := s) (i := p) (by omega) w
  have hp0 : ((p : Int) == (s.size : Int)) = false := by simp; omega
  have hp1 : ((p : Int) + 1 == (s.size : Int)) = false := by simp; omega
  have b1 : bits .or .i64 0 x = x := or0 x x0 x1
  have n1 := bat_in (s := s) (i := p) (by omega)
  have n2 := bat_in (s := s) (i := p + 1) h1
  obtain ⟨c, hc⟩ : ∃ c, bat s p = c := ⟨_, rfl⟩
  obtain ⟨d, hd⟩ : ∃ d, bat s (p + 1) = d := ⟨_, rfl⟩
  rw [hc] at hx i1 n1
  rw [hd] at hy i2 n2
  clear hc hd
  go_enter Tryz.func89, Tryz.ntmps89
  go_wp2_with fail
  refine wp_loop_rounds 2 ?_
  rw [rounds_succ]
  go_wp2_with (go_at_call 95; refine (idx_any c n1.1 n1.2 _).mono ?_; rintro e w' ⟨rfl, rfl⟩)
  rw [rounds_succ]
  go_wp2_with (go_at_call 95; refine (idx_any d n2.1 n2.2 _).mono ?_; rintro e w2 ⟨rfl, rfl⟩)
  go_ret3
  exact ⟨rfl, rfl⟩

set_option maxHeartbeats 800000 in
theorem hexByte_mid (s : ByteArray) (hm : s.size ≤ 100000) (p : Nat) (h1 : p + 1 = s.size) (x : Int) (hx : hexv (bat s p) = x) (x0 : 0 ≤ x) (w : World) :
    Calls Tryz.prog 89 #[.string s, .int .i64 p] w fun e w' => e = .returned (.tuple #[.int .u8 0, .int .i64 ((p : Int) + 1), .bool false]) ∧ w' = w := by
  have x1 : x < 16 := by rw [← hx]; exact hexv_lt _
  have i1 := fun w => idx_run (s := s) (i := p) (by omega) w
  have hp0 : ((p : Int) == (s.size : Int)) = false := by simp; omega
  have hp1 : ((p : Int) + 1 == (s.size : Int)) = true := by simp; omega
  have hpm : p ≤ 100000 := by omega
  have b1 : bits .or .i64 0 x = x := or0 x x0 x1
  have n1 := bat_in (s := s) (i := p) (by omega)
  obtain ⟨c, hc⟩ : ∃ c, bat s p = c := ⟨_, rfl⟩
  rw [hc] at hx i1 n1
  clear hc h1
  go_enter Tryz.func89, Tryz.ntmps89
  go_wp2_with fail
  refine wp_loop_rounds 2 ?_
  rw [rounds_succ]
  go_wp2_with (go_at_call 95; refine (idx_any c n1.1 n1.2 _).mono ?_; rintro e w' ⟨rfl, rfl⟩)
  rw [rounds_succ]
  go_wp2
  go_ret3
  exact ⟨rfl, rfl⟩

theorem hexByte_any (s : ByteArray) (hm : s.size ≤ 100000) (p : Nat) (h : p ≤ s.size) (w : World) :
    Calls Tryz.prog 89 #[.string s, .int .i64 p] w fun e w' => e = .returned (vHex (hexI s p)) ∧ w' = w := by
  have hneg : hexv (-1) = -1 := by decide
  unfold hexI vHex
  by_cases h0 : p < s.size
  · by_cases hx : hexv (bat s p) < 0
    · rw [if_pos hx]; exact hexByte_first s hm p h0 _ rfl hx w
    · rw [if_neg hx]
      by_cases h1 : p + 1 < s.size
      · by_cases hy : hexv (bat s (p + 1)) < 0
        · rw [if_pos hy]; exact hexByte_second s hm p h1 _ _ rfl rfl (by omega) hy w
        · rw [if_neg hy]; exact hexByte_two s hm p h1 _ _ rfl rfl (by omega) (by omega) w
      · have e := bat_out (s := s) (i := p + 1) h1
        rw [if_pos (by rw [e, hneg]; omega)]
        exact hexByte_mid s hm p (by omega) _ rfl (by omega) w
  · have e := bat_out (s := s) (i := p) h0
    rw [if_pos (by rw [e, hneg]; omega)]
    exact hexByte_end s hm p (by omega) w
end Go.Proofs.YtdlhfiheingibaaGreatDoor

namespace Go.Proofs.YtdlhfiheingibaaGreatDoor
open Go.RowKit
set_option linter.unusedVariables false

def escI (s : ByteArray) (p : Nat) : Int × Nat × Bool :=
  if bat s p = 110 then (10, p + 1, true) else if bat s p = 116 then (9, p + 1, true) else if bat s p = 34 ∨ bat s p = 92 then (bat s p, p + 1, true) else if bat s p = 120 then hexI s (p + 1) else (0, p, false)

set_option maxHeartbeats 1600000 in
theorem escaped_any (s : ByteArray) (hm : s.size ≤ 100000) (p : Nat) (h : p ≤ s.size) (w : World) :
    Calls Tryz.prog 80 #[.string s, .int .i64 p] w fun e w' => e = .returned (vHex (escI s p)) ∧ w' = w := by
  by_cases h0 : p < s.size
  · have i1 := fun w => idx_run (s := s) (i := p) (by omega) w
    have hp0 : ((p : Int) == (s.size : Int)) = false := by simp; omega
    have n1 := bat_in (s := s) (i := p) (by omega)
    have hx := hexByte_any s hm (p + 1) (by omega)
    have e1 : ((p + 1 : Nat) : Int) = (p : Int) + 1 := by omega
    rw [e1] at hx
    unfold escI
    obtain ⟨c, hc⟩ : ∃ c, bat s p = c := ⟨_, rfl⟩
    rw [hc] at i1 n1 ⊢
    clear hc
    by_cases g1 : c = 110
    · subst g1
      go_enter Tryz.func80, Tryz.ntmps80
      go_wp2
      go_ret3
      exact ⟨rfl, rfl⟩
    rw [if_neg g1]
    have k1 : (c == 110) = false := by simp [g1]
    by_cases g2 : c = 116
    · subst g2
      go_enter Tryz.func80, Tryz.ntmps80
      go_wp2
      go_ret3
      exact ⟨rfl, rfl⟩
    rw [if_neg g2]
    have k2 : (c == 116) = false := by simp [g2]
    by_cases g3 : c = 34
    · subst g3
      go_enter Tryz.func80, Tryz.ntmps80
      go_wp2
      go_ret3
      exact ⟨rfl, rfl⟩
    have k3 : (c == 34) = false := by simp [g3]
    by_cases g4 : c = 92
    · subst g4
      go_enter Tryz.func80, Tryz.ntmps80
      go_wp2
      go_ret3
      exact ⟨rfl, rfl⟩
    have k4 : (c == 92) = false := by simp [g4]
    rw [if_neg (by omega)]
    by_cases g5 : c = 120
    · subst g5
      rw [if_pos rfl]
      clear g1 g2 g3 g4 k1 k2 k3 k4
      unfold vHex at hx ⊢
      go_enter Tryz.func80, Tryz.ntmps80
      go_wp2_with (go_at_call 89; refine (hx _).mono ?_; rintro e w' ⟨rfl, rfl⟩)
      go_ret3
      exact ⟨rfl, rfl⟩
    rw [if_neg g5]
    have k5 : (c == 120) = false := by simp [g5]
    clear g1 g2 g3 g4 g5
    go_enter Tryz.func80, Tryz.ntmps80
    go_wp2
    go_ret3
    exact ⟨rfl, rfl⟩
  · have e := bat_out (s := s) (i := p) h0
    have he : escI s p = (0, p, false) := by unfold escI; rw [e]; simp
    rw [he]
    obtain rfl : p = s.size := by omega
    clear e he
    go_enter Tryz.func80, Tryz.ntmps80
    go_wp2
    go_ret3
    exact ⟨rfl, rfl⟩

theorem hexI_bd (s : ByteArray) (p : Nat) (h : p ≤ s.size) : p ≤ (hexI s p).2.1 ∧ (hexI s p).2.1 ≤ s.size ∧ 0 ≤ (hexI s p).1 ∧ (hexI s p).1 < 256 := by
  have hneg : hexv (-1) = -1 := by decide
  have l1 := hexv_lt (bat s p)
  have l2 := hexv_lt (bat s (p + 1))
  unfold hexI
  split
  · simp; omega
  · rename_i hx
    have h0 : p < s.size := by
      rcases Nat.lt_or_ge p s.size with h | h
      · exact h
      · have e := bat_out (s := s) (i := p) (by omega); rw [e, hneg] at hx; omega
    split
    · simp; omega
    · rename_i hy
      have h1 : p + 1 < s.size := by
        rcases Nat.lt_or_ge (p + 1) s.size with h | h
        · exact h
        · have e := bat_out (s := s) (i := p + 1) (by omega); rw [e, hneg] at hy; omega
      simp; omega
theorem escI_bd (s : ByteArray) (p : Nat) (h : p ≤ s.size) : p ≤ (escI s p).2.1 ∧ (escI s p).2.1 ≤ s.size ∧ 0 ≤ (escI s p).1 ∧ (escI s p).1 < 256 := by
  unfold escI
  by_cases h0 : p < s.size
  · have n1 := bat_in h0
    split
    · simp; omega
    split
    · simp; omega
    split
    · simp; omega
    split
    · have := hexI_bd s (p + 1) (by omega); omega
    · simp; omega
  · have e := bat_out (s := s) (i := p) h0
    rw [e]; simp; omega
theorem escI_pos (s : ByteArray) (p : Nat) (h : p ≤ s.size) (hk : (escI s p).2.2 = true) : p + 1 ≤ (escI s p).2.1 := by
  revert hk
  unfold escI
  split
  · simp
  split
  · simp
  split
  · simp
  split
  · rename_i e
    have h0 : p < s.size := by
      rcases Nat.lt_or_ge p s.size with h | h
      · exact h
      · have e' := bat_out (s := s) (i := p) (by omega); rw [e'] at e; omega
    intro _
    exact (hexI_bd s (p + 1) (by omega)).1
  · simp
end Go.Proofs.YtdlhfiheingibaaGreatDoor

namespace Go.Proofs.YtdlhfiheingibaaGreatDoor
open Go.RowKit
set_option linter.unusedVariables false

/-- The scanner in memory; a token in memory. -/
def ScAt (b : Nat) (w : World) (s : ByteArray) (m : Value) (fr p l : Int) (k : Bool) : Prop :=
  w.heap[b]? = some (.cells #[.string s, m, .int .i64 fr, .int .i64 p, .int .i64 l, .bool k] 63 (0, 0))
def TkAt (b : Nat) (w : World) (k f t l n : Int) (x : ByteArray) : Prop :=
  w.heap[b]? = some (.cells #[.int .i64 k, .int .i64 f, .int .i64 t, .int .i64 l, .int .i64 n, .string x] 45 (0, 0))
theorem sc_cells {b : Nat} {w : World} {s : ByteArray} {m : Value} {fr p l : Int} {k : Bool} (h : ScAt b w s m fr p l k) :
    w.cell? ⟨b, 0, none⟩ = some (.string s) ∧ w.cell? ⟨b, 1, none⟩ = some m ∧ w.cell? ⟨b, 3, none⟩ = some (.int .i64 p) ∧ w.cell? ⟨b, 4, none⟩ = some (.int .i64 l) ∧ w.cell? ⟨b, 5, none⟩ = some (.bool k) ∧
    w.frozen? ⟨b, 3, none⟩ = false ∧ w.frozen? ⟨b, 4, none⟩ = false ∧ w.frozen? ⟨b, 5, none⟩ = false := by
  unfold ScAt at h
  exact ⟨by rw [cell_of_row _ _ _ _ _ _ h]; rfl, by rw [cell_of_row _ _ _ _ _ _ h]; rfl, by rw [cell_of_row _ _ _ _ _ _ h]; rfl, by rw [cell_of_row _ _ _ _ _ _ h]; rfl, by rw [cell_of_row _ _ _ _ _ _ h]; rfl, frozen_of_row _ _ _ _ _ h, frozen_of_row _ _ _ _ _ h, frozen_of_row _ _ _ _ _ h⟩
theorem sc_from {b : Nat} {w : World} {s : ByteArray} {m : Value} {fr p l : Int} {k : Bool} (h : ScAt b w s m fr p l k) : w.cell? ⟨b, 2, none⟩ = some (.int .i64 fr) ∧ w.frozen? ⟨b, 2, none⟩ = false := by
  unfold ScAt at h
  exact ⟨by rw [cell_of_row _ _ _ _ _ _ h]; rfl, frozen_of_row _ _ _ _ _ h⟩
theorem ScAt.setF {b : Nat} {w : World} {s : ByteArray} {m : Value} {fr p l : Int} {k : Bool} (h : ScAt b w s m fr p l k) (x : Int) : ScAt b (w.setCell ⟨b, 2, none⟩ (.int .i64 x)) s m x p l k := heap_setCell_same w b 2 _ _ _ h
theorem tk_cells {b : Nat} {w : World} {k f t l n : Int} {x : ByteArray} (h : TkAt b w k f t l n x) :
    w.cell? ⟨b, 0, none⟩ = some (.int .i64 k) ∧ w.cell? ⟨b, 1, none⟩ = some (.int .i64 f) ∧ w.cell? ⟨b, 2, none⟩ = some (.int .i64 t) ∧ w.cell? ⟨b, 3, none⟩ = some (.int .i64 l) ∧ w.cell? ⟨b, 4, none⟩ = some (.int .i64 n) ∧ w.cell? ⟨b, 5, none⟩ = some (.string x) ∧
    (∀ j, w.frozen? ⟨b, j, none⟩ = false) := by
  unfold TkAt at h
  exact ⟨by rw [cell_of_row _ _ _ _ _ _ h]; rfl, by rw [cell_of_row _ _ _ _ _ _ h]; rfl, by rw [cell_of_row _ _ _ _ _ _ h]; rfl, by rw [cell_of_row _ _ _ _ _ _ h]; rfl, by rw [cell_of_row _ _ _ _ _ _ h]; rfl, by rw [cell_of_row _ _ _ _ _ _ h]; rfl, fun j => frozen_of_row _ _ _ _ _ h⟩
theorem ScAt.setP {b : Nat} {w : World} {s : ByteArray} {m : Value} {fr p l : Int} {k : Bool} (h : ScAt b w s m fr p l k) (x : Int) : ScAt b (w.setCell ⟨b, 3, none⟩ (.int .i64 x)) s m fr x l k := heap_setCell_same w b 3 _ _ _ h
theorem ScAt.setL {b : Nat} {w : World} {s : ByteArray} {m : Value} {fr p l : Int} {k : Bool} (h : ScAt b w s m fr p l k) (x : Int) : ScAt b (w.setCell ⟨b, 4, none⟩ (.int .i64 x)) s m fr p x k := heap_setCell_same w b 4 _ _ _ h
theorem ScAt.setK {b : Nat} {w : World} {s : ByteArray} {m : Value} {fr p l : Int} {k : Bool} (h : ScAt b w s m fr p l k) (x : Bool) : ScAt b (w.setCell ⟨b, 5, none⟩ (.bool x)) s m fr p l x := heap_setCell_same w b 5 _ _ _ h
theorem ScAt.other {b : Nat} {w : World} {s : ByteArray} {m : Value} {fr p l : Int} {k : Bool} (h : ScAt b w s m fr p l k) {a : Addr} (ha : b ≠ a.block) (v : Value) : ScAt b (w.setCell a v) s m fr p l k := (heap_setCell_other w a b v ha).trans h
theorem ScAt.drewN {b : Nat} {w : World} {s : ByteArray} {m : Value} {fr p l : Int} {k : Bool} (h : ScAt b w s m fr p l k) (n : Nat) : ScAt b (w.drewN n) s m fr p l k := h
theorem ScAt.below {B b : Nat} {w w' : World} {s : ByteArray} {m : Value} {fr p l : Int} {k : Bool} (h : ScAt b w s m fr p l k) (hb : Below B w w') (hlt : b < B) : ScAt b w' s m fr p l k := (hb.block b hlt).trans h
theorem TkAt.other {b : Nat} {w : World} {k f t l n : Int} {x : ByteArray} (h : TkAt b w k f t l n x) {a : Addr} (ha : b ≠ a.block) (v : Value) : TkAt b (w.setCell a v) k f t l n x := (heap_setCell_other w a b v ha).trans h
theorem TkAt.drewN {b : Nat} {w : World} {k f t l n : Int} {x : ByteArray} (h : TkAt b w k f t l n x) (q : Nat) : TkAt b (w.drewN q) k f t l n x := h
theorem TkAt.below {B b : Nat} {w w' : World} {k f t l n : Int} {x : ByteArray} (h : TkAt b w k f t l n x) (hb : Below B w w') (hlt : b < B) : TkAt b w' k f t l n x := (hb.block b hlt).trans h
theorem TkAt.setKind {b : Nat} {w : World} {k f t l n : Int} {x : ByteArray} (h : TkAt b w k f t l n x) (y : Int) : TkAt b (w.setCell ⟨b, 0, none⟩ (.int .i64 y)) y f t l n x := heap_setCell_same w b 0 _ _ _ h
theorem TkAt.setTo {b : Nat} {w : World} {k f t l n : Int} {x : ByteArray} (h : TkAt b w k f t l n x) (y : Int) : TkAt b (w.setCell ⟨b, 2, none⟩ (.int .i64 y)) k f y l n x := heap_setCell_same w b 2 _ _ _ h
theorem TkAt.setNum {b : Nat} {w : World} {k f t l n : Int} {x : ByteArray} (h : TkAt b w k f t l n x) (y : Int) : TkAt b (w.setCell ⟨b, 4, none⟩ (.int .i64 y)) k f t l y x := heap_setCell_same w b 4 _ _ _ h
theorem TkAt.setText {b : Nat} {w : World} {k f t l n : Int} {x : ByteArray} (h : TkAt b w k f t l n x) (y : ByteArray) : TkAt b (w.setCell ⟨b, 5, none⟩ (.string y)) k f t l n y := heap_setCell_same w b 5 _ _ _ h

/-- Reading a string: (ended, the place, the bytes meant). -/
def rdStr (s : ByteArray) : Nat → Nat → List Int → Bool × Nat × List Int
  | 0, p, a => (false, p, a)
  | f + 1, p, a => if s.size ≤ p then (false, p, a) else if bat s p = 34 then (true, p + 1, a) else if bat s p = 10 then (false, p, a) else if bat s p = 92 then
      (if (escI s (p + 1)).2.2 = true then rdStr s f (escI s (p + 1)).2.1 (a ++ [(escI s (p + 1)).1]) else (false, (escI s (p + 1)).2.1, a))
    else rdStr s f (p + 1) (a ++ [bat s p])
theorem rdStr_bd (s : ByteArray) : ∀ (f p : Nat) (a : List Int), p ≤ s.size → p ≤ (rdStr s f p a).2.1 ∧ (rdStr s f p a).2.1 ≤ s.size ∧ (rdStr s f p a).2.2.length ≤ a.length + (s.size - p)
  | 0, p, a, h => by simp [rdStr]; omega
  | f + 1, p, a, h => by
    unfold rdStr
    split
    · simp; omega
    split
    · simp; omega
    split
    · simp; omega
    split
    · have e := escI_bd s (p + 1) (by omega)
      split
      · rename_i hk
        have ep := escI_pos s (p + 1) (by omega) hk
        have := rdStr_bd s f (escI s (p + 1)).2.1 (a ++ [(escI s (p + 1)).1]) e.2.1
        simp at this ⊢; omega
      · simp; omega
    · have := rdStr_bd s f (p + 1) (a ++ [bat s p]) (by omega)
      simp at this ⊢; omega
end Go.Proofs.YtdlhfiheingibaaGreatDoor
