import Derived.Test.YtdlhfiheingibaaGreatDoorNN01
import Derived.BigRegion
import Derived.Maps.Own
namespace Go.Proofs.YtdlhfiheingibaaGreatDoor
open Go.RowKit
set_option linter.unusedVariables false

/-- Only the blocks b and t have turned. -/
structure Fr2 (b t : Nat) (w w' : World) : Prop where
  os : w'.os = w.os
  tape : w'.tape = w.tape
  output : w'.output = w.output
  size : w.heap.size ≤ w'.heap.size
  block : ∀ k, k < w.heap.size → k ≠ b → k ≠ t → w'.heap[k]? = w.heap[k]?
theorem Fr2.refl (b t : Nat) (w : World) : Fr2 b t w w := ⟨rfl, rfl, rfl, Nat.le_refl _, fun _ _ _ _ => rfl⟩
theorem Fr2.trans {b t : Nat} {x y z : World} (h : Fr2 b t x y) (k : Fr2 b t y z) : Fr2 b t x z :=
  ⟨k.os.trans h.os, k.tape.trans h.tape, k.output.trans h.output, Nat.le_trans h.size k.size, fun i hi h1 h2 => (k.block i (Nat.lt_of_lt_of_le hi h.size) h1 h2).trans (h.block i hi h1 h2)⟩
theorem Fr2.drewN {b t : Nat} {x y : World} (h : Fr2 b t x y) (n : Nat) : Fr2 b t x (y.drewN n) := ⟨h.os, h.tape, h.output, h.size, h.block⟩
theorem Fr2.drew {b t : Nat} {x y : World} (h : Fr2 b t x y) : Fr2 b t x y.drew := ⟨h.os, h.tape, h.output, h.size, h.block⟩
theorem Fr2.setB {b t : Nat} {x y : World} (h : Fr2 b t x y) (i : Nat) (v : Value) : Fr2 b t x (y.setCell ⟨b, i, none⟩ v) :=
  ⟨h.os, h.tape, h.output, by simpa [World.setCell] using h.size, fun k hk h1 h2 => by rw [heap_setCell_other _ _ _ _ h1]; exact h.block k hk h1 h2⟩
theorem Fr2.setT {b t : Nat} {x y : World} (h : Fr2 b t x y) (i : Nat) (v : Value) : Fr2 b t x (y.setCell ⟨t, i, none⟩ v) :=
  ⟨h.os, h.tape, h.output, by simpa [World.setCell] using h.size, fun k hk h1 h2 => by rw [heap_setCell_other _ _ _ _ h2]; exact h.block k hk h1 h2⟩
theorem Fr2.below {b t : Nat} {x y z : World} (h : Fr2 b t x y) (k : Below x.heap.size y z) : Fr2 b t x z :=
  ⟨k.os.trans h.os, k.tape.trans h.tape, k.output.trans h.output, Nat.le_trans h.size k.size, fun i hi h1 h2 => (k.block i hi).trans (h.block i hi h1 h2)⟩
theorem Fr2.to {b t base : Nat} {x y : World} (h : Fr2 b t x y) (hb : base ≤ b) (ht : base ≤ t) (hs : base ≤ x.heap.size) : Below base x y :=
  ⟨h.os, h.tape, h.output, h.size, fun k hk => h.block k (by omega) (by omega) (by omega)⟩

/-- ap_law where the new block's number is written otherwise. -/
theorem ap_lawH {ops : Array Oper} {rest : List Oper} {o : Oper} {a : Act} {Q : Exit → Act → World → Prop} {w : World} (hgd : o.guard = none) (s x : Operand)
    (ho : o.op = .call { callee := .builtin .append, args := #[s, x], argTypes := #[94, 94] }) (base : Nat) (v : Value) (n : Nat) (l : List Int) (hs : a.eval s = v)
    (hown : w.ownsRow base 5 1 v n (B8 l)) (hbase : base ≤ w.heap.size) (hn : n ≤ 100000) (news : List Int) (m : Nat) (hm : news.length = m) (hm0 : 0 < m) (hm1 : m ≤ 100) (cs : Array Value) (hcs : cs.toList = B8 news)
    (H : Nat) (hx : a.eval x = .slice (some ⟨H, 0, none⟩) m m) (hH : w.heap.size = H)
    (h : ∀ g cap w1, w1.ownsRow base 5 1 (.slice (some ⟨g, 0, none⟩) (n + m) cap) (n + m) (B8 (l ++ news)) → Below base w w1 → wpList Tryz.prog ops Q rest (a.put o.dst (.slice (some ⟨g, 0, none⟩) (n + m) cap)) w1) :
    wpList Tryz.prog ops Q (o :: rest) a (w.alloc (.cells cs 5)) := by
  subst hH
  exact ap_law hgd s x ho base v n l hs hown hbase hn news m hm hm0 hm1 cs hcs hx h
theorem size_set (w : World) (n : Nat) (a : Addr) (v : Value) : ((w.drewN n).setCell a v).heap.size = w.heap.size := by simp [World.setCell, World.drewN]

theorem own2 {w : World} {base e size : Nat} {v : Value} {n : Nat} {xs : List Value} {b : Nat} (h : w.ownsRow base e size v n xs) (hb : b < base) (q r : Nat) (x y : Value) : ((((w.drewN q).setCell ⟨b, 3, none⟩ x).drewN r).setCell ⟨b, 3, none⟩ y).ownsRow base e size v n xs := by
  have h1 : ((w.drewN q).setCell ⟨b, 3, none⟩ x).ownsRow base e size v n xs := ownsRow_setCell_below (w := w.drewN q) (a := ⟨b, 3, none⟩) h hb x
  exact ownsRow_setCell_below (w := ((w.drewN q).setCell ⟨b, 3, none⟩ x).drewN r) (a := ⟨b, 3, none⟩) h1 hb y

def posOf (b : Nat) (w : World) : Nat := match w.cell? ⟨b, 3, none⟩ with | some (.int _ q) => q.toNat | _ => 0
theorem posOf_eq {fr : Int} {b : Nat} {w : World} {s : ByteArray} {m : Value} {p : Nat} {l : Int} {k : Bool} (h : ScAt b w s m fr p l k) : posOf b w = p := by
  unfold posOf; rw [(sc_cells h).2.2.1]; simp

/-- What stands behind the reading of a string. -/
def StrEnd (b t : Nat) (w' : World) (s : ByteArray) (m : Value) (fr : Int) (l f ln : Int) (R : Bool × Nat × List Int) : Prop :=
  if R.1 = true then ScAt b w' s m fr R.2.1 l false ∧ TkAt t w' 4 f 0 ln 0 (strI R.2.2) else ScAt b w' s m fr R.2.1 l true ∧ TkAt t w' 0 f 0 ln 0 ByteArray.empty
theorem StrEnd.yes {fr : Int} {b t : Nat} {w' : World} {s : ByteArray} {m : Value} {l f ln : Int} {R : Bool × Nat × List Int} {p : Nat} {a : List Int} (h : (true, p, a) = R) (h1 : ScAt b w' s m fr p l false) (h2 : TkAt t w' 4 f 0 ln 0 (strI a)) : StrEnd b t w' s m fr l f ln R := by
  subst h; unfold StrEnd; rw [if_pos rfl]; exact ⟨h1, h2⟩
theorem StrEnd.no {fr : Int} {b t : Nat} {w' : World} {s : ByteArray} {m : Value} {l f ln : Int} {R : Bool × Nat × List Int} {p : Nat} {a : List Int} (h : (false, p, a) = R) (h1 : ScAt b w' s m fr p l true) (h2 : TkAt t w' 0 f 0 ln 0 ByteArray.empty) : StrEnd b t w' s m fr l f ln R := by
  subst h; unfold StrEnd; rw [if_neg (by simp)]; exact ⟨h1, h2⟩
theorem castS (p : Nat) : ((p + 1 : Nat) : Int) = (p : Int) + 1 := by omega

set_option maxRecDepth 100000 in
set_option maxHeartbeats 6400000 in
theorem readString_any {fr : Int} (s : ByteArray) (hm : s.size ≤ 70000) (b t : Nat) (w : World) (m : Value) (p : Nat) (l f ln : Int) (hp : p < s.size) (hbt : b ≠ t) (hS : ScAt b w s m fr p l false) (hT : TkAt t w 0 f 0 ln 0 ByteArray.empty) :
    Calls Tryz.prog 65 #[.pointer (some ⟨b, 0, none⟩), .pointer (some ⟨t, 0, none⟩)] w fun e w' => e = .returned (.tuple #[]) ∧ Fr2 b t w w' ∧
      StrEnd b t w' s m fr l f ln (rdStr s (s.size + 1) (p + 1) []) := by
  obtain ⟨R, hR⟩ : ∃ R, rdStr s (s.size + 1) (p + 1) [] = R := ⟨_, rfl⟩
  rw [hR]
  have HR : Hid (rdStr s (s.size + 1) (p + 1) [] = R) := hR
  clear hR
  have hbw : b < w.heap.size := lt_of_block hS
  have htw : t < w.heap.size := lt_of_block hT
  obtain ⟨c0, c1, c2, c3, c4, f2, f3, f4⟩ := sc_cells hS
  go_enter Tryz.func65, Tryz.ntmps65
  go_wp2_with fail
  go_loopw [4] (fun v wr => ∃ (pos n fu : Nat) (acc : List Int), ScAt b wr s m fr pos l false ∧ TkAt t wr 0 f 0 ln 0 ByteArray.empty ∧ wr.ownsRow w.heap.size 5 1 v n (B8 acc) ∧ s.size < pos + fu ∧ pos ≤ s.size ∧ n ≤ pos ∧ Hid (rdStr s fu pos acc = R) ∧ Fr2 b t w wr) (fun _ wr => s.size - posOf b wr)
  case atStart => exact ⟨p + 1, 0, s.size + 1, [], hS.setP _, hT.other (Ne.symm hbt) _, World.ownsRow_nil _ _ _ _, by omega, by omega, by omega, HR, (Fr2.refl b t w).setB _ _⟩
  case round =>
    obtain ⟨pos, n, fu, acc, hSr, hTr, hown, hfu, hpos, hn, HRr, hfr⟩ := hrel
    clear c0 c1 c2 c3 c4 f2 f3 f4
    obtain ⟨c0, c1, c2, c3, c4, f2, f3, f4⟩ := sc_cells hSr
    obtain ⟨t0, t1, t2, t3, t4, t5, tf⟩ := tk_cells hTr
    have hsz := hfr.size
    obtain ⟨fu, rfl⟩ : ∃ g, fu = g + 1 := ⟨fu - 1, by omega⟩
    by_cases hlt : pos < s.size
    · have n1 := bat_in hlt
      have i1 := fun w => idx_run hlt w
      have hstep := HRr.out
      unfold rdStr at hstep
      rw [if_neg (by omega)] at hstep
      obtain ⟨c, hc⟩ : ∃ c, bat s pos = c := ⟨_, rfl⟩
      rw [hc] at n1 i1 hstep
      clear hc
      by_cases g1 : c = 34
      · subst g1
        rw [if_pos rfl] at hstep
        have HST : Hid ((true, pos + 1, acc) = R) := hstep
        clear hstep
        rcases hown.2 with ⟨rfl, hn0⟩ | ⟨g, cap, cur, rfl, rest⟩
        · have hacc : acc = [] := by have := own_len hown; rw [hn0] at this; exact List.eq_nil_of_length_eq_zero this
          have HA : Hid (acc = []) := hacc
          clear hacc
          have kc := conv_nil
          go_wp2_with fail
          go_quiet (fail)
          go_wp2_with fail
          go_quiet (fail)
          go_wp2
          refine bodyPost_ret (results_none rfl _ _ _) rfl ?_
          refine ⟨rfl, (((hfr.drewN _).setB _ _).setT _ _).setT _ _, StrEnd.yes HST.out (by rw [castS]; exact (((hSr.drewN _).setP _).other hbt _).other hbt _) ?_⟩
          rw [HA.out]
          exact (((hTr.drewN _).other (Ne.symm hbt) _).setKind _).setText _
        · have kc := fun q => conv_own (ownsRow_setCell_below (w := wr.drewN q) (a := ⟨b, 3, none⟩) hown hbw (.int .i64 ((pos : Int) + 1)))
          go_wp2_with fail
          go_quiet (fail)
          go_wp2_with fail
          go_quiet (fail)
          go_wp2
          refine bodyPost_ret (results_none rfl _ _ _) rfl ?_
          exact ⟨rfl, (((hfr.drewN _).setB _ _).setT _ _).setT _ _, StrEnd.yes HST.out (by rw [castS]; exact (((hSr.drewN _).setP _).other hbt _).other hbt _) ((((hTr.drewN _).other (Ne.symm hbt) _).setKind _).setText _)⟩
      rw [if_neg g1] at hstep
      have k1 : (c == 34) = false := by simp [g1]
      by_cases g2 : c = 10
      · subst g2
        rw [if_pos rfl] at hstep
        have HST : Hid ((false, pos, acc) = R) := hstep
        clear hstep
        go_wp2_with fail
        go_quiet (fail)
        go_wp2_with fail
        go_quiet (fail)
        go_wp2
        refine bodyPost_ret (results_none rfl _ _ _) rfl ?_
        exact ⟨rfl, (hfr.drewN _).setB _ _, StrEnd.no HST.out ((hSr.drewN _).setK _) ((hTr.drewN _).other (Ne.symm hbt) _)⟩
      rw [if_neg g2] at hstep
      have k2 : (c == 10) = false := by simp [g2]
      by_cases g3 : c = 92
      · subst g3
        rw [if_pos rfl] at hstep
        have hx := escaped_any s (by omega) (pos + 1) (by omega)
        have hbd := escI_bd s (pos + 1) (by omega)
        have hgp := escI_pos s (pos + 1) (by omega)
        rw [castS] at hx
        obtain ⟨E, hE⟩ : ∃ E, escI s (pos + 1) = E := ⟨_, rfl⟩
        rw [hE] at hx hbd hgp hstep
        clear hE g1 g2
        obtain ⟨x, e, ok⟩ := E
        simp only at hbd hgp hstep
        unfold vHex at hx
        simp only at hx
        cases ok
        · rw [if_neg (by simp)] at hstep
          have HST : Hid ((false, e, acc) = R) := hstep
          clear hstep
          go_wp2_with fail
          go_quiet (fail)
          go_wp2_with fail
          go_quiet (fail)
          go_wp2_with fail
          go_quiet ((go_at_call 80; exact Calls.quiet_of_same (hx _)))
          go_wp2
          refine bodyPost_ret (results_none rfl _ _ _) rfl ?_
          exact ⟨rfl, (((((hfr.drewN _).setB _ _).drewN _).setB _ _).setB _ _), StrEnd.no HST.out (((((hSr.drewN _).setP _).drewN _).setP _).setK _) (((((hTr.drewN _).other (Ne.symm hbt) _).drewN _).other (Ne.symm hbt) _).other (Ne.symm hbt) _)⟩
        · rw [if_pos rfl] at hstep
          have he := hgp rfl
          have HST : Hid (rdStr s fu e (acc ++ [x]) = R) := hstep
          clear hstep hgp
          go_wp2_with fail
          go_quiet (fail)
          go_wp2_with fail
          go_quiet (fail)
          go_wp2_with fail
          go_quiet ((go_at_call 80; exact Calls.quiet_of_same (hx _)))
          go_wp2_with (at_builtin; refine ap_lawH rfl (.tmp 100) (.tmp 102) rfl w.heap.size _ n acc rfl (own2 hown hbw _ _ _ _) (by rw [size_set, size_set]; exact hsz) (by omega) [x] 1 rfl (by decide) (by decide) _ rfl wr.heap.size rfl (by rw [size_set, size_set]) ?_; intro g cap w1 hown1 hb1)
          have hS1 : ScAt b w1 s m fr (e : Int) l false := ((((hSr.drewN _).setP _).drewN _).setP _).below hb1 hbw
          go_roundw
          case rel => exact ⟨e, n + 1, fu, acc ++ [x], hS1, ((((hTr.drewN _).other (Ne.symm hbt) _).drewN _).other (Ne.symm hbt) _).below hb1 htw, hown1, by omega, by omega, by omega, HST, ((((hfr.drewN _).setB _ _).drewN _).setB _ _).below hb1⟩
          case measure => rw [posOf_eq hS1, posOf_eq hSr]; omega
      rw [if_neg g3] at hstep
      have k3 : (c == 92) = false := by simp [g3]
      have HST : Hid (rdStr s fu (pos + 1) (acc ++ [c]) = R) := hstep
      clear hstep
      go_wp2_with fail
      go_quiet (fail)
      go_wp2_with fail
      go_quiet (fail)
      go_wp2_with (at_builtin; refine ap_lawH rfl (.tmp 43) (.tmp 45) rfl w.heap.size _ n acc rfl (ownsRow_setCell_below (a := ⟨b, 3, none⟩) (w := wr.drewN _) hown hbw _) (by rw [size_set]; exact hsz) (by omega) [c] 1 rfl (by decide) (by decide) _ rfl wr.heap.size rfl (size_set _ _ _ _) ?_; intro g cap w1 hown1 hb1)
      have hS1 : ScAt b w1 s m fr ((pos + 1 : Nat) : Int) l false := by rw [castS]; exact ((hSr.drewN _).setP _).below hb1 hbw
      go_roundw
      case rel => exact ⟨pos + 1, n + 1, fu, acc ++ [c], hS1, ((hTr.drewN _).other (Ne.symm hbt) _).below hb1 htw, hown1, by omega, by omega, by omega, HST, ((hfr.drewN _).setB _ _).below hb1⟩
      case measure => rw [posOf_eq hS1, posOf_eq hSr]; omega
    · have hstep := HRr.out
      unfold rdStr at hstep
      rw [if_pos (by omega)] at hstep
      have HST : Hid ((false, pos, acc) = R) := hstep
      clear hstep
      obtain rfl : pos = s.size := by omega
      go_wp2_with fail
      go_quiet (fail)
      go_wp2
      go_end0
      exact ⟨rfl, (hfr.drewN _).setB _ _, StrEnd.no HST.out ((hSr.drewN _).setK _) ((hTr.drewN _).other (Ne.symm hbt) _)⟩
end Go.Proofs.YtdlhfiheingibaaGreatDoor

namespace Go.Proofs.YtdlhfiheingibaaGreatDoor
open Go.RowKit
set_option linter.unusedVariables false

def vTok (k f t l n : Int) (x : ByteArray) : Value := .agg #[.int .i64 k, .int .i64 f, .int .i64 t, .int .i64 l, .int .i64 n, .string x]

theorem gr_new {w x : World} {b : Nat} {a : Addr} (h : w.grownBy x (some b)) (v : Value) (ha : w.heap.size ≤ a.block) : w.grownBy (x.setCell a v) (some b) :=
  ⟨h.os, h.tape, h.output, by simpa [World.setCell] using h.size, fun k hk hne => by rw [heap_setCell_other _ _ _ _ (by omega)]; exact h.block k hk hne⟩
theorem gr_fr2 {w x y : World} {b t : Nat} (h : Below w.heap.size w x) (k : Fr2 b t x y) (ht : w.heap.size ≤ t) : w.grownBy y (some b) :=
  ⟨k.os.trans h.os, k.tape.trans h.tape, k.output.trans h.output, Nat.le_trans h.size k.size, fun i hi hne => (k.block i (Nat.lt_of_lt_of_le hi h.size) (fun e => hne (by rw [e])) (by omega)).trans (h.block i hi)⟩

end Go.Proofs.YtdlhfiheingibaaGreatDoor

namespace Go.Proofs.YtdlhfiheingibaaGreatDoor
open Go.RowKit Go.Maps Go.WideMaps
set_option linter.unusedVariables false

def wordV : Array Value := #[.string { data := #[97, 110, 100] }, .string { data := #[98, 114, 101, 97, 107] }, .string { data := #[99, 97, 116, 99, 104] }, .string { data := #[99, 111, 110, 115, 116] }, .string { data := #[100, 101, 102, 101, 114] }, .string { data := #[101, 108, 105, 102] }, .string { data := #[101, 108, 115, 101] }, .string { data := #[102, 97, 108, 115, 101] }, .string { data := #[102, 110] }, .string { data := #[102, 111, 114] }, .string { data := #[105, 102] }, .string { data := #[105, 110] }, .string { data := #[108, 101, 116] }, .string { data := #[110, 101, 120, 116] }, .string { data := #[110, 105, 108] }, .string { data := #[110, 111, 116] }, .string { data := #[111, 114] }, .string { data := #[114, 101, 116, 117, 114, 110] }, .string { data := #[116, 104, 114, 111, 119] }, .string { data := #[116, 114, 117, 101] }, .string { data := #[116, 114, 121] }, .string { data := #[119, 104, 105, 108, 101] }]
def wordAt (k : Nat) : ByteArray := match wordV[k]? with | some (.string s) => s | _ => ByteArray.empty
theorem widx (k : Nat) (hk : k < 22) (w : World) : (Instr.index 81 (.agg wordV) (.int .i64 (k : Int))).run Tryz.prog w = .ok (.string (wordAt k)) w := by
  rcases (show k = 0 ∨ k = 1 ∨ k = 2 ∨ k = 3 ∨ k = 4 ∨ k = 5 ∨ k = 6 ∨ k = 7 ∨ k = 8 ∨ k = 9 ∨ k = 10 ∨ k = 11 ∨ k = 12 ∨ k = 13 ∨ k = 14 ∨ k = 15 ∨ k = 16 ∨ k = 17 ∨ k = 18 ∨ k = 19 ∨ k = 20 ∨ k = 21 by omega) with rfl | rfl | rfl | rfl | rfl | rfl | rfl | rfl | rfl | rfl | rfl | rfl | rfl | rfl | rfl | rfl | rfl | rfl | rfl | rfl | rfl | rfl
  all_goals kernel_rfl
theorem wordAt_size : ∀ k : Fin 22, (wordAt k.val).size ≤ 100 := by decide
def wkD {H : Type} : Nat → DataW H
  | 0 => .map []
  | k + 1 => (wkD k).put (.string (wordAt k).data.toList) (.lit (.int .i64 (10 + (k : Int))))
theorem kLaw : Keyed Tryz.prog 9 := string_keyed Tryz.underlying9

set_option maxRecDepth 100000 in
set_option maxHeartbeats 1600000 in
theorem wordKinds_any {H : Type} (w : World) (fr : Nat × Nat) (tt : TypeId) (hG : w.heap[0]? = some (.cells wordV tt fr)) :
    Calls Tryz.prog 22 #[] w fun e w' => e = .returned (.map (some w.heap.size)) ∧ w'.ownsMap Tryz.prog 9 (plainElem (H := H) Tryz.prog 3) w.heap.size 22 (wkD 22) ∧ Below w.heap.size w w' := by
  have hlt : 0 < w.heap.size := lt_of_block hG
  have hmm : ∀ w : World, (Instr.makeMap 60 (some (.int .i64 22))).run Tryz.prog w = .ok (.map (some w.heap.size)) (w.alloc (.map #[] 0)) := fun w => by kernel_rfl
  have hG1 : (w.alloc (.map #[] 0)).heap[0]? = some (.cells wordV tt fr) := (Below.heap_alloc w _ _ hlt).trans hG
  go_enter Tryz.func22, Tryz.ntmps22
  go_wp2_with (refine wpList_load_row rfl 81 _ rfl 0 rfl tt _ fr _ hG1 Tryz.underlying81 rfl (by kernel_rfl) ?_)
  go_loopw [6] (fun i wr => ∃ k : Nat, k ≤ 22 ∧ i = .int .i64 k ∧ wr.ownsMap Tryz.prog 9 (plainElem (H := H) Tryz.prog 3) w.heap.size k (wkD k) ∧ Below w.heap.size w wr) (fun i _ => 22 - (intOf i).toNat)
  case atStart => exact ⟨0, by omega, rfl, World.ownsMap_made _ _ _ _, (Below.refl _ _).alloc (Nat.le_refl _) _⟩
  case round =>
    obtain ⟨k, hk, rfl, hown, hnx⟩ := hrel
    by_cases hlt : k < 22
    · have hix := fun w => widx k hlt w
      have hsz : (wordAt k).size ≤ 100 := wordAt_size ⟨k, hlt⟩
      have hkey : keyOf Tryz.prog 9 (.string (wordAt k)) = some (.string (wordAt k).data.toList) := keyOf_string_mk Tryz.underlying9 (by unfold maxLen; omega)
      have hst : Hid (wkD (H := H) (k + 1) = (wkD k).put (.string (wordAt k).data.toList) (.lit (.int .i64 (10 + (k : Int))))) := rfl
      go_wp2_with (at_mapUpdate; refine wpList_mapUpdate_own _ rfl _ _ _ 60 rfl 9 3 kLaw Tryz.underlying60 _ w.heap.size k _ rfl hown (by unfold maxLen; omega) _ _ _ rfl rfl hkey _ [] (plainElem_int Tryz.underlying3 (WalkArith.wf_i64 (by omega))) ?_; intro w1 hown1 hgrow1)
      go_roundw
      case rel => exact ⟨k + 1, by omega, by go_num, by rw [hst.out]; exact hown1, hnx.grown hgrow1 hnx.size (fun j hj => by cases hj; exact Nat.le_refl _)⟩
      case measure => simp [intOf]; omega
    · obtain rfl : k = 22 := by omega
      go_wp2
      go_ret
      exact ⟨rfl, hown, hnx⟩
end Go.Proofs.YtdlhfiheingibaaGreatDoor

namespace Go.Proofs.YtdlhfiheingibaaGreatDoor
open Go.RowKit
set_option linter.unusedVariables false

def opsV : Array Value := #[.string { data := #[] }, .string { data := #[43] }, .string { data := #[45] }, .string { data := #[42] }, .string { data := #[47] }, .string { data := #[47, 47] }, .string { data := #[37] }, .string { data := #[38] }, .string { data := #[124] }, .string { data := #[126] }, .string { data := #[60, 60] }, .string { data := #[62, 62] }, .string { data := #[46, 46] }, .string { data := #[61, 61] }, .string { data := #[126, 61] }, .string { data := #[60] }, .string { data := #[60, 61] }, .string { data := #[62] }, .string { data := #[62, 61] }]
def othV : Array Value := #[.string { data := #[40] }, .string { data := #[41] }, .string { data := #[123] }, .string { data := #[125] }, .string { data := #[91] }, .string { data := #[93] }, .string { data := #[44] }, .string { data := #[61] }, .string { data := #[46] }, .string { data := #[46, 46, 46] }, .string { data := #[35] }]
def sgnV : Array Value := #[.string { data := #[46, 46, 46] }, .string { data := #[46, 46] }, .string { data := #[46] }, .string { data := #[60, 60] }, .string { data := #[60, 61] }, .string { data := #[60] }, .string { data := #[62, 62] }, .string { data := #[62, 61] }, .string { data := #[62] }, .string { data := #[61, 61] }, .string { data := #[61] }, .string { data := #[126, 61] }, .string { data := #[126] }, .string { data := #[47, 47] }, .string { data := #[47] }, .string { data := #[40] }, .string { data := #[41] }, .string { data := #[123] }, .string { data := #[125] }, .string { data := #[91] }, .string { data := #[93] }, .string { data := #[44] }, .string { data := #[59] }, .string { data := #[35] }, .string { data := #[43] }, .string { data := #[45] }, .string { data := #[42] }, .string { data := #[37] }, .string { data := #[38] }, .string { data := #[124] }]
theorem opsV_eq : (#[.string { data := #[] }, .string { data := #[43] }, .string { data := #[45] }, .string { data := #[42] }, .string { data := #[47] }, .string { data := #[47, 47] }, .string { data := #[37] }, .string { data := #[38] }, .string { data := #[124] }, .string { data := #[126] }, .string { data := #[60, 60] }, .string { data := #[62, 62] }, .string { data := #[46, 46] }, .string { data := #[61, 61] }, .string { data := #[126, 61] }, .string { data := #[60] }, .string { data := #[60, 61] }, .string { data := #[62] }, .string { data := #[62, 61] }] : Array Value) = opsV := rfl
theorem othV_eq : (#[.string { data := #[40] }, .string { data := #[41] }, .string { data := #[123] }, .string { data := #[125] }, .string { data := #[91] }, .string { data := #[93] }, .string { data := #[44] }, .string { data := #[61] }, .string { data := #[46] }, .string { data := #[46, 46, 46] }, .string { data := #[35] }] : Array Value) = othV := rfl
theorem sgnV_eq : (#[.string { data := #[46, 46, 46] }, .string { data := #[46, 46] }, .string { data := #[46] }, .string { data := #[60, 60] }, .string { data := #[60, 61] }, .string { data := #[60] }, .string { data := #[62, 62] }, .string { data := #[62, 61] }, .string { data := #[62] }, .string { data := #[61, 61] }, .string { data := #[61] }, .string { data := #[126, 61] }, .string { data := #[126] }, .string { data := #[47, 47] }, .string { data := #[47] }, .string { data := #[40] }, .string { data := #[41] }, .string { data := #[123] }, .string { data := #[125] }, .string { data := #[91] }, .string { data := #[93] }, .string { data := #[44] }, .string { data := #[59] }, .string { data := #[35] }, .string { data := #[43] }, .string { data := #[45] }, .string { data := #[42] }, .string { data := #[37] }, .string { data := #[38] }, .string { data := #[124] }] : Array Value) = sgnV := rfl
theorem wordV_eq : (#[.string { data := #[97, 110, 100] }, .string { data := #[98, 114, 101, 97, 107] }, .string { data := #[99, 97, 116, 99, 104] }, .string { data := #[99, 111, 110, 115, 116] }, .string { data := #[100, 101, 102, 101, 114] }, .string { data := #[101, 108, 105, 102] }, .string { data := #[101, 108, 115, 101] }, .string { data := #[102, 97, 108, 115, 101] }, .string { data := #[102, 110] }, .string { data := #[102, 111, 114] }, .string { data := #[105, 102] }, .string { data := #[105, 110] }, .string { data := #[108, 101, 116] }, .string { data := #[110, 101, 120, 116] }, .string { data := #[110, 105, 108] }, .string { data := #[110, 111, 116] }, .string { data := #[111, 114] }, .string { data := #[114, 101, 116, 117, 114, 110] }, .string { data := #[116, 104, 114, 111, 119] }, .string { data := #[116, 114, 117, 101] }, .string { data := #[116, 114, 121] }, .string { data := #[119, 104, 105, 108, 101] }] : Array Value) = wordV := rfl
def strAt (V : Array Value) (k : Nat) : ByteArray := match V[k]? with | some (.string s) => s | _ => ByteArray.empty
theorem ops_at : ∀ k : Fin 19, opsV[k.val]? = some (.string (strAt opsV k.val)) := by
  intro ⟨k, hk⟩
  rcases (show k = 0 ∨ k = 1 ∨ k = 2 ∨ k = 3 ∨ k = 4 ∨ k = 5 ∨ k = 6 ∨ k = 7 ∨ k = 8 ∨ k = 9 ∨ k = 10 ∨ k = 11 ∨ k = 12 ∨ k = 13 ∨ k = 14 ∨ k = 15 ∨ k = 16 ∨ k = 17 ∨ k = 18 by omega) with rfl | rfl | rfl | rfl | rfl | rfl | rfl | rfl | rfl | rfl | rfl | rfl | rfl | rfl | rfl | rfl | rfl | rfl | rfl
  all_goals rfl
theorem oth_at : ∀ k : Fin 11, othV[k.val]? = some (.string (strAt othV k.val)) := by
  intro ⟨k, hk⟩
  rcases (show k = 0 ∨ k = 1 ∨ k = 2 ∨ k = 3 ∨ k = 4 ∨ k = 5 ∨ k = 6 ∨ k = 7 ∨ k = 8 ∨ k = 9 ∨ k = 10 by omega) with rfl | rfl | rfl | rfl | rfl | rfl | rfl | rfl | rfl | rfl | rfl
  all_goals rfl
theorem sgn_at : ∀ k : Fin 30, sgnV[k.val]? = some (.string (strAt sgnV k.val)) := by
  intro ⟨k, hk⟩
  rcases (show k = 0 ∨ k = 1 ∨ k = 2 ∨ k = 3 ∨ k = 4 ∨ k = 5 ∨ k = 6 ∨ k = 7 ∨ k = 8 ∨ k = 9 ∨ k = 10 ∨ k = 11 ∨ k = 12 ∨ k = 13 ∨ k = 14 ∨ k = 15 ∨ k = 16 ∨ k = 17 ∨ k = 18 ∨ k = 19 ∨ k = 20 ∨ k = 21 ∨ k = 22 ∨ k = 23 ∨ k = 24 ∨ k = 25 ∨ k = 26 ∨ k = 27 ∨ k = 28 ∨ k = 29 by omega) with rfl | rfl | rfl | rfl | rfl | rfl | rfl | rfl | rfl | rfl | rfl | rfl | rfl | rfl | rfl | rfl | rfl | rfl | rfl | rfl | rfl | rfl | rfl | rfl | rfl | rfl | rfl | rfl | rfl | rfl
  all_goals rfl
theorem word_at : ∀ k : Fin 22, wordV[k.val]? = some (.string (strAt wordV k.val)) := by
  intro ⟨k, hk⟩
  rcases (show k = 0 ∨ k = 1 ∨ k = 2 ∨ k = 3 ∨ k = 4 ∨ k = 5 ∨ k = 6 ∨ k = 7 ∨ k = 8 ∨ k = 9 ∨ k = 10 ∨ k = 11 ∨ k = 12 ∨ k = 13 ∨ k = 14 ∨ k = 15 ∨ k = 16 ∨ k = 17 ∨ k = 18 ∨ k = 19 ∨ k = 20 ∨ k = 21 by omega) with rfl | rfl | rfl | rfl | rfl | rfl | rfl | rfl | rfl | rfl | rfl | rfl | rfl | rfl | rfl | rfl | rfl | rfl | rfl | rfl | rfl | rfl
  all_goals rfl

/-- The first place from k on, f places looked at, that holds s. -/
def fnd (V : Array Value) (s : ByteArray) : Nat → Nat → Option Nat
  | 0, _ => none
  | f + 1, k => if ((strAt V k).toList == s.toList) = true then some k else fnd V s f (k + 1)
def sgnI (s : ByteArray) : Int := match fnd opsV s 18 1 with | some k => 60 + (k : Int) | none => (match fnd othV s 11 0 with | some k => 40 + (k : Int) | none => 5)

theorem l1words_any (w : World) : Calls Tryz.prog 50 #[] w fun e w' => e = .returned (.slice (some ⟨w.heap.size, 0, none⟩) 22 22) ∧ w' = w.alloc (.cells wordV 9) := by
  go_enter Tryz.func50, Tryz.ntmps50
  go_wp2
  go_ret
  exact ⟨rfl, rfl⟩
theorem l1signs_any (w : World) : Calls Tryz.prog 34 #[] w fun e w' => e = .returned (.slice (some ⟨w.heap.size, 0, none⟩) 30 30) ∧ w' = w.alloc (.cells sgnV 9) := by
  go_enter Tryz.func34, Tryz.ntmps34
  go_wp2
  go_ret
  exact ⟨rfl, rfl⟩

set_option maxRecDepth 100000 in
set_option maxHeartbeats 3200000 in
theorem l1sign_any (s : ByteArray) (w : World) : Calls Tryz.prog 35 #[.string s] w fun e w' => e = .returned (.int .i64 (sgnI s)) ∧ Below w.heap.size w w' := by
  go_enter Tryz.func35, Tryz.ntmps35
  go_wp2_with fail
  rw [opsV_eq]
  have hblk := heap_alloc_new w (.cells opsV 9)
  have hbel : Below w.heap.size w (w.alloc (.cells opsV 9)) := (Below.refl _ w).alloc (Nat.le_refl _) _
  generalize w.alloc (.cells opsV 9) = W1 at hblk hbel ⊢
  obtain ⟨R, hR⟩ : ∃ R, fnd opsV s 18 1 = R := ⟨_, rfl⟩
  have HR : Hid (fnd opsV s 18 1 = R) := hR
  clear hR
  go_loop [4] (fun i => ∃ k : Nat, 1 ≤ k ∧ k ≤ 19 ∧ i = .int .i64 k ∧ Hid (fnd opsV s (19 - k) k = R)) (fun i => 19 - (intOf i).toNat)
  case atStart => exact ⟨1, by omega, by omega, rfl, HR⟩
  case round =>
    obtain ⟨k, hk1, hk2, rfl, HF⟩ := hrel
    by_cases hlt : k < 19
    · have hck : W1.cell? ⟨w.heap.size, k, none⟩ = some (.string (strAt opsV k)) := by rw [cell_of_row _ _ _ _ _ _ hblk]; exact ops_at ⟨k, hlt⟩
      have hst := HF.out
      rw [show 19 - k = (19 - (k + 1)) + 1 by omega] at hst
      unfold fnd at hst
      generalize strAt opsV k = x at hck hst
      by_cases hx : (x.toList == s.toList) = true
      · rw [if_pos hx] at hst
        have HS : Hid (some k = R) := hst
        clear hst
        go_wp2
        go_ret
        refine ⟨?_, hbel⟩
        unfold sgnI
        rw [HR.out, ← HS.out]
        rfl
      · rw [if_neg hx] at hst
        have HS : Hid (fnd opsV s (19 - (k + 1)) (k + 1) = R) := hst
        have hx' : (x.toList == s.toList) = false := by simpa using hx
        clear hst hx
        go_wp2
        go_round
        case rel => exact ⟨k + 1, by omega, by omega, by go_num, HS⟩
        case measure => simp [intOf]; omega
    · obtain rfl : k = 19 := by omega
      have HS : Hid (none = R) := HF.out
      go_wp2_with fail
      rw [othV_eq]
      have hblk2 := heap_alloc_new W1 (.cells othV 9)
      have hsz := hbel.size
      have hbel2 : Below w.heap.size w (W1.alloc (.cells othV 9)) := hbel.alloc hsz _
      generalize W1.alloc (.cells othV 9) = W2 at hblk2 hbel2 ⊢
      obtain ⟨R2, hR2⟩ : ∃ R, fnd othV s 11 0 = R := ⟨_, rfl⟩
      have HR2 : Hid (fnd othV s 11 0 = R2) := hR2
      clear hR2
      go_loop [26] (fun i => ∃ k : Nat, k ≤ 11 ∧ i = .int .i64 k ∧ Hid (fnd othV s (11 - k) k = R2)) (fun i => 11 - (intOf i).toNat)
      case atStart => exact ⟨0, by omega, rfl, HR2⟩
      case round =>
        obtain ⟨k, hk2, rfl, HF⟩ := hrel
        by_cases hlt : k < 11
        · have hck : W2.cell? ⟨W1.heap.size, k, none⟩ = some (.string (strAt othV k)) := by rw [cell_of_row _ _ _ _ _ _ hblk2]; exact oth_at ⟨k, hlt⟩
          have hst := HF.out
          rw [show 11 - k = (11 - (k + 1)) + 1 by omega] at hst
          unfold fnd at hst
          generalize strAt othV k = x at hck hst
          by_cases hx : (x.toList == s.toList) = true
          · rw [if_pos hx] at hst
            have HS2 : Hid (some k = R2) := hst
            clear hst
            go_wp2
            go_ret
            refine ⟨?_, hbel2⟩
            unfold sgnI
            rw [HR.out, ← HS.out, HR2.out, ← HS2.out]
            rfl
          · rw [if_neg hx] at hst
            have HS2 : Hid (fnd othV s (11 - (k + 1)) (k + 1) = R2) := hst
            have hx' : (x.toList == s.toList) = false := by simpa using hx
            clear hst hx
            go_wp2
            go_round
            case rel => exact ⟨k + 1, by omega, by go_num, HS2⟩
            case measure => simp [intOf]; omega
        · obtain rfl : k = 11 := by omega
          have HS2 : Hid (none = R2) := HF.out
          go_wp2
          go_ret
          refine ⟨?_, hbel2⟩
          unfold sgnI
          rw [HR.out, ← HS.out, HR2.out, ← HS2.out]
          rfl
end Go.Proofs.YtdlhfiheingibaaGreatDoor

namespace Go.Proofs.YtdlhfiheingibaaGreatDoor
open Go.RowKit
set_option linter.unusedVariables false

def semiS : ByteArray := { data := #[59] }
def lineS : ByteArray := { data := #[10] }
def emptyS : ByteArray := { data := #[] }
/-- The first sign from k on, f looked at, whose kind this is. -/
def fndS (kind : Int) : Nat → Nat → ByteArray
  | 0, _ => emptyS
  | f + 1, k => if sgnI (strAt sgnV k) = kind then strAt sgnV k else fndS kind f (k + 1)
def txtI (kind : Int) : ByteArray := if kind = 5 then semiS else if 10 ≤ kind ∧ kind < 32 then strAt wordV (kind - 10).toNat else fndS kind 30 0

def binV : Array Value := #[.string { data := #[43] }, .string { data := #[45] }, .string { data := #[42] }, .string { data := #[47] }, .string { data := #[47, 47] }, .string { data := #[37] }, .string { data := #[38] }, .string { data := #[124] }, .string { data := #[126] }, .string { data := #[60, 60] }, .string { data := #[62, 62] }, .string { data := #[46, 46] }, .string { data := #[61, 61] }, .string { data := #[126, 61] }, .string { data := #[60] }, .string { data := #[60, 61] }, .string { data := #[62] }, .string { data := #[62, 61] }]
theorem bin_at : ∀ k : Fin 18, binV[k.val]? = some (.string (strAt binV k.val)) := by
  intro ⟨k, hk⟩
  rcases (show k = 0 ∨ k = 1 ∨ k = 2 ∨ k = 3 ∨ k = 4 ∨ k = 5 ∨ k = 6 ∨ k = 7 ∨ k = 8 ∨ k = 9 ∨ k = 10 ∨ k = 11 ∨ k = 12 ∨ k = 13 ∨ k = 14 ∨ k = 15 ∨ k = 16 ∨ k = 17 by omega) with rfl | rfl | rfl | rfl | rfl | rfl | rfl | rfl | rfl | rfl | rfl | rfl | rfl | rfl | rfl | rfl | rfl | rfl
  all_goals rfl

/-- The three tables of texts lie as the program's text lays them. -/
structure Tabs (w : World) : Prop where
  word : ∃ tt fr, w.heap[0]? = some (.cells wordV tt fr)
  mark : ∃ tt fr, w.heap[2]? = some (.cells othV tt fr)
  bin : ∃ tt fr, w.heap[3]? = some (.cells binV tt fr)
theorem Tabs.below {w w' : World} {B : Nat} (h : Tabs w) (hb : Below B w w') (hB : w.heap.size ≤ B) : Tabs w' := by
  obtain ⟨⟨t1, f1, h1⟩, ⟨t2, f2, h2⟩, ⟨t3, f3, h3⟩⟩ := h
  exact ⟨⟨t1, f1, (hb.block _ (Nat.lt_of_lt_of_le (lt_of_block h1) hB)).trans h1⟩, ⟨t2, f2, (hb.block _ (Nat.lt_of_lt_of_le (lt_of_block h2) hB)).trans h2⟩, ⟨t3, f3, (hb.block _ (Nat.lt_of_lt_of_le (lt_of_block h3) hB)).trans h3⟩⟩

def fixI (kind : Int) : ByteArray := if kind = 5 then semiS else if kind = 7 then lineS else if 10 ≤ kind ∧ kind ≤ 31 then strAt wordV (kind - 10).toNat else if 40 ≤ kind ∧ kind ≤ 50 then strAt othV (kind - 40).toNat else if 61 ≤ kind ∧ kind ≤ 78 then strAt binV (kind - 61).toNat else emptyS

set_option maxRecDepth 100000 in
set_option maxHeartbeats 3200000 in
theorem fixedText_any (kind : Int) (h0 : -9223372036854775808 ≤ kind) (h1 : kind ≤ 9223372036854775807) (w : World) (hT : Tabs w) : Calls Tryz.prog 71 #[.int .i64 kind] w fun e w' => e = .returned (.string (fixI kind)) ∧ w' = w := by
  obtain ⟨⟨t1, f1, hw⟩, ⟨t2, f2, hmk⟩, ⟨t3, f3, hbn⟩⟩ := hT
  unfold fixI
  by_cases e5 : kind = 5
  · subst e5
    go_enter Tryz.func71, Tryz.ntmps71
    go_wp2
    go_ret
    exact ⟨rfl, rfl⟩
  by_cases e7 : kind = 7
  · subst e7
    go_enter Tryz.func71, Tryz.ntmps71
    go_wp2
    go_ret
    exact ⟨rfl, rfl⟩
  rw [if_neg e5, if_neg e7]
  have g5 : (kind == 5) = false := by simp [e5]
  have g7 : (kind == 7) = false := by simp [e7]
  by_cases c1 : 10 ≤ kind ∧ kind ≤ 31
  · rw [if_pos c1]
    obtain ⟨k, hk⟩ : ∃ k : Nat, kind = 10 + (k : Int) := ⟨(kind - 10).toNat, by omega⟩
    subst hk
    rw [show ((10 + (k : Int)) - 10).toNat = k by omega]
    have hk22 : k < 22 := by omega
    have hck : w.cell? ⟨0, k, none⟩ = some (.string (strAt wordV k)) := by rw [cell_of_row _ _ _ _ _ _ hw]; exact word_at ⟨k, hk22⟩
    clear c1 e5 e7
    go_enter Tryz.func71, Tryz.ntmps71
    go_wp2
    go_ret
    exact ⟨rfl, rfl⟩
  by_cases c2 : 40 ≤ kind ∧ kind ≤ 50
  · rw [if_neg c1, if_pos c2]
    obtain ⟨k, hk⟩ : ∃ k : Nat, kind = 40 + (k : Int) := ⟨(kind - 40).toNat, by omega⟩
    subst hk
    rw [show ((40 + (k : Int)) - 40).toNat = k by omega]
    have hk11 : k < 11 := by omega
    have hck : w.cell? ⟨2, k, none⟩ = some (.string (strAt othV k)) := by rw [cell_of_row _ _ _ _ _ _ hmk]; exact oth_at ⟨k, hk11⟩
    clear c1 c2 e5 e7
    go_enter Tryz.func71, Tryz.ntmps71
    go_wp2
    go_ret
    exact ⟨rfl, rfl⟩
  by_cases c3 : 61 ≤ kind ∧ kind ≤ 78
  · rw [if_neg c1, if_neg c2, if_pos c3]
    obtain ⟨k, hk⟩ : ∃ k : Nat, kind = 61 + (k : Int) := ⟨(kind - 61).toNat, by omega⟩
    subst hk
    rw [show ((61 + (k : Int)) - 61).toNat = k by omega]
    have hk18 : k < 18 := by omega
    have hck : w.cell? ⟨3, 61 + k - 60 - 1, none⟩ = some (.string (strAt binV k)) := by rw [show 61 + k - 60 - 1 = k by omega, cell_of_row _ _ _ _ _ _ hbn]; exact bin_at ⟨k, hk18⟩
    clear c1 c2 c3 e5 e7
    go_enter Tryz.func71, Tryz.ntmps71
    go_wp2
    go_ret
    exact ⟨rfl, rfl⟩
  rw [if_neg c1, if_neg c2, if_neg c3]
  rcases (show kind < 10 ∨ (31 < kind ∧ kind < 40) ∨ (50 < kind ∧ kind ≤ 60) ∨ 78 < kind by omega) with h | ⟨h, h'⟩ | ⟨h, h'⟩ | h
  all_goals
    clear c1 c2 c3 e5 e7
    go_enter Tryz.func71, Tryz.ntmps71
    go_wp2
    go_ret
    exact ⟨rfl, rfl⟩

set_option maxRecDepth 100000 in
set_option maxHeartbeats 3200000 in
theorem l1text_any (kind : Int) (w : World) : Calls Tryz.prog 58 #[.int .i64 kind] w fun e w' => e = .returned (.string (txtI kind)) ∧ Below w.heap.size w w' := by
  unfold txtI
  by_cases h5 : kind = 5
  · subst h5
    go_enter Tryz.func58, Tryz.ntmps58
    go_wp2
    go_ret
    exact ⟨rfl, Below.refl _ _⟩
  rw [if_neg h5]
  have g5 : (kind == 5) = false := by simp [h5]
  by_cases hw : 10 ≤ kind ∧ kind < 32
  · rw [if_pos hw]
    obtain ⟨k, hk⟩ : ∃ k : Nat, kind = 10 + (k : Int) := ⟨(kind - 10).toNat, by omega⟩
    subst hk
    have hk22 : k < 22 := by omega
    have hh : ((10 + (k : Int)) - 10).toNat = k := by omega
    rw [hh]
    have hbel : Below w.heap.size w (w.alloc (.cells wordV 9)) := (Below.refl _ w).alloc (Nat.le_refl _) _
    have hck : (w.alloc (.cells wordV 9)).cell? ⟨w.heap.size, k, none⟩ = some (.string (strAt wordV k)) := by rw [cell_of_row _ _ _ _ _ _ (heap_alloc_new w _)]; exact word_at ⟨k, hk22⟩
    obtain ⟨W1, hW1⟩ : ∃ W1, W1 = w.alloc (.cells wordV 9) := ⟨_, rfl⟩
    rw [← hW1] at hck hbel
    have k1 : Calls Tryz.prog 50 #[] w fun e w' => e = .returned (.slice (some ⟨w.heap.size, 0, none⟩) 22 22) ∧ W1 = w' := by rw [hW1]; exact (l1words_any w).mono fun e w' h => ⟨h.1, h.2.symm⟩
    clear hW1
    go_enter Tryz.func58, Tryz.ntmps58
    go_wp2_with (go_at_call 50; refine k1.mono ?_; rintro e w1 ⟨rfl, rfl⟩)
    go_ret
    exact ⟨rfl, hbel⟩
  · rw [if_neg hw]
    obtain ⟨W1, hW1⟩ : ∃ W1, W1 = w.alloc (.cells wordV 9) := ⟨_, rfl⟩
    have k1 : Calls Tryz.prog 50 #[] w fun e w' => e = .returned (.slice (some ⟨w.heap.size, 0, none⟩) 22 22) ∧ W1 = w' := by rw [hW1]; exact (l1words_any w).mono fun e w' h => ⟨h.1, h.2.symm⟩
    have hbel : Below w.heap.size w W1 := by rw [hW1]; exact (Below.refl _ w).alloc (Nat.le_refl _) _
    clear hW1
    obtain ⟨W2, hW2⟩ : ∃ W2, W2 = W1.alloc (.cells sgnV 9) := ⟨_, rfl⟩
    have k2 : Calls Tryz.prog 34 #[] W1 fun e w' => e = .returned (.slice (some ⟨W1.heap.size, 0, none⟩) 30 30) ∧ W2 = w' := by rw [hW2]; exact (l1signs_any W1).mono fun e w' h => ⟨h.1, h.2.symm⟩
    have hblk : W2.heap[W1.heap.size]? = some (.cells sgnV 9 (0, 0)) := by rw [hW2]; exact heap_alloc_new W1 _
    have hbel2 : Below W1.heap.size W1 W2 := by rw [hW2]; exact (Below.refl _ W1).alloc (Nat.le_refl _) _
    have hs2 : W1.heap.size < W2.heap.size := lt_of_block hblk
    clear hW2
    obtain ⟨R, hR⟩ : ∃ R, fndS kind 30 0 = R := ⟨_, rfl⟩
    rw [hR]
    have HR : Hid (fndS kind 30 0 = R) := hR
    clear hR
    have hs1 := hbel.size
    rcases (show ¬ 10 ≤ kind ∨ (10 ≤ kind ∧ ¬ kind < 10 + 22) by omega) with g10 | ⟨g9, g10⟩
    all_goals
      go_enter Tryz.func58, Tryz.ntmps58
      go_wp2_with (first | (go_at_call 50; refine k1.mono ?_; rintro e w1 ⟨rfl, rfl⟩) | (go_at_call 34; refine k2.mono ?_; rintro e w2 ⟨rfl, rfl⟩))
      go_loopw [25] (fun i wr => ∃ k : Nat, k ≤ 30 ∧ i = .int .i64 k ∧ Hid (fndS kind (30 - k) k = R) ∧ wr.heap[W1.heap.size]? = some (.cells sgnV 9 (0, 0)) ∧ Below w.heap.size w wr) (fun i _ => 30 - (intOf i).toNat)
      case atStart => exact ⟨0, by omega, rfl, HR, hblk, hbel.trans (hbel2.mono hs1)⟩
      case round =>
        obtain ⟨k, hk, rfl, HF, hbr, hbelr⟩ := hrel
        have hsr := hbelr.size
        by_cases hlt : k < 30
        · have hck : wr.cell? ⟨W1.heap.size, k, none⟩ = some (.string (strAt sgnV k)) := by rw [cell_of_row _ _ _ _ _ _ hbr]; exact sgn_at ⟨k, hlt⟩
          have hst := HF.out
          rw [show 30 - k = (30 - (k + 1)) + 1 by omega] at hst
          unfold fndS at hst
          have hlb : W1.heap.size < wr.heap.size := lt_of_block hbr
          generalize strAt sgnV k = x at hck hst
          by_cases hx : sgnI x = kind
          · rw [if_pos hx] at hst
            have HS : Hid (x = R) := hst
            have hx' : (sgnI x == kind) = true := by simp [hx]
            clear hst hx
            go_wp2_with (go_at_call 35; refine (l1sign_any x _).mono ?_; rintro e w3 ⟨rfl, hb3⟩)
            go_ret
            exact ⟨by rw [← HS.out]; rfl, hbelr.trans (hb3.mono hsr)⟩
          · rw [if_neg hx] at hst
            have HS : Hid (fndS kind (30 - (k + 1)) (k + 1) = R) := hst
            have hx' : (sgnI x == kind) = false := by simp [hx]
            clear hst hx
            go_wp2_with (go_at_call 35; refine (l1sign_any x _).mono ?_; rintro e w3 ⟨rfl, hb3⟩)
            go_roundw
            case rel => exact ⟨k + 1, by omega, by go_num, HS, (hb3.block _ hlb).trans hbr, hbelr.trans (hb3.mono hsr)⟩
            case measure => simp [intOf]; omega
        · obtain rfl : k = 30 := by omega
          have HS : Hid (emptyS = R) := HF.out
          go_wp2
          go_ret
          exact ⟨by rw [← HS.out]; rfl, hbelr⟩

end Go.Proofs.YtdlhfiheingibaaGreatDoor
