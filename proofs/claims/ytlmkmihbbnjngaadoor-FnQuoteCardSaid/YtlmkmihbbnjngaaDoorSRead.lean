import Derived.Test.YtlmkmihbbnjngaaDoorSStr
namespace Go.Proofs.YtlmkmihbbnjngaaDoor
open Go.RowKit
set_option linter.unusedVariables false

/-- Only the blocks b and t have turned. -/
structure Fr2 (b t : Nat) (w w' : World) : Prop where
  os : w'.os = w.os
  tape : w'.tape = w.tape
  output : w'.output = w.output
  size : w.heap.size ≤ w'.heap.size
  block : ∀ k, k < w.heap.size → k ≠ b → k ≠ t → w'.heap[k]? = w.heap[k]?
theorem Fr2.refl (b t : Nat) (w : World) : Fr2 b t w w := ⟨rfl, rfl, rfl, Nat.le_refl _, fun _ _ _ _ => rfl⟩
theorem Fr2.trans {b t : Nat} {x y z : World} (h : Fr2 b t x y) (k : Fr2 b t y z) : Fr2 b t x z :=
  ⟨k.os.trans h.os, k.tape.trans h.tape, k.output.trans h.output, Nat.le_trans h.size k.size, fun i hi h1 h2 => (k.block i (Nat.lt_of_lt_of_le hi h.size) h1 h2).trans (h.block i hi h1 h2)⟩
theorem Fr2.drewN {b t : Nat} {x y : World} (h : Fr2 b t x y) (n : Nat) : Fr2 b t x (y.drewN n) := ⟨h.os, h.tape, h.output, h.size, h.block⟩
theorem Fr2.drew {b t : Nat} {x y : World} (h : Fr2 b t x y) : Fr2 b t x y.drew := ⟨h.os, h.tape, h.output, h.size, h.block⟩
theorem Fr2.setB {b t : Nat} {x y : World} (h : Fr2 b t x y) (i : Nat) (v : Value) : Fr2 b t x (y.setCell ⟨b, i, none⟩ v) :=
  ⟨h.os, h.tape, h.output, by simpa [World.setCell] using h.size, fun k hk h1 h2 => by rw [heap_setCell_other _ _ _ _ h1]; exact h.block k hk h1 h2⟩
theorem Fr2.setT {b t : Nat} {x y : World} (h : Fr2 b t x y) (i : Nat) (v : Value) : Fr2 b t x (y.setCell ⟨t, i, none⟩ v) :=
  ⟨h.os, h.tape, h.output, by simpa [World.setCell] using h.size, fun k hk h1 h2 => by rw [heap_setCell_other _ _ _ _ h2]; exact h.block k hk h1 h2⟩
theorem Fr2.below {b t : Nat} {x y z : World} (h : Fr2 b t x y) (k : Below x.heap.size y z) : Fr2 b t x z :=
  ⟨k.os.trans h.os, k.tape.trans h.tape, k.output.trans h.output, Nat.le_trans h.size k.size, fun i hi h1 h2 => (k.block i hi).trans (h.block i hi h1 h2)⟩
theorem Fr2.to {b t base : Nat} {x y : World} (h : Fr2 b t x y) (hb : base ≤ b) (ht : base ≤ t) (hs : base ≤ x.heap.size) : Below base x y :=
  ⟨h.os, h.tape, h.output, h.size, fun k hk => h.block k (by omega) (by omega) (by omega)⟩

/-- ap_law where the new block's number is written otherwise. -/
theorem ap_lawH {ops : Array Oper} {rest : List Oper} {o : Oper} {a : Act} {Q : Exit → Act → World → Prop} {w : World} (hgd : o.guard = none) (s x : Operand)
    (ho : o.op = .call { callee := .builtin .append, args := #[s, x], argTypes := #[22, 22] }) (base : Nat) (v : Value) (n : Nat) (l : List Int) (hs : a.eval s = v)
    (hown : w.ownsRow base 5 1 v n (B8 l)) (hbase : base ≤ w.heap.size) (hn : n ≤ 100000) (news : List Int) (m : Nat) (hm : news.length = m) (hm0 : 0 < m) (hm1 : m ≤ 100) (cs : Array Value) (hcs : cs.toList = B8 news)
    (H : Nat) (hx : a.eval x = .slice (some ⟨H, 0, none⟩) m m) (hH : w.heap.size = H)
    (h : ∀ g cap w1, w1.ownsRow base 5 1 (.slice (some ⟨g, 0, none⟩) (n + m) cap) (n + m) (B8 (l ++ news)) → Below base w w1 → wpList Tryd.prog ops Q rest (a.put o.dst (.slice (some ⟨g, 0, none⟩) (n + m) cap)) w1) :
    wpList Tryd.prog ops Q (o :: rest) a (w.alloc (.cells cs 5)) := by
  subst hH
  exact ap_law hgd s x ho base v n l hs hown hbase hn news m hm hm0 hm1 cs hcs hx h
theorem size_set (w : World) (n : Nat) (a : Addr) (v : Value) : ((w.drewN n).setCell a v).heap.size = w.heap.size := by simp [World.setCell, World.drewN]

theorem own2 {w : World} {base e size : Nat} {v : Value} {n : Nat} {xs : List Value} {b : Nat} (h : w.ownsRow base e size v n xs) (hb : b < base) (q r : Nat) (x y : Value) : ((((w.drewN q).setCell ⟨b, 3, none⟩ x).drewN r).setCell ⟨b, 3, none⟩ y).ownsRow base e size v n xs := by
  have h1 : ((w.drewN q).setCell ⟨b, 3, none⟩ x).ownsRow base e size v n xs := ownsRow_setCell_below (w := w.drewN q) (a := ⟨b, 3, none⟩) h hb x
  exact ownsRow_setCell_below (w := ((w.drewN q).setCell ⟨b, 3, none⟩ x).drewN r) (a := ⟨b, 3, none⟩) h1 hb y

def posOf (b : Nat) (w : World) : Nat := match w.cell? ⟨b, 3, none⟩ with | some (.int _ q) => q.toNat | _ => 0
theorem posOf_eq {fr : Int} {b : Nat} {w : World} {s : ByteArray} {m : Value} {p : Nat} {l : Int} {k : Bool} (h : ScAt b w s m fr p l k) : posOf b w = p := by
  unfold posOf; rw [(sc_cells h).2.2.1]; simp

/-- What stands behind the reading of a string. -/
def StrEnd (b t : Nat) (w' : World) (s : ByteArray) (m : Value) (fr : Int) (l f ln : Int) (R : Bool × Nat × List Int) : Prop :=
  if R.1 = true then ScAt b w' s m fr R.2.1 l false ∧ TkAt t w' 4 f 0 ln 0 (strI R.2.2) else ScAt b w' s m fr R.2.1 l true ∧ TkAt t w' 0 f 0 ln 0 ByteArray.empty
theorem StrEnd.yes {fr : Int} {b t : Nat} {w' : World} {s : ByteArray} {m : Value} {l f ln : Int} {R : Bool × Nat × List Int} {p : Nat} {a : List Int} (h : (true, p, a) = R) (h1 : ScAt b w' s m fr p l false) (h2 : TkAt t w' 4 f 0 ln 0 (strI a)) : StrEnd b t w' s m fr l f ln R := by
  subst h; unfold StrEnd; rw [if_pos rfl]; exact ⟨h1, h2⟩
theorem StrEnd.no {fr : Int} {b t : Nat} {w' : World} {s : ByteArray} {m : Value} {l f ln : Int} {R : Bool × Nat × List Int} {p : Nat} {a : List Int} (h : (false, p, a) = R) (h1 : ScAt b w' s m fr p l true) (h2 : TkAt t w' 0 f 0 ln 0 ByteArray.empty) : StrEnd b t w' s m fr l f ln R := by
  subst h; unfold StrEnd; rw [if_neg (by simp)]; exact ⟨h1, h2⟩
theorem castS (p : Nat) : ((p + 1 : Nat) : Int) = (p : Int) + 1 := by omega

set_option maxRecDepth 100000 in
set_option maxHeartbeats 6400000 in
theorem readString_any {fr : Int} (s : ByteArray) (hm : s.size ≤ 70000) (b t : Nat) (w : World) (m : Value) (p : Nat) (l f ln : Int) (hp : p < s.size) (hbt : b ≠ t) (hS : ScAt b w s m fr p l false) (hT : TkAt t w 0 f 0 ln 0 ByteArray.empty) :
    Calls Tryd.prog 42 #[.pointer (some ⟨b, 0, none⟩), .pointer (some ⟨t, 0, none⟩)] w fun e w' => e = .returned (.tuple #[]) ∧ Fr2 b t w w' ∧
      StrEnd b t w' s m fr l f ln (rdStr s (s.size + 1) (p + 1) []) := by
  obtain ⟨R, hR⟩ : ∃ R, rdStr s (s.size + 1) (p + 1) [] = R := ⟨_, rfl⟩
  rw [hR]
  have HR : Hid (rdStr s (s.size + 1) (p + 1) [] = R) := hR
  clear hR
  have hbw : b < w.heap.size := lt_of_block hS
  have htw : t < w.heap.size := lt_of_block hT
  obtain ⟨c0, c1, c2, c3, c4, f2, f3, f4⟩ := sc_cells hS
  go_enter Tryd.func42, Tryd.ntmps42
  go_wp2_with fail
  go_loopw [4] (fun v wr => ∃ (pos n fu : Nat) (acc : List Int), ScAt b wr s m fr pos l false ∧ TkAt t wr 0 f 0 ln 0 ByteArray.empty ∧ wr.ownsRow w.heap.size 5 1 v n (B8 acc) ∧ s.size < pos + fu ∧ pos ≤ s.size ∧ n ≤ pos ∧ Hid (rdStr s fu pos acc = R) ∧ Fr2 b t w wr) (fun _ wr => s.size - posOf b wr)
  case atStart => exact ⟨p + 1, 0, s.size + 1, [], hS.setP _, hT.other (Ne.symm hbt) _, World.ownsRow_nil _ _ _ _, by omega, by omega, by omega, HR, (Fr2.refl b t w).setB _ _⟩
  case round =>
    obtain ⟨pos, n, fu, acc, hSr, hTr, hown, hfu, hpos, hn, HRr, hfr⟩ := hrel
    clear c0 c1 c2 c3 c4 f2 f3 f4
    obtain ⟨c0, c1, c2, c3, c4, f2, f3, f4⟩ := sc_cells hSr
    obtain ⟨t0, t1, t2, t3, t4, t5, tf⟩ := tk_cells hTr
    have hsz := hfr.size
    obtain ⟨fu, rfl⟩ : ∃ g, fu = g + 1 := ⟨fu - 1, by omega⟩
    by_cases hlt : pos < s.size
    · have n1 := bat_in hlt
      have i1 := fun w => idx_run hlt w
      have hstep := HRr.out
      unfold rdStr at hstep
      rw [if_neg (by omega)] at hstep
      obtain ⟨c, hc⟩ : ∃ c, bat s pos = c := ⟨_, rfl⟩
      rw [hc] at n1 i1 hstep
      clear hc
      by_cases g1 : c = 34
      · subst g1
        rw [if_pos rfl] at hstep
        have HST : Hid ((true, pos + 1, acc) = R) := hstep
        clear hstep
        rcases hown.2 with ⟨rfl, hn0⟩ | ⟨g, cap, cur, rfl, rest⟩
        · have hacc : acc = [] := by have := own_len hown; rw [hn0] at this; exact List.eq_nil_of_length_eq_zero this
          have HA : Hid (acc = []) := hacc
          clear hacc
          have kc := conv_nil
          go_wp2_with fail
          go_quiet (fail)
          go_wp2_with fail
          go_quiet (fail)
          go_wp2
          refine bodyPost_ret (results_none rfl _ _ _) rfl ?_
          refine ⟨rfl, (((hfr.drewN _).setB _ _).setT _ _).setT _ _, StrEnd.yes HST.out (by rw [castS]; exact (((hSr.drewN _).setP _).other hbt _).other hbt _) ?_⟩
          rw [HA.out]
          exact (((hTr.drewN _).other (Ne.symm hbt) _).setKind _).setText _
        · have kc := fun q => conv_own (ownsRow_setCell_below (w := wr.drewN q) (a := ⟨b, 3, none⟩) hown hbw (.int .i64 ((pos : Int) + 1)))
          go_wp2_with fail
          go_quiet (fail)
          go_wp2_with fail
          go_quiet (fail)
          go_wp2
          refine bodyPost_ret (results_none rfl _ _ _) rfl ?_
          exact ⟨rfl, (((hfr.drewN _).setB _ _).setT _ _).setT _ _, StrEnd.yes HST.out (by rw [castS]; exact (((hSr.drewN _).setP _).other hbt _).other hbt _) ((((hTr.drewN _).other (Ne.symm hbt) _).setKind _).setText _)⟩
      rw [if_neg g1] at hstep
      have k1 : (c == 34) = false := by simp [g1]
      by_cases g2 : c = 10
      · subst g2
        rw [if_pos rfl] at hstep
        have HST : Hid ((false, pos, acc) = R) := hstep
        clear hstep
        go_wp2_with fail
        go_quiet (fail)
        go_wp2_with fail
        go_quiet (fail)
        go_wp2
        refine bodyPost_ret (results_none rfl _ _ _) rfl ?_
        exact ⟨rfl, (hfr.drewN _).setB _ _, StrEnd.no HST.out ((hSr.drewN _).setK _) ((hTr.drewN _).other (Ne.symm hbt) _)⟩
      rw [if_neg g2] at hstep
      have k2 : (c == 10) = false := by simp [g2]
      by_cases g3 : c = 92
      · subst g3
        rw [if_pos rfl] at hstep
        have hx := escaped_any s (by omega) (pos + 1) (by omega)
        have hbd := escI_bd s (pos + 1) (by omega)
        have hgp := escI_pos s (pos + 1) (by omega)
        rw [castS] at hx
        obtain ⟨E, hE⟩ : ∃ E, escI s (pos + 1) = E := ⟨_, rfl⟩
        rw [hE] at hx hbd hgp hstep
        clear hE g1 g2
        obtain ⟨x, e, ok⟩ := E
        simp only at hbd hgp hstep
        unfold vHex at hx
        simp only at hx
        cases ok
        · rw [if_neg (by simp)] at hstep
          have HST : Hid ((false, e, acc) = R) := hstep
          clear hstep
          go_wp2_with fail
          go_quiet (fail)
          go_wp2_with fail
          go_quiet (fail)
          go_wp2_with fail
          go_quiet ((go_at_call 51; exact Calls.quiet_of_same (hx _)))
          go_wp2
          refine bodyPost_ret (results_none rfl _ _ _) rfl ?_
          exact ⟨rfl, (((((hfr.drewN _).setB _ _).drewN _).setB _ _).setB _ _), StrEnd.no HST.out (((((hSr.drewN _).setP _).drewN _).setP _).setK _) (((((hTr.drewN _).other (Ne.symm hbt) _).drewN _).other (Ne.symm hbt) _).other (Ne.symm hbt) _)⟩
        · rw [if_pos rfl] at hstep
          have he := hgp rfl
          have HST : Hid (rdStr s fu e (acc ++ [x]) = R) := hstep
          clear hstep hgp
          go_wp2_with fail
          go_quiet (fail)
          go_wp2_with fail
          go_quiet (fail)
          go_wp2_with fail
          go_quiet ((go_at_call 51; exact Calls.quiet_of_same (hx _)))
          go_wp2_with (at_builtin; refine ap_lawH rfl (.tmp 100) (.tmp 102) rfl w.heap.size _ n acc rfl (own2 hown hbw _ _ _ _) (by rw [size_set, size_set]; exact hsz) (by omega) [x] 1 rfl (by decide) (by decide) _ rfl wr.heap.size rfl (by rw [size_set, size_set]) ?_; intro g cap w1 hown1 hb1)
          have hS1 : ScAt b w1 s m fr (e : Int) l false := ((((hSr.drewN _).setP _).drewN _).setP _).below hb1 hbw
          go_roundw
          case rel => exact ⟨e, n + 1, fu, acc ++ [x], hS1, ((((hTr.drewN _).other (Ne.symm hbt) _).drewN _).other (Ne.symm hbt) _).below hb1 htw, hown1, by omega, by omega, by omega, HST, ((((hfr.drewN _).setB _ _).drewN _).setB _ _).below hb1⟩
          case measure => rw [posOf_eq hS1, posOf_eq hSr]; omega
      rw [if_neg g3] at hstep
      have k3 : (c == 92) = false := by simp [g3]
      have HST : Hid (rdStr s fu (pos + 1) (acc ++ [c]) = R) := hstep
      clear hstep
      go_wp2_with fail
      go_quiet (fail)
      go_wp2_with fail
      go_quiet (fail)
      go_wp2_with (at_builtin; refine ap_lawH rfl (.tmp 43) (.tmp 45) rfl w.heap.size _ n acc rfl (ownsRow_setCell_below (a := ⟨b, 3, none⟩) (w := wr.drewN _) hown hbw _) (by rw [size_set]; exact hsz) (by omega) [c] 1 rfl (by decide) (by decide) _ rfl wr.heap.size rfl (size_set _ _ _ _) ?_; intro g cap w1 hown1 hb1)
      have hS1 : ScAt b w1 s m fr ((pos + 1 : Nat) : Int) l false := by rw [castS]; exact ((hSr.drewN _).setP _).below hb1 hbw
      go_roundw
      case rel => exact ⟨pos + 1, n + 1, fu, acc ++ [c], hS1, ((hTr.drewN _).other (Ne.symm hbt) _).below hb1 htw, hown1, by omega, by omega, by omega, HST, ((hfr.drewN _).setB _ _).below hb1⟩
      case measure => rw [posOf_eq hS1, posOf_eq hSr]; omega
    · have hstep := HRr.out
      unfold rdStr at hstep
      rw [if_pos (by omega)] at hstep
      have HST : Hid ((false, pos, acc) = R) := hstep
      clear hstep
      obtain rfl : pos = s.size := by omega
      go_wp2_with fail
      go_quiet (fail)
      go_wp2
      go_end0
      exact ⟨rfl, (hfr.drewN _).setB _ _, StrEnd.no HST.out ((hSr.drewN _).setK _) ((hTr.drewN _).other (Ne.symm hbt) _)⟩
end Go.Proofs.YtlmkmihbbnjngaaDoor
