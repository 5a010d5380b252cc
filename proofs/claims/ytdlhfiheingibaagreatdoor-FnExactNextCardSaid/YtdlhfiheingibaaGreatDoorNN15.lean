import Derived.Test.YtdlhfiheingibaaGreatDoorNN14
import Derived.Test.YtdlhfiheingibaaGreatDoorNN11
import Derived.Laws.ResultCell
import Derived.Deep.RegionHeld3
import Derived.Laws.StructEq
import Derived.Laws.Cover2
namespace Go.Proofs.YtdlhfiheingibaaGreatDoor
open Go.RowKit
set_option linter.unusedVariables false

theorem infoSym : (Tryz.prog.info? 59).map (fun i => (i.zero, i.size, i.bytes)) = some (some (.int .u8 0), 1, 1) := by kernel_rfl
/-- The symbols of a stack as they lie: the uppermost one last. -/
def cSy (st : List Int) : List Value := st.reverse.map (Value.int .u8)
theorem cSy_cons (a : Int) (st : List Int) : cSy (a :: st) = cSy st ++ [.int .u8 a] := by simp [cSy]
theorem cSy_len (st : List Int) : (cSy st).length = st.length := by simp [cSy]
/-- The guard in memory: its rows (a map), its stack. -/
structure GAt (W : World) (base gb : Nat) (mv : Value) (st : List Int) : Prop where
  ex : ∃ v, W.heap[gb]? = some (.cells #[mv, v] 57 (0, 0)) ∧ W.ownsRow base 59 1 v st.length (cSy st)
  lo : base ≤ gb
theorem GAt.below {W W' : World} {base gb : Nat} {mv : Value} {st : List Int} (h : GAt W base gb mv st) (hb : Below W.heap.size W W') : GAt W' base gb mv st := by
  obtain ⟨v, h1, h2⟩ := h.ex
  exact ⟨⟨v, (hb.block _ (lt_of_block h1)).trans h1, own_keep h2 hb⟩, h.lo⟩
/-- All but the guard's stack is as it was. -/
structure Gp (gb : Nat) (w w' : World) : Prop where
  os : w'.os = w.os
  tape : w'.tape = w.tape
  output : w'.output = w.output
  size : w.heap.size ≤ w'.heap.size
  block : ∀ k, k < w.heap.size → k ≠ gb → (∀ cs fr, w.heap[k]? ≠ some (.cells cs 59 fr)) → w'.heap[k]? = w.heap[k]?
theorem Gp.refl (gb : Nat) (w : World) : Gp gb w w := ⟨rfl, rfl, rfl, Nat.le_refl _, fun _ _ _ _ => rfl⟩
theorem Gp.trans {gb : Nat} {x y z : World} (h : Gp gb x y) (k : Gp gb y z) : Gp gb x z :=
  ⟨k.os.trans h.os, k.tape.trans h.tape, k.output.trans h.output, Nat.le_trans h.size k.size, fun i hi hne hc =>
    (k.block i (Nat.lt_of_lt_of_le hi h.size) hne (fun cs fr => by rw [h.block i hi hne hc]; exact hc cs fr)).trans (h.block i hi hne hc)⟩
theorem Gp.of_below {gb : Nat} {w w' : World} (h : Below w.heap.size w w') : Gp gb w w' := ⟨h.os, h.tape, h.output, h.size, fun k hk _ _ => h.block k hk⟩
/-- The guard's stack is another slice. -/
theorem GAt.put {W : World} {base gb : Nat} {mv v0 : Value} (hb : W.heap[gb]? = some (.cells #[mv, v0] 57 (0, 0))) (lo : base ≤ gb) {v : Value} {st : List Int} (ho : W.ownsRow base 59 1 v st.length (cSy st)) : GAt (W.setCell ⟨gb, 1, none⟩ v) base gb mv st := by
  refine ⟨⟨v, heap_setCell_same _ gb 1 _ _ _ hb, ?_⟩, lo⟩
  refine ho.kept (row := some gb) ⟨rfl, rfl, rfl, by simp [World.setCell], fun k hk hne => heap_setCell_other _ _ _ _ (fun e => hne (by rw [e]))⟩ ?_
  rcases own_zero_or ho with ⟨_, rfl⟩ | ⟨g, c, rfl⟩
  · exact .inl rfl
  · refine .inr ?_
    intro e
    obtain rfl : g = gb := by simpa [Value.ownBlock] using e
    rcases ho.2 with ⟨h1, _⟩ | ⟨g2, cap2, cur, h1, _, h3, _⟩
    · cases h1
    · cases h1; rw [hb] at h3; cases h3

set_option maxRecDepth 100000 in
set_option maxHeartbeats 3200000 in
theorem pushI_any (w : World) (base gb : Nat) (mv : Value) (st : List Int) (a : Int) (h : GAt w base gb mv st) (hl : st.length ≤ 100000000) :
    Calls Tryz.prog 21 #[.pointer (some ⟨gb, 1, none⟩), .int .u8 a] w fun e w' => e = .returned (.tuple #[]) ∧ GAt w' base gb mv (a :: st) ∧ Gp gb w w' ∧ Below base w w' := by
  obtain ⟨v, hb, ho⟩ := h.ex
  have hlo := h.lo
  obtain ⟨n, hn⟩ : ∃ n, st.length = n := ⟨_, rfl⟩
  rw [hn] at ho hl
  obtain ⟨av, cv, rfl⟩ := own_form ho
  obtain ⟨j0, ji, jz0, jz1, jz2⟩ := info_parts infoSym
  have hmw := lt_of_block hb
  have hmne : gb ≠ w.heap.size := by omega
  have c0 : w.cell? ⟨gb, 1, none⟩ = some (.slice av n cv) := by rw [cell_of_row _ _ _ _ _ _ hb]; rfl
  have hnb : ∀ g, (Value.slice av n cv).ownBlock = some g → g ≠ gb ∧ base ≤ g := fun g hg => by
    refine ⟨?_, (ho.lt g hg).1⟩
    rintro rfl
    rcases ho.2 with ⟨h1, _⟩ | ⟨g2, cap2, cur, h1, _, h3, _⟩
    · rw [h1] at hg; simp [Value.ownBlock] at hg
    · rw [h1] at hg
      obtain rfl : g2 = g := by simpa [Value.ownBlock] using hg
      rw [h3] at hb
      cases hb
  have HO : Hid (w.ownsRow base 59 1 (.slice av n cv) n (cSy st) ∧ w.heap[gb]? = some (.cells #[mv, .slice av n cv] 57 (0, 0)) ∧ st.length = n) := ⟨ho, hb, hn⟩
  clear ho hb hn h
  go_enter Tryz.func21, Tryz.ntmps21
  go_wp2_with (at_builtin; refine wpList_append_own _ rfl _ _ 53 rfl base 59 j0 _ 1 1 Tryz.underlying53 ji jz0 jz1 jz2 rfl (by decide) _ _ _ rfl (HO.out.1.alloc _) ⟨w.heap.size, 0, none⟩ 1 1 [.int .u8 a] rfl rfl (World.news_of_block (cs := #[.int .u8 a]) (fr := (0, 0)) (heap_alloc_new w _)) (by intro u hu; simp at hu; subst hu; rfl) (by unfold maxLen; omega) (by omega) (by simp; omega) ?_; intro v' w5 ho5 hg5 hn5; obtain ⟨g', cap', rfl⟩ := ownsRow_succ ho5; have hb5 : w5.heap[gb]? = some (.cells #[mv, .slice av n cv] 57 (0, 0)) := (hg5.block gb (by simp; omega) (fun e => (hnb gb e.symm).1 rfl)).trans ((Below.heap_alloc _ _ _ hmw).trans HO.out.2.1); have z5 : w5.cell? ⟨gb, 1, none⟩ = some (.slice av n cv) := (by rw [cell_of_row _ _ _ _ _ _ hb5]; rfl); have f5 : w5.frozen? ⟨gb, 1, none⟩ = false := frozen_of_row _ _ _ _ _ hb5)
  have hw5 := hg5.size
  rw [World.size_alloc] at hw5
  have fin : GAt (w5.setCell ⟨gb, 1, none⟩ (.slice (some ⟨g', 0, none⟩) (n + 1) cap')) base gb mv (a :: st) := GAt.put hb5 hlo (by rw [List.length_cons, HO.out.2.2, cSy_cons]; exact ho5)
  have fg : Gp gb w (w5.setCell ⟨gb, 1, none⟩ (.slice (some ⟨g', 0, none⟩) (n + 1) cap')) := by
    refine ⟨hg5.os, hg5.tape, hg5.output, by simp [World.setCell]; omega, fun k hk hne hc => ?_⟩
    rw [heap_setCell_other _ _ _ _ hne]
    refine (hg5.block k (by simp; omega) (fun e => ?_)).trans (Below.heap_alloc _ _ _ hk)
    have e2 : (Value.slice av n cv).ownBlock = some k := e.symm
    rcases HO.out.1.2 with ⟨h1, _⟩ | ⟨g2, cap2, cur, h1, _, h3, _⟩
    · rw [h1] at e2; simp [Value.ownBlock] at e2
    · rw [h1] at e2
      obtain rfl : g2 = k := by simpa [Value.ownBlock] using e2
      exact hc _ _ h3
  have fb : Below base w (w5.setCell ⟨gb, 1, none⟩ (.slice (some ⟨g', 0, none⟩) (n + 1) cap')) := by
    have b1 : Below base w (w.alloc (.cells #[.int .u8 a] 59)) := (Below.refl _ w).alloc (by omega) _
    exact (b1.grown hg5 (by simp; omega) (fun k hk => (hnb k hk).2)).setCell hlo _
  go_end0
  exact ⟨rfl, fin, fg, fb⟩

set_option maxRecDepth 100000 in
set_option maxHeartbeats 3200000 in
theorem popI_any (w : World) (base gb : Nat) (mv : Value) (st : List Int) (a : Int) (h : GAt w base gb mv (a :: st)) (hl : st.length ≤ 100000000) :
    Calls Tryz.prog 70 #[.pointer (some ⟨gb, 1, none⟩)] w fun e w' => e = .returned (.int .u8 a) ∧ GAt w' base gb mv st ∧ Gp gb w w' ∧ Below base w w' := by
  obtain ⟨v, hb, ho⟩ := h.ex
  have hlo := h.lo
  obtain ⟨n, hn⟩ : ∃ n, st.length = n := ⟨_, rfl⟩
  rw [List.length_cons, cSy_cons, hn] at ho
  rw [hn] at hl
  obtain ⟨g, cap, rfl⟩ := ownsRow_succ ho
  have hcut := own_cut (by rw [cSy_len, hn, Nat.mul_one]) ho
  have hcap := own_cap ho
  have c0 : w.cell? ⟨gb, 1, none⟩ = some (.slice (some ⟨g, 0, none⟩) (n + 1) cap) := by rw [cell_of_row _ _ _ _ _ _ hb]; rfl
  have ca : w.cell? ⟨g, n, none⟩ = some (.int .u8 a) := by
    rw [ho.cellAt n (by omega), List.getElem?_append_right (by rw [cSy_len]; omega), cSy_len, hn, Nat.sub_self]; rfl
  have f5 : w.frozen? ⟨gb, 1, none⟩ = false := frozen_of_row _ _ _ _ _ hb
  have fin : GAt (w.setCell ⟨gb, 1, none⟩ (.slice (some ⟨g, 0, none⟩) n cap)) base gb mv st := GAt.put hb hlo (by rw [hn]; exact hcut)
  have HF : Hid (GAt (w.setCell ⟨gb, 1, none⟩ (.slice (some ⟨g, 0, none⟩) n cap)) base gb mv st) := fin
  have e1 : ((n + 1 : Nat) : Int) - 1 = (n : Int) := by omega
  have i0 : (0 : Int) ≤ (n : Int) := by omega
  have i1 : (n : Int) < (n : Int) + 1 := by omega
  have i2 : (n : Int) ≤ (cap : Int) := by omega
  clear h ho hcut fin hb hn
  go_enter Tryz.func70, Tryz.ntmps70
  go_wp2_with fail
  go_ret
  refine ⟨rfl, HF.out, ⟨rfl, rfl, rfl, by simp [World.setCell], fun k hk hne hc => heap_setCell_other _ _ _ _ hne⟩, (Below.refl _ w).setCell hlo _⟩
end Go.Proofs.YtdlhfiheingibaaGreatDoor

namespace Go.Proofs.YtdlhfiheingibaaGreatDoor
open Go.RowKit Go.Maps Go.WideMaps
set_option linter.unusedVariables false

/-- The guard's rows: the map holds just what 'rowsI' says. -/
structure RI (W : World) (base mb : Nat) : Prop where
  ex : ∃ (D : DataW Value) (f : Int → Value) (n : Nat), W.ownsMap Tryz.prog 59 heldR mb n D ∧ ∀ a, 0 ≤ a → a ≤ 255 → D.atKey (.int .u8 a) (.held (.slice none 0 0)) = .held (f a) ∧ RowIn W base (f a) (rowsI a)
theorem RM.ri {W : World} {base mb n : Nat} {R : List (Int × List (List Int))} (h : RM W base mb n R) (hR : ∀ a, 0 ≤ a → a ≤ 255 → look R a = rowsI a) : RI W base mb := by
  obtain ⟨D, f, h1, h2, _⟩ := h.ex
  exact ⟨D, f, n, h1, fun a a0 a1 => by rw [← hR a a0 a1]; exact h2 a a0 a1⟩
theorem RI.same {W W' : World} {base mb : Nat} (h : RI W base mb) (hm : ∀ es c, W.heap[mb]? = some (.map es c) → W'.heap[mb]? = some (.map es c)) (hr : ∀ (g : Nat) (cs : Array Value) (fr : Nat × Nat), W.heap[g]? = some (.cells cs 100 fr) → W'.heap[g]? = some (.cells cs 100 fr)) : RI W' base mb := by
  obtain ⟨D, f, n, ⟨es, c, e1, e2⟩, h2⟩ := h.ex
  refine ⟨D, f, n, ⟨es, c, hm _ _ e1, e2⟩, fun a a0 a1 => ⟨(h2 a a0 a1).1, ?_⟩⟩
  have := (h2 a a0 a1).2
  refine ⟨this.1, ?_⟩
  rcases this.2 with h | ⟨g, cap, cur, q1, q2, q3, q4⟩
  · exact .inl h
  · exact .inr ⟨g, cap, cur, q1, q2, hr _ _ _ q3, q4⟩
theorem RI.below {W W' : World} {base mb : Nat} (h : RI W base mb) (hb : Below W.heap.size W W') : RI W' base mb :=
  h.same (fun es c e => (hb.block _ (lt_of_mapblock e)).trans e) (fun g cs fr e => (hb.block _ (lt_of_mapblock e)).trans e)
theorem RI.gp {W W' : World} {base mb gb : Nat} {cs : Array Value} {fr : Nat × Nat} (h : RI W base mb) (hg : W.heap[gb]? = some (.cells cs 57 fr)) (hp : Gp gb W W') : RI W' base mb :=
  h.same (fun es c e => (hp.block _ (lt_of_mapblock e) (by rintro rfl; rw [hg] at e; cases e) (fun cs fr e2 => by rw [e] at e2; cases e2)).trans e)
    (fun g cs fr e => (hp.block _ (lt_of_mapblock e) (by rintro rfl; rw [hg] at e; cases e) (fun cs fr e2 => by rw [e] at e2; cases e2)).trans e)
theorem all_rows_at {a : Int} (a0 : 0 ≤ a) (a1 : a ≤ 255) : ∀ R, ((List.range 256).all fun a => decide (look R (a : Int) = rowsI (a : Int))) = true → look R a = rowsI a := by
  intro R h
  have := List.all_eq_true.1 h a.toNat (by rw [List.mem_range]; omega)
  rw [show ((a.toNat : Nat) : Int) = a by omega] at this
  exact of_decide_eq_true this
set_option maxRecDepth 100000 in
set_option maxHeartbeats 400000 in
theorem partRows_any (w : World) (tt : TypeId) (fr : Nat × Nat) (hG : w.heap[1]? = some (.cells powV tt fr)) :
    Calls Tryz.prog 20 #[] w fun e w' => e = .returned (.map (some w.heap.size)) ∧ RI w' w.heap.size w.heap.size ∧ Below w.heap.size w w' := by
  have hlt : 1 < w.heap.size := lt_of_mapblock hG
  have hmm : ∀ w : World, (Instr.makeMap 51 (some (.int .u8 34))).run Tryz.prog w = .ok (.map (some w.heap.size)) (w.alloc (.map #[] 0)) := fun w => by kernel_rfl
  have H0 : RM (w.alloc (.map #[] 0)) w.heap.size w.heap.size 0 [] := ⟨⟨.map [], fun _ => .slice none 0 0, World.ownsMap_made _ _ _ _, fun a _ _ => ⟨rfl, ⟨rfl, .inl ⟨rfl, rfl⟩⟩⟩, fun a b _ _ _ _ _ => .inl rfl⟩, Nat.le_refl _⟩
  have hB0 : Below w.heap.size w (w.alloc (.map #[] 0)) := (Below.refl _ _).alloc (Nat.le_refl _) _
  have HG : Hid (w.heap[1]? = some (.cells powV tt fr)) := hG
  clear hG
  go_enter Tryz.func20, Tryz.ntmps20
  go_wp2_with (first
    | (go_at_call 38; refine (addStat_any _ w.heap.size w.heap.size 0 [] H0 (by omega)).mono ?_; rintro e w2 ⟨rfl, H2, hB2⟩)
    | (go_at_call 39; refine (addBase_any _ w.heap.size w.heap.size _ _ H2 (by omega)).mono ?_; rintro e w3 ⟨rfl, H3, hB3⟩)
    | (go_at_call 40; refine (addExpr_any _ w.heap.size w.heap.size _ _ H3 (by omega) tt fr ((((hB0.trans hB2).trans hB3).block _ hlt).trans HG.out) hlt).mono ?_; rintro e w4 ⟨rfl, H4, hB4⟩))
  go_ret
  exact ⟨rfl, H4.ri (fun a a0 a1 => all_rows_at a0 a1 _ all_rows), ((hB0.trans hB2).trans hB3).trans hB4⟩
set_option maxRecDepth 100000 in
set_option maxHeartbeats 400000 in
theorem newGuard_any (w : World) (tt : TypeId) (fr : Nat × Nat) (hG : w.heap[1]? = some (.cells powV tt fr)) :
    Calls Tryz.prog 12 #[] w fun e w' => ∃ gb, e = .returned (.pointer (some ⟨gb, 0, none⟩)) ∧ GAt w' w.heap.size gb (.map (some w.heap.size)) [100, 6] ∧ RI w' w.heap.size w.heap.size ∧ Below w.heap.size w w' := by
  have kp := partRows_any w tt fr hG
  clear hG
  go_enter Tryz.func12, Tryz.ntmps12
  go_wp2_with (go_at_call 20; fail)
  refine kp.mono ?_
  rintro e w1 ⟨rfl, H1, hB1⟩
  have hs1 := hB1.size
  have G0 : GAt (w1.alloc (.cells #[.map (some w.heap.size), .slice none 0 0] 57 (0, 0))) w.heap.size w1.heap.size (.map (some w.heap.size)) [] := ⟨⟨.slice none 0 0, heap_alloc_new w1 _, ⟨rfl, .inl ⟨rfl, rfl⟩⟩⟩, hs1⟩
  have R0 := H1.below ((Below.refl w1.heap.size w1).alloc (Nat.le_refl _) (.cells #[.map (some w.heap.size), .slice none 0 0] 57 (0, 0)))
  have hB2 := hB1.alloc hs1 (.cells #[.map (some w.heap.size), .slice none 0 0] 57 (0, 0))
  have HH : Hid (RI (w1.alloc (.cells #[.map (some w.heap.size), .slice none 0 0] 57 (0, 0))) w.heap.size w.heap.size ∧ Below w.heap.size w (w1.alloc (.cells #[.map (some w.heap.size), .slice none 0 0] 57 (0, 0)))) := ⟨R0, hB2⟩
  clear kp H1 hB1 R0 hB2
  go_wp2_with (go_at_call 21; fail)
  refine (pushI_any _ w.heap.size w1.heap.size (.map (some w.heap.size)) [] 6 G0 (by decide)).mono ?_
  rintro e w2 ⟨rfl, G2, P2, hB2⟩
  go_wp2_with (go_at_call 21; fail)
  refine (pushI_any _ w.heap.size w1.heap.size (.map (some w.heap.size)) [6] 100 G2 (by decide)).mono ?_
  rintro e w3 ⟨rfl, G3, P3, hB3⟩
  go_wp2_with fail
  go_ret
  obtain ⟨v0, g0, _⟩ := G0.ex
  obtain ⟨v2, g2, _⟩ := G2.ex
  exact ⟨_, rfl, G3, (HH.out.1.gp g0 P2).gp g2 P3, (HH.out.2.trans hB2).trans hB3⟩
end Go.Proofs.YtdlhfiheingibaaGreatDoor

namespace Go.Proofs.YtdlhfiheingibaaGreatDoor
open Go.RowKit Go.Maps Go.WideMaps
set_option linter.unusedVariables false

/-- The guard, to be read. -/
structure GB (W : World) (base gb mb : Nat) : Prop where
  c : W.cell? ⟨gb, 0, none⟩ = some (.map (some mb))
  r : RI W base mb
theorem GB.below {W W' : World} {base gb mb : Nat} (h : GB W base gb mb) (hb : Below W.heap.size W W') : GB W' base gb mb := ⟨cell_kept hb h.c, h.r.below hb⟩
/-- How deep a part's rows begin with parts. -/
def dp (a : Int) : Nat := if a < 100 then 0 else if a = 100 then 3 else if a = 102 then 2 else if a = 110 ∨ a = 111 then 4 else if a = 114 then 2 else if a = 117 then 3 else if a = 118 then 2 else if a = 122 then 5 else if a = 124 then 4 else 1
def hdN (f : Nat) (t : Int) (r : List Int) : Bool := bgI f (r.getD 0 0) t
def rowOkI (L : List (List Int)) (d : Nat) : Bool := decide (L.length ≤ 30) && L.all fun r => decide (r.length ≤ 6) && r.all (fun z => decide (1 ≤ z ∧ z ≤ 133)) && decide (dp (r.getD 0 0) + 1 ≤ d)
theorem rows_ok_all : ((List.range 256).all fun a => rowOkI (rowsI (a : Int)) (dp (a : Int))) = true := by decide +kernel
theorem rows_ok {a : Int} (a0 : 0 ≤ a) (a1 : a ≤ 255) : rowOkI (rowsI a) (dp a) = true := by
  have := List.all_eq_true.1 rows_ok_all a.toNat (by rw [List.mem_range]; omega)
  rw [show ((a.toNat : Nat) : Int) = a by omega] at this
  exact this
theorem hd_eq {t : Int} (t1 : 1 ≤ t) (f : Nat) (r : List Int) : hdN (f + 1) t r = (match r with | [] => false | h :: _ => bgI (f + 1) h t) := by
  cases r with
  | nil =>
    show bgI (f + 1) 0 t = false
    rw [bgI, if_pos (by decide)]
    exact decide_eq_false (by omega)
  | cons h tl => rfl
theorem rc_eq {r : List Int} (h : r.length ≤ 6) : rc r = [.int .u8 (r.getD 0 0), .int .u8 (r.getD 1 0), .int .u8 (r.getD 2 0), .int .u8 (r.getD 3 0), .int .u8 (r.getD 4 0), .int .u8 (r.getD 5 0)] := by
  match r, h with
  | [], _ => rfl
  | [_], _ => rfl
  | [_, _], _ => rfl
  | [_, _, _], _ => rfl
  | [_, _, _, _], _ => rfl
  | [_, _, _, _, _], _ => rfl
  | [_, _, _, _, _, _], _ => rfl
  | _ :: _ :: _ :: _ :: _ :: _ :: _ :: _, h => simp at h
/-- The cells of a row. -/
theorem RowIn.cell {W : World} {base g c n : Nat} {L : List (List Int)} (h : RowIn W base (.slice (some ⟨g, 0, none⟩) n c) L) (h6 : ∀ r ∈ L, r.length ≤ 6) {k : Nat} {r : List Int} (hr : L[k]? = some r) {i : Nat} (hi : i < 6) :
    W.cell? ⟨g, k * 6 + i, none⟩ = some (.int .u8 (r.getD i 0)) := by
  have hl : k < L.length := (List.getElem?_eq_some_iff.1 hr).1
  have hn : n = L.length := by
    rcases h.2 with ⟨h, _⟩ | ⟨g2, cap, cur, h, _⟩
    · cases h
    · cases h; rfl
  subst hn
  rw [World.ownsRow.cellAt h (k * 6 + i) (by omega)]
  have key : ∀ (L : List (List Int)), (∀ r ∈ L, r.length ≤ 6) → ∀ k r, L[k]? = some r → (rcs L)[k * 6 + i]? = some (.int .u8 (r.getD i 0)) := by
    intro L
    induction L with
    | nil => intro _ k r h; simp at h
    | cons x L ih =>
      intro h k r hk
      have hx := h x (by simp)
      rw [show rcs (x :: L) = rc x ++ rcs L from rfl]
      have hlen : (rc x).length = 6 := by simp [rc]; omega
      cases k with
      | zero =>
        simp at hk
        subst hk
        rw [List.getElem?_append_left (by omega), rc_eq hx]
        rcases (show i = 0 ∨ i = 1 ∨ i = 2 ∨ i = 3 ∨ i = 4 ∨ i = 5 by omega) with rfl | rfl | rfl | rfl | rfl | rfl <;> rfl
      | succ k =>
        rw [List.getElem?_append_right (by omega), hlen, show (k + 1) * 6 + i - 6 = k * 6 + i by omega]
        exact ih (fun r hr => h r (by simp [hr])) k r (by simpa using hk)
  exact key L h6 k r hr
def set6 (W : World) (b : Nat) (x0 x1 x2 x3 x4 x5 : Int) : World := ((((((W.setCell ⟨b, 0, none⟩ (.int .u8 x0)).setCell ⟨b, 1, none⟩ (.int .u8 x1)).setCell ⟨b, 2, none⟩ (.int .u8 x2)).setCell ⟨b, 3, none⟩ (.int .u8 x3)).setCell ⟨b, 4, none⟩ (.int .u8 x4)).setCell ⟨b, 5, none⟩ (.int .u8 x5))
theorem row_set6 {b : Nat} {W : World} {t : TypeId} {y0 y1 y2 y3 y4 y5 : Int} (h : W.heap[b]? = some (.cells #[.int .u8 y0, .int .u8 y1, .int .u8 y2, .int .u8 y3, .int .u8 y4, .int .u8 y5] t (0, 0))) (x0 x1 x2 x3 x4 x5 : Int) : (set6 W b x0 x1 x2 x3 x4 x5).heap[b]? = some (.cells #[.int .u8 x0, .int .u8 x1, .int .u8 x2, .int .u8 x3, .int .u8 x4, .int .u8 x5] t (0, 0)) := by
  unfold set6
  have s0 : (W.setCell ⟨b, 0, none⟩ (.int .u8 x0)).heap[b]? = some (.cells #[.int .u8 x0, .int .u8 y1, .int .u8 y2, .int .u8 y3, .int .u8 y4, .int .u8 y5] t (0, 0)) := heap_setCell_same _ b 0 _ _ _ h
  have s1 : ((W.setCell ⟨b, 0, none⟩ (.int .u8 x0)).setCell ⟨b, 1, none⟩ (.int .u8 x1)).heap[b]? = some (.cells #[.int .u8 x0, .int .u8 x1, .int .u8 y2, .int .u8 y3, .int .u8 y4, .int .u8 y5] t (0, 0)) := heap_setCell_same _ b 1 _ _ _ s0
  have s2 : (((W.setCell ⟨b, 0, none⟩ (.int .u8 x0)).setCell ⟨b, 1, none⟩ (.int .u8 x1)).setCell ⟨b, 2, none⟩ (.int .u8 x2)).heap[b]? = some (.cells #[.int .u8 x0, .int .u8 x1, .int .u8 x2, .int .u8 y3, .int .u8 y4, .int .u8 y5] t (0, 0)) := heap_setCell_same _ b 2 _ _ _ s1
  have s3 : ((((W.setCell ⟨b, 0, none⟩ (.int .u8 x0)).setCell ⟨b, 1, none⟩ (.int .u8 x1)).setCell ⟨b, 2, none⟩ (.int .u8 x2)).setCell ⟨b, 3, none⟩ (.int .u8 x3)).heap[b]? = some (.cells #[.int .u8 x0, .int .u8 x1, .int .u8 x2, .int .u8 x3, .int .u8 y4, .int .u8 y5] t (0, 0)) := heap_setCell_same _ b 3 _ _ _ s2
  have s4 : (((((W.setCell ⟨b, 0, none⟩ (.int .u8 x0)).setCell ⟨b, 1, none⟩ (.int .u8 x1)).setCell ⟨b, 2, none⟩ (.int .u8 x2)).setCell ⟨b, 3, none⟩ (.int .u8 x3)).setCell ⟨b, 4, none⟩ (.int .u8 x4)).heap[b]? = some (.cells #[.int .u8 x0, .int .u8 x1, .int .u8 x2, .int .u8 x3, .int .u8 x4, .int .u8 y5] t (0, 0)) := heap_setCell_same _ b 4 _ _ _ s3
  have s5 : ((((((W.setCell ⟨b, 0, none⟩ (.int .u8 x0)).setCell ⟨b, 1, none⟩ (.int .u8 x1)).setCell ⟨b, 2, none⟩ (.int .u8 x2)).setCell ⟨b, 3, none⟩ (.int .u8 x3)).setCell ⟨b, 4, none⟩ (.int .u8 x4)).setCell ⟨b, 5, none⟩ (.int .u8 x5)).heap[b]? = some (.cells #[.int .u8 x0, .int .u8 x1, .int .u8 x2, .int .u8 x3, .int .u8 x4, .int .u8 x5] t (0, 0)) := heap_setCell_same _ b 5 _ _ _ s4
  exact s5
theorem below_set6 {w W : World} {base b : Nat} (h : Below base w W) (hb : base ≤ b) (x0 x1 x2 x3 x4 x5 : Int) : Below base w (set6 W b x0 x1 x2 x3 x4 x5) := by
  unfold set6
  iterate 6 refine Below.setCell ?_ hb _
  exact h
theorem row_cells6 {b : Nat} {W : World} {t : TypeId} {fr : Nat × Nat} {y0 y1 y2 y3 y4 y5 : Value} (h : W.heap[b]? = some (.cells #[y0, y1, y2, y3, y4, y5] t fr)) : W.cell? ⟨b, 0, none⟩ = some y0 ∧ W.cell? ⟨b, 1, none⟩ = some y1 ∧ W.cell? ⟨b, 2, none⟩ = some y2 ∧ W.cell? ⟨b, 3, none⟩ = some y3 ∧ W.cell? ⟨b, 4, none⟩ = some y4 ∧ W.cell? ⟨b, 5, none⟩ = some y5 := by
  refine ⟨?_, ?_, ?_, ?_, ?_, ?_⟩ <;> (rw [cell_of_row _ _ _ _ _ _ h]; rfl)
theorem row_fro6 {b : Nat} {W : World} {t : TypeId} {cs : Array Value} (h : W.heap[b]? = some (.cells cs t (0, 0))) : W.frozen? ⟨b, 0, none⟩ = false ∧ W.frozen? ⟨b, 1, none⟩ = false ∧ W.frozen? ⟨b, 2, none⟩ = false ∧ W.frozen? ⟨b, 3, none⟩ = false ∧ W.frozen? ⟨b, 4, none⟩ = false ∧ W.frozen? ⟨b, 5, none⟩ = false :=
  ⟨frozen_of_row _ _ _ _ _ h, frozen_of_row _ _ _ _ _ h, frozen_of_row _ _ _ _ _ h, frozen_of_row _ _ _ _ _ h, frozen_of_row _ _ _ _ _ h, frozen_of_row _ _ _ _ _ h⟩
/-- What 'rowWith' gives back. -/
theorem res_row {fn : Func} {p u : Tmp} (h : fn.results = #[.cell p 100, .tmp u]) (tmps : Array Value) (w : World) (g : Nat) (x0 x1 x2 x3 x4 x5 : Int) (b : Bool) (hp : tmps.getD p undef = .pointer (some ⟨g, 0, none⟩)) (hu : tmps.getD u undef = .bool b)
    (hg : w.heap[g]? = some (.cells #[.int .u8 x0, .int .u8 x1, .int .u8 x2, .int .u8 x3, .int .u8 x4, .int .u8 x5] 100 (0, 0))) : (results fn tmps).run Tryz.prog w = .ok (.tuple #[.agg #[.int .u8 x0, .int .u8 x1, .int .u8 x2, .int .u8 x3, .int .u8 x4, .int .u8 x5], .bool b]) w := by
  rw [results_cell_tmp h, hp]
  simp only [asAddr, Sem.run_pure, Result.andThen_ok]
  rw [run_loadVar_row w g 100 100 _ _ _ hg Tryz.underlying100 rfl (by kernel_rfl), Result.andThen_ok, hu]
/-- What 'begins' answers, up to a depth. -/
def BegAt (n : Nat) : Prop := ∀ (w : World) (base gb mb : Nat) (a t : Int), GB w base gb mb → 0 ≤ a → a ≤ 133 → dp a ≤ n → 1 ≤ t → t ≤ 78 →
  Calls Tryz.prog 45 #[.pointer (some ⟨gb, 0, none⟩), .int .u8 a, .int .u8 t] w fun e w' => e = .returned (.bool (bgI (n + 1) a t)) ∧ Below w.heap.size w w'
def rwN (f : Nat) (L : List (List Int)) (t : Int) : List Int := (L.find? (hdN f t)).getD []
/-- The rows that are left. -/
structure LeftIs (f : Nat) (t : Int) (L : List (List Int)) (k : Nat) (r : List Int) (b : Bool) : Prop where
  fd : rwN f (L.drop k) t = r
  an : (L.drop k).any (hdN f t) = b

set_option maxRecDepth 100000 in
set_option maxHeartbeats 400000 in
theorem rowWith_at (n : Nat) (hbeg : BegAt n) (w : World) (base gb mb : Nat) (a t : Int) (hG : GB w base gb mb) (a0 : 0 ≤ a) (a1 : a ≤ 133) (hd : dp a ≤ n + 1) (t0 : 1 ≤ t) (t1 : t ≤ 78) (r0 : List Int) (b0 : Bool) (hL0 : LeftIs (n + 1) t (rowsI a) 0 r0 b0) :
    Calls Tryz.prog 68 #[.pointer (some ⟨gb, 0, none⟩), .int .u8 a, .int .u8 t] w fun e w' => e = .returned (.tuple #[.agg (rc r0).toArray, .bool b0]) ∧ Below w.heap.size w w' := by
  obtain ⟨D, f, nn, h1, h2⟩ := hG.r.ex
  obtain ⟨hat, hrow⟩ := h2 a a0 (by omega)
  have hok := rows_ok a0 (show a ≤ 255 by omega)
  generalize rowsI a = L at *
  unfold rowOkI at hok
  rw [Bool.and_eq_true, List.all_eq_true] at hok
  have hL30 : L.length ≤ 30 := of_decide_eq_true hok.1
  have hr6 : ∀ r ∈ L, r.length ≤ 6 := fun r hr => by have := hok.2 r hr; simp only [Bool.and_eq_true] at this; exact of_decide_eq_true this.1.1
  have hrd : ∀ r ∈ L, dp (r.getD 0 0) ≤ n := fun r hr => by have := hok.2 r hr; simp only [Bool.and_eq_true] at this; have := of_decide_eq_true this.2; omega
  have hrz : ∀ r ∈ L, 0 ≤ r.getD 0 0 ∧ r.getD 0 0 ≤ 133 := fun r hr => by
    have := hok.2 r hr; simp only [Bool.and_eq_true, List.all_eq_true] at this
    cases r with
    | nil => simp
    | cons z r => have := of_decide_eq_true (this.1.2 z (by simp)); simp; omega
  obtain ⟨ln, hln⟩ : ∃ ln, L.length = ln := ⟨_, rfl⟩
  have hrow2 := hrow
  unfold RowIn at hrow2
  rw [hln] at hrow2 hL30
  obtain ⟨av, cv, hfv⟩ := own_form hrow2
  rw [hfv] at hat hrow
  have c0 := hG.c
  have hmlt := h1.lt
  have hcl := cell_kept ((Below.refl w.heap.size w).alloc (Nat.le_refl _) (.cells #[.int .u8 0, .int .u8 0, .int .u8 0, .int .u8 0, .int .u8 0, .int .u8 0] 100 (0, 0))) c0
  have HH : Hid (GB w base gb mb ∧ RowIn w base (.slice av ln cv) L ∧ L.length = ln ∧ LeftIs (n + 1) t L 0 r0 b0) := ⟨hG, hrow, hln, hL0⟩
  clear hrow2 hrow hfv hok h2 hG hln hL0
  go_enter Tryz.func68, Tryz.ntmps68
  go_wp2_with (at_lookup; refine wpList_rowGet rfl _ _ rfl rfl h1 ?blk a a0 (by omega) rfl hat ?_)
  case blk => exact Below.heap_alloc _ _ _ hmlt
  have hz0 : (w.alloc (.cells #[.int .u8 0, .int .u8 0, .int .u8 0, .int .u8 0, .int .u8 0, .int .u8 0] 100 (0, 0))).heap[w.heap.size]? = some (.cells #[.int .u8 0, .int .u8 0, .int .u8 0, .int .u8 0, .int .u8 0, .int .u8 0] 100 (0, 0)) := heap_alloc_new w _
  have hB0 := (Below.refl w.heap.size w).alloc (Nat.le_refl _) (.cells #[.int .u8 0, .int .u8 0, .int .u8 0, .int .u8 0, .int .u8 0, .int .u8 0] 100 (0, 0))
  clear hat c0 hcl h1
  go_loopw [17] (fun i wr => ∃ k : Nat, k ≤ ln ∧ i = .int .i64 k ∧ LeftIs (n + 1) t L k r0 b0 ∧ Below w.heap.size w wr ∧ wr.heap[w.heap.size]? = some (.cells #[.int .u8 0, .int .u8 0, .int .u8 0, .int .u8 0, .int .u8 0, .int .u8 0] 100 (0, 0))) (fun i _ => ln - (intOf i).toNat)
  case atStart => exact ⟨0, by omega, rfl, HH.out.2.2.2, hB0, hz0⟩
  case round =>
    clear hB0 hz0
    obtain ⟨k, hk, rfl, hLf, hB, hz⟩ := hrel
    by_cases hlt : k < ln
    · obtain ⟨r, hr⟩ : ∃ r, L[k]? = some r := ⟨_, List.getElem?_eq_getElem (by rw [HH.out.2.2.1]; exact hlt)⟩
      have hrm := List.mem_of_getElem? hr
      have hrow := HH.out.2.1.keep hB
      obtain ⟨g, rfl⟩ : ∃ g, av = some ⟨g, 0, none⟩ := by
        rcases own_zero_or hrow with ⟨h, _⟩ | ⟨g, c, h⟩
        · rw [HH.out.2.2.1] at h; omega
        · cases h; exact ⟨_, rfl⟩
      have q0 := hrow.cell hr6 hr (i := 0) (by decide)
      have q1 := hrow.cell hr6 hr (i := 1) (by decide)
      have q2 := hrow.cell hr6 hr (i := 2) (by decide)
      have q3 := hrow.cell hr6 hr (i := 3) (by decide)
      have q4 := hrow.cell hr6 hr (i := 4) (by decide)
      have q5 := hrow.cell hr6 hr (i := 5) (by decide)
      obtain ⟨x0, hx0⟩ : ∃ x, r.getD 0 0 = x := ⟨_, rfl⟩
      obtain ⟨x1, hx1⟩ : ∃ x, r.getD 1 0 = x := ⟨_, rfl⟩
      obtain ⟨x2, hx2⟩ : ∃ x, r.getD 2 0 = x := ⟨_, rfl⟩
      obtain ⟨x3, hx3⟩ : ∃ x, r.getD 3 0 = x := ⟨_, rfl⟩
      obtain ⟨x4, hx4⟩ : ∃ x, r.getD 4 0 = x := ⟨_, rfl⟩
      obtain ⟨x5, hx5⟩ : ∃ x, r.getD 5 0 = x := ⟨_, rfl⟩
      rw [hx0] at q0; rw [hx1] at q1; rw [hx2] at q2; rw [hx3] at q3; rw [hx4] at q4; rw [hx5] at q5
      rw [Nat.add_zero] at q0
      obtain ⟨hd0, hd1⟩ := hrz r hrm
      have hdd := hrd r hrm
      rw [hx0] at hd0 hd1 hdd
      have hki : (k : Int) < (ln : Int) := by omega
      have hk0 : (0 : Int) ≤ (k : Int) := by omega
      have HX : Hid (L[k]? = some r ∧ r ∈ L ∧ r.getD 0 0 = x0 ∧ r.getD 1 0 = x1 ∧ r.getD 2 0 = x2 ∧ r.getD 3 0 = x3 ∧ r.getD 4 0 = x4 ∧ r.getD 5 0 = x5) := ⟨hr, hrm, hx0, hx1, hx2, hx3, hx4, hx5⟩
      clear hr hrm hx0 hx1 hx2 hx3 hx4 hx5 hrow
      have hBa := hB.alloc hB.size (.cells #[.int .u8 x0, .int .u8 x1, .int .u8 x2, .int .u8 x3, .int .u8 x4, .int .u8 x5] 100 (0, 0))
      have kb := hbeg _ base gb mb x0 t (HH.out.1.below hBa) hd0 hd1 hdd t0 t1
      go_wp2_with (go_at_call 45; fail)
      refine kb.mono ?_
      rintro e w2 ⟨rfl, hB2⟩
      have hs1 := hB.size
      have hs2 := lt_of_mapblock hz
      have hbx : w2.heap[wr.heap.size]? = some (.cells #[.int .u8 x0, .int .u8 x1, .int .u8 x2, .int .u8 x3, .int .u8 x4, .int .u8 x5] 100 (0, 0)) := (hB2.block _ (by simp)).trans (heap_alloc_new wr _)
      have hzz : w2.heap[w.heap.size]? = some (.cells #[.int .u8 0, .int .u8 0, .int .u8 0, .int .u8 0, .int .u8 0, .int .u8 0] 100 (0, 0)) := ((hB2.block _ (by simp; omega)).trans (Below.heap_alloc _ _ _ hs2)).trans hz
      have hBw : Below w.heap.size w w2 := hBa.trans (hB2.mono (by simp; omega))
      have hdr : L.drop k = r :: L.drop (k + 1) := by
        obtain ⟨e1, e2⟩ := List.getElem?_eq_some_iff.1 HX.out.1
        rw [List.drop_eq_getElem_cons e1, e2]
      have hhd : hdN (n + 1) t r = bgI (n + 1) x0 t := by unfold hdN; rw [HX.out.2.2.1]
      have hrce : rc r = [.int .u8 x0, .int .u8 x1, .int .u8 x2, .int .u8 x3, .int .u8 x4, .int .u8 x5] := by
        obtain ⟨_, e2, e3, e4, e5, e6, e7, e8⟩ := HX.out
        rw [rc_eq (hr6 r e2), e3, e4, e5, e6, e7, e8]
      clear kb hB2 hBa
      cases hbv : bgI (n + 1) x0 t with
      | true =>
        have HF : Hid (r0 = r ∧ b0 = true) := by
          rw [hbv] at hhd
          refine ⟨?_, ?_⟩
          · rw [← hLf.fd, hdr]; unfold rwN; rw [List.find?_cons_of_pos hhd]; rfl
          · rw [← hLf.an, hdr, List.any_cons, hhd]; rfl
        have hfin := row_set6 hzz x0 x1 x2 x3 x4 x5
        have hBf := below_set6 hBw (Nat.le_refl _) x0 x1 x2 x3 x4 x5
        obtain ⟨u0, u1, u2, u3, u4, u5⟩ := row_cells6 hbx
        obtain ⟨z0, z1, z2, z3, z4, z5⟩ := row_cells6 hzz
        obtain ⟨y0, y1, y2, y3, y4, y5⟩ := row_fro6 hzz
        have HFN : Hid ((set6 w2 w.heap.size x0 x1 x2 x3 x4 x5).heap[w.heap.size]? = some (.cells #[.int .u8 x0, .int .u8 x1, .int .u8 x2, .int .u8 x3, .int .u8 x4, .int .u8 x5] 100 (0, 0)) ∧ Below w.heap.size w (set6 w2 w.heap.size x0 x1 x2 x3 x4 x5)) := ⟨hfin, hBf⟩
        clear hfin hBf hbx hzz hz
        have HY : Hid (hdN (n + 1) t r = true ∧ rc r = [.int .u8 x0, .int .u8 x1, .int .u8 x2, .int .u8 x3, .int .u8 x4, .int .u8 x5]) := ⟨hhd.trans hbv, hrce⟩
        clear hhd hdr hrce hbv hLf
        go_wp2_with fail
        try rw [Exit.noGoto_ret]
        change bodyPost _ _ _ _ _ (set6 w2 w.heap.size x0 x1 x2 x3 x4 x5)
        refine bodyPost_ret (res_row rfl _ _ w.heap.size x0 x1 x2 x3 x4 x5 true rfl rfl HFN.out.1) rfl ⟨?_, HFN.out.2⟩
        rw [HF.out.1, HF.out.2, HY.out.2]
      | false =>
        have HF : LeftIs (n + 1) t L (k + 1) r0 b0 := by
          rw [hbv] at hhd
          refine ⟨?_, ?_⟩
          · rw [← hLf.fd, hdr]; unfold rwN; rw [List.find?_cons_of_neg (by rw [hhd]; simp)]
          · rw [← hLf.an, hdr, List.any_cons, hhd]; rfl
        clear hhd hdr hrce hbv hLf
        go_wp2_with fail
        go_roundw
        case rel => exact ⟨k + 1, by omega, by go_num, HF, hBw, hzz⟩
        case measure => simp [intOf]; omega
    · obtain rfl : k = ln := by omega
      have HF : Hid (r0 = [] ∧ b0 = false) := by
        have hdn : L.drop k = [] := List.drop_of_length_le (by rw [HH.out.2.2.1]; exact Nat.le_refl _)
        refine ⟨?_, ?_⟩
        · rw [← hLf.fd, hdn]; rfl
        · rw [← hLf.an, hdn]; rfl
      have hfin := row_set6 hz 0 0 0 0 0 0
      have hBf := below_set6 hB (Nat.le_refl _) 0 0 0 0 0 0
      obtain ⟨z0, z1, z2, z3, z4, z5⟩ := row_cells6 hz
      obtain ⟨y0, y1, y2, y3, y4, y5⟩ := row_fro6 hz
      have HFN : Hid ((set6 wr w.heap.size 0 0 0 0 0 0).heap[w.heap.size]? = some (.cells #[.int .u8 0, .int .u8 0, .int .u8 0, .int .u8 0, .int .u8 0, .int .u8 0] 100 (0, 0)) ∧ Below w.heap.size w (set6 wr w.heap.size 0 0 0 0 0 0)) := ⟨hfin, hBf⟩
      clear hfin hBf hz hLf
      go_wp2_with fail
      try rw [Exit.noGoto_ret]
      change bodyPost _ _ _ _ _ (set6 wr w.heap.size 0 0 0 0 0 0)
      refine bodyPost_ret (res_row rfl _ _ w.heap.size 0 0 0 0 0 0 false rfl rfl HFN.out.1) rfl ⟨?_, HFN.out.2⟩
      rw [HF.out.1, HF.out.2]; rfl
end Go.Proofs.YtdlhfiheingibaaGreatDoor

namespace Go.Proofs.YtdlhfiheingibaaGreatDoor
open Go.RowKit Go.Maps Go.WideMaps
set_option linter.unusedVariables false

theorem any_hd {t : Int} (t0 : 1 ≤ t) (f : Nat) (L : List (List Int)) : L.any (hdN (f + 1) t) = L.any (fun r => match r with | [] => false | h :: _ => bgI (f + 1) h t) := by
  congr 1
  funext r
  exact hd_eq t0 f r
set_option maxHeartbeats 800000 in
theorem begins_step (n : Nat) (hbeg : n = 0 ∨ ∃ m, n = m + 1 ∧ BegAt m) : BegAt n := by
  intro w base gb mb a t hG a0 a1 hd t0 t1
  by_cases ha : a < 100
  · have e : bgI (n + 1) a t = decide (a = t) := by rw [bgI, if_pos ha]
    rw [e]
    have e2 : (a == t) = decide (a = t) := by rw [Bool.eq_iff_iff]; simp
    obtain ⟨b, hb⟩ : ∃ b, decide (a = t) = b := ⟨_, rfl⟩
    rw [hb] at e2 ⊢
    have ed : (decide (a < 100)) = true := decide_eq_true ha
    clear e hb
    go_enter Tryz.func45, Tryz.ntmps45
    go_wp2_with fail
    go_ret
    exact ⟨rfl, Below.refl _ _⟩
  · have hdp : 1 ≤ dp a := by unfold dp; rw [if_neg ha]; repeat (first | (split; · omega) | omega)
    obtain ⟨m, rfl, hm⟩ := hbeg.resolve_left (by omega)
    obtain ⟨r0, b0, hL⟩ : ∃ r0 b0, LeftIs (m + 1) t (rowsI a) 0 r0 b0 := ⟨_, _, ⟨rfl, rfl⟩⟩
    have e : bgI (m + 1 + 1) a t = b0 := by
      rw [bgI, if_neg ha]
      refine (any_hd t0 m (rowsI a)).symm.trans ?_
      rw [← hL.an]; rfl
    rw [e]
    have kr := rowWith_at m hm w base gb mb a t hG a0 a1 (by omega) t0 t1 r0 b0 hL
    have hr6 : r0.length ≤ 6 := by
      have hok := rows_ok a0 (show a ≤ 255 by omega)
      unfold rowOkI at hok
      rw [Bool.and_eq_true, List.all_eq_true] at hok
      have h := hL.fd
      unfold rwN at h
      cases hf : List.find? (hdN (m + 1) t) (List.drop 0 (rowsI a)) with
      | none => rw [hf] at h; rw [← h]; exact Nat.zero_le _
      | some r =>
        rw [hf] at h
        have hmem : r ∈ rowsI a := List.mem_of_find?_eq_some hf
        have := hok.2 r hmem
        simp only [Bool.and_eq_true] at this
        rw [← h]
        exact of_decide_eq_true this.1.1
    rw [rc_eq hr6] at kr
    have ed : (decide (a < 100)) = false := decide_eq_false ha
    generalize r0.getD 0 0 = x0 at kr
    generalize r0.getD 1 0 = x1 at kr
    generalize r0.getD 2 0 = x2 at kr
    generalize r0.getD 3 0 = x3 at kr
    generalize r0.getD 4 0 = x4 at kr
    generalize r0.getD 5 0 = x5 at kr
    clear hL e hr6 hm hbeg
    go_enter Tryz.func45, Tryz.ntmps45
    go_wp2_with (go_at_call 68; refine kr.mono ?_; rintro e w2 ⟨rfl, hB2⟩)
    go_ret
    exact ⟨rfl, hB2.alloc hB2.size _⟩
theorem begins_any : ∀ n, BegAt n
  | 0 => begins_step 0 (.inl rfl)
  | n + 1 => begins_step (n + 1) (.inr ⟨n, rfl, begins_any n⟩)
end Go.Proofs.YtdlhfiheingibaaGreatDoor

namespace Go.Proofs.YtdlhfiheingibaaGreatDoor
open Go.RowKit Go.Maps Go.WideMaps
set_option linter.unusedVariables false
attribute [local go_sem] Oper.semAt_some

theorem eqRow0 (w : World) : (Op.equalIn 10000 100 (.agg #[.int .u8 0, .int .u8 0, .int .u8 0, .int .u8 0, .int .u8 0, .int .u8 0]) (.agg #[.int .u8 0, .int .u8 0, .int .u8 0, .int .u8 0, .int .u8 0, .int .u8 0])).run Tryz.prog w = .ok true w := by kernel_rfl
theorem eqRowN {x0 : Int} (h : x0 ≠ 0) (x1 x2 x3 x4 x5 : Int) (w : World) : (Op.equalIn 10000 100 (.agg #[.int .u8 0, .int .u8 0, .int .u8 0, .int .u8 0, .int .u8 0, .int .u8 0]) (.agg #[.int .u8 x0, .int .u8 x1, .int .u8 x2, .int .u8 x3, .int .u8 x4, .int .u8 x5])).run Tryz.prog w = .ok false w := by
  have u3 := Tryz.underlying59
  have a3 := Tryz.isAgg59
  have z3 := Tryz.sizeOf59
  have h0 : (0 == x0) = false := by rw [beq_eq_false_iff_ne]; omega
  rw [show (10000 : Nat) = 9999 + 1 from rfl, Op.equalIn]
  simp only [Sem.run_bind, run_underlying Tryz.underlying100, Result.andThen_ok]
  simp only [Std.Legacy.Range.forIn_eq_forIn_range', Std.Legacy.Range.size, Nat.sub_zero, Nat.add_sub_cancel, Nat.div_one, List.range'_succ, List.range'_zero, List.forIn_cons, List.forIn_nil]
  go_simp
theorem below_dN {B : Nat} {a w : World} (h : Below B a w) (n : Nat) : Below B a (w.drewN n) := ⟨h.os, h.tape, h.output, h.size, h.block⟩
structure HasNil (L : List (List Int)) (k : Nat) (b : Bool) : Prop where
  out : (L.drop k).contains [] = b
set_option maxRecDepth 100000 in
set_option maxHeartbeats 400000 in
theorem index_any (w : World) (base : Nat) (v : Value) (L : List (List Int)) (b0 : Bool) (hrow : RowIn w base v L) (hl : L.length ≤ 30) (h6 : ∀ r ∈ L, r.length ≤ 6) (hz : ∀ r ∈ L, r ≠ [] → 1 ≤ r.getD 0 0) (hN : HasNil L 0 b0) :
    Calls Tryz.prog 82 #[v, .agg #[.int .u8 0, .int .u8 0, .int .u8 0, .int .u8 0, .int .u8 0, .int .u8 0]] w fun e w' => (∃ z, e = .returned (.int .i64 z) ∧ decide (0 ≤ z) = b0) ∧ Below w.heap.size w w' := by
  obtain ⟨ln, hln⟩ : ∃ ln, L.length = ln := ⟨_, rfl⟩
  have hrow2 := hrow
  unfold RowIn at hrow2
  rw [hln] at hrow2 hl
  obtain ⟨av, cv, rfl⟩ := own_form hrow2
  have HH : Hid (RowIn w base (.slice av ln cv) L ∧ L.length = ln ∧ HasNil L 0 b0) := ⟨hrow, hln, hN⟩
  clear hrow hrow2 hln hN
  go_enter Tryz.func82, Tryz.ntmps82
  go_wp2_with fail
  have hz0 : (w.alloc (.cells #[.int .u8 0, .int .u8 0, .int .u8 0, .int .u8 0, .int .u8 0, .int .u8 0] 100 (0, 0))).heap[w.heap.size]? = some (.cells #[.int .u8 0, .int .u8 0, .int .u8 0, .int .u8 0, .int .u8 0, .int .u8 0] 100 (0, 0)) := heap_alloc_new w _
  have hB0 := (Below.refl w.heap.size w).alloc (Nat.le_refl _) (.cells #[.int .u8 0, .int .u8 0, .int .u8 0, .int .u8 0, .int .u8 0, .int .u8 0] 100 (0, 0))
  go_loopw [8] (fun i wr => ∃ k : Nat, k ≤ ln ∧ i = .int .i64 k ∧ HasNil L k b0 ∧ Below w.heap.size w wr ∧ wr.heap[w.heap.size]? = some (.cells #[.int .u8 0, .int .u8 0, .int .u8 0, .int .u8 0, .int .u8 0, .int .u8 0] 100 (0, 0))) (fun i _ => ln - (intOf i).toNat)
  case atStart => exact ⟨0, by omega, rfl, HH.out.2.2, hB0, hz0⟩
  case round =>
    clear hB0 hz0
    obtain ⟨k, hk, rfl, hLf, hB, hz9⟩ := hrel
    by_cases hlt : k < ln
    · obtain ⟨r, hr⟩ : ∃ r, L[k]? = some r := ⟨_, List.getElem?_eq_getElem (by rw [HH.out.2.1]; exact hlt)⟩
      have hrm := List.mem_of_getElem? hr
      have hrow := HH.out.1.keep hB
      obtain ⟨g, rfl⟩ : ∃ g, av = some ⟨g, 0, none⟩ := by
        rcases own_zero_or hrow with ⟨h, _⟩ | ⟨g, c, h⟩
        · rw [HH.out.2.1] at h; omega
        · cases h; exact ⟨_, rfl⟩
      have q0 := hrow.cell h6 hr (i := 0) (by decide)
      have q1 := hrow.cell h6 hr (i := 1) (by decide)
      have q2 := hrow.cell h6 hr (i := 2) (by decide)
      have q3 := hrow.cell h6 hr (i := 3) (by decide)
      have q4 := hrow.cell h6 hr (i := 4) (by decide)
      have q5 := hrow.cell h6 hr (i := 5) (by decide)
      rw [Nat.add_zero] at q0
      have hnil : r = [] ∨ 1 ≤ r.getD 0 0 := (Decidable.em (r = [])).imp_right (hz r hrm)
      have hdr : L.drop k = r :: L.drop (k + 1) := by
        obtain ⟨e1, e2⟩ := List.getElem?_eq_some_iff.1 hr
        rw [List.drop_eq_getElem_cons e1, e2]
      obtain ⟨u0, u1, u2, u3, u4, u5⟩ := row_cells6 hz9
      have hki : (k : Int) < (ln : Int) := by omega
      have hk0 : (0 : Int) ≤ (k : Int) := by omega
      rcases hnil with rfl | hpos
      · have HF : Hid (b0 = true) := by
          show b0 = true
          rw [← hLf.out, hdr]; simp
        simp only [List.getD_nil] at q0 q1 q2 q3 q4 q5
        have hE := fun w => eqRow0 w
        clear hdr hLf hr hrm
        go_wp2_with fail
        go_quiet (fail)
        go_wp2_with fail
        try rw [Exit.noGoto_ret]
        go_ret
        exact ⟨⟨_, rfl, by rw [HF.out]; exact decide_eq_true hk0⟩, below_dN hB nq⟩
      · have HF : HasNil L (k + 1) b0 := by
          refine ⟨?_⟩
          rw [← hLf.out, hdr, List.contains_cons]
          have : ([] == r) = false := by
            rw [beq_eq_false_iff_ne]; rintro rfl; simp at hpos
          rw [this, Bool.false_or]
        generalize r.getD 0 0 = x0 at q0 hpos
        generalize r.getD 1 0 = x1 at q1
        generalize r.getD 2 0 = x2 at q2
        generalize r.getD 3 0 = x3 at q3
        generalize r.getD 4 0 = x4 at q4
        generalize r.getD 5 0 = x5 at q5
        have hE := fun w => eqRowN (x0 := x0) (by omega) x1 x2 x3 x4 x5 w
        clear hdr hLf hr hrm
        go_wp2_with fail
        go_quiet (fail)
        go_wp2_with fail
        go_roundw
        case rel => exact ⟨k + 1, by omega, by go_num, HF, below_dN hB nq, hz9⟩
        case measure => simp [intOf]; omega
    · obtain rfl : k = ln := by omega
      have HF : Hid (b0 = false) := by
        show b0 = false
        rw [← hLf.out, List.drop_of_length_le (by rw [HH.out.2.1]; exact Nat.le_refl _)]; rfl
      clear hLf
      go_wp2_with fail
      go_ret
      exact ⟨⟨-1, rfl, by rw [HF.out]; rfl⟩, hB⟩
set_option maxHeartbeats 400000 in
theorem contains_any (w : World) (base : Nat) (v : Value) (L : List (List Int)) (b0 : Bool) (hrow : RowIn w base v L) (hl : L.length ≤ 30) (h6 : ∀ r ∈ L, r.length ≤ 6) (hz : ∀ r ∈ L, r ≠ [] → 1 ≤ r.getD 0 0) (hN : HasNil L 0 b0) :
    Calls Tryz.prog 69 #[v, .agg #[.int .u8 0, .int .u8 0, .int .u8 0, .int .u8 0, .int .u8 0, .int .u8 0]] w fun e w' => e = .returned (.bool b0) ∧ Below w.heap.size w w' := by
  have hBa := (Below.refl w.heap.size w).alloc (Nat.le_refl _) (.cells #[.int .u8 0, .int .u8 0, .int .u8 0, .int .u8 0, .int .u8 0, .int .u8 0] 100 (0, 0))
  have ki := index_any _ base v L b0 (hrow.keep hBa) hl h6 hz hN
  clear hrow hN
  go_enter Tryz.func69, Tryz.ntmps69
  go_wp2_with (go_at_call 82; refine ki.mono ?_; rintro e w2 ⟨⟨z, rfl, hz2⟩, hB2⟩)
  go_ret
  refine ⟨?_, hBa.trans (hB2.mono (by simp))⟩
  rw [← hz2]; rfl
set_option maxHeartbeats 400000 in
theorem mbn_any (w : World) (base gb mb : Nat) (a : Int) (hG : GB w base gb mb) (a0 : 0 ≤ a) (a1 : a ≤ 133) :
    Calls Tryz.prog 46 #[.pointer (some ⟨gb, 0, none⟩), .int .u8 a] w fun e w' => e = .returned (.bool (mbnI a)) ∧ Below w.heap.size w w' := by
  obtain ⟨D, f, nn, h1, h2⟩ := hG.r.ex
  obtain ⟨hat, hrow⟩ := h2 a a0 (by omega)
  have hok := rows_ok a0 (show a ≤ 255 by omega)
  unfold mbnI
  generalize rowsI a = L at *
  unfold rowOkI at hok
  rw [Bool.and_eq_true, List.all_eq_true] at hok
  have hL30 : L.length ≤ 30 := of_decide_eq_true hok.1
  have hr6 : ∀ r ∈ L, r.length ≤ 6 := fun r hr => by have := hok.2 r hr; simp only [Bool.and_eq_true] at this; exact of_decide_eq_true this.1.1
  have hrz : ∀ r ∈ L, r ≠ [] → 1 ≤ r.getD 0 0 := fun r hr hne => by
    have := hok.2 r hr; simp only [Bool.and_eq_true, List.all_eq_true] at this
    cases r with
    | nil => exact absurd rfl hne
    | cons z r => have := of_decide_eq_true (this.1.2 z (by simp)); simp; omega
  obtain ⟨b0, hb0⟩ : ∃ b, L.contains [] = b := ⟨_, rfl⟩
  have kc := contains_any w base (f a) L b0 hrow hL30 hr6 hrz ⟨hb0⟩
  rw [hb0]
  have c0 := hG.c
  clear hrow hok h2 hG hb0
  go_enter Tryz.func46, Tryz.ntmps46
  go_wp2_with (first
    | (at_lookup; refine wpList_rowGet rfl _ _ rfl rfl h1 rfl a a0 (by omega) rfl hat ?_)
    | (go_at_call 69; refine kc.mono ?_; rintro e w2 ⟨rfl, hB2⟩))
  go_ret
  exact ⟨rfl, hB2⟩
end Go.Proofs.YtdlhfiheingibaaGreatDoor
