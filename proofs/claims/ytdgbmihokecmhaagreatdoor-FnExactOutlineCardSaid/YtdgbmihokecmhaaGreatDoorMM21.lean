import Derived.Test.YtdgbmihokecmhaaGreatDoorMM08
import Derived.Test.YtdgbmihokecmhaaGreatDoorMM11
import Derived.Test.YtdgbmihokecmhaaGreatDoorMM20
import Derived.Test.YtdgbmihokecmhaaGreatDoorMM03
namespace Go.Proofs.YtdgbmihokecmhaaGreatDoor
open Go.RowKit Go.Maps Go.WideMaps
set_option linter.unusedVariables false

/-- The linker: its words (the map of the block mb), its nodes. -/
structure Lk (W : World) (lb mb : Nat) (vs : Value) : Prop where
  b : W.heap[lb]? = some (.cells #[.map (some mb), vs] 74 (0, 0))
  m : W.ownsMap Tryz.prog 9 (plainElem (H := Unit) Tryz.prog 3) mb 22 (wkD 22)
  e : Errs W
theorem wd_keep {W W' : World} {mb n : Nat} {D : DataW Unit} (h : W.ownsMap Tryz.prog 9 (plainElem (H := Unit) Tryz.prog 3) mb n D) (hb : W'.heap[mb]? = W.heap[mb]?) : W'.ownsMap Tryz.prog 9 (plainElem (H := Unit) Tryz.prog 3) mb n D := by
  obtain ⟨es, clock, hh, rest⟩ := h
  exact ⟨es, clock, hb.trans hh, rest⟩
theorem Errs.keep {W W' : World} (h : Errs W) (hb : Below W.heap.size W W') : Errs W' := by
  obtain ⟨⟨a, b, h1⟩, ⟨c, d, h2⟩⟩ := h
  exact ⟨⟨a, b, cell_kept hb h1⟩, ⟨c, d, cell_kept hb h2⟩⟩
theorem Lk.below {W W' : World} {lb mb : Nat} {vs : Value} (h : Lk W lb mb vs) (hb : Below W.heap.size W W') : Lk W' lb mb vs :=
  ⟨(hb.block _ (lt_of_block h.b)).trans h.b, wd_keep h.m (hb.block _ h.m.lt), h.e.keep hb⟩

set_option maxRecDepth 100000 in
set_option maxHeartbeats 3200000 in
theorem isTreeName_any (w : World) (lb mb : Nat) (vs : Value) (s : ByteArray) (hm : s.size ≤ 1100000) (h : Lk w lb mb vs) :
    Calls Tryz.prog 73 #[.pointer (some ⟨lb, 0, none⟩), .string s] w fun e w' => e = .returned (.bool (nmok s)) ∧ w' = w := by
  have c0 : w.cell? ⟨lb, 0, none⟩ = some (.map (some mb)) := by rw [cell_of_row _ _ _ _ _ _ h.b]; rfl
  have kn := isName_any s hm mb w h.m
  by_cases h40 : s.size ≤ 40
  · have e : decide (lettB (bat s 0) = true ∧ nmE s (s.size + 1) 0 = s.size ∧ isWd s = false) = nmok s := by
      unfold nmok
      by_cases h' : lettB (bat s 0) = true ∧ nmE s (s.size + 1) 0 = s.size ∧ isWd s = false
      · rw [decide_eq_true h', decide_eq_true ⟨h40, h'⟩]
      · rw [decide_eq_false h', decide_eq_false (fun g => h' g.2)]
    rw [e] at kn
    generalize nmok s = R at kn ⊢
    clear e h
    have hi : (s.size : Int) ≤ 40 := by omega
    go_enter Tryz.func73, Tryz.ntmps73
    go_wp2_with (go_at_call 89; refine kn.mono ?_; rintro e w' ⟨rfl, rfl⟩)
    go_ret
    exact ⟨rfl, rfl⟩
  · have e : nmok s = false := by unfold nmok; rw [decide_eq_false (fun g => h40 g.1)]
    rw [e]
    have hi : ¬ (s.size : Int) ≤ 40 := by omega
    clear kn
    go_enter Tryz.func73, Tryz.ntmps73
    go_wp2
    go_ret
    exact ⟨rfl, rfl⟩

set_option maxRecDepth 100000 in
set_option maxHeartbeats 3200000 in
theorem areNames_any (w : World) (lb mb : Nat) (vs : Value) (vn : Value) (l : List ByteArray) (h : Lk w lb mb vs) (hn : StrsAt w vn l) (hl : l.length ≤ 1048576) (hs : ∀ s ∈ l, s.size ≤ 1048576) :
    Calls Tryz.prog 63 #[.pointer (some ⟨lb, 0, none⟩), vn] w fun e w' => e = .returned (.bool (nmsB l l.length 0)) ∧ w' = w := by
  have HT : Hid (StrsAt w vn l ∧ (∀ s ∈ l, s.size ≤ 1048576) ∧ Lk w lb mb vs) := ⟨hn, hs, h⟩
  obtain ⟨a2, c2, rfl⟩ := hn.form
  obtain ⟨R, hR⟩ : ∃ R, nmsB l l.length 0 = R := ⟨_, rfl⟩
  rw [hR]
  obtain ⟨L1, hL1⟩ : ∃ n, l.length = n := ⟨_, rfl⟩
  have HL : Hid (l.length = L1) := hL1
  rw [hL1] at HT hl hR ⊢
  have HR : NmsIs l L1 0 R := ⟨hR⟩
  clear hL1 hn hs h hR
  go_enter Tryz.func63, Tryz.ntmps63
  go_wp2_with fail
  go_loop [9] (fun vj => ∃ (j : Nat), vj = .int .i64 j ∧ j ≤ L1 ∧ NmsIs l (L1 - j) j R) (fun vj => L1 - (intOf vj).toNat)
  case atStart => exact ⟨0, rfl, by omega, HR⟩
  case round =>
    obtain ⟨j, rfl, hj, HJ⟩ := hrel
    have hst := HJ.out
    by_cases hlt : j < L1
    · obtain ⟨s, hsk⟩ := some_at HL.out hlt
      have hss := HT.out.2.1 s (List.mem_of_getElem? hsk)
      obtain ⟨p3, rfl, g3⟩ := HT.out.1.get hsk
      rw [show L1 - j = (L1 - (j + 1)) + 1 by omega, nmsB, List.getD_eq_getElem?_getD, hsk, Option.getD_some] at hst
      have hji : (j : Int) < (L1 : Int) := by omega
      have hj0 : (0 : Int) ≤ (j : Int) := by omega
      have ke := isTreeName_any w lb mb vs s (by omega) HT.out.2.2
      clear hsk
      cases hx : nmok s with
      | true =>
        rw [hx, Bool.true_and] at hst
        rw [hx] at ke
        have HS : NmsIs l (L1 - (j + 1)) (j + 1) R := ⟨hst⟩
        clear hst hx
        go_wp2_with (go_at_call 73; refine ke.mono ?_; rintro e w3 ⟨rfl, rfl⟩)
        go_round
        case rel => exact ⟨j + 1, by go_num, by omega, HS⟩
        case measure => simp [intOf]; omega
      | false =>
        rw [hx, Bool.false_and] at hst
        rw [hx] at ke
        have HS : Hid (false = R) := hst
        clear hst hx
        go_wp2_with (go_at_call 73; refine ke.mono ?_; rintro e w3 ⟨rfl, rfl⟩)
        go_ret
        exact ⟨by rw [← HS.out]; rfl, rfl⟩
    · rw [show L1 - j = 0 by omega, nmsB] at hst
      have HS : Hid (true = R) := hst
      have hji : ¬ (j : Int) < (L1 : Int) := by omega
      clear hst
      go_wp2_with fail
      go_ret
      exact ⟨by rw [← HS.out]; rfl, rfl⟩

/-- What the text of a node has to be. -/
def txB (k : Int) (x : ByteArray) : Bool := if k = 24 then fok x else if k = 25 then decide ((x.size : Int) ≤ 4000) else nmok x
set_option maxRecDepth 100000 in
set_option maxHeartbeats 3200000 in
theorem textFits_any (w : World) (lb mb : Nat) (vs : Value) (k : Int) (s : ByteArray) (hm : s.size ≤ 1100000) (h : Lk w lb mb vs) :
    Calls Tryz.prog 64 #[.pointer (some ⟨lb, 0, none⟩), .int .i64 k, .string s] w fun e w' => e = .returned (.bool (txB k s)) ∧ Below w.heap.size w w' := by
  have kt := isTreeName_any w lb mb vs s hm h
  have kf := isFloat_any s hm w h.e
  unfold txB
  by_cases h1 : k = 24
  · subst h1
    rw [if_pos rfl]
    unfold fok
    by_cases h40 : s.size ≤ 40
    · have hi : (s.size : Int) ≤ 40 := by omega
      rw [decide_eq_true h40, Bool.true_and]
      generalize fltI s = R at kf ⊢
      clear kt h
      go_enter Tryz.func64, Tryz.ntmps64
      go_wp2_with (go_at_call 74; refine kf.mono ?_; rintro e w' ⟨rfl, hb⟩)
      go_ret
      exact ⟨rfl, hb⟩
    · have hi : ¬ (s.size : Int) ≤ 40 := by omega
      rw [decide_eq_false h40, Bool.false_and]
      clear kt kf h
      go_enter Tryz.func64, Tryz.ntmps64
      go_wp2
      go_ret
      exact ⟨rfl, Below.refl _ _⟩
  by_cases h2 : k = 25
  · subst h2
    rw [if_neg (by decide), if_pos rfl]
    clear kt kf h h1
    go_enter Tryz.func64, Tryz.ntmps64
    go_wp2
    go_ret
    exact ⟨rfl, Below.refl _ _⟩
  rw [if_neg h1, if_neg h2]
  generalize nmok s = R at kt ⊢
  clear kf h
  go_enter Tryz.func64, Tryz.ntmps64
  go_wp2_with (go_at_call 73; refine kt.mono ?_; rintro e w' ⟨rfl, rfl⟩)
  go_ret
  exact ⟨rfl, Below.refl _ _⟩

/-- How many names a node of a Kind has at most. -/
def mostN (k : Int) : Int := if k = 2 ∨ k = 10 then 200 else if k = 14 then 2 else 1
set_option maxRecDepth 100000 in
theorem nameNumbers_any (k : Int) (w : World) : Calls Tryz.prog 62 #[.int .i64 k] w fun e w' => e = .returned (.tuple #[.int .i64 1, .int .i64 (mostN k)]) ∧ w' = w := by
  unfold mostN
  rcases (show k = 2 ∨ k = 10 ∨ k = 14 ∨ (¬ k = 2 ∧ ¬ k = 10 ∧ ¬ k = 14) by omega) with rfl | rfl | rfl | ⟨h1, h2, h3⟩
  · rw [if_pos (by decide)]
    go_enter Tryz.func62, Tryz.ntmps62
    go_wp2
    go_ret2
    exact ⟨rfl, rfl⟩
  · rw [if_pos (by decide)]
    go_enter Tryz.func62, Tryz.ntmps62
    go_wp2
    go_ret2
    exact ⟨rfl, rfl⟩
  · rw [if_neg (by decide), if_pos rfl]
    go_enter Tryz.func62, Tryz.ntmps62
    go_wp2
    go_ret2
    exact ⟨rfl, rfl⟩
  · rw [if_neg (by omega), if_neg h3]
    go_enter Tryz.func62, Tryz.ntmps62
    go_wp2
    go_ret2
    exact ⟨rfl, rfl⟩
end Go.Proofs.YtdgbmihokecmhaaGreatDoor

namespace Go.Proofs.YtdgbmihokecmhaaGreatDoor
open Go.RowKit Go.Maps Go.WideMaps
set_option linter.unusedVariables false

set_option maxRecDepth 100000 in
set_option maxHeartbeats 3200000 in
theorem ff0 (w : World) (lb mb : Nat) (vs : Value) (h : Lk w lb mb vs) (b : Nat) (nk nf nt nl num : Int) (vk : Value) (vn : Value) (l : List ByteArray) (hn : StrsAt w vn l) (hl : l.length ≤ 1048576) (hs : ∀ s ∈ l, s.size ≤ 1048576)
    (hb : w.heap[b]? = some (.cells #[.int .i64 nk, .int .i64 nf, .int .i64 nt, .int .i64 nl, .int .i64 num, vk, vn] 81 (0, 0))) :
    Calls Tryz.prog 48 #[.pointer (some ⟨lb, 0, none⟩), .iface 78 (.pointer (some ⟨b, 0, none⟩))] w fun e w' => e = .returned (.bool (decide (1 ≤ (l.length : Int) ∧ (l.length : Int) ≤ mostN nk) && nmsB l l.length 0)) ∧ w' = w := by
  have ha := fun w => as00 b w
  have kn := fun w => nameNumbers_any nk w
  have ka := areNames_any w lb mb vs vn l h hn hl hs
  obtain ⟨a1, e1, rfl⟩ := hn.form
  have c0 : w.cell? ⟨b, 0, none⟩ = some (.int .i64 nk) := by rw [cell_of_row _ _ _ _ _ _ hb]; rfl
  have c6 : w.cell? ⟨b, 6, none⟩ = some (.slice a1 l.length e1) := by rw [cell_of_row _ _ _ _ _ _ hb]; rfl
  generalize nmsB l l.length 0 = R at ka ⊢
  generalize l.length = n at hl ka c6 ⊢
  generalize mostN nk = M at kn ⊢
  clear hb hn hs h
  by_cases g1 : 1 ≤ (n : Int)
  · by_cases g2 : (n : Int) ≤ M
    · rw [decide_eq_true ⟨g1, g2⟩, Bool.true_and]
      go_enter Tryz.func48, Tryz.ntmps48
      go_wp2_with (first | (go_at_call 62; refine (kn _).mono ?_; rintro e w' ⟨rfl, rfl⟩) | (go_at_call 63; refine ka.mono ?_; rintro e w' ⟨rfl, rfl⟩))
      go_ret
      exact ⟨rfl, rfl⟩
    · rw [decide_eq_false (fun g => g2 g.2), Bool.false_and]
      clear ka
      go_enter Tryz.func48, Tryz.ntmps48
      go_wp2_with (go_at_call 62; refine (kn _).mono ?_; rintro e w' ⟨rfl, rfl⟩)
      go_ret
      exact ⟨rfl, rfl⟩
  · rw [decide_eq_false (fun g => g1 g.1), Bool.false_and]
    clear ka
    go_enter Tryz.func48, Tryz.ntmps48
    go_wp2_with (go_at_call 62; refine (kn _).mono ?_; rintro e w' ⟨rfl, rfl⟩)
    go_ret
    exact ⟨rfl, rfl⟩

set_option maxRecDepth 100000 in
set_option maxHeartbeats 3200000 in
theorem ff1 (w : World) (lb : Nat) (b : Nat) (nk nf nt nl num nn : Int) (ak : Option Addr) (L ck : Nat) (hL : L ≤ 1048576)
    (hb : w.heap[b]? = some (.cells #[.int .i64 nk, .int .i64 nf, .int .i64 nt, .int .i64 nl, .int .i64 num, .slice ak L ck, .int .i64 nn] 108 (0, 0))) :
    Calls Tryz.prog 48 #[.pointer (some ⟨lb, 0, none⟩), .iface 106 (.pointer (some ⟨b, 0, none⟩))] w fun e w' => e = .returned (.bool (decide (1 ≤ nn ∧ nn < (L : Int)))) ∧ Below w.heap.size w w' := by
  have ha0 := fun w => as10 b w
  have ha1 := fun w => as11 b w
  have c5 : w.cell? ⟨b, 5, none⟩ = some (.slice ak L ck) := by rw [cell_of_row _ _ _ _ _ _ hb]; rfl
  have c6 : w.cell? ⟨b, 6, none⟩ = some (.int .i64 nn) := by rw [cell_of_row _ _ _ _ _ _ hb]; rfl
  clear hb
  by_cases g1 : 1 ≤ nn
  · by_cases g2 : nn < (L : Int)
    · rw [decide_eq_true ⟨g1, g2⟩]
      go_enter Tryz.func48, Tryz.ntmps48
      go_wp2_with fail
      go_quiet (fail)
      go_wp2_with fail
      go_ret
      exact ⟨rfl, bel_drew (Below.refl _ _) _⟩
    · rw [decide_eq_false (fun g => g2 g.2)]
      have HG : Hid (¬ nn < (L : Int)) := g2
      go_enter Tryz.func48, Tryz.ntmps48
      go_wp2_with fail
      go_quiet (fail)
      go_wp2_with fail
      go_ret
      exact ⟨by show Ending.returned (.bool (decide (nn < (L : Int)))) = _; rw [decide_eq_false (by have := HG.out; omega)], bel_drew (Below.refl _ _) _⟩
  · rw [decide_eq_false (fun g => g1 g.1)]
    have hd : decide ((1 : Int) ≤ nn) = false := decide_eq_false g1
    go_enter Tryz.func48, Tryz.ntmps48
    go_wp2_with fail
    go_quiet (fail)
    go_wp2_with fail
    go_ret
    exact ⟨rfl, bel_drew (Below.refl _ _) _⟩

set_option maxRecDepth 100000 in
set_option maxHeartbeats 3200000 in
theorem ff2 (w : World) (lb : Nat) (b : Nat) :
    Calls Tryz.prog 48 #[.pointer (some ⟨lb, 0, none⟩), .iface 109 (.pointer (some ⟨b, 0, none⟩))] w fun e w' => e = .returned (.bool true) ∧ w' = w := by
  have ha0 := fun w => as20 b w
  have ha1 := fun w => as21 b w
  have ha3 := fun w => as23 b w
  have ha4 := fun w => as24 b w
  have ha5 := fun w => as25 b w
  go_enter Tryz.func48, Tryz.ntmps48
  go_wp2
  go_ret
  exact ⟨rfl, rfl⟩
set_option maxRecDepth 100000 in
set_option maxHeartbeats 3200000 in
theorem ff6 (w : World) (lb : Nat) (b : Nat) :
    Calls Tryz.prog 48 #[.pointer (some ⟨lb, 0, none⟩), .iface 121 (.pointer (some ⟨b, 0, none⟩))] w fun e w' => e = .returned (.bool true) ∧ w' = w := by
  have ha0 := fun w => as60 b w
  have ha1 := fun w => as61 b w
  have ha3 := fun w => as63 b w
  have ha4 := fun w => as64 b w
  have ha5 := fun w => as65 b w
  go_enter Tryz.func48, Tryz.ntmps48
  go_wp2
  go_ret
  exact ⟨rfl, rfl⟩

set_option maxRecDepth 100000 in
set_option maxHeartbeats 3200000 in
theorem ff3 (w : World) (lb mb : Nat) (vs : Value) (h : Lk w lb mb vs) (b : Nat) (nk nf nt nl num : Int) (vk : Value) (x : ByteArray) (hx : x.size ≤ 1100000)
    (hb : w.heap[b]? = some (.cells #[.int .i64 nk, .int .i64 nf, .int .i64 nt, .int .i64 nl, .int .i64 num, vk, .string x] 114 (0, 0))) :
    Calls Tryz.prog 48 #[.pointer (some ⟨lb, 0, none⟩), .iface 112 (.pointer (some ⟨b, 0, none⟩))] w fun e w' => e = .returned (.bool (txB nk x)) ∧ Below w.heap.size w w' := by
  have ha0 := fun w => as30 b w
  have ha1 := fun w => as31 b w
  have ha3 := fun w => as33 b w
  have kt := textFits_any w.drew lb mb vs nk x hx (h.below (bel_drew1 (Below.refl _ w)))
  have c0 : w.cell? ⟨b, 0, none⟩ = some (.int .i64 nk) := by rw [cell_of_row _ _ _ _ _ _ hb]; rfl
  have c6 : w.cell? ⟨b, 6, none⟩ = some (.string x) := by rw [cell_of_row _ _ _ _ _ _ hb]; rfl
  generalize txB nk x = R at kt ⊢
  clear hb h
  go_enter Tryz.func48, Tryz.ntmps48
  go_wp2_with fail
  go_region_held3 (fun w' => w'.cell? ⟨b, 0, none⟩ = some (.int .i64 nk) ∧ w'.cell? ⟨b, 6, none⟩ = some (.string x)) (first | go_keep | exact ⟨cell_kept hb4 c0, cell_kept hb4 c6⟩) ((go_at_call 64; refine kt.mono ?_; rintro e w4 ⟨rfl, hb4⟩))
  go_wp2_with fail
  go_ret
  exact ⟨rfl, (bel_drew1 (Below.refl _ w)).trans hb4⟩

set_option maxRecDepth 100000 in
set_option maxHeartbeats 3200000 in
theorem ff4 (w : World) (lb : Nat) (b : Nat) (nk nf nt nl num nop : Int) (vk : Value)
    (hb : w.heap[b]? = some (.cells #[.int .i64 nk, .int .i64 nf, .int .i64 nt, .int .i64 nl, .int .i64 num, vk, .int .i64 nop] 117 (0, 0))) :
    Calls Tryz.prog 48 #[.pointer (some ⟨lb, 0, none⟩), .iface 115 (.pointer (some ⟨b, 0, none⟩))] w fun e w' => e = .returned (.bool (if nk = 30 then (decide ((19 : Int) ≤ nop) && decide (nop ≤ 22)) else (decide ((1 : Int) ≤ nop) && decide (nop ≤ 18)))) ∧ w' = w := by
  have ha0 := fun w => as40 b w
  have ha1 := fun w => as41 b w
  have ha3 := fun w => as43 b w
  have ha4 := fun w => as44 b w
  have c0 : w.cell? ⟨b, 0, none⟩ = some (.int .i64 nk) := by rw [cell_of_row _ _ _ _ _ _ hb]; rfl
  have c6 : w.cell? ⟨b, 6, none⟩ = some (.int .i64 nop) := by rw [cell_of_row _ _ _ _ _ _ hb]; rfl
  clear hb
  by_cases hk : nk = 30
  · rw [if_pos hk]
    by_cases g1 : (19 : Int) ≤ nop
    · rw [decide_eq_true g1, Bool.true_and]
      go_enter Tryz.func48, Tryz.ntmps48
      go_wp2
      go_ret
      exact ⟨rfl, rfl⟩
    · rw [decide_eq_false g1, Bool.false_and]
      go_enter Tryz.func48, Tryz.ntmps48
      go_wp2
      go_ret
      exact ⟨rfl, rfl⟩
  · rw [if_neg hk]
    by_cases g1 : (1 : Int) ≤ nop
    · rw [decide_eq_true g1, Bool.true_and]
      go_enter Tryz.func48, Tryz.ntmps48
      go_wp2
      go_ret
      exact ⟨rfl, rfl⟩
    · rw [decide_eq_false g1, Bool.false_and]
      go_enter Tryz.func48, Tryz.ntmps48
      go_wp2
      go_ret
      exact ⟨rfl, rfl⟩

set_option maxRecDepth 100000 in
set_option maxHeartbeats 3200000 in
theorem ff5 (w : World) (lb mb : Nat) (vs : Value) (h : Lk w lb mb vs) (b : Nat) (nk nf nt nl num : Int) (vk : Value) (vn : Value) (br : Bool) (l : List ByteArray) (hn : StrsAt w vn l) (hl : l.length ≤ 1048576) (hs : ∀ s ∈ l, s.size ≤ 1048576)
    (hb : w.heap[b]? = some (.cells #[.int .i64 nk, .int .i64 nf, .int .i64 nt, .int .i64 nl, .int .i64 num, vk, vn, .bool br] 120 (0, 0))) :
    Calls Tryz.prog 48 #[.pointer (some ⟨lb, 0, none⟩), .iface 118 (.pointer (some ⟨b, 0, none⟩))] w fun e w' => e = .returned (.bool (nmsB l l.length 0)) ∧ w' = w := by
  have ha0 := fun w => as50 b w
  have ha1 := fun w => as51 b w
  have ha3 := fun w => as53 b w
  have ha4 := fun w => as54 b w
  have ha5 := fun w => as55 b w
  have ka := areNames_any w lb mb vs vn l h hn hl hs
  obtain ⟨a1, e1, rfl⟩ := hn.form
  have c6 : w.cell? ⟨b, 6, none⟩ = some (.slice a1 l.length e1) := by rw [cell_of_row _ _ _ _ _ _ hb]; rfl
  generalize nmsB l l.length 0 = R at ka ⊢
  generalize l.length = n at hl ka c6 ⊢
  clear hb hn hs h
  go_enter Tryz.func48, Tryz.ntmps48
  go_wp2_with (go_at_call 63; refine ka.mono ?_; rintro e w' ⟨rfl, rfl⟩)
  go_ret
  exact ⟨rfl, rfl⟩
end Go.Proofs.YtdgbmihokecmhaaGreatDoor

namespace Go.Proofs.YtdgbmihokecmhaaGreatDoor
open Go.RowKit
set_option linter.unusedVariables false

/-- The words of a row of kids, and what may stand for each. -/
def wB : Nat → ByteArray
  | 0 => { data := #[115, 116, 97, 116] }
  | 1 => { data := #[98, 108, 111, 99, 107] }
  | 2 => { data := #[101, 108, 115, 101] }
  | 3 => { data := #[101, 120, 112, 114] }
  | 4 => { data := #[98, 97, 115, 101] }
  | 5 => { data := #[116, 97, 114, 103, 101, 116] }
  | 6 => { data := #[99, 97, 108, 108] }
  | 7 => { data := #[109, 97, 110, 121] }
  | 8 => { data := #[102, 110] }
  | _ => { data := #[101, 110, 116, 114, 121] }
def ms : Nat → Int → Bool
  | 0, k => statK k
  | 1, k => k == 1
  | 2, k => k == 1 || k == 7
  | 3, k => exprK k
  | 4, k => exprK k && k != 27
  | 5, k => k == 26 || k == 32 || k == 33
  | 6, k => k == 34
  | 7, k => k == 34 || k == 27
  | 8, k => k == 36
  | _, k => decide (40 ≤ k ∧ k ≤ 42)
theorem isExpr_any (k : Int) (w : World) : Calls Tryz.prog 101 #[.int .i64 k] w fun e w' => e = .returned (.bool (exprK k)) ∧ w' = w := by
  unfold exprK
  rcases (show (20 ≤ k ∧ k ≤ 37) ∨ (20 ≤ k ∧ ¬ k ≤ 37) ∨ ¬ 20 ≤ k by omega) with ⟨h1, h2⟩ | ⟨h1, h2⟩ | h1
  · rw [decide_eq_true ⟨h1, h2⟩]
    go_enter Tryz.func101, Tryz.ntmps101
    go_wp2
    go_ret
    exact ⟨rfl, rfl⟩
  · rw [decide_eq_false (fun h => h2 h.2)]
    go_enter Tryz.func101, Tryz.ntmps101
    go_wp2
    go_ret
    exact ⟨rfl, rfl⟩
  · rw [decide_eq_false (fun h => h1 h.1)]
    go_enter Tryz.func101, Tryz.ntmps101
    go_wp2
    go_ret
    exact ⟨rfl, rfl⟩
set_option maxRecDepth 100000 in
set_option maxHeartbeats 3200000 in
theorem mayStand0 (k : Int) (w : World) : Calls Tryz.prog 83 #[.string { data := #[115, 116, 97, 116] }, .int .i64 k] w fun e w' => e = .returned (.bool (ms 0 k)) ∧ w' = w := by
  rcases (show (1 ≤ k ∧ k ≤ 16) ∨ (1 ≤ k ∧ ¬ k ≤ 16) ∨ (¬ 1 ≤ k) by omega) with ⟨h0, h1⟩ | ⟨h0, h1⟩ | h0
  · rw [show ms 0 k = true from decide_eq_true (by omega)]
    go_enter Tryz.func83, Tryz.ntmps83
    go_wp2
    go_ret
    exact ⟨rfl, rfl⟩
  · rw [show ms 0 k = false from decide_eq_false (by omega)]
    go_enter Tryz.func83, Tryz.ntmps83
    go_wp2
    go_ret
    exact ⟨rfl, rfl⟩
  · rw [show ms 0 k = false from decide_eq_false (by omega)]
    go_enter Tryz.func83, Tryz.ntmps83
    go_wp2
    go_ret
    exact ⟨rfl, rfl⟩
set_option maxRecDepth 100000 in
set_option maxHeartbeats 3200000 in
theorem mayStand1 (k : Int) (w : World) : Calls Tryz.prog 83 #[.string { data := #[98, 108, 111, 99, 107] }, .int .i64 k] w fun e w' => e = .returned (.bool (ms 1 k)) ∧ w' = w := by
  unfold ms
  go_enter Tryz.func83, Tryz.ntmps83
  go_wp2
  go_ret
  exact ⟨rfl, rfl⟩
set_option maxRecDepth 100000 in
set_option maxHeartbeats 3200000 in
theorem mayStand2 (k : Int) (w : World) : Calls Tryz.prog 83 #[.string { data := #[101, 108, 115, 101] }, .int .i64 k] w fun e w' => e = .returned (.bool (ms 2 k)) ∧ w' = w := by
  unfold ms
  rcases (show (k = 1) ∨ (k = 7) ∨ (¬ k = 1 ∧ ¬ k = 7) by omega) with rfl | rfl | ⟨h0, h1⟩
  · go_enter Tryz.func83, Tryz.ntmps83
    go_wp2
    go_ret
    exact ⟨rfl, rfl⟩
  · go_enter Tryz.func83, Tryz.ntmps83
    go_wp2
    go_ret
    exact ⟨rfl, rfl⟩
  · go_enter Tryz.func83, Tryz.ntmps83
    go_wp2
    go_ret
    exact ⟨rfl, rfl⟩
set_option maxRecDepth 100000 in
set_option maxHeartbeats 3200000 in
theorem mayStand3 (k : Int) (w : World) : Calls Tryz.prog 83 #[.string { data := #[101, 120, 112, 114] }, .int .i64 k] w fun e w' => e = .returned (.bool (ms 3 k)) ∧ w' = w := by
  have ke := fun w => isExpr_any k w
  obtain ⟨b, hb⟩ : ∃ b, exprK k = b := ⟨_, rfl⟩
  show Calls _ _ _ _ fun e w' => e = .returned (.bool (exprK k)) ∧ w' = w
  rw [hb] at ke ⊢
  clear hb
  go_enter Tryz.func83, Tryz.ntmps83
  go_wp2_with (go_at_call 101; refine (ke _).mono ?_; rintro e w' ⟨rfl, rfl⟩)
  go_ret
  exact ⟨rfl, rfl⟩
set_option maxRecDepth 100000 in
set_option maxHeartbeats 3200000 in
theorem mayStand4 (k : Int) (w : World) : Calls Tryz.prog 83 #[.string { data := #[98, 97, 115, 101] }, .int .i64 k] w fun e w' => e = .returned (.bool (ms 4 k)) ∧ w' = w := by
  have ke := fun w => isExpr_any k w
  obtain ⟨b, hb⟩ : ∃ b, exprK k = b := ⟨_, rfl⟩
  show Calls _ _ _ _ fun e w' => e = .returned (.bool (exprK k && k != 27)) ∧ w' = w
  rw [hb] at ke ⊢
  clear hb
  cases b
  · rw [Bool.false_and]
    go_enter Tryz.func83, Tryz.ntmps83
    go_wp2_with (go_at_call 101; refine (ke _).mono ?_; rintro e w' ⟨rfl, rfl⟩)
    go_ret
    exact ⟨rfl, rfl⟩
  · rw [Bool.true_and]
    go_enter Tryz.func83, Tryz.ntmps83
    go_wp2_with (go_at_call 101; refine (ke _).mono ?_; rintro e w' ⟨rfl, rfl⟩)
    go_ret
    exact ⟨rfl, rfl⟩
set_option maxRecDepth 100000 in
set_option maxHeartbeats 3200000 in
theorem mayStand5 (k : Int) (w : World) : Calls Tryz.prog 83 #[.string { data := #[116, 97, 114, 103, 101, 116] }, .int .i64 k] w fun e w' => e = .returned (.bool (ms 5 k)) ∧ w' = w := by
  unfold ms
  rcases (show (k = 26) ∨ (k = 32) ∨ (k = 33) ∨ (¬ k = 26 ∧ ¬ k = 32 ∧ ¬ k = 33) by omega) with rfl | rfl | rfl | ⟨h0, h1, h2⟩
  · go_enter Tryz.func83, Tryz.ntmps83
    go_wp2
    go_ret
    exact ⟨rfl, rfl⟩
  · go_enter Tryz.func83, Tryz.ntmps83
    go_wp2
    go_ret
    exact ⟨rfl, rfl⟩
  · go_enter Tryz.func83, Tryz.ntmps83
    go_wp2
    go_ret
    exact ⟨rfl, rfl⟩
  · go_enter Tryz.func83, Tryz.ntmps83
    go_wp2
    go_ret
    exact ⟨rfl, rfl⟩
set_option maxRecDepth 100000 in
set_option maxHeartbeats 3200000 in
theorem mayStand6 (k : Int) (w : World) : Calls Tryz.prog 83 #[.string { data := #[99, 97, 108, 108] }, .int .i64 k] w fun e w' => e = .returned (.bool (ms 6 k)) ∧ w' = w := by
  unfold ms
  go_enter Tryz.func83, Tryz.ntmps83
  go_wp2
  go_ret
  exact ⟨rfl, rfl⟩
set_option maxRecDepth 100000 in
set_option maxHeartbeats 3200000 in
theorem mayStand7 (k : Int) (w : World) : Calls Tryz.prog 83 #[.string { data := #[109, 97, 110, 121] }, .int .i64 k] w fun e w' => e = .returned (.bool (ms 7 k)) ∧ w' = w := by
  unfold ms
  rcases (show (k = 34) ∨ (k = 27) ∨ (¬ k = 34 ∧ ¬ k = 27) by omega) with rfl | rfl | ⟨h0, h1⟩
  · go_enter Tryz.func83, Tryz.ntmps83
    go_wp2
    go_ret
    exact ⟨rfl, rfl⟩
  · go_enter Tryz.func83, Tryz.ntmps83
    go_wp2
    go_ret
    exact ⟨rfl, rfl⟩
  · go_enter Tryz.func83, Tryz.ntmps83
    go_wp2
    go_ret
    exact ⟨rfl, rfl⟩
set_option maxRecDepth 100000 in
set_option maxHeartbeats 3200000 in
theorem mayStand8 (k : Int) (w : World) : Calls Tryz.prog 83 #[.string { data := #[102, 110] }, .int .i64 k] w fun e w' => e = .returned (.bool (ms 8 k)) ∧ w' = w := by
  unfold ms
  go_enter Tryz.func83, Tryz.ntmps83
  go_wp2
  go_ret
  exact ⟨rfl, rfl⟩
set_option maxRecDepth 100000 in
set_option maxHeartbeats 3200000 in
theorem mayStand9 (k : Int) (w : World) : Calls Tryz.prog 83 #[.string { data := #[101, 110, 116, 114, 121] }, .int .i64 k] w fun e w' => e = .returned (.bool (ms 9 k)) ∧ w' = w := by
  rcases (show (40 ≤ k ∧ k ≤ 42) ∨ (40 ≤ k ∧ ¬ k ≤ 42) ∨ (¬ 40 ≤ k) by omega) with ⟨h0, h1⟩ | ⟨h0, h1⟩ | h0
  · rw [show ms 9 k = true from decide_eq_true (by omega)]
    go_enter Tryz.func83, Tryz.ntmps83
    go_wp2
    go_ret
    exact ⟨rfl, rfl⟩
  · rw [show ms 9 k = false from decide_eq_false (by omega)]
    go_enter Tryz.func83, Tryz.ntmps83
    go_wp2
    go_ret
    exact ⟨rfl, rfl⟩
  · rw [show ms 9 k = false from decide_eq_false (by omega)]
    go_enter Tryz.func83, Tryz.ntmps83
    go_wp2
    go_ret
    exact ⟨rfl, rfl⟩
theorem mayStand_any (i : Nat) (hi : i < 10) (k : Int) (w : World) : Calls Tryz.prog 83 #[.string (wB i), .int .i64 k] w fun e w' => e = .returned (.bool (ms i k)) ∧ w' = w := by
  match i, hi with
  | 0, _ => exact mayStand0 k w
  | 1, _ => exact mayStand1 k w
  | 2, _ => exact mayStand2 k w
  | 3, _ => exact mayStand3 k w
  | 4, _ => exact mayStand4 k w
  | 5, _ => exact mayStand5 k w
  | 6, _ => exact mayStand6 k w
  | 7, _ => exact mayStand7 k w
  | 8, _ => exact mayStand8 k w
  | 9, _ => exact mayStand9 k w
end Go.Proofs.YtdgbmihokecmhaaGreatDoor

namespace Go.Proofs.YtdgbmihokecmhaaGreatDoor
open Go.RowKit
set_option linter.unusedVariables false

theorem cls_lt (k : Int) : cls k = 0 ∨ cls k = 1 ∨ cls k = 2 ∨ cls k = 3 ∨ cls k = 4 ∨ cls k = 5 ∨ cls k = 6 := by
  unfold cls
  repeat' split
  all_goals simp
theorem methK (k : Int) (b : Nat) (w : World) : (method 338 (ptT (cls k)) (.pointer (some ⟨b, 0, none⟩)) "loop.example/warp/impl.head").run Tryz.prog w = .ok (160, .pointer (some ⟨b, 0, none⟩)) w := by
  rcases cls_lt k with h | h | h | h | h | h | h
  · rw [h]; exact meth0 b w
  · rw [h]; exact meth1 b w
  · rw [h]; exact meth2 b w
  · rw [h]; exact meth3 b w
  · rw [h]; exact meth4 b w
  · rw [h]; exact meth5 b w
  · rw [h]; exact meth6 b w
/-- A word as it stands in a row: plain, with a star, with a question mark. -/
def wordL (i f : Nat) : List UInt8 := (wB i).data.toList ++ (if f = 1 then [42] else if f = 2 then [63] else [])
def wS (i f : Nat) : ByteArray := ⟨(wordL i f).toArray⟩
def wS1 (i f : Nat) : ByteArray := ⟨((wB i).data.toList ++ (if f = 2 then [63] else [])).toArray⟩
theorem cut1 : ∀ i f, i < 10 → f < 3 → (⟨(Lib.trimSuffix (wS i f).data.toList [42]).toArray⟩ : ByteArray) = wS1 i f ∧ Lib.hasSuffix (wS i f).data.toList [42] = (f == 1)
  | 0, 0, _, _ => ⟨rfl, rfl⟩
  | 0, 1, _, _ => ⟨rfl, rfl⟩
  | 0, 2, _, _ => ⟨rfl, rfl⟩
  | 1, 0, _, _ => ⟨rfl, rfl⟩
  | 1, 1, _, _ => ⟨rfl, rfl⟩
  | 1, 2, _, _ => ⟨rfl, rfl⟩
  | 2, 0, _, _ => ⟨rfl, rfl⟩
  | 2, 1, _, _ => ⟨rfl, rfl⟩
  | 2, 2, _, _ => ⟨rfl, rfl⟩
  | 3, 0, _, _ => ⟨rfl, rfl⟩
  | 3, 1, _, _ => ⟨rfl, rfl⟩
  | 3, 2, _, _ => ⟨rfl, rfl⟩
  | 4, 0, _, _ => ⟨rfl, rfl⟩
  | 4, 1, _, _ => ⟨rfl, rfl⟩
  | 4, 2, _, _ => ⟨rfl, rfl⟩
  | 5, 0, _, _ => ⟨rfl, rfl⟩
  | 5, 1, _, _ => ⟨rfl, rfl⟩
  | 5, 2, _, _ => ⟨rfl, rfl⟩
  | 6, 0, _, _ => ⟨rfl, rfl⟩
  | 6, 1, _, _ => ⟨rfl, rfl⟩
  | 6, 2, _, _ => ⟨rfl, rfl⟩
  | 7, 0, _, _ => ⟨rfl, rfl⟩
  | 7, 1, _, _ => ⟨rfl, rfl⟩
  | 7, 2, _, _ => ⟨rfl, rfl⟩
  | 8, 0, _, _ => ⟨rfl, rfl⟩
  | 8, 1, _, _ => ⟨rfl, rfl⟩
  | 8, 2, _, _ => ⟨rfl, rfl⟩
  | 9, 0, _, _ => ⟨rfl, rfl⟩
  | 9, 1, _, _ => ⟨rfl, rfl⟩
  | 9, 2, _, _ => ⟨rfl, rfl⟩
theorem cut2 : ∀ i f, i < 10 → f < 3 → (⟨(Lib.trimSuffix (wS1 i f).data.toList [63]).toArray⟩ : ByteArray) = wB i ∧ Lib.hasSuffix (wS1 i f).data.toList [63] = (f == 2)
  | 0, 0, _, _ => ⟨rfl, rfl⟩
  | 0, 1, _, _ => ⟨rfl, rfl⟩
  | 0, 2, _, _ => ⟨rfl, rfl⟩
  | 1, 0, _, _ => ⟨rfl, rfl⟩
  | 1, 1, _, _ => ⟨rfl, rfl⟩
  | 1, 2, _, _ => ⟨rfl, rfl⟩
  | 2, 0, _, _ => ⟨rfl, rfl⟩
  | 2, 1, _, _ => ⟨rfl, rfl⟩
  | 2, 2, _, _ => ⟨rfl, rfl⟩
  | 3, 0, _, _ => ⟨rfl, rfl⟩
  | 3, 1, _, _ => ⟨rfl, rfl⟩
  | 3, 2, _, _ => ⟨rfl, rfl⟩
  | 4, 0, _, _ => ⟨rfl, rfl⟩
  | 4, 1, _, _ => ⟨rfl, rfl⟩
  | 4, 2, _, _ => ⟨rfl, rfl⟩
  | 5, 0, _, _ => ⟨rfl, rfl⟩
  | 5, 1, _, _ => ⟨rfl, rfl⟩
  | 5, 2, _, _ => ⟨rfl, rfl⟩
  | 6, 0, _, _ => ⟨rfl, rfl⟩
  | 6, 1, _, _ => ⟨rfl, rfl⟩
  | 6, 2, _, _ => ⟨rfl, rfl⟩
  | 7, 0, _, _ => ⟨rfl, rfl⟩
  | 7, 1, _, _ => ⟨rfl, rfl⟩
  | 7, 2, _, _ => ⟨rfl, rfl⟩
  | 8, 0, _, _ => ⟨rfl, rfl⟩
  | 8, 1, _, _ => ⟨rfl, rfl⟩
  | 8, 2, _, _ => ⟨rfl, rfl⟩
  | 9, 0, _, _ => ⟨rfl, rfl⟩
  | 9, 1, _, _ => ⟨rfl, rfl⟩
  | 9, 2, _, _ => ⟨rfl, rfl⟩
theorem wS_size : ∀ i f, i < 10 → f < 3 → (wS i f).size ≤ 10 ∧ (wS1 i f).size ≤ 10
  | 0, 0, _, _ => by decide
  | 0, 1, _, _ => by decide
  | 0, 2, _, _ => by decide
  | 1, 0, _, _ => by decide
  | 1, 1, _, _ => by decide
  | 1, 2, _, _ => by decide
  | 2, 0, _, _ => by decide
  | 2, 1, _, _ => by decide
  | 2, 2, _, _ => by decide
  | 3, 0, _, _ => by decide
  | 3, 1, _, _ => by decide
  | 3, 2, _, _ => by decide
  | 4, 0, _, _ => by decide
  | 4, 1, _, _ => by decide
  | 4, 2, _, _ => by decide
  | 5, 0, _, _ => by decide
  | 5, 1, _, _ => by decide
  | 5, 2, _, _ => by decide
  | 6, 0, _, _ => by decide
  | 6, 1, _, _ => by decide
  | 6, 2, _, _ => by decide
  | 7, 0, _, _ => by decide
  | 7, 1, _, _ => by decide
  | 7, 2, _, _ => by decide
  | 8, 0, _, _ => by decide
  | 8, 1, _, _ => by decide
  | 8, 2, _, _ => by decide
  | 9, 0, _, _ => by decide
  | 9, 1, _, _ => by decide
  | 9, 2, _, _ => by decide
theorem cutA (i f : Nat) (hi : i < 10) (hf : f < 3) (w : World) : Calls Tryz.prog 82 #[.string (wS i f), .string { data := #[42] }] w fun e w' => e = .returned (.tuple #[.string (wS1 i f), .bool (f == 1)]) ∧ w' = w := by
  refine (Tryz.strings_CutSuffix (wS i f) { data := #[42] } w (by have := (wS_size i f hi hf).1; omega)).mono ?_
  rintro e w' ⟨rfl, rfl⟩
  obtain ⟨h1, h2⟩ := cut1 i f hi hf
  refine ⟨?_, rfl⟩
  rw [← h1, ← h2]
theorem cutB (i f : Nat) (hi : i < 10) (hf : f < 3) (w : World) : Calls Tryz.prog 82 #[.string (wS1 i f), .string { data := #[63] }] w fun e w' => e = .returned (.tuple #[.string (wB i), .bool (f == 2)]) ∧ w' = w := by
  refine (Tryz.strings_CutSuffix (wS1 i f) { data := #[63] } w (by have := (wS_size i f hi hf).2; omega)).mono ?_
  rintro e w' ⟨rfl, rfl⟩
  obtain ⟨h1, h2⟩ := cut2 i f hi hf
  refine ⟨?_, rfl⟩
  rw [← h1, ← h2]
/-- A list of nodes in memory, by their Kinds. -/
def KidsAt (W : World) (v : Value) (ks : List Int) : Prop :=
  (ks = [] ∧ ∃ a c, v = .slice a 0 c) ∨ ∃ a c, v = .slice (some a) ks.length c ∧ ks.length ≤ c ∧ ∀ j k, ks[j]? = some k → ∃ b, W.cell? (a.add j) = some (nodeV k b) ∧ W.cell? ⟨b, 0, none⟩ = some (.int .i64 k)
theorem KidsAt.below {W W' : World} {v : Value} {ks : List Int} (h : KidsAt W v ks) (hb : Below W.heap.size W W') : KidsAt W' v ks := by
  rcases h with h | ⟨a, c, h1, h2, h3⟩
  · exact .inl h
  · exact .inr ⟨a, c, h1, h2, fun j k hk => by obtain ⟨b, g1, g2⟩ := h3 j k hk; exact ⟨b, cell_kept hb g1, cell_kept hb g2⟩⟩
theorem KidsAt.form {W : World} {v : Value} {ks : List Int} (h : KidsAt W v ks) : ∃ a c, v = .slice a ks.length c := by
  rcases h with ⟨rfl, a, c, h⟩ | ⟨a, c, h1, h2⟩
  · exact ⟨a, c, h⟩
  · exact ⟨_, _, h1⟩
theorem KidsAt.get {W : World} {a : Option Addr} {n c : Nat} {ks : List Int} (h : KidsAt W (.slice a n c) ks) {j : Nat} {k : Int} (hk : ks[j]? = some k) : ∃ a' b, a = some a' ∧ W.cell? (a'.add j) = some (nodeV k b) ∧ W.cell? ⟨b, 0, none⟩ = some (.int .i64 k) := by
  rcases h with ⟨rfl, _⟩ | ⟨a', c', e, _, hc⟩
  · simp at hk
  · cases e; obtain ⟨b, g1, g2⟩ := hc j k hk; exact ⟨a', b, rfl, g1, g2⟩
/-- How many kids a word takes; whether a row of words takes them all. -/
def tkN (i f : Nat) (ks : List Int) : Nat := if f = 1 then (ks.takeWhile (ms i)).length else min 1 (ks.takeWhile (ms i)).length
def kmatch : List (Nat × Nat) → List Int → Bool
  | [], ks => ks.isEmpty
  | (i, f) :: ws, ks => if tkN i f ks = 0 ∧ f = 0 then false else kmatch ws (ks.drop (tkN i f ks))
structure KmIs (ws : List (Nat × Nat)) (ks : List Int) (R : Bool) : Prop where
  out : kmatch ws ks = R
theorem tw_at (p : Int → Bool) : ∀ (ks : List Int) (t : Nat), t ≤ (ks.takeWhile p).length → (t < (ks.takeWhile p).length ↔ ∃ k, ks[t]? = some k ∧ p k = true)
  | [], t, h => by simp at h; subst h; simp
  | a :: r, t, h => by
    cases hp : p a with
    | false =>
      rw [List.takeWhile_cons_of_neg (by simp [hp])] at h ⊢
      simp at h; subst h
      simp [hp]
    | true =>
      rw [List.takeWhile_cons_of_pos (by simp [hp])] at h ⊢
      cases t with
      | zero => simp [hp]
      | succ t =>
        simp only [List.length_cons] at h ⊢
        have ih := tw_at p r t (by omega)
        rw [show (t + 1 < (r.takeWhile p).length + 1) ↔ t < (r.takeWhile p).length by omega, ih]
        simp
theorem tw_le (p : Int → Bool) (ks : List Int) : (ks.takeWhile p).length ≤ ks.length := (List.takeWhile_sublist p).length_le
theorem tkN_le (i f : Nat) (ks : List Int) : tkN i f ks ≤ ks.length := by
  have := tw_le (ms i) ks
  unfold tkN
  split <;> omega
/-- When the loop goes on. -/
theorem tkN_at (i f : Nat) (ks : List Int) (t : Nat) (h : t ≤ tkN i f ks) : t < tkN i f ks ↔ (f = 1 ∨ t = 0) ∧ ∃ k, ks[t]? = some k ∧ ms i k = true := by
  unfold tkN at h ⊢
  by_cases hf : f = 1
  · rw [if_pos hf] at h ⊢
    rw [tw_at _ ks t h]
    simp [hf]
  · rw [if_neg hf] at h ⊢
    by_cases ht : t = 0
    · subst ht
      have := tw_at (ms i) ks 0 (Nat.zero_le _)
      rw [show (0 < min 1 (ks.takeWhile (ms i)).length) ↔ 0 < (ks.takeWhile (ms i)).length by omega, this]
      simp
    · constructor
      · intro h2; omega
      · rintro ⟨h2 | h2, _⟩
        · exact absurd h2 hf
        · exact absurd h2 ht
end Go.Proofs.YtdgbmihokecmhaaGreatDoor
