import Derived.Test.YtdgbmihokecmhaaGreatDoorMM04
import Derived.Lib.ConvBytes
import Derived.Lib.AtoiErrMem
import Derived.Laws.Strings3
import Derived.WalkKit
import Derived.BigCall
import Derived.BigGuard
import Derived.BigRegion
import Derived.Test.YtdgbmihokecmhaaGreatDoorMM01
import Derived.LaidLaws
import Derived.Lib.LaidTab
import Derived.Shelf.Strings.Fields
import Derived.Test.YtdgbmihokecmhaaGreatDoorProg
import Derived.ProofKit
import Derived.OwnWalk
import Derived.Below
import Derived.OneCell
import Derived.Laws.OwnMore
import Derived.RangeFuncBox
import Derived.Deep.RegionHeld3
namespace Go.Proofs.YtdgbmihokecmhaaGreatDoor
open Go.RowKit Go.Maps Go.WideMaps
set_option linter.unusedVariables false

/-- The number of the n hexadecimal digits from p on. -/
def hvS (s : ByteArray) (p : Nat) : Nat → Nat
  | 0 => 0
  | n + 1 => hvS s p n * 16 + (hexv (bat s (p + n))).toNat
theorem hvS_lt (s : ByteArray) (p : Nat) : ∀ n, hvS s p n < 16 ^ n
  | 0 => by simp [hvS]
  | n + 1 => by
    have h := hvS_lt s p n
    have h2 := hexv_lt (bat s (p + n))
    have e : 16 ^ (n + 1) = 16 ^ n * 16 := Nat.pow_succ 16 n
    unfold hvS
    omega
theorem hvS_60 (s : ByteArray) (p n : Nat) (h : n ≤ 15) : hvS s p n < 1152921504606846976 := by
  have h1 := hvS_lt s p n
  have h2 : 16 ^ n ≤ 16 ^ 15 := Nat.pow_le_pow_right (by omega) h
  have h3 : 16 ^ 15 = 1152921504606846976 := by decide
  omega
theorem hvS_64 (s : ByteArray) (p n : Nat) (h : n ≤ 16) : hvS s p n < 18446744073709551616 := by
  have h1 := hvS_lt s p n
  have h2 : 16 ^ n ≤ 16 ^ 16 := Nat.pow_le_pow_right (by omega) h
  have h3 : 16 ^ 16 = 18446744073709551616 := by decide
  omega
theorem low_hex (c : Int) (h0 : 97 ≤ c) (h1 : c ≤ 102) : bits .or .u8 c 32 = c := by
  rcases (show c = 97 ∨ c = 98 ∨ c = 99 ∨ c = 100 ∨ c = 101 ∨ c = 102 by omega) with rfl | rfl | rfl | rfl | rfl | rfl <;> decide +kernel
theorem bat_getD (s : ByteArray) (j : Nat) (h : j < s.size) : ((s.data.toList.getD j 0).toNat : Int) = bat s j := by
  have : s.data.toList[j]? = some s[j] := by
    rw [Array.getElem?_toList]; exact Array.getElem?_eq_getElem h
  rw [List.getD, this]
  unfold bat
  rw [dif_pos h]
  rfl

set_option maxHeartbeats 3200000 in
set_option maxRecDepth 100000 in
theorem pu16 (t : ByteArray) (h1 : 1 ≤ t.size) (h16 : t.size ≤ 16) (hall : ∀ i, i < t.size → hexB (bat t i) = true) (w : World) :
    Calls Tryz.prog 119 #[.string t, .int .i64 16, .int .i64 64] w fun e w' => e = .returned (.tuple #[.int .u64 (hvS t 0 t.size : Int), .nilIface]) ∧ w' = Lib.bytesWorld w 5 t := by
  have hemp : t.toList.isEmpty = false := by
    rw [← decide_eq_emptyBytes]
    exact decide_eq_false (fun h => by rw [h] at h1; simp at h1)
  have hcv := Lib.run_convert_string_bytes (P := Tryz.prog) w 9 86 5 t (u := .string) Tryz.underlying9 Tryz.underlying86 Tryz.underlying5
  have hB : ∀ j, j < t.size → (Lib.bytesWorld w 5 t).cell? ⟨w.heap.size, j, none⟩ = some (.int .u8 (bat t j)) := fun j hj => by rw [Lib.bytesWorld_cell w 5 t j hj, bat_getD t j hj]
  obtain ⟨W1, hW1⟩ : ∃ W1, W1 = Lib.bytesWorld w 5 t := ⟨_, rfl⟩
  rw [← hW1] at hcv hB ⊢
  clear hW1
  have hmv : IntKind.u64.wrap (IntKind.u64.wrap 18446744073709551616 - 1) = 18446744073709551615 := by
    rw [IntKind.wrap_u64, IntKind.wrap_u64]
    decide
  obtain ⟨R, hR⟩ : ∃ R : Int, (hvS t 0 t.size : Int) = R := ⟨_, rfl⟩
  rw [hR]
  have HR : Hid ((hvS t 0 t.size : Int) = R) := hR
  clear hR
  go_enter Tryz.func119, Tryz.ntmps119
  go_wp2
  go_loop [12, 13, 101] (fun vu vn vi => ∃ (k : Nat) (a : Int), vu = .bool false ∧ vn = .int .u64 a ∧ vi = .int .i64 k ∧ k ≤ t.size ∧ Hid (a = (hvS t 0 k : Int))) (fun _ _ vi => t.size - (intOf vi).toNat)
  case atStart => exact ⟨0, 0, rfl, rfl, rfl, by omega, rfl⟩
  case round =>
    obtain ⟨k, a, rfl, rfl, rfl, hk, hh⟩ := hrel
    by_cases hkn : k < t.size
    · have hc := hB k hkn
      have hx := (hexB_iff _).1 (hall k hkn)
      have h60 := hvS_60 t 0 k (by omega)
      have a0 : 0 ≤ a := by rw [hh.out]; omega
      have a1 : a < 1152921504606846976 := by rw [hh.out]; omega
      have HN : Hid (∀ d : Int, hexv (bat t k) = d → 0 ≤ d → a * 16 + d = (hvS t 0 (k + 1) : Int)) := fun d hd h0 => by
        show _ = ((hvS t 0 k * 16 + (hexv (bat t (0 + k))).toNat : Nat) : Int)
        rw [Nat.zero_add, hd, hh.out]; omega
      generalize bat t k = c at hc hx HN
      clear hB h60 hh hall
      rcases hx with ⟨x0, x1⟩ | ⟨x0, x1⟩
      · have HS : Hid (a * 16 + (c - 48) = (hvS t 0 (k + 1) : Int)) := HN.out (c - 48) (by unfold hexv; rw [if_pos ⟨x0, x1⟩]) (by omega)
        clear HN
        go_wp2
        refine ⟨⟨k + 1, a * 16 + (c - 48), rfl, (by first | rfl | (congr 1; omega)), (by first | rfl | (congr 1; omega)), by omega, HS⟩, by simp [intOf]; omega⟩
      · have HS : Hid (a * 16 + (c - 87) = (hvS t 0 (k + 1) : Int)) := HN.out (c - 87) (by unfold hexv; rw [if_neg (by omega), if_pos ⟨x0, x1⟩]) (by omega)
        clear HN
        have hl := low_hex c x0 x1
        have kl : ∀ w, Calls Tryz.prog 124 #[.int .u8 c] w fun e w' => e = .returned (.int .u8 c) ∧ w' = w := fun w => by
          have := Tryz.internal_strconv_lower c w
          rw [hl] at this
          exact this
        clear hl
        go_wp2_with (go_at_call 124; refine (kl _).mono ?_; rintro e w' ⟨rfl, rfl⟩)
        refine ⟨⟨k + 1, a * 16 + (c - 87), rfl, (by first | rfl | (congr 1; omega)), (by first | rfl | (congr 1; omega)), by omega, HS⟩, by simp [intOf]; omega⟩
    · obtain rfl : k = t.size := by omega
      have hf : a = R := by rw [← HR.out, hh.out]
      subst hf
      clear hB hh HR
      go_wp2
      go_ret2
      exact ⟨rfl, rfl⟩
end Go.Proofs.YtdgbmihokecmhaaGreatDoor

namespace Go.Proofs.YtdgbmihokecmhaaGreatDoor
open Go.RowKit Go.Maps Go.WideMaps
set_option linter.unusedVariables false

/-- The two variables of strconv hold errors. -/
structure Errs (w : World) : Prop where
  syn : ∃ te pe, w.cell? ⟨4, 0, none⟩ = some (.iface te pe)
  rng : ∃ te pe, w.cell? ⟨5, 0, none⟩ = some (.iface te pe)
theorem cell_below {B : Nat} {w w' : World} (h : Below B w w') {a : Addr} (ha : a.block < B) : w'.cell? a = w.cell? a := by
  unfold World.cell?
  rw [h.block _ ha]
theorem bel_dr {B : Nat} {a w : World} (h : Below B a w) (n : Nat) : Below B a (w.drewN n) := ⟨h.os, h.tape, h.output, h.size, h.block⟩
theorem Errs.below {w w' : World} {B : Nat} (h : Errs w) (hb : Below B w w') (hB : w.heap.size ≤ B) : Errs w' := by
  obtain ⟨⟨t1, p1, h1⟩, ⟨t2, p2, h2⟩⟩ := h
  have l1 := World.block_lt_of_cell? w _ h1
  have l2 := World.block_lt_of_cell? w _ h2
  exact ⟨⟨t1, p1, (cell_below hb (Nat.lt_of_lt_of_le l1 hB)).trans h1⟩, ⟨t2, p2, (cell_below hb (Nat.lt_of_lt_of_le l2 hB)).trans h2⟩⟩

theorem bat_of (s : ByteArray) (i : Nat) : bat s i = match s.data.toList[i]? with | some b => (b.toNat : Int) | none => -1 := by
  cases h : s.data.toList[i]? with
  | some b => exact ((bat_list s i b).1 h).2
  | none =>
    refine bat_out fun hi => ?_
    have : s.data.toList[i]? = some s[i] := by rw [Array.getElem?_toList]; exact Array.getElem?_eq_getElem hi
    rw [this] at h; cases h
def dropS (s : ByteArray) (n : Nat) : ByteArray := ⟨(s.data.toList.drop n).toArray⟩
theorem dropS_size (s : ByteArray) (n : Nat) : (dropS s n).size = s.size - n := by
  show (s.data.toList.drop n).toArray.size = _
  rw [List.size_toArray, List.length_drop, Array.length_toList]
  rfl
theorem dropS_bat (s : ByteArray) (n i : Nat) : bat (dropS s n) i = bat s (n + i) := by
  rw [bat_of, bat_of]
  show (match (s.data.toList.drop n).toArray.toList[i]? with | some b => (b.toNat : Int) | none => -1) = _
  rw [List.toList_toArray, List.getElem?_drop]
theorem hvS_drop (s : ByteArray) (a p : Nat) : ∀ n, hvS (dropS s a) p n = hvS s (a + p) n
  | 0 => rfl
  | n + 1 => by
    unfold hvS
    rw [hvS_drop s a p n, dropS_bat, Nat.add_assoc]

set_option maxHeartbeats 1600000 in
theorem pub16 (t : ByteArray) (h1 : 1 ≤ t.size) (h16 : t.size ≤ 16) (hall : ∀ i, i < t.size → hexB (bat t i) = true) (w : World) :
    Calls Tryz.prog 111 #[.string t, .int .i64 16, .int .i64 64] w fun e w' => e = .returned (.tuple #[.int .u64 (hvS t 0 t.size : Int), .nilIface]) ∧ Below w.heap.size w w' := by
  have kp := fun w => pu16 t h1 h16 hall w
  have h64 := hvS_64 t 0 t.size h16
  generalize (hvS t 0 t.size : Int) = v at kp
  go_enter Tryz.func111, Tryz.ntmps111
  go_wp2_with (go_at_call 119; refine (kp _).mono ?_; rintro e w' ⟨rfl, rfl⟩)
  go_ret2
  exact ⟨rfl, Lib.bytesWorld_below _ _ _⟩

theorem pre_two0 (s : ByteArray) (x y : UInt8) : Lib.hasPrefix s.data.toList [x, y] = decide (bat s 0 = (x.toNat : Int) ∧ bat s 1 = (y.toNat : Int)) := by
  have := pre_two s 0 x y
  rw [extract_all] at this
  exact this

set_option maxHeartbeats 1600000 in
theorem intOf_hex (q : ByteArray) (h0 : bat q 0 = 48) (h1 : bat q 1 = 120) (h3 : 3 ≤ q.size) (h18 : q.size ≤ 18) (hall : ∀ i, 2 ≤ i → i < q.size → hexB (bat q i) = true) (w : World) :
    Calls Tryz.prog 92 #[.string q] w fun e w' => e = .returned (.tuple #[.int .i64 (wrap64 (hvS q 2 (q.size - 2) : Int)), .bool true]) ∧ Below w.heap.size w w' := by
  have hpre : Lib.hasPrefix q.data.toList [48, 120] = true := by rw [pre_two0]; simp [h0, h1]
  have kc : ∀ w, Calls Tryz.prog 110 #[.string q, .string { data := #[48, 120] }] w fun e w' => e = .returned (.tuple #[.string (dropS q 2), .bool true]) ∧ w' = w := fun w => by
    have := Tryz.strings_CutPrefix q { data := #[48, 120] } w
    rw [show ({ data := #[48, 120] } : ByteArray).data.toList = [48, 120] from rfl, Lib.trimPrefix, hpre] at this
    exact this
  have kp := fun w => pub16 (dropS q 2) (by rw [dropS_size]; omega) (by rw [dropS_size]; omega) (fun i hi => by rw [dropS_bat]; rw [dropS_size] at hi; exact hall _ (by omega) (by omega)) w
  rw [hvS_drop, dropS_size] at kp
  have h64 := hvS_64 q 2 (q.size - 2) (by omega)
  simp only [Nat.add_zero] at kp
  obtain ⟨v, hv⟩ : ∃ v : Int, (hvS q 2 (q.size - 2) : Int) = v := ⟨_, rfl⟩
  have hv0 : 0 ≤ v := by omega
  have hv1 : v < 18446744073709551616 := by omega
  rw [hv] at kp ⊢
  clear hv h64 hpre hall
  generalize dropS q 2 = d at kc kp
  go_enter Tryz.func92, Tryz.ntmps92
  go_wp2_with (first | (go_at_call 110; refine (kc _).mono ?_; rintro e w' ⟨rfl, rfl⟩) | (go_at_call 111; refine (kp _).mono ?_; rintro e w' ⟨rfl, hb⟩))
  go_quiet (fail)
  go_wp2
  go_ret2
  exact ⟨rfl, bel_dr hb _⟩

/-- The int that ParseInt reads, if it reads one. -/
def decI (q : ByteArray) : Option Int := match Lib.parseIntB 64 q.data.toList with | .ok v => some v | _ => none

set_option maxHeartbeats 1600000 in
theorem intOf_dec (q : ByteArray) (hm : q.size ≤ 1100000) (hx : ¬ (bat q 0 = 48 ∧ bat q 1 = 120)) (w : World) (hE : Errs w) :
    Calls Tryz.prog 92 #[.string q] w fun e w' => (∃ x, e = .returned (.tuple #[.int .i64 x, .bool (decI q).isSome]) ∧ ∀ v, decI q = some v → x = v) ∧ Below w.heap.size w w' := by
  have hpre : Lib.hasPrefix q.data.toList [48, 120] = false := by rw [pre_two0]; simpa using hx
  have kc : ∀ w, Calls Tryz.prog 110 #[.string q, .string { data := #[48, 120] }] w fun e w' => e = .returned (.tuple #[.string ⟨q.data.toList.toArray⟩, .bool false]) ∧ w' = w := fun w => by
    have := Tryz.strings_CutPrefix q { data := #[48, 120] } w
    rw [show ({ data := #[48, 120] } : ByteArray).data.toList = [48, 120] from rfl, Lib.trimPrefix, hpre] at this
    exact this
  generalize (⟨q.data.toList.toArray⟩ : ByteArray) = d at kc
  obtain ⟨⟨te, pe, hs⟩, ⟨te2, pe2, hr⟩⟩ := hE
  unfold decI
  cases hp : Lib.parseIntB 64 q.data.toList with
  | ok v =>
    have kp := Tryz.strconv_ParseInt_10_at64_ok q (by omega) v hp w
    have kp' : Calls Tryz.prog 112 #[.string q, .int .i64 10, .int .i64 64] w fun e w' => e = .returned (.tuple #[.int .i64 v, .nilIface]) ∧ Below w.heap.size w w' := kp.mono fun e w' h => ⟨h.1, by
      rcases h.2 with rfl | ⟨t, rfl⟩
      · exact Below.refl _ _
      · exact Lib.bytesWorld_below _ _ _⟩
    clear kp hp hpre hx hs hr
    go_enter Tryz.func92, Tryz.ntmps92
    go_wp2_with (first | (go_at_call 110; refine (kc _).mono ?_; rintro e w' ⟨rfl, rfl⟩) | (go_at_call 112; refine kp'.mono ?_; rintro e w' ⟨rfl, hb⟩))
    go_quiet (fail)
    go_wp2
    go_ret2
    exact ⟨⟨v, rfl, fun _ h => Option.some.inj h⟩, bel_dr hb _⟩
  | «syntax» =>
    have kp := Tryz.strconv_ParseInt_10_at64_syntax q (by omega) hp _ w hs (.inr ⟨_, _, rfl⟩)
    have kp' : Calls Tryz.prog 112 #[.string q, .int .i64 10, .int .i64 64] w fun e w' => ∃ N, e = .returned (.tuple #[.int .i64 0, .iface 201 (.pointer (some ⟨N, 0, none⟩))]) ∧ Below w.heap.size w w' := kp.mono fun e w' ⟨N, h1, _, _, h2⟩ => ⟨N, h1, h2⟩
    clear kp hp hpre hx hs hr
    go_enter Tryz.func92, Tryz.ntmps92
    go_wp2_with (first | (go_at_call 110; refine (kc _).mono ?_; rintro e w' ⟨rfl, rfl⟩) | (go_at_call 112; refine kp'.mono ?_; rintro e w' ⟨N, rfl, hb⟩))
    go_quiet (fail)
    go_wp2
    go_ret2
    exact ⟨⟨0, rfl, fun _ h => by cases h⟩, bel_dr hb _⟩
  | range =>
    have kp := Tryz.strconv_ParseInt_10_at64_range q (by omega) hp _ w hr (.inr ⟨_, _, rfl⟩)
    have kp' : Calls Tryz.prog 112 #[.string q, .int .i64 10, .int .i64 64] w fun e w' => ∃ N, e = .returned (.tuple #[.int .i64 (Lib.intSat 64 q.data.toList), .iface 201 (.pointer (some ⟨N, 0, none⟩))]) ∧ Below w.heap.size w w' := kp.mono fun e w' ⟨N, h1, _, _, h2⟩ => ⟨N, h1, h2⟩
    clear kp hp hpre hx hs hr
    generalize Lib.intSat 64 q.data.toList = y at kp'
    go_enter Tryz.func92, Tryz.ntmps92
    go_wp2_with (first | (go_at_call 110; refine (kc _).mono ?_; rintro e w' ⟨rfl, rfl⟩) | (go_at_call 112; refine kp'.mono ?_; rintro e w' ⟨N, rfl, hb⟩))
    go_quiet (fail)
    go_wp2
    go_ret2
    exact ⟨⟨y, rfl, fun _ h => by cases h⟩, bel_dr hb _⟩
end Go.Proofs.YtdgbmihokecmhaaGreatDoor

namespace Go.Proofs.YtdgbmihokecmhaaGreatDoor
open Go.ChangeShapes Go.WideShapes Go.ChangeAt Go.WideMaps Go.WideElems Go.RowKit
set_option linter.unusedVariables false

def strL (V : Array Value) : List (List UInt8) := V.toList.map fun v => match v with | .string s => s.data.toList | _ => []

/-- A table of texts, as the condition says it. -/
theorem strs_of {W : World} {name : String} {d : DataW Unit} {g : Nat} {t : TypeId} {n : Nat} {V : Array Value} (hpl : ([(name, d)].all fun x => x.2.handleName?.isNone) = true)
    (hg : Tryz.prog.globalNamed name = some g) (hT : (Tryz.prog.globals[g]?).map (·.type) = some t) (ht : Tryz.prog.underlying t = some (.array n 9)) (hce : Tryz.prog.cellsOf 9 = 1) (hct : Tryz.prog.cellsOf t = n)
    (hd : d = .agg ((strL V).map fun b => .lit (.string b))) (hV : (strL V).map (fun b => Value.string ⟨b.toArray⟩) = V.toList) (h : laidMetH Tryz.prog [(name, d)] W) : ∃ tt fr, W.heap[g]? = some (.cells V tt fr) := by
  rw [MakeChecks.laidMetH_plain _ _ _ hpl] at h
  obtain ⟨ps, ⟨g0, t0, cs0, f0, p0, q0, hg0, ht0, hv0, hd0, _, _⟩, _, _⟩ := h
  obtain rfl := Option.some.inj (hg.symm.trans hg0)
  obtain rfl := Option.some.inj (hT.symm.trans ht0)
  subst hd
  have e := cells_of_strs ht Tryz.underlying9 hce hct hd0
  have e2 : cs0 = V := by
    apply Array.toList_inj.1
    rw [e, hV]
  simp only [World.var?, hg0, Option.bind_some] at hv0
  split at hv0
  · rename_i cs tt fr hh
    cases hv0
    exact ⟨tt, fr, by rw [← e2]; exact hh⟩
  · cases hv0

theorem err_of {W : World} {name nm : String} {d : DataW Unit} {g : Nat} {t : TypeId} {ms : Array (String × TypeId)} (hpl : ([(name, DataW.iface nm d)].all fun x => x.2.handleName?.isNone) = true)
    (hg : Tryz.prog.globalNamed name = some g) (hT : (Tryz.prog.globals[g]?).map (·.type) = some t) (ht : Tryz.prog.underlying t = some (.interface ms)) (h : laidMetH Tryz.prog [(name, .iface nm d)] W) : ∃ te pe, W.cell? ⟨g, 0, none⟩ = some (.iface te pe) := by
  rw [MakeChecks.laidMetH_plain _ _ _ hpl] at h
  obtain ⟨ps, ⟨g0, t0, cs0, f0, p0, q0, hg0, ht0, hv0, hd0, _, _⟩, _, _⟩ := h
  obtain rfl := Option.some.inj (hg.symm.trans hg0)
  obtain rfl := Option.some.inj (hT.symm.trans ht0)
  obtain ⟨f', u, v, e, _, _⟩ := iface_of_trod ht hd0
  refine ⟨u, v, ?_⟩
  have := World.var?_cell hg0 hv0 0
  rw [this]
  have e2 : cs0.toList[0]? = some (.iface u v) := by rw [e]; rfl
  simpa using e2

theorem gSyn : Tryz.prog.globalNamed "strconv.ErrSyntax" = some 4 := by kernel_rfl
theorem gRng : Tryz.prog.globalNamed "strconv.ErrRange" = some 5 := by kernel_rfl
theorem gWrd : Tryz.prog.globalNamed "loop.example/warp/impl.wordTexts" = some 0 := by kernel_rfl
theorem gAsc : Tryz.prog.globalNamed "strings.asciiSpace" = some 1 := by kernel_rfl
theorem tab_keep {W W' : World} {name : String} {k : IntKind} {zs : List Int} {g : Nat} (hg : Tryz.prog.globalNamed name = some g) (h : Lib.TabIs Tryz.prog W name k zs) (hb : Below W.heap.size W W') : Lib.TabIs Tryz.prog W' name k zs := by
  unfold Lib.TabIs at h ⊢
  simp only [World.var?, hg, Option.bind_some] at h ⊢
  have hlt : g < W.heap.size := by
    rcases Nat.lt_or_ge g W.heap.size with hl | hl
    · exact hl
    · rw [Array.getElem?_eq_none hl] at h; simp at h
  rw [hb.block _ hlt]
  exact h

/-- What the condition says of the tables that a tree's check reads. -/
structure TreeLay (W : World) : Prop where
  errs : Errs W
  wrd : ∃ tt fr, W.heap[0]? = some (.cells wordV tt fr)
  asc : Lib.TabIs Tryz.prog W "strings.asciiSpace" .u8 Lib.asciiSpaceTab
set_option maxRecDepth 100000 in
theorem treeLay_of {W : World} (h : laidMetH Tryz.prog [("math/bits.deBruijn32tab", Rows.laid_math_bits_deBruijn32tab), ("math/bits.deBruijn64tab", Rows.laid_math_bits_deBruijn64tab), ("internal/strconv.uint64pow10", Rows.laid_internal_strconv_uint64pow10), ("strconv.ErrRange", Rows.laid_strconv_ErrRange), ("strconv.ErrSyntax", Rows.laid_strconv_ErrSyntax), ("unicode.White_Space", Rows.laid_unicode_White_Space), ("strings.asciiSpace", Rows.laid_strings_asciiSpace), ("loop.example/warp/impl.wordTexts", Rows.laid_loop_example_warp_impl_wordTexts)] W) : TreeLay W := by
  have h1 : laidMetH Tryz.prog [("loop.example/warp/impl.wordTexts", Rows.laid_loop_example_warp_impl_wordTexts)] W := h.filter fun x => x.1 == "loop.example/warp/impl.wordTexts"
  have h4 : laidMetH Tryz.prog [("strconv.ErrSyntax", Rows.laid_strconv_ErrSyntax)] W := h.filter fun x => x.1 == "strconv.ErrSyntax"
  have h5 : laidMetH Tryz.prog [("strconv.ErrRange", Rows.laid_strconv_ErrRange)] W := h.filter fun x => x.1 == "strconv.ErrRange"
  have h6 : laidMetH Tryz.prog [("strings.asciiSpace", Rows.laid_strings_asciiSpace)] W := h.filter fun x => x.1 == "strings.asciiSpace"
  refine ⟨⟨?_, ?_⟩, ?_, ?_⟩
  · exact err_of (by kernel_rfl) gSyn (t := 148) (by kernel_rfl) Tryz.underlying148 h4
  · exact err_of (by kernel_rfl) gRng (t := 148) (by kernel_rfl) Tryz.underlying148 h5
  · exact strs_of (V := wordV) (by kernel_rfl) gWrd (t := 91) (by kernel_rfl) Tryz.underlying91 (by kernel_rfl) (by kernel_rfl) rfl rfl h1
  · rw [MakeChecks.laidMetH_plain _ _ _ (by kernel_rfl)] at h6
    have h8 : laidMet Tryz.prog [("strings.asciiSpace", Lib.tabData .u8 Lib.asciiSpaceTab)] W := h6
    exact Lib.tabIs_of_head gAsc (t := 169) (by kernel_rfl) Tryz.underlying169 Tryz.underlying5 (by kernel_rfl) (by kernel_rfl) h8
end Go.Proofs.YtdgbmihokecmhaaGreatDoor

namespace Go.Proofs.YtdgbmihokecmhaaGreatDoor
open Go.RowKit
set_option linter.unusedVariables false

/-- A node of a tree. -/
structure Nd where
  k : Int
  f : Int
  t : Int
  l : Int
  op : Int
  n : Int
  x : ByteArray
  nm : List ByteArray
  ks : List Int

/-- A slice of texts, a slice of ints in memory, to be read. -/
def StrsAt (W : World) (v : Value) (l : List ByteArray) : Prop :=
  (l = [] ∧ ∃ a c, v = .slice a 0 c) ∨ ∃ a c, v = .slice (some a) l.length c ∧ ∀ j s, l[j]? = some s → W.cell? (a.add j) = some (.string s)
def IntsAt (W : World) (v : Value) (l : List Int) : Prop :=
  (l = [] ∧ ∃ a c, v = .slice a 0 c) ∨ ∃ a c, v = .slice (some a) l.length c ∧ ∀ j z, l[j]? = some z → W.cell? (a.add j) = some (.int .i64 z)
/-- A node in memory: nine cells from a on. -/
structure NdAt (W : World) (a : Addr) (N : Nd) (vn vk : Value) : Prop where
  c0 : W.cell? a = some (.int .i64 N.k)
  c1 : W.cell? ⟨a.block, a.off + 1, none⟩ = some (.int .i64 N.f)
  c2 : W.cell? ⟨a.block, a.off + 2, none⟩ = some (.int .i64 N.t)
  c3 : W.cell? ⟨a.block, a.off + 3, none⟩ = some (.int .i64 N.l)
  c4 : W.cell? ⟨a.block, a.off + 4, none⟩ = some (.int .i64 N.op)
  c5 : W.cell? ⟨a.block, a.off + 5, none⟩ = some (.int .i64 N.n)
  c6 : W.cell? ⟨a.block, a.off + 6, none⟩ = some (.string N.x)
  c7 : W.cell? ⟨a.block, a.off + 7, none⟩ = some vn
  c8 : W.cell? ⟨a.block, a.off + 8, none⟩ = some vk
  hn : StrsAt W vn N.nm
  hk : IntsAt W vk N.ks
def NdsAt (W : World) (v : Value) (ns : List Nd) : Prop :=
  (ns = [] ∧ ∃ a c, v = .slice a 0 c) ∨ ∃ a c, v = .slice (some a) ns.length c ∧ ∀ i N, ns[i]? = some N → ∃ vn vk, NdAt W (a.add (i * 9)) N vn vk

theorem cell_lt {W : World} {a : Addr} {v : Value} (h : W.cell? a = some v) : a.block < W.heap.size := by
  unfold World.cell? at h
  rcases Nat.lt_or_ge a.block W.heap.size with g | g
  · exact g
  · rw [Array.getElem?_eq_none g] at h; simp at h
theorem cell_kept {W W' : World} (hb : Below W.heap.size W W') {a : Addr} {v : Value} (h : W.cell? a = some v) : W'.cell? a = some v := by
  rw [← h]
  unfold World.cell?
  rw [hb.block _ (cell_lt h)]
theorem StrsAt.below {W W' : World} {v : Value} {l : List ByteArray} (h : StrsAt W v l) (hb : Below W.heap.size W W') : StrsAt W' v l := by
  rcases h with h | ⟨a, c, h1, h2⟩
  · exact .inl h
  · exact .inr ⟨a, c, h1, fun j s hs => cell_kept hb (h2 j s hs)⟩
theorem IntsAt.below {W W' : World} {v : Value} {l : List Int} (h : IntsAt W v l) (hb : Below W.heap.size W W') : IntsAt W' v l := by
  rcases h with h | ⟨a, c, h1, h2⟩
  · exact .inl h
  · exact .inr ⟨a, c, h1, fun j s hs => cell_kept hb (h2 j s hs)⟩
theorem NdAt.below {W W' : World} {a : Addr} {N : Nd} {vn vk : Value} (h : NdAt W a N vn vk) (hb : Below W.heap.size W W') : NdAt W' a N vn vk :=
  ⟨cell_kept hb h.c0, cell_kept hb h.c1, cell_kept hb h.c2, cell_kept hb h.c3, cell_kept hb h.c4, cell_kept hb h.c5, cell_kept hb h.c6, cell_kept hb h.c7, cell_kept hb h.c8, h.hn.below hb, h.hk.below hb⟩
theorem NdsAt.below {W W' : World} {v : Value} {ns : List Nd} (h : NdsAt W v ns) (hb : Below W.heap.size W W') : NdsAt W' v ns := by
  rcases h with h | ⟨a, c, h1, h2⟩
  · exact .inl h
  · exact .inr ⟨a, c, h1, fun i N hN => by obtain ⟨vn, vk, g⟩ := h2 i N hN; exact ⟨vn, vk, g.below hb⟩⟩
theorem StrsAt.form {W : World} {v : Value} {l : List ByteArray} (h : StrsAt W v l) : ∃ a c, v = .slice a l.length c := by
  rcases h with ⟨rfl, a, c, h⟩ | ⟨a, c, h1, h2⟩
  · exact ⟨a, c, h⟩
  · exact ⟨_, _, h1⟩
theorem IntsAt.form {W : World} {v : Value} {l : List Int} (h : IntsAt W v l) : ∃ a c, v = .slice a l.length c := by
  rcases h with ⟨rfl, a, c, h⟩ | ⟨a, c, h1, h2⟩
  · exact ⟨a, c, h⟩
  · exact ⟨_, _, h1⟩
theorem NdsAt.form {W : World} {v : Value} {l : List Nd} (h : NdsAt W v l) : ∃ a c, v = .slice a l.length c := by
  rcases h with ⟨rfl, a, c, h⟩ | ⟨a, c, h1, h2⟩
  · exact ⟨a, c, h⟩
  · exact ⟨_, _, h1⟩
theorem StrsAt.get {W : World} {a : Option Addr} {n c : Nat} {l : List ByteArray} (h : StrsAt W (.slice a n c) l) {k : Nat} {s : ByteArray} (hk : l[k]? = some s) : ∃ a', a = some a' ∧ W.cell? (a'.add k) = some (.string s) := by
  rcases h with ⟨rfl, _⟩ | ⟨a', c', e, hc⟩
  · simp at hk
  · cases e; exact ⟨a', rfl, hc k s hk⟩
theorem IntsAt.get {W : World} {a : Option Addr} {n c : Nat} {l : List Int} (h : IntsAt W (.slice a n c) l) {k : Nat} {s : Int} (hk : l[k]? = some s) : ∃ a', a = some a' ∧ W.cell? (a'.add k) = some (.int .i64 s) := by
  rcases h with ⟨rfl, _⟩ | ⟨a', c', e, hc⟩
  · simp at hk
  · cases e; exact ⟨a', rfl, hc k s hk⟩
theorem NdsAt.get {W : World} {a : Option Addr} {n c : Nat} {l : List Nd} (h : NdsAt W (.slice a n c) l) {k : Nat} {N : Nd} (hk : l[k]? = some N) : ∃ a', a = some a' ∧ ∃ vn vk, NdAt W (a'.add (k * 9)) N vn vk := by
  rcases h with ⟨rfl, _⟩ | ⟨a', c', e, hc⟩
  · simp at hk
  · cases e; exact ⟨a', rfl, hc k N hk⟩
theorem own_keep {w w' : World} {base e size : Nat} {v : Value} {n : Nat} {xs : List Value} (h : w.ownsRow base e size v n xs) (hb : Below w.heap.size w w') : w'.ownsRow base e size v n xs :=
  h.kept (row := none) ⟨hb.os, hb.tape, hb.output, hb.size, fun k hk _ => hb.block k hk⟩ (by cases v.ownBlock <;> simp)
theorem own_le {w : World} {base base' e size : Nat} {v : Value} {n : Nat} {xs : List Value} (h : w.ownsRow base e size v n xs) (hb : base' ≤ base) : w.ownsRow base' e size v n xs := by
  obtain ⟨h1, h2⟩ := h
  refine ⟨h1, ?_⟩
  rcases h2 with h2 | ⟨g, cap, cur, hv, hg, rest⟩
  · exact .inl h2
  · exact .inr ⟨g, cap, cur, hv, Nat.le_trans hb hg, rest⟩
theorem some_at {α : Type} {l : List α} {n k : Nat} (hn : l.length = n) (h : k < n) : ∃ s, l[k]? = some s := ⟨l[k]'(by omega), List.getElem?_eq_getElem _⟩
end Go.Proofs.YtdgbmihokecmhaaGreatDoor

namespace Go.Proofs.YtdgbmihokecmhaaGreatDoor
open Go.RowKit
set_option linter.unusedVariables false

theorem infoStr : (Tryz.prog.info? 9).map (fun i => (i.zero, i.size, i.bytes)) = some (some (.string ⟨#[]⟩), 1, 16) := by kernel_rfl
theorem infoInt : (Tryz.prog.info? 3).map (fun i => (i.zero, i.size, i.bytes)) = some (some (.int .i64 0), 1, 8) := by kernel_rfl
theorem fill_set {α : Type} (xs : List α) (f : α → Value) (z : Value) (n k : Nat) (s : α) (hn : xs.length = n) (hs : xs[k]? = some s) (hk : k < n) :
    ((xs.take k).map f ++ List.replicate (n - k) z).set k (f s) = (xs.take (k + 1)).map f ++ List.replicate (n - (k + 1)) z := by
  have hl : ((xs.take k).map f).length = k := by rw [List.length_map, List.length_take]; omega
  rw [List.set_append_right _ _ (by omega), hl, Nat.sub_self, show n - k = (n - (k + 1)) + 1 by omega, List.replicate_succ, List.set_cons_zero, List.take_add_one, hs]
  simp

set_option maxRecDepth 100000 in
set_option maxHeartbeats 1600000 in
theorem toStringS_any (w : World) (v : Value) (l : List ByteArray) (h : StrsAt w v l) (hl : l.length ≤ 1048576) :
    Calls Tryz.prog 43 #[v] w fun e w' => e = .returned (.slice (some ⟨w.heap.size, 0, none⟩) l.length l.length) ∧ w'.ownsRow w.heap.size 9 1 (.slice (some ⟨w.heap.size, 0, none⟩) l.length l.length) l.length (l.map Value.string) ∧ Below w.heap.size w w' := by
  obtain ⟨a, c, rfl⟩ := h.form
  obtain ⟨n, hn⟩ : ∃ n, l.length = n := ⟨_, rfl⟩
  have HN : Hid (l.length = n) := hn
  have HA : Hid (StrsAt w (.slice a n c) l) := by rw [← hn]; exact h
  rw [hn] at hl ⊢
  clear h hn
  obtain ⟨i0, hi, hz0, hz1, hz2⟩ := info_parts infoStr
  go_enter Tryz.func43, Tryz.ntmps43
  go_wp2_with (at_make; refine wpList_make_full _ rfl _ _ 63 rfl w.heap.size 9 i0 (.string ⟨#[]⟩) 1 Tryz.underlying63 hi hz0 hz1 .i64 .i64 _ _ n rfl rfl rfl rfl (by rw [hz2]; omega) (by unfold maxLen; omega) (Nat.le_refl _) ?_; intro w0 hown0 hgrow0)
  have hb0 : Below w.heap.size w w0 := ⟨hgrow0.os, hgrow0.tape, hgrow0.output, hgrow0.size, fun k hk => hgrow0.block k hk (by simp)⟩
  go_loopw [4] (fun vi wr => ∃ k : Nat, k ≤ n ∧ vi = .int .i64 k ∧ wr.ownsRow w.heap.size 9 1 (.slice (some ⟨w.heap.size, 0, none⟩) n n) n ((l.take k).map Value.string ++ List.replicate (n - k) (.string ⟨#[]⟩)) ∧ Below w.heap.size w wr) (fun vi _ => n - (intOf vi).toNat)
  case atStart =>
    refine ⟨0, by omega, rfl, ?_, hb0⟩
    have e : (madeCells (Value.string ⟨#[]⟩).cells (n * 1)).toList = (l.take 0).map Value.string ++ List.replicate (n - 0) (.string ⟨#[]⟩) := by
      rw [Nat.mul_one]; exact toList_madeCells_one _ n
    rw [← e]; exact hown0
  case round =>
    obtain ⟨k, hk, rfl, ho, hb⟩ := hrel
    clear hown0 hgrow0 hb0
    by_cases hlt : k < n
    · obtain ⟨s, hsk⟩ := some_at HN.out hlt
      obtain ⟨a', rfl, hck⟩ := (HA.out.below hb).get hsk
      have hki : (k : Int) < (n : Int) := by omega
      have hk0 : (0 : Int) ≤ (k : Int) := by omega
      have fz := ho.frozenAt k
      have dc : wr.cell? ⟨w.heap.size, k, none⟩ = some (.string ⟨#[]⟩) := by
        rw [ho.cellAt k (by omega), List.getElem?_append_right (by rw [List.length_map, List.length_take]; omega), List.length_map, List.length_take, List.getElem?_replicate]
        rw [if_pos (by have := HN.out; omega)]
      have ho2 := (ho.stored k (.string s)).1
      rw [fill_set l Value.string _ n k s HN.out hsk hlt] at ho2
      go_wp2_with fail
      exact ⟨⟨k + 1, by omega, by go_num, ho2, hb.setCell (by simp) _⟩, by simp [intOf]; omega⟩
    · obtain rfl : k = n := by omega
      go_wp2_with fail
      go_ret
      refine ⟨rfl, ?_, hb⟩
      rw [List.take_of_length_le (by have := HN.out; omega), Nat.sub_self, List.replicate_zero, List.append_nil] at ho
      exact ho

set_option maxRecDepth 100000 in
set_option maxHeartbeats 1600000 in
theorem toIntS_any (w : World) (v : Value) (l : List Int) (h : IntsAt w v l) (hl : l.length ≤ 1048576) :
    Calls Tryz.prog 44 #[v] w fun e w' => e = .returned (.slice (some ⟨w.heap.size, 0, none⟩) l.length l.length) ∧ w'.ownsRow w.heap.size 3 1 (.slice (some ⟨w.heap.size, 0, none⟩) l.length l.length) l.length (l.map (Value.int .i64)) ∧ Below w.heap.size w w' := by
  obtain ⟨a, c, rfl⟩ := h.form
  obtain ⟨n, hn⟩ : ∃ n, l.length = n := ⟨_, rfl⟩
  have HN : Hid (l.length = n) := hn
  have HA : Hid (IntsAt w (.slice a n c) l) := by rw [← hn]; exact h
  rw [hn] at hl ⊢
  clear h hn
  obtain ⟨i0, hi, hz0, hz1, hz2⟩ := info_parts infoInt
  go_enter Tryz.func44, Tryz.ntmps44
  go_wp2_with (at_make; refine wpList_make_full _ rfl _ _ 64 rfl w.heap.size 3 i0 (.int .i64 0) 1 Tryz.underlying64 hi hz0 hz1 .i64 .i64 _ _ n rfl rfl rfl rfl (by rw [hz2]; omega) (by unfold maxLen; omega) (Nat.le_refl _) ?_; intro w0 hown0 hgrow0)
  have hb0 : Below w.heap.size w w0 := ⟨hgrow0.os, hgrow0.tape, hgrow0.output, hgrow0.size, fun k hk => hgrow0.block k hk (by simp)⟩
  go_loopw [4] (fun vi wr => ∃ k : Nat, k ≤ n ∧ vi = .int .i64 k ∧ wr.ownsRow w.heap.size 3 1 (.slice (some ⟨w.heap.size, 0, none⟩) n n) n ((l.take k).map (Value.int .i64) ++ List.replicate (n - k) (.int .i64 0)) ∧ Below w.heap.size w wr) (fun vi _ => n - (intOf vi).toNat)
  case atStart =>
    refine ⟨0, by omega, rfl, ?_, hb0⟩
    have e : (madeCells (Value.int .i64 0).cells (n * 1)).toList = (l.take 0).map (Value.int .i64) ++ List.replicate (n - 0) (.int .i64 0) := by
      rw [Nat.mul_one]; exact toList_madeCells_one _ n
    rw [← e]; exact hown0
  case round =>
    obtain ⟨k, hk, rfl, ho, hb⟩ := hrel
    clear hown0 hgrow0 hb0
    by_cases hlt : k < n
    · obtain ⟨s, hsk⟩ := some_at HN.out hlt
      obtain ⟨a', rfl, hck⟩ := (HA.out.below hb).get hsk
      have hki : (k : Int) < (n : Int) := by omega
      have hk0 : (0 : Int) ≤ (k : Int) := by omega
      have fz := ho.frozenAt k
      have dc : wr.cell? ⟨w.heap.size, k, none⟩ = some (.int .i64 0) := by
        rw [ho.cellAt k (by omega), List.getElem?_append_right (by rw [List.length_map, List.length_take]; omega), List.length_map, List.length_take, List.getElem?_replicate]
        rw [if_pos (by have := HN.out; omega)]
      have ho2 := (ho.stored k (.int .i64 s)).1
      rw [fill_set l (Value.int .i64) _ n k s HN.out hsk hlt] at ho2
      go_wp2_with fail
      exact ⟨⟨k + 1, by omega, by go_num, ho2, hb.setCell (by simp) _⟩, by simp [intOf]; omega⟩
    · obtain rfl : k = n := by omega
      go_wp2_with fail
      go_ret
      refine ⟨rfl, ?_, hb⟩
      rw [List.take_of_length_le (by have := HN.out; omega), Nat.sub_self, List.replicate_zero, List.append_nil] at ho
      exact ho

theorem own_strs {W : World} {base g n c : Nat} {l : List ByteArray} (h : W.ownsRow base 9 1 (.slice (some ⟨g, 0, none⟩) n c) n (l.map Value.string)) (hn : l.length = n) : StrsAt W (.slice (some ⟨g, 0, none⟩) n c) l := by
  subst hn
  refine .inr ⟨⟨g, 0, none⟩, c, rfl, fun j s hs => ?_⟩
  have hj : j < l.length := by rcases Nat.lt_or_ge j l.length with h | h; exact h; rw [List.getElem?_eq_none h] at hs; cases hs
  have e : (⟨g, 0, none⟩ : Addr).add j = ⟨g, j, none⟩ := by unfold Addr.add; split <;> simp_all
  rw [e, h.cellAt j (by omega), List.getElem?_map, hs]; rfl
theorem own_ints {W : World} {base g n c : Nat} {l : List Int} (h : W.ownsRow base 3 1 (.slice (some ⟨g, 0, none⟩) n c) n (l.map (Value.int .i64))) (hn : l.length = n) : IntsAt W (.slice (some ⟨g, 0, none⟩) n c) l := by
  subst hn
  refine .inr ⟨⟨g, 0, none⟩, c, rfl, fun j s hs => ?_⟩
  have hj : j < l.length := by rcases Nat.lt_or_ge j l.length with h | h; exact h; rw [List.getElem?_eq_none h] at hs; cases hs
  have e : (⟨g, 0, none⟩ : Addr).add j = ⟨g, j, none⟩ := by unfold Addr.add; split <;> simp_all
  rw [e, h.cellAt j (by omega), List.getElem?_map, hs]; rfl
end Go.Proofs.YtdgbmihokecmhaaGreatDoor

namespace Go.Proofs.YtdgbmihokecmhaaGreatDoor
open Go.RowKit
set_option linter.unusedVariables false

def sumS : List ByteArray → Nat
  | [] => 0
  | s :: l => s.size + sumS l
theorem sumS_app (a b : List ByteArray) : sumS (a ++ b) = sumS a + sumS b := by
  induction a with
  | nil => simp [sumS]
  | cons x r ih => simp [sumS, ih]; omega
theorem sumS_take (l : List ByteArray) (k : Nat) (s : ByteArray) (h : l[k]? = some s) : sumS (l.take (k + 1)) = sumS (l.take k) + s.size := by
  rw [List.take_add_one, h, sumS_app]; simp [sumS]
theorem sumS_le (l : List ByteArray) (k : Nat) : sumS (l.take k) ≤ sumS l := by
  have h := sumS_app (l.take k) (l.drop k)
  rw [List.take_append_drop] at h
  omega
def bulkS (l : List ByteArray) : Nat := l.length + sumS l
def lessI (left : Int) (b : Nat) : Int := if (b : Int) ≤ left then left - b else -1
theorem lessI_yes {left : Int} {b : Nat} (h : (b : Int) ≤ left) : lessI left b = left - b := by unfold lessI; rw [if_pos h]
theorem lessI_no {left : Int} {b : Nat} (h : ¬ (b : Int) ≤ left) : lessI left b = -1 := by unfold lessI; rw [if_neg h]

set_option maxRecDepth 100000 in
set_option maxHeartbeats 1600000 in
theorem szStringS_any (w : World) (v : Value) (l : List ByteArray) (left : Int) (h : StrsAt w v l) (hs : ∀ s ∈ l, s.size ≤ 9223372036854775807) (hl : l.length ≤ 9223372036854775807) (h0 : 0 ≤ left) (h1 : left ≤ 1048576) :
    Calls Tryz.prog 38 #[v, .int .i64 left] w fun e w' => e = .returned (.int .i64 (lessI left (bulkS l))) ∧ w' = w := by
  obtain ⟨a, c, rfl⟩ := h.form
  obtain ⟨n, hn⟩ : ∃ n, l.length = n := ⟨_, rfl⟩
  have HN : Hid (l.length = n) := hn
  rw [hn] at hl ⊢
  by_cases g1 : left < (n : Int)
  · have hneg : left - (n : Int) < 0 := by omega
    have hb : ¬ ((bulkS l : Nat) : Int) ≤ left := by unfold bulkS; omega
    rw [lessI_no hb]
    clear hn HN
    go_enter Tryz.func38, Tryz.ntmps38
    go_wp2
    go_ret
    exact ⟨rfl, rfl⟩
  · have hneg : ¬ left - (n : Int) < 0 := by omega
    have HS : Hid (∀ s ∈ l, s.size ≤ 9223372036854775807) := hs
    have HA : Hid (StrsAt w (.slice a n c) l) := by rw [← hn]; exact h
    clear hs h hn
    go_enter Tryz.func38, Tryz.ntmps38
    go_wp2_with fail
    go_loop [1, 5] (fun vl vi => ∃ (k : Nat) (z : Int), k ≤ n ∧ vi = .int .i64 k ∧ vl = .int .i64 z ∧ 0 ≤ z ∧ z ≤ 1048576 ∧ Hid (z = left - (n : Int) - (sumS (l.take k) : Int))) (fun _ vi => n - (intOf vi).toNat)
    case atStart => exact ⟨0, left - n, by omega, rfl, rfl, by omega, by omega, by show _ = _; simp [sumS]⟩
    case round =>
      obtain ⟨k, z, hk, rfl, rfl, z0, z1, HZ⟩ := hrel
      by_cases hlt : k < n
      · obtain ⟨s, hsk⟩ := some_at HN.out hlt
        have hss := HS.out s (List.mem_of_getElem? hsk)
        have hst := sumS_take l k s hsk
        have hle := sumS_le l (k + 1)
        obtain ⟨a', rfl, hck⟩ := HA.out.get hsk
        have hki : (k : Int) < (n : Int) := by omega
        have hk0 : (0 : Int) ≤ (k : Int) := by omega
        obtain ⟨m, hm⟩ : ∃ m, s.size = m := ⟨_, rfl⟩
        rw [hm] at hss hst
        have HM : Hid (s.size = m) := hm
        by_cases hfit : (m : Int) ≤ z
        · have hng : ¬ z - (m : Int) < 0 := by omega
          have HR : Hid (z - (m : Int) = left - (n : Int) - (sumS (l.take (k + 1)) : Int)) := by show _ = _; have := HZ.out; omega
          clear hst hle HZ hsk
          go_wp2_with fail
          go_round
          case rel => exact ⟨k + 1, z - m, by omega, by go_num, by go_num, by omega, by omega, HR⟩
          case measure => simp [intOf]; omega
        · have hng : z - (m : Int) < 0 := by omega
          have HR : Hid (lessI left (bulkS l) = -1) := by show _ = _; have := HZ.out; have := HN.out; exact lessI_no (by unfold bulkS; omega)
          clear hst hle HZ hsk
          go_wp2_with fail
          go_ret
          exact ⟨by rw [HR.out]; rfl, rfl⟩
      · obtain rfl : k = n := by omega
        have hz : z = lessI left (bulkS l) := by
          have := HZ.out
          have hn := HN.out
          rw [List.take_of_length_le (by omega)] at this
          rw [lessI_yes (by unfold bulkS; omega)]
          unfold bulkS; omega
        have HF : Hid (z = lessI left (bulkS l)) := hz
        clear hz
        go_wp2_with fail
        go_ret
        exact ⟨by rw [← HF.out]; rfl, rfl⟩

theorem lessI_two {left : Int} {a b : Nat} (h : (a : Int) ≤ left) : lessI (left - a) b = lessI left (a + b) := by
  unfold lessI
  by_cases g : (b : Int) ≤ left - a
  · rw [if_pos g, if_pos (by omega)]; omega
  · rw [if_neg g, if_neg (by omega)]
set_option maxHeartbeats 800000 in
theorem szIntS_any (w : World) (v : Value) (l : List Int) (left : Int) (h : IntsAt w v l) (hl : l.length ≤ 9223372036854775807) (h0 : 0 ≤ left) (h1 : left ≤ 1048576) :
    Calls Tryz.prog 39 #[v, .int .i64 left] w fun e w' => e = .returned (.int .i64 (lessI left l.length)) ∧ w' = w := by
  obtain ⟨a, c, rfl⟩ := h.form
  generalize l.length = n at hl
  by_cases g1 : (n : Int) ≤ left
  · have hneg : ¬ left - (n : Int) < 0 := by omega
    rw [lessI_yes g1]
    go_enter Tryz.func39, Tryz.ntmps39
    go_wp2
    go_ret
    exact ⟨rfl, rfl⟩
  · have hneg : left - (n : Int) < 0 := by omega
    rw [lessI_no g1]
    go_enter Tryz.func39, Tryz.ntmps39
    go_wp2
    go_ret
    exact ⟨rfl, rfl⟩

/-- A node's lengths are lengths. -/
structure NdLen (N : Nd) : Prop where
  x : N.x.size ≤ 9223372036854775807
  s : ∀ s ∈ N.nm, s.size ≤ 9223372036854775807
  n : N.nm.length ≤ 9223372036854775807
  k : N.ks.length ≤ 9223372036854775807
def bulkN (N : Nd) : Nat := N.x.size + (bulkS N.nm + N.ks.length)
def vNd (N : Nd) (vn vk : Value) : Value := .agg #[.int .i64 N.k, .int .i64 N.f, .int .i64 N.t, .int .i64 N.l, .int .i64 N.op, .int .i64 N.n, .string N.x, vn, vk]

set_option maxRecDepth 100000 in
set_option maxHeartbeats 1600000 in
theorem szNode_any (w : World) (N : Nd) (vn vk : Value) (left : Int) (hn : StrsAt w vn N.nm) (hk : IntsAt w vk N.ks) (hN : NdLen N) (h0 : 0 ≤ left) (h1 : left ≤ 1048576) :
    Calls Tryz.prog 26 #[vNd N vn vk, .int .i64 left] w fun e w' => e = .returned (.int .i64 (lessI left (bulkN N))) ∧ Below w.heap.size w w' := by
  have hb0 : ∀ o, Below w.heap.size w (w.alloc o) := fun o => (Below.refl _ w).alloc (Nat.le_refl _) o
  have ks := fun (o : Obj) (left : Int) (h0 : 0 ≤ left) (h1 : left ≤ 1048576) => szStringS_any (w.alloc o) vn N.nm left (hn.below (hb0 o)) hN.s hN.n h0 h1
  have ki := fun (o : Obj) (left : Int) (h0 : 0 ≤ left) (h1 : left ≤ 1048576) => szIntS_any (w.alloc o) vk N.ks left (hk.below (hb0 o)) hN.k h0 h1
  have HKS : Hid (∀ (o : Obj) (left : Int) (h0 : 0 ≤ left) (h1 : left ≤ 1048576), Calls Tryz.prog 38 #[vn, .int .i64 left] (w.alloc o) fun e w' => e = .returned (.int .i64 (lessI left (bulkS N.nm))) ∧ w' = w.alloc o) := ks
  have HKI : Hid (∀ (o : Obj) (left : Int) (h0 : 0 ≤ left) (h1 : left ≤ 1048576), Calls Tryz.prog 39 #[vk, .int .i64 left] (w.alloc o) fun e w' => e = .returned (.int .i64 (lessI left N.ks.length)) ∧ w' = w.alloc o) := ki
  clear ks ki
  obtain ⟨a1, c1, rfl⟩ := hn.form
  obtain ⟨a2, c2, rfl⟩ := hk.form
  unfold vNd bulkN
  have hx := hN.x
  generalize bulkS N.nm = B at HKS ⊢
  generalize N.nm.length = L1 at HKS ⊢
  generalize N.ks.length = L2 at HKI ⊢
  clear hn hk hN
  obtain ⟨nk, nf, nt, nl, nop, nn, nx, nnm, nks⟩ := N
  simp only at hx ⊢
  obtain ⟨m, hm⟩ : ∃ m, nx.size = m := ⟨_, rfl⟩
  rw [hm] at hx ⊢
  by_cases g1 : (m : Int) ≤ left
  · have f1 : ¬ left - (m : Int) < 0 := by omega
    rw [← lessI_two g1]
    by_cases g2 : (B : Int) ≤ left - m
    · rw [← lessI_two g2]
      have f2 : ¬ left - (m : Int) - (B : Int) < 0 := by omega
      have k1 := fun o => HKS.out o (left - m) (by omega) (by omega)
      have k2 := fun o => HKI.out o (left - m - B) (by omega) (by omega)
      rw [lessI_yes g2] at k1
      have f3 : ∃ R, lessI (left - m - B) L2 = R ∧ -1 ≤ R := ⟨_, rfl, by unfold lessI; split <;> omega⟩
      obtain ⟨R, hR, hR1⟩ := f3
      rw [hR] at k2 ⊢
      clear hR
      by_cases f4 : R < 0
      · obtain rfl : R = -1 := by omega
        go_enter Tryz.func26, Tryz.ntmps26
        go_wp2_with (first | (go_at_call 38; refine (k1 _).mono ?_; rintro e w' ⟨rfl, rfl⟩) | (go_at_call 39; refine (k2 _).mono ?_; rintro e w' ⟨rfl, rfl⟩))
        go_ret
        exact ⟨rfl, hb0 _⟩
      · go_enter Tryz.func26, Tryz.ntmps26
        go_wp2_with (first | (go_at_call 38; refine (k1 _).mono ?_; rintro e w' ⟨rfl, rfl⟩) | (go_at_call 39; refine (k2 _).mono ?_; rintro e w' ⟨rfl, rfl⟩))
        go_ret
        exact ⟨rfl, hb0 _⟩
    · rw [lessI_no (show ¬ ((B + L2 : Nat) : Int) ≤ left - m by omega)]
      have k1 := fun o => HKS.out o (left - m) (by omega) (by omega)
      rw [lessI_no g2] at k1
      go_enter Tryz.func26, Tryz.ntmps26
      go_wp2_with (first | (go_at_call 38; refine (k1 _).mono ?_; rintro e w' ⟨rfl, rfl⟩))
      go_ret
      exact ⟨rfl, hb0 _⟩
  · have f1 : left - (m : Int) < 0 := by omega
    rw [lessI_no (show ¬ ((m + (B + L2) : Nat) : Int) ≤ left by omega)]
    go_enter Tryz.func26, Tryz.ntmps26
    go_wp2
    go_ret
    exact ⟨rfl, hb0 _⟩
end Go.Proofs.YtdgbmihokecmhaaGreatDoor
