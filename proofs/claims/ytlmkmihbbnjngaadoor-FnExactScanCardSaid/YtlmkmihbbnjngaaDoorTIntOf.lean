import Derived.Test.YtlmkmihbbnjngaaDoorTHex
import Derived.BigRegion
namespace Go.Proofs.YtlmkmihbbnjngaaDoor
open Go.RowKit Go.Maps Go.WideMaps
set_option linter.unusedVariables false

/-- The two variables of strconv hold errors. -/
structure Errs (w : World) : Prop where
  syn : ∃ te pe, w.cell? ⟨3, 0, none⟩ = some (.iface te pe)
  rng : ∃ te pe, w.cell? ⟨4, 0, none⟩ = some (.iface te pe)
theorem cell_below {B : Nat} {w w' : World} (h : Below B w w') {a : Addr} (ha : a.block < B) : w'.cell? a = w.cell? a := by
  unfold World.cell?
  rw [h.block _ ha]
theorem bel_dr {B : Nat} {a w : World} (h : Below B a w) (n : Nat) : Below B a (w.drewN n) := ⟨h.os, h.tape, h.output, h.size, h.block⟩
theorem Errs.below {w w' : World} {B : Nat} (h : Errs w) (hb : Below B w w') (hB : w.heap.size ≤ B) : Errs w' := by
  obtain ⟨⟨t1, p1, h1⟩, ⟨t2, p2, h2⟩⟩ := h
  have l1 := World.block_lt_of_cell? w _ h1
  have l2 := World.block_lt_of_cell? w _ h2
  exact ⟨⟨t1, p1, (cell_below hb (Nat.lt_of_lt_of_le l1 hB)).trans h1⟩, ⟨t2, p2, (cell_below hb (Nat.lt_of_lt_of_le l2 hB)).trans h2⟩⟩

theorem bat_of (s : ByteArray) (i : Nat) : bat s i = match s.data.toList[i]? with | some b => (b.toNat : Int) | none => -1 := by
  cases h : s.data.toList[i]? with
  | some b => exact ((bat_list s i b).1 h).2
  | none =>
    refine bat_out fun hi => ?_
    have : s.data.toList[i]? = some s[i] := by rw [Array.getElem?_toList]; exact Array.getElem?_eq_getElem hi
    rw [this] at h; cases h
def dropS (s : ByteArray) (n : Nat) : ByteArray := ⟨(s.data.toList.drop n).toArray⟩
theorem dropS_size (s : ByteArray) (n : Nat) : (dropS s n).size = s.size - n := by
  show (s.data.toList.drop n).toArray.size = _
  rw [List.size_toArray, List.length_drop, Array.length_toList]
  rfl
theorem dropS_bat (s : ByteArray) (n i : Nat) : bat (dropS s n) i = bat s (n + i) := by
  rw [bat_of, bat_of]
  show (match (s.data.toList.drop n).toArray.toList[i]? with | some b => (b.toNat : Int) | none => -1) = _
  rw [List.toList_toArray, List.getElem?_drop]
theorem hvS_drop (s : ByteArray) (a p : Nat) : ∀ n, hvS (dropS s a) p n = hvS s (a + p) n
  | 0 => rfl
  | n + 1 => by
    unfold hvS
    rw [hvS_drop s a p n, dropS_bat, Nat.add_assoc]

set_option maxHeartbeats 1600000 in
theorem pub16 (t : ByteArray) (h1 : 1 ≤ t.size) (h16 : t.size ≤ 16) (hall : ∀ i, i < t.size → hexB (bat t i) = true) (w : World) :
    Calls Tryd.prog 58 #[.string t, .int .i64 16, .int .i64 64] w fun e w' => e = .returned (.tuple #[.int .u64 (hvS t 0 t.size : Int), .nilIface]) ∧ Below w.heap.size w w' := by
  have kp := fun w => pu16 t h1 h16 hall w
  have h64 := hvS_64 t 0 t.size h16
  generalize (hvS t 0 t.size : Int) = v at kp
  go_enter Tryd.func58, Tryd.ntmps58
  go_wp2_with (go_at_call 63; refine (kp _).mono ?_; rintro e w' ⟨rfl, rfl⟩)
  go_ret2
  exact ⟨rfl, Lib.bytesWorld_below _ _ _⟩

theorem pre_two0 (s : ByteArray) (x y : UInt8) : Lib.hasPrefix s.data.toList [x, y] = decide (bat s 0 = (x.toNat : Int) ∧ bat s 1 = (y.toNat : Int)) := by
  have := pre_two s 0 x y
  rw [extract_all] at this
  exact this

set_option maxHeartbeats 1600000 in
theorem intOf_hex (q : ByteArray) (h0 : bat q 0 = 48) (h1 : bat q 1 = 120) (h3 : 3 ≤ q.size) (h18 : q.size ≤ 18) (hall : ∀ i, 2 ≤ i → i < q.size → hexB (bat q i) = true) (w : World) :
    Calls Tryd.prog 50 #[.string q] w fun e w' => e = .returned (.tuple #[.int .i64 (wrap64 (hvS q 2 (q.size - 2) : Int)), .bool true]) ∧ Below w.heap.size w w' := by
  have hpre : Lib.hasPrefix q.data.toList [48, 120] = true := by rw [pre_two0]; simp [h0, h1]
  have kc : ∀ w, Calls Tryd.prog 57 #[.string q, .string { data := #[48, 120] }] w fun e w' => e = .returned (.tuple #[.string (dropS q 2), .bool true]) ∧ w' = w := fun w => by
    have := Tryd.strings_CutPrefix q { data := #[48, 120] } w
    rw [show ({ data := #[48, 120] } : ByteArray).data.toList = [48, 120] from rfl, Lib.trimPrefix, hpre] at this
    exact this
  have kp := fun w => pub16 (dropS q 2) (by rw [dropS_size]; omega) (by rw [dropS_size]; omega) (fun i hi => by rw [dropS_bat]; rw [dropS_size] at hi; exact hall _ (by omega) (by omega)) w
  rw [hvS_drop, dropS_size] at kp
  have h64 := hvS_64 q 2 (q.size - 2) (by omega)
  simp only [Nat.add_zero] at kp
  obtain ⟨v, hv⟩ : ∃ v : Int, (hvS q 2 (q.size - 2) : Int) = v := ⟨_, rfl⟩
  have hv0 : 0 ≤ v := by omega
  have hv1 : v < 18446744073709551616 := by omega
  rw [hv] at kp ⊢
  clear hv h64 hpre hall
  generalize dropS q 2 = d at kc kp
  go_enter Tryd.func50, Tryd.ntmps50
  go_wp2_with (first | (go_at_call 57; refine (kc _).mono ?_; rintro e w' ⟨rfl, rfl⟩) | (go_at_call 58; refine (kp _).mono ?_; rintro e w' ⟨rfl, hb⟩))
  go_quiet (fail)
  go_wp2
  go_ret2
  exact ⟨rfl, bel_dr hb _⟩

/-- The int that ParseInt reads, if it reads one. -/
def decI (q : ByteArray) : Option Int := match Lib.parseIntB 64 q.data.toList with | .ok v => some v | _ => none

set_option maxHeartbeats 1600000 in
theorem intOf_dec (q : ByteArray) (hm : q.size ≤ 1100000) (hx : ¬ (bat q 0 = 48 ∧ bat q 1 = 120)) (w : World) (hE : Errs w) :
    Calls Tryd.prog 50 #[.string q] w fun e w' => (∃ x, e = .returned (.tuple #[.int .i64 x, .bool (decI q).isSome]) ∧ ∀ v, decI q = some v → x = v) ∧ Below w.heap.size w w' := by
  have hpre : Lib.hasPrefix q.data.toList [48, 120] = false := by rw [pre_two0]; simpa using hx
  have kc : ∀ w, Calls Tryd.prog 57 #[.string q, .string { data := #[48, 120] }] w fun e w' => e = .returned (.tuple #[.string ⟨q.data.toList.toArray⟩, .bool false]) ∧ w' = w := fun w => by
    have := Tryd.strings_CutPrefix q { data := #[48, 120] } w
    rw [show ({ data := #[48, 120] } : ByteArray).data.toList = [48, 120] from rfl, Lib.trimPrefix, hpre] at this
    exact this
  generalize (⟨q.data.toList.toArray⟩ : ByteArray) = d at kc
  obtain ⟨⟨te, pe, hs⟩, ⟨te2, pe2, hr⟩⟩ := hE
  unfold decI
  cases hp : Lib.parseIntB 64 q.data.toList with
  | ok v =>
    have kp := Tryd.strconv_ParseInt_10_at64_ok q (by omega) v hp w
    have kp' : Calls Tryd.prog 59 #[.string q, .int .i64 10, .int .i64 64] w fun e w' => e = .returned (.tuple #[.int .i64 v, .nilIface]) ∧ Below w.heap.size w w' := kp.mono fun e w' h => ⟨h.1, by
      rcases h.2 with rfl | ⟨t, rfl⟩
      · exact Below.refl _ _
      · exact Lib.bytesWorld_below _ _ _⟩
    clear kp hp hpre hx hs hr
    go_enter Tryd.func50, Tryd.ntmps50
    go_wp2_with (first | (go_at_call 57; refine (kc _).mono ?_; rintro e w' ⟨rfl, rfl⟩) | (go_at_call 59; refine kp'.mono ?_; rintro e w' ⟨rfl, hb⟩))
    go_quiet (fail)
    go_wp2
    go_ret2
    exact ⟨⟨v, rfl, fun _ h => Option.some.inj h⟩, bel_dr hb _⟩
  | «syntax» =>
    have kp := Tryd.strconv_ParseInt_10_at64_syntax q (by omega) hp _ w hs (.inr ⟨_, _, rfl⟩)
    have kp' : Calls Tryd.prog 59 #[.string q, .int .i64 10, .int .i64 64] w fun e w' => ∃ N, e = .returned (.tuple #[.int .i64 0, .iface 91 (.pointer (some ⟨N, 0, none⟩))]) ∧ Below w.heap.size w w' := kp.mono fun e w' ⟨N, h1, _, _, h2⟩ => ⟨N, h1, h2⟩
    clear kp hp hpre hx hs hr
    go_enter Tryd.func50, Tryd.ntmps50
    go_wp2_with (first | (go_at_call 57; refine (kc _).mono ?_; rintro e w' ⟨rfl, rfl⟩) | (go_at_call 59; refine kp'.mono ?_; rintro e w' ⟨N, rfl, hb⟩))
    go_quiet (fail)
    go_wp2
    go_ret2
    exact ⟨⟨0, rfl, fun _ h => by cases h⟩, bel_dr hb _⟩
  | range =>
    have kp := Tryd.strconv_ParseInt_10_at64_range q (by omega) hp _ w hr (.inr ⟨_, _, rfl⟩)
    have kp' : Calls Tryd.prog 59 #[.string q, .int .i64 10, .int .i64 64] w fun e w' => ∃ N, e = .returned (.tuple #[.int .i64 (Lib.intSat 64 q.data.toList), .iface 91 (.pointer (some ⟨N, 0, none⟩))]) ∧ Below w.heap.size w w' := kp.mono fun e w' ⟨N, h1, _, _, h2⟩ => ⟨N, h1, h2⟩
    clear kp hp hpre hx hs hr
    generalize Lib.intSat 64 q.data.toList = y at kp'
    go_enter Tryd.func50, Tryd.ntmps50
    go_wp2_with (first | (go_at_call 57; refine (kc _).mono ?_; rintro e w' ⟨rfl, rfl⟩) | (go_at_call 59; refine kp'.mono ?_; rintro e w' ⟨N, rfl, hb⟩))
    go_quiet (fail)
    go_wp2
    go_ret2
    exact ⟨⟨y, rfl, fun _ h => by cases h⟩, bel_dr hb _⟩
end Go.Proofs.YtlmkmihbbnjngaaDoor
