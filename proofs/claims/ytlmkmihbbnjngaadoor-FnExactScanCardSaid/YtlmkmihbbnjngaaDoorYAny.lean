import Derived.Test.YtlmkmihbbnjngaaDoorYSgn
import Derived.Test.YtlmkmihbbnjngaaDoorYStr
import Derived.Test.YtlmkmihbbnjngaaDoorTL1r
import Derived.Test.YtlmkmihbbnjngaaDoorTNmok
import Derived.Test.YtlmkmihbbnjngaaDoorZPure
namespace Go.Proofs.YtlmkmihbbnjngaaDoor
open Go.RowKit Go.Maps Go.WideMaps
set_option linter.unusedVariables false

theorem pre_ext (s x : ByteArray) (p : Nat) (hp : p ≤ s.size) : Lib.hasPrefix (s.extract p s.size).data.toList x.data.toList = decide (p + x.size ≤ s.size ∧ ((s.extract p (p + x.size)).toList == x.toList) = true) := by
  have hl : s.data.toList.length = s.size := Array.length_toList
  have hx : x.data.toList.length = x.size := Array.length_toList
  have e : (s.extract p s.size).data.toList = s.data.toList.drop p := by
    rw [← ByteArray.toList_eq, Lib.extract_toList, List.take_of_length_le]
    rw [List.length_drop, Array.length_toList]
    exact Nat.le_refl _
  have e2 : (s.extract p (p + x.size)).toList = (s.data.toList.drop p).take x.size := by
    rw [Lib.extract_toList]; congr 1; omega
  rw [e, e2, ByteArray.toList_eq x]
  unfold Lib.hasPrefix
  rw [Bool.eq_iff_iff, List.isPrefixOf_iff_prefix, decide_eq_true_iff, List.prefix_iff_eq_take, hx, beq_iff_eq]
  constructor
  · intro h
    refine ⟨?_, h.symm⟩
    have := congrArg List.length h
    rw [List.length_take, List.length_drop, hl, hx] at this
    omega
  · exact fun h => h.2.symm

set_option maxRecDepth 100000 in
set_option maxHeartbeats 3200000 in
theorem l1read_nl (s : ByteArray) (hm : s.size ≤ 70000) (p : Nat) (hp : p < s.size) (h10 : bat s p = 10) (w : World) : Calls Tryd.prog 19 #[.string s, .int .i64 p] w fun e w' => e = .returned (.tuple #[.agg #[.int .i64 7, .int .i64 p, .int .i64 ((p : Int) + 1), .int .i64 0, .int .i64 0, .string { data := #[] }], .int .i64 (-1)]) ∧ Below w.heap.size w w' := by
  have i1 := fun w => idx_run hp w
  rw [h10] at i1
  have hpi : (p : Int) < (s.size : Int) := by omega
  go_enter Tryd.func19, Tryd.ntmps19
  go_wp2
  refine bodyPost_ret (v := .tuple #[.agg #[.int .i64 7, .int .i64 p, .int .i64 ((p : Int) + 1), .int .i64 0, .int .i64 0, .string { data := #[] }], .int .i64 (-1)]) (by simp [results, Tryd.results19, go_sem]) rfl ⟨rfl, ?_⟩
  exact ((Below.refl _ w).alloc (Nat.le_refl _) _).alloc (by simp) _

theorem strAr_is (p : Nat) (R : Bool × Nat × List Int) : ∃ (t : Int) (x : ByteArray), strAr p R = .agg #[.int .i64 4, .int .i64 p, .int .i64 t, .int .i64 0, .int .i64 0, .string x] := by
  unfold strAr; split <;> exact ⟨_, _, rfl⟩

set_option maxRecDepth 100000 in
set_option maxHeartbeats 3200000 in
theorem l1read_str (s : ByteArray) (hm : s.size ≤ 70000) (p : Nat) (hp : p < s.size) (hd : bat s p = 34) (w : World) : Calls Tryd.prog 19 #[.string s, .int .i64 p] w fun e w' => e = .returned (.tuple #[strAr p (rdStr s (s.size + 1) (p + 1) []), .int .i64 (strFr (rdStr s (s.size + 1) (p + 1) []))]) ∧ Below w.heap.size w w' := by
  have i1 := fun w => idx_run hp w
  have kl := fun w => l1letter_q (c := 34) (b := false) (by decide) w
  have kd := fun w => l1digit_q (c := 34) (b := false) (by decide) w
  have kw := fun w => l1string_any s hm p hp w
  generalize rdStr s (s.size + 1) (p + 1) [] = R at kw
  obtain ⟨t, x, hT⟩ := strAr_is p R
  rw [hT] at kw ⊢
  generalize strFr R = F at kw
  rw [hd] at i1
  clear hT
  have hZ0 : TkAt w.heap.size ((w.alloc (.cells #[.int .i64 0, .int .i64 0, .int .i64 0, .int .i64 0, .int .i64 0, .string { data := #[] }] 30)).alloc (.cells #[.int .i64 0, .int .i64 p, .int .i64 0, .int .i64 0, .int .i64 0, .string { data := #[] }] 30)) 0 0 0 0 0 { data := #[] } := (Below.heap_alloc _ _ _ (by simp)).trans (heap_alloc_new w _)
  have hB0 : Below w.heap.size w ((w.alloc (.cells #[.int .i64 0, .int .i64 0, .int .i64 0, .int .i64 0, .int .i64 0, .string { data := #[] }] 30)).alloc (.cells #[.int .i64 0, .int .i64 p, .int .i64 0, .int .i64 0, .int .i64 0, .string { data := #[] }] 30)) := (((Below.refl _ w).alloc (Nat.le_refl _) _).alloc (by simp) _)
  go_enter Tryd.func19, Tryd.ntmps19
  go_wp2_with (first | (go_at_call 28; refine (kl _).mono ?_; rintro e w' ⟨rfl, rfl⟩) | (go_at_call 30; refine (kd _).mono ?_; rintro e w' ⟨rfl, rfl⟩))
  refine (kw _).mono ?_
  rintro e w3 ⟨rfl, hb3⟩
  have hZ3 := hZ0.below hb3 (by simp; omega)
  have hB3 := hB0.trans (hb3.mono (by simp; omega))
  clear hb3 hZ0 hB0 kw kl kd i1
  obtain ⟨z0, z1, z2, z3, z4, z5, zf⟩ := tk_cells hZ3
  have hx1 : w.heap.size < w3.heap.size := lt_of_block hZ3
  go_wp2
  refine bodyPost_ret (v := .tuple #[.agg #[.int .i64 4, .int .i64 p, .int .i64 t, .int .i64 0, .int .i64 0, .string x], .int .i64 F]) (by simp [results, Tryd.results19, go_sem, z0, z1, z2, z3, z4, z5]) rfl ⟨rfl, ?_⟩
  iterate 6 refine Below.setCell ?_ (by simp) _
  exact hB3

structure SgfIs (q : ByteArray → Bool) (f k : Nat) (R : Option Nat) : Prop where
  out : sgFq q f k = R
def sgnV2 (p : Nat) (R : Option Nat) : Value := match R with
  | some j => .tuple #[.agg #[.int .i64 (sgnI (strAt sgnV j)), .int .i64 p, .int .i64 ((p : Int) + ((strAt sgnV j).size : Int)), .int .i64 0, .int .i64 0, .string { data := #[] }], .int .i64 (-1)]
  | none => .tuple #[.agg #[.int .i64 0, .int .i64 p, .int .i64 0, .int .i64 0, .int .i64 0, .string { data := #[] }], .int .i64 p]
theorem sgn_sz : ∀ k : Fin 30, (strAt sgnV k.val).size ≤ 3 := by decide

set_option maxRecDepth 100000 in
set_option maxHeartbeats 6400000 in
theorem l1read_sgn (s : ByteArray) (hm : s.size ≤ 70000) (p : Nat) (hp : p < s.size) (h10 : ¬ bat s p = 10) (hl : lettB (bat s p) = false) (hd : digB (bat s p) = false) (h34 : ¬ bat s p = 34) (w : World) :
    Calls Tryd.prog 19 #[.string s, .int .i64 p] w fun e w' => e = .returned (sgnV2 p (sgFq (fun x => Lib.hasPrefix (s.extract p s.size).data.toList x.data.toList) 30 0)) ∧ Below w.heap.size w w' := by
  have i1 := fun w => idx_run hp w
  have g10 : (bat s p == 10) = false := by rw [beq_eq_false_iff_ne]; exact h10
  have g34 : (bat s p == 34) = false := by rw [beq_eq_false_iff_ne]; exact h34
  have kl := fun w => l1letter_q hl w
  have kd := fun w => l1digit_q hd w
  have hpi : (p : Int) < (s.size : Int) := by omega
  generalize bat s p = c at i1 g10 g34 kl kd
  obtain ⟨q, hq⟩ : ∃ q : ByteArray → Bool, (fun x => Lib.hasPrefix (s.extract p s.size).data.toList x.data.toList) = q := ⟨_, rfl⟩
  have hqx : ∀ x, q x = decide (p + x.size ≤ s.size ∧ ((s.extract p (p + x.size)).toList == x.toList) = true) := fun x => by rw [← hq]; exact pre_ext s x p (by omega)
  rw [hq]
  obtain ⟨R, hR⟩ : ∃ R, sgFq q 30 0 = R := ⟨_, rfl⟩
  rw [hR]
  have HR : SgfIs q 30 0 R := ⟨hR⟩
  have HQ : Hid (∀ x, q x = decide (p + x.size ≤ s.size ∧ ((s.extract p (p + x.size)).toList == x.toList) = true)) := hqx
  clear hR hq hqx h10 hl hd h34
  obtain ⟨W1, hW1⟩ : ∃ W1, (w.alloc (.cells #[.int .i64 0, .int .i64 0, .int .i64 0, .int .i64 0, .int .i64 0, .string { data := #[] }] 30)).alloc (.cells #[.int .i64 0, .int .i64 p, .int .i64 0, .int .i64 0, .int .i64 0, .string { data := #[] }] 30) = W1 := ⟨_, rfl⟩
  have hZ0 : TkAt w.heap.size W1 0 0 0 0 0 { data := #[] } := by rw [← hW1]; exact (Below.heap_alloc _ _ _ (by simp)).trans (heap_alloc_new w _)
  have hA0 : TkAt (w.heap.size + 1) W1 0 p 0 0 0 { data := #[] } := by
    rw [← hW1]
    have := heap_alloc_new (w.alloc (.cells #[.int .i64 0, .int .i64 0, .int .i64 0, .int .i64 0, .int .i64 0, .string { data := #[] }] 30)) (.cells #[.int .i64 0, .int .i64 p, .int .i64 0, .int .i64 0, .int .i64 0, .string { data := #[] }] 30)
    rw [World.size_alloc] at this
    exact this
  have hB0 : Below w.heap.size w W1 := by rw [← hW1]; exact (((Below.refl _ w).alloc (Nat.le_refl _) _).alloc (by simp) _)
  have HW1 : Hid ((w.alloc (.cells #[.int .i64 0, .int .i64 0, .int .i64 0, .int .i64 0, .int .i64 0, .string { data := #[] }] 30)).alloc (.cells #[.int .i64 0, .int .i64 p, .int .i64 0, .int .i64 0, .int .i64 0, .string { data := #[] }] 30) = W1) := hW1
  clear hW1
  go_enter Tryd.func19, Tryd.ntmps19
  go_wp2_with (first | (go_at_call 28; refine (kl _).mono ?_; rintro e w' ⟨rfl, rfl⟩) | (go_at_call 30; refine (kd _).mono ?_; rintro e w' ⟨rfl, rfl⟩))
  rw [HW1.out]
  refine (l1signs_any W1).mono ?_
  rintro e w3 ⟨rfl, hw3⟩
  have hA3 : TkAt (w.heap.size + 1) w3 0 p 0 0 0 { data := #[] } := by rw [hw3]; exact (Below.heap_alloc _ _ _ (lt_of_block hA0)).trans hA0
  have hZ3 : TkAt w.heap.size w3 0 0 0 0 0 { data := #[] } := by rw [hw3]; exact (Below.heap_alloc _ _ _ (lt_of_block hZ0)).trans hZ0
  have hB3 : Below w.heap.size w w3 := by rw [hw3]; exact hB0.alloc hB0.size _
  have hblk : w3.heap[W1.heap.size]? = some (.cells sgnV 9 (0, 0)) := by rw [hw3]; exact heap_alloc_new W1 _
  clear hw3 hA0 hZ0 hB0 kl kd i1 HW1 g10 g34
  go_wp2_with fail
  obtain ⟨t0, t1, t2, t3, t4, t5, tf⟩ := tk_cells hA3
  obtain ⟨z0, z1, z2, z3, z4, z5, zf⟩ := tk_cells hZ3
  have hx1 : w.heap.size < w3.heap.size := lt_of_block hZ3
  have hx2 : w.heap.size + 1 < w3.heap.size := lt_of_block hA3
  go_loop [45, 9] (fun i _ => ∃ j : Nat, j ≤ 30 ∧ i = .int .i64 j ∧ SgfIs q (30 - j) j R) (fun i _ => 30 - (intOf i).toNat)
  case atStart => exact ⟨0, by omega, rfl, HR⟩
  case round =>
    obtain ⟨j, hj, rfl, HF⟩ := hrel
    by_cases hlt : j < 30
    · have hck : w3.cell? ⟨W1.heap.size, j, none⟩ = some (.string (strAt sgnV j)) := by rw [cell_of_row _ _ _ _ _ _ hblk]; exact sgn_at ⟨j, hlt⟩
      have hst := HF.out
      rw [show 30 - j = (30 - (j + 1)) + 1 by omega, sgFq, HQ.out] at hst
      have hsz := sgn_sz ⟨j, hlt⟩
      simp only at hsz
      obtain ⟨x, hx⟩ : ∃ x, strAt sgnV j = x := ⟨_, rfl⟩
      rw [hx] at hck hst hsz
      have HX : Hid (strAt sgnV j = x) := hx
      clear hx HF HR
      by_cases hfit : p + x.size ≤ s.size
      · have hfi : (x.size : Int) ≤ (s.size : Int) - (p : Int) := by omega
        have hfj : (p : Int) + (x.size : Int) ≤ (s.size : Int) := by omega
        by_cases hxe : ((s.extract p (p + x.size)).toList == x.toList) = true
        · rw [if_pos (decide_eq_true ⟨hfit, hxe⟩)] at hst
          have HS : Hid (some j = R) := hst
          clear hst
          go_wp2_with (go_at_call 34; refine (l1sign_any x _).mono ?_; rintro e w4 ⟨rfl, hb4⟩; obtain ⟨d0, d1, d2, d3, d4, d5, df⟩ := tk_cells (hA3.below hb4 hx2); obtain ⟨y0, y1, y2, y3, y4, y5, yf⟩ := tk_cells (hZ3.below hb4 hx1); have hy1 := Nat.lt_of_lt_of_le hx1 hb4.size; have hy2 := Nat.lt_of_lt_of_le hx2 hb4.size)
          refine bodyPost_ret (v := .tuple #[.agg #[.int .i64 (sgnI x), .int .i64 p, .int .i64 ((p : Int) + (x.size : Int)), .int .i64 0, .int .i64 0, .string { data := #[] }], .int .i64 (-1)]) (by simp [results, Tryd.results19, go_sem, y0, y1, y2, y3, y4, y5]) rfl ⟨by rw [← HS.out]; have h := HX.out; subst h; rfl, ?_⟩
          iterate 8 refine Below.setCell ?_ (by simp) _
          exact hB3.trans (hb4.mono hB3.size)
        · have hxf : ((s.extract p (p + x.size)).toList == x.toList) = false := by simpa using hxe
          rw [if_neg (fun h => hxe (of_decide_eq_true h).2)] at hst
          have HS : SgfIs q (30 - (j + 1)) (j + 1) R := ⟨hst⟩
          clear hst hxe
          go_wp2_with fail
          go_round
          case rel => exact ⟨j + 1, by omega, by go_num, HS⟩
          case measure => simp [intOf]; omega
      · have hfi : ¬ (x.size : Int) ≤ (s.size : Int) - (p : Int) := by omega
        rw [if_neg (fun h => hfit (of_decide_eq_true h).1)] at hst
        have HS : SgfIs q (30 - (j + 1)) (j + 1) R := ⟨hst⟩
        clear hst
        go_wp2_with fail
        go_round
        case rel => exact ⟨j + 1, by omega, by go_num, HS⟩
        case measure => simp [intOf]; omega
    · obtain rfl : j = 30 := by omega
      have HS : Hid (none = R) := HF.out
      clear HF HR
      go_wp2_with fail
      refine bodyPost_ret (v := .tuple #[.agg #[.int .i64 0, .int .i64 p, .int .i64 0, .int .i64 0, .int .i64 0, .string { data := #[] }], .int .i64 (p : Int)]) (by simp [results, Tryd.results19, go_sem, z0, z1, z2, z3, z4, z5]) rfl ⟨by rw [← HS.out]; rfl, ?_⟩
      iterate 6 refine Below.setCell ?_ (by simp) _
      exact hB3
end Go.Proofs.YtlmkmihbbnjngaaDoor

namespace Go.Proofs.YtlmkmihbbnjngaaDoor
open Go.RowKit Go.Maps Go.WideMaps
set_option linter.unusedVariables false

/-- What the model reads at p, held against what the scanner reads. -/
structure RdOk (R : Rd) (k t n : Int) (x : ByteArray) (bad : Int) : Prop where
  yes : R.ok = true → bad = -1 ∧ k = R.k ∧ t = (R.a : Int) ∧ n = R.n ∧ x = R.x ∧ R.d = (if R.k = 7 then 1 else 0)
  no : R.ok = false → bad = (R.a : Int)
theorem wdP_k (s : ByteArray) (p : Nat) : (wdP s p).1 ≠ 7 := by
  unfold wdP; split
  · simp only; omega
  · simp
theorem nuP_k (s : ByteArray) (p : Nat) : (nuP s p).1 ≠ 7 := by
  unfold nuP; split
  · simp
  · split <;> simp

theorem l1read_any (s : ByteArray) (hm : s.size ≤ 70000) (p : Nat) (hp : p < s.size) (w : World) :
    Calls Tryd.prog 19 #[.string s, .int .i64 p] w fun e w' => ∃ k t n x bad, e = .returned (.tuple #[.agg #[.int .i64 k, .int .i64 p, .int .i64 t, .int .i64 0, .int .i64 n, .string x], .int .i64 bad]) ∧ RdOk (rdI s p) k t n x bad ∧ Below w.heap.size w w' := by
  unfold rdI
  by_cases hl : lettB (bat s p) = true
  · rw [if_pos hl]
    refine (l1read_lett s (by omega) p hp hl w).mono ?_
    rintro e w' ⟨rfl, hb⟩
    rw [wdT_P]
    exact ⟨_, _, _, _, _, rfl, ⟨fun _ => ⟨rfl, rfl, rfl, rfl, rfl, by simp only; rw [if_neg (wdP_k s p)]⟩, fun h => by cases h⟩, hb⟩
  rw [if_neg hl]
  by_cases hd : digB (bat s p) = true
  · rw [if_pos hd]
    refine (l1read_dig s (by omega) p hp hd w).mono ?_
    rintro e w' ⟨rfl, hb⟩
    cases hok : (numN s p).2 with
    | true =>
      obtain ⟨e1, e2⟩ := numA_P s p hok
      rw [e1, e2, if_pos rfl]
      exact ⟨_, _, _, _, _, rfl, ⟨fun _ => ⟨rfl, rfl, rfl, rfl, rfl, by simp only; rw [if_neg (nuP_k s p)]⟩, fun h => by cases h⟩, hb⟩
    | false =>
      obtain ⟨k, t, n, x, e1⟩ := numA_is s p
      rw [e1, numF_bad s p hok, if_neg (by simp)]
      exact ⟨_, _, _, _, _, rfl, ⟨fun h => by (try simp at h), fun h => rfl⟩, hb⟩
  rw [if_neg hd]
  by_cases h34 : bat s p = 34
  · rw [if_pos h34]
    refine (l1read_str s hm p hp h34 w).mono ?_
    rintro e w' ⟨rfl, hb⟩
    generalize rdStr s (s.size + 1) (p + 1) [] = R
    obtain ⟨ok, a, c⟩ := R
    cases ok with
    | true => exact ⟨_, _, _, _, _, rfl, ⟨fun _ => ⟨rfl, rfl, rfl, rfl, rfl, rfl⟩, fun h => by cases h⟩, hb⟩
    | false => exact ⟨_, _, _, _, _, rfl, ⟨fun h => (by cases h), fun h => rfl⟩, hb⟩
  rw [if_neg h34]
  have hb0 : bat (s.extract p s.size) 0 = bat s p := ext_bat s p s.size 0 (Nat.le_refl _) (by omega)
  by_cases h10 : bat s p = 10
  · have hk : skI (s.extract p s.size) = 7 := by unfold skI; rw [hb0, h10]; rfl
    rw [hk, if_neg (by decide)]
    refine (l1read_nl s hm p hp h10 w).mono ?_
    rintro e w' ⟨rfl, hb⟩
    exact ⟨_, _, _, _, _, rfl, ⟨fun _ => ⟨rfl, rfl, rfl, rfl, rfl, rfl⟩, fun h => by cases h⟩, hb⟩
  · have hs := sg_same (s.extract p s.size) (by rw [hb0]; exact h10)
    unfold SgSame at hs
    refine (l1read_sgn s hm p hp h10 (by simpa using hl) (by simpa using hd) h34 w).mono ?_
    rintro e w' ⟨rfl, hb⟩
    generalize sgFq (fun x => Lib.hasPrefix (s.extract p s.size).data.toList x.data.toList) 30 0 = R at hs
    cases R with
    | none =>
      rw [show skI (s.extract p s.size) = 0 from hs, if_pos rfl]
      exact ⟨_, _, _, _, _, rfl, ⟨fun h => (by cases h), fun h => rfl⟩, hb⟩
    | some j =>
      obtain ⟨e1, e2, e3, e4⟩ := (show _ ∧ _ ∧ _ ∧ _ from hs)
      rw [if_neg e3]
      refine ⟨_, _, _, _, _, rfl, ⟨fun _ => ⟨rfl, e1.symm, ?_, rfl, rfl, rfl⟩, fun h => by cases h⟩, hb⟩
      show (p : Int) + ((strAt sgnV j).size : Int) = ((p + (fixI (skI (s.extract p s.size))).size : Nat) : Int)
      rw [e2]; omega
end Go.Proofs.YtlmkmihbbnjngaaDoor

namespace Go.Proofs.YtlmkmihbbnjngaaDoor
open Go.RowKit Go.Maps Go.WideMaps
set_option linter.unusedVariables false

structure NlIs (s : ByteArray) (f k e : Nat) : Prop where
  out : runE nnB s f k = e
structure BlkIs (s : ByteArray) (f k e : Nat) : Prop where
  out : blk s f k = e

set_option maxRecDepth 100000 in
set_option maxHeartbeats 3200000 in
theorem l1blanks_any (s : ByteArray) (hm : s.size ≤ 1100000) (p : Nat) (hp : p ≤ s.size) (w : World) : Calls Tryd.prog 18 #[.string s, .int .i64 p] w fun e w' => e = .returned (.int .i64 (blk s (s.size + 1) p)) ∧ w' = w := by
  obtain ⟨R, hR⟩ : ∃ R, blk s (s.size + 1) p = R := ⟨_, rfl⟩
  rw [hR]
  have HR : BlkIs s (s.size + 1) p R := ⟨hR⟩
  clear hR
  go_enter Tryd.func18, Tryd.ntmps18
  go_wp2_with fail
  go_loop [1, 5] (fun i b => ∃ (k f : Nat), k ≤ s.size ∧ s.size < k + f ∧ i = .int .i64 k ∧ BlkIs s f k R) (fun i _ => s.size - (intOf i).toNat)
  case atStart => exact ⟨p, s.size + 1, hp, by omega, rfl, HR⟩
  case round =>
    obtain ⟨k, f, hk, hf, rfl, HF⟩ := hrel
    obtain ⟨f, rfl⟩ : ∃ g, f = g + 1 := ⟨f - 1, by omega⟩
    have hst := HF.out
    rw [blk] at hst
    by_cases hlt : k < s.size
    · have hki : (k : Int) < (s.size : Int) := by omega
      rw [if_neg (by omega)] at hst
      have i1 := fun w => idx_run hlt w
      have nb := bat_in hlt
      by_cases hb : blankB (bat s k) = true
      · rw [if_pos hb] at hst
        have HS : BlkIs s f (k + 1) R := ⟨hst⟩
        have hb' : bat s k = 32 ∨ bat s k = 9 ∨ bat s k = 13 := of_decide_eq_true hb
        generalize bat s k = c at i1 hb' nb
        clear hst HF hb
        rcases hb' with rfl | rfl | rfl
        all_goals
          go_wp2_with fail
          go_round
          case rel => exact ⟨k + 1, f, by omega, by omega, by go_num, HS⟩
          case measure => simp [intOf]; omega
      · rw [if_neg hb] at hst
        have hb' : ¬ (bat s k = 32 ∨ bat s k = 9 ∨ bat s k = 13) := fun h => hb (decide_eq_true h)
        have g1 : (bat s k == 32) = false := by rw [beq_eq_false_iff_ne]; omega
        have g2 : (bat s k == 9) = false := by rw [beq_eq_false_iff_ne]; omega
        have g3 : (bat s k == 13) = false := by rw [beq_eq_false_iff_ne]; omega
        have kl := fun w => l1look_q s hm ((k : Int) + 1) (k + 1) (by omega) w
        have hl1 := lk_eq s (k + 1) 45 (by omega)
        by_cases hd : bat s k = 45 ∧ bat s (k + 1) = 45
        · rw [if_pos hd] at hst
          have HS : BlkIs s f (nlE s k) R := ⟨hst⟩
          rw [hd.2] at hl1
          have hl2 : lk s (k + 1) = 45 := by simpa using hl1
          have h1 := nlE_pos s k hd.1
          have h2 := nlE_bd s k hk
          rw [hd.1] at i1
          rw [hl2] at kl
          have HN : NlIs s (s.size + 1) k (nlE s k) := ⟨rfl⟩
          generalize nlE s k = N at HS h1 h2 HN
          clear hst HF hb hb' g1 g2 g3 hl1 hl2 hd nb
          go_wp2_with (go_at_call 27; refine (kl _).mono ?_; rintro e w' ⟨rfl, rfl⟩)
          go_loop [1] (fun i => ∃ (j g : Nat), j ≤ s.size ∧ s.size < j + g ∧ i = .int .i64 j ∧ NlIs s g j N) (fun i => s.size - (intOf i).toNat)
          case atStart => exact ⟨k, s.size + 1, hk, by omega, rfl, HN⟩
          case round =>
            obtain ⟨j, g, hj, hg, rfl, HJ⟩ := hrel
            obtain ⟨g, rfl⟩ : ∃ q, g = q + 1 := ⟨g - 1, by omega⟩
            have hst := HJ.out
            rw [runE] at hst
            clear i1 HJ
            by_cases hjl : j < s.size
            · have hji : (j : Int) < (s.size : Int) := by omega
              have i2 := fun w => idx_run hjl w
              have nj := bat_in hjl
              by_cases h10 : bat s j = 10
              · rw [if_neg (by rw [h10]; decide)] at hst
                rw [h10] at i2
                have HK : Hid (j = N) := hst
                clear hst h10 nj
                go_wp2_with fail
                go_round
                case rel => exact ⟨j, f, by omega, by have := HK.out; omega, by go_num, by rw [HK.out]; exact HS⟩
                case measure => have := HK.out; simp [intOf]; omega
              · rw [if_pos (by unfold nnB; rw [decide_eq_true_iff]; exact ⟨h10, by omega⟩)] at hst
                have HK : NlIs s g (j + 1) N := ⟨hst⟩
                have g10 : (bat s j == 10) = false := by rw [beq_eq_false_iff_ne]; exact h10
                generalize bat s j = c at i2 g10
                clear hst h10 nj
                go_wp2_with fail
                go_round
                case rel => exact ⟨j + 1, g, by omega, by omega, by go_num, HK⟩
                case measure => simp [intOf]; omega
            · obtain rfl : j = s.size := by omega
              rw [if_neg (by rw [bat_out (Nat.lt_irrefl _)]; decide)] at hst
              have HK : Hid (s.size = N) := hst
              clear hst
              go_wp2_with fail
              go_round
              case rel => exact ⟨s.size, f, by omega, by omega, by go_num, by rw [HK.out]; exact HS⟩
              case measure => simp [intOf]; omega
        · rw [if_neg hd] at hst
          have HS : Hid (k = R) := hst
          clear hst HF
          by_cases h45 : bat s k = 45
          · have hn : bat s (k + 1) ≠ 45 := fun h => hd ⟨h45, h⟩
            rw [decide_eq_false hn] at hl1
            rw [h45] at i1
            generalize lk s (k + 1) = x at kl hl1
            clear hb hb' g1 g2 g3 hd nb hn h45
            go_wp2_with (go_at_call 27; refine (kl _).mono ?_; rintro e w' ⟨rfl, rfl⟩)
            go_ret
            exact ⟨by rw [← HS.out]; rfl, rfl⟩
          · have g4 : (bat s k == 45) = false := by rw [beq_eq_false_iff_ne]; exact h45
            have g5 : (bat s k != 45) = true := by rw [bne_iff_ne]; exact h45
            generalize bat s k = c at i1 g1 g2 g3 g4 g5
            clear hb hb' hd nb h45 kl hl1
            go_wp2_with fail
            go_ret
            exact ⟨by rw [← HS.out]; rfl, rfl⟩
    · obtain rfl : k = s.size := by omega
      rw [if_pos (Nat.le_refl _)] at hst
      have HS : Hid (s.size = R) := hst
      clear hst HF
      go_wp2_with fail
      go_ret
      exact ⟨by rw [← HS.out]; rfl, rfl⟩
end Go.Proofs.YtlmkmihbbnjngaaDoor
