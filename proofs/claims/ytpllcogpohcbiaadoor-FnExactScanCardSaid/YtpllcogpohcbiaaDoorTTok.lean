import Derived.Test.YtpllcogpohcbiaaDoorTDcm
import Derived.Test.YtpllcogpohcbiaaDoorQSpec
namespace Go.Proofs.YtpllcogpohcbiaaDoor
open Go.RowKit Go.Maps Go.WideMaps
set_option linter.unusedVariables false

/-- The package's variables lie as the text lays them. -/
structure Lay (w : World) : Prop where
  tabs : Tabs w
  errs : Errs w
  pow : Lib.TabIs Tryd.prog w "internal/strconv.uint64pow10" .u64 Lib.pow10Tab
  brj : w.cell? ⟨7, 15, none⟩ = some (.int .u8 4)
theorem var_below {P : Program} {w w' : World} {B : Nat} {n : String} {cs : Array Value} (h : w.var? P n = some cs) (hb : Below B w w') (hB : w.heap.size ≤ B) : w'.var? P n = some cs := by
  unfold World.var? at h ⊢
  cases hg : P.globalNamed n with
  | none => simp [hg] at h
  | some g =>
    simp only [hg, Option.bind_some] at h ⊢
    have hlt : g < w.heap.size := by
      rcases Nat.lt_or_ge g w.heap.size with h' | h'
      · exact h'
      · simp [Array.getElem?_eq_none h'] at h
    rw [hb.block g (Nat.lt_of_lt_of_le hlt hB)]
    exact h
theorem Lay.below {w w' : World} {B : Nat} (h : Lay w) (hb : Below B w w') (hB : w.heap.size ≤ B) : Lay w' :=
  ⟨h.tabs.below hb hB, h.errs.below hb hB, var_below h.pow hb hB, (cell_below hb (Nat.lt_of_lt_of_le (World.block_lt_of_cell? w _ h.brj) hB)).trans h.brj⟩

theorem bel_grow (w : World) (q : Nat) (os : Array Obj) : Below w.heap.size w (Sort.grow (w.drewN q) os) :=
  ⟨rfl, rfl, rfl, by show w.heap.size ≤ (w.heap ++ os).size; simp, fun k hk => by show (w.heap ++ os)[k]? = _; rw [Array.getElem?_append_left hk]⟩

def intS (n : Int) : ByteArray := if n < 0 then hxO (n + 18446744073709551616).toNat 16 else ⟨(Lib.decDigits n.toNat).toArray⟩

set_option maxHeartbeats 800000 in
theorem l1dec_any (N : Nat) (h1 : N ≤ 9223372036854775807) (w : World) : Calls Tryd.prog 52 #[.int .i64 (N : Int)] w fun e w' => e = .returned (.string ⟨(Lib.decDigits N).toArray⟩) ∧ Below w.heap.size w w' := by
  by_cases h0 : N = 0
  · subst h0
    have e : (⟨(Lib.decDigits 0).toArray⟩ : ByteArray) = { data := #[48] } := by rw [Lib.decDigits, dif_pos (by omega)]; rfl
    rw [e]
    show Calls Tryd.prog 52 #[.int .i64 0] w _
    go_enter Tryd.func52, Tryd.ntmps52
    go_wp2
    go_ret
    exact ⟨rfl, Below.refl _ _⟩
  · exact l1decimal_pos N h0 h1 w
set_option maxHeartbeats 800000 in
theorem l1int_any (n : Int) (h0 : -9223372036854775808 ≤ n) (h1 : n ≤ 9223372036854775807) (w : World) : Calls Tryd.prog 29 #[.int .i64 n] w fun e w' => e = .returned (.string (intS n)) ∧ Below w.heap.size w w' := by
  unfold intS
  by_cases hn : n < 0
  · rw [if_pos hn]; exact l1int_neg n h0 hn w
  · rw [if_neg hn]
    have kd : ∀ w, Calls Tryd.prog 52 #[.int .i64 n] w fun e w' => e = .returned (.string ⟨(Lib.decDigits n.toNat).toArray⟩) ∧ Below w.heap.size w w' := fun w => by
      have := l1dec_any n.toNat (by omega) w
      rw [show ((n.toNat : Nat) : Int) = n by omega] at this
      exact this
    generalize (⟨(Lib.decDigits n.toNat).toArray⟩ : ByteArray) = R at kd
    have hn' : 0 ≤ n := by omega
    go_enter Tryd.func29, Tryd.ntmps29
    go_wp2_with (go_at_call 52; refine (kd _).mono ?_; rintro e w' ⟨rfl, hb⟩)
    go_ret
    exact ⟨rfl, hb⟩
set_option maxHeartbeats 800000 in
theorem intText_any (n : Int) (h0 : -9223372036854775808 ≤ n) (h1 : n ≤ 9223372036854775807) (w : World) (hL : Lay w) : Calls Tryd.prog 35 #[.int .i64 n] w fun e w' => e = .returned (.string (intS n)) ∧ Below w.heap.size w w' := by
  unfold intS
  by_cases hn : n < 0
  · rw [if_pos hn]; exact intText_neg n h0 hn w hL.brj
  · rw [if_neg hn]
    have kd : Calls Tryd.prog 59 #[.int .i64 n, .int .i64 10] w fun e w' => e = .returned (.string ⟨(Lib.decDigits n.toNat).toArray⟩) ∧ Below w.heap.size w w' := by
      refine (Tryd.strconv_FormatInt_10 n h0 h1 w hL.pow).mono ?_
      rintro e w' ⟨rfl, k, os, rfl⟩
      refine ⟨by unfold Lib.itoa; rw [if_neg hn], bel_grow _ _ _⟩
    generalize (⟨(Lib.decDigits n.toNat).toArray⟩ : ByteArray) = R at kd
    have hn' : ¬ n < 0 := hn
    go_enter Tryd.func35, Tryd.ntmps35
    go_wp2_with (go_at_call 59; refine kd.mono ?_; rintro e w' ⟨rfl, hb⟩)
    go_ret
    exact ⟨rfl, hb⟩

def quS (s : ByteArray) : ByteArray := if 4000 < s.size then emptyS else strI (quoteI s)
set_option maxHeartbeats 400000 in
theorem specQ_any (s : ByteArray) (hm : s.size ≤ 1048576) (w : World) : Calls Tryd.prog 31 #[.string s] w fun e w' => e = .returned (.string (quS s)) ∧ Below w.heap.size w w' := by
  unfold quS
  by_cases h : 4000 < s.size
  · rw [if_pos h]
    go_enter Tryd.func31, Tryd.ntmps31
    go_wp2
    go_ret
    exact ⟨rfl, Below.refl _ _⟩
  · rw [if_neg h]
    have kq := fun w => specQuote s (by omega) w
    generalize strI (quoteI s) = R at kq
    go_enter Tryd.func31, Tryd.ntmps31
    go_wp2_with (go_at_call 53; refine (kq _).mono ?_; rintro e w' ⟨rfl, hb⟩)
    go_ret
    exact ⟨rfl, hb⟩
theorem implQ_any (s : ByteArray) (hm : s.size ≤ 1048576) (w : World) : Calls Tryd.prog 7 #[.string s] w fun e w' => e = .returned (.string (quS s)) ∧ Below w.heap.size w w' := by
  unfold quS
  by_cases h : 4000 < s.size
  · rw [if_pos h]
    refine (impl_no s h hm w).mono ?_
    rintro e w' ⟨rfl, rfl⟩
    exact ⟨rfl, Below.refl _ _⟩
  · rw [if_neg h]; exact implQuote s (by omega) w

theorem sgn_in : ∀ k : Fin 30, 5 ≤ sgnI (strAt sgnV k.val) ∧ sgnI (strAt sgnV k.val) ≤ 78 := by decide +kernel
theorem fndS_out (kind : Int) (h : kind < 5 ∨ 78 < kind) : ∀ (f k : Nat), k + f ≤ 30 → fndS kind f k = emptyS
  | 0, k, _ => rfl
  | f + 1, k, hk => by
    have := sgn_in ⟨k, by omega⟩
    unfold fndS
    rw [if_neg (by simp only at this; omega)]
    exact fndS_out kind h f (k + 1) (by omega)
theorem txt_fix_nat : ∀ k : Fin 79, k.val ≠ 7 → txtI (k.val : Int) = fixI (k.val : Int) := by decide +kernel
theorem txt_fix (kind : Int) (h7 : kind ≠ 7) : txtI kind = fixI kind := by
  by_cases h : 0 ≤ kind ∧ kind ≤ 78
  · have := txt_fix_nat ⟨kind.toNat, by omega⟩ (by simp only; omega)
    simp only [show ((kind.toNat : Nat) : Int) = kind by omega] at this
    exact this
  · unfold txtI fixI
    rw [if_neg (by omega), if_neg (by omega), if_neg (by omega), if_neg (by omega), if_neg (by omega), if_neg (by omega), if_neg (by omega)]
    exact fndS_out kind (by omega) 30 0 (by omega)

def tokS (k n : Int) (x : ByteArray) : ByteArray := if k = 1 then (if nmok x = true then x else emptyS) else if k = 2 then intS n else if k = 3 then (if fok x = true then x else emptyS) else if k = 4 then quS x else fixI k

theorem clone_any (s : ByteArray) (hm : s.size ≤ 1100000) (w : World) : Calls Tryd.prog 34 #[.string s] w fun e w' => e = .returned (.string s) ∧ Below w.heap.size w w' := by
  have kc := fun w => Tryd.stringslite_Clone s w (by omega)
  go_enter Tryd.func34, Tryd.ntmps34
  go_wp2_with (go_at_call 57; refine (kc _).mono ?_; rintro e w' ⟨rfl, hb⟩)
  go_ret
  exact ⟨rfl, hb⟩

set_option maxRecDepth 100000 in
set_option maxHeartbeats 3200000 in
theorem specTok (k f t l n : Int) (x : ByteArray) (h0 : -9223372036854775808 ≤ n) (h1 : n ≤ 9223372036854775807) (hm : x.size ≤ 1048576) (w : World) : Calls Tryd.prog 14 #[.agg #[.int .i64 k, .int .i64 f, .int .i64 t, .int .i64 l, .int .i64 n, .string x]] w fun e w' => e = .returned (.string (tokS k n x)) ∧ Below w.heap.size w w' := by
  have hb0 : Below w.heap.size w (w.alloc (.cells #[.int .i64 k, .int .i64 f, .int .i64 t, .int .i64 l, .int .i64 n, .string x] 30)) := (Below.refl _ w).alloc (Nat.le_refl _) _
  have hT0 : TkAt w.heap.size (w.alloc (.cells #[.int .i64 k, .int .i64 f, .int .i64 t, .int .i64 l, .int .i64 n, .string x] 30)) k f t l n x := heap_alloc_new w _
  have hsz : w.heap.size ≤ (w.alloc (.cells #[.int .i64 k, .int .i64 f, .int .i64 t, .int .i64 l, .int .i64 n, .string x] 30)).heap.size := hb0.size
  have hlt : w.heap.size < (w.alloc (.cells #[.int .i64 k, .int .i64 f, .int .i64 t, .int .i64 l, .int .i64 n, .string x] 30)).heap.size := lt_of_block hT0
  by_cases e1 : k = 1
  · subst e1
    have ka := fun w => l1nameok_any x (by omega) w
    rw [show tokS 1 n x = if nmok x = true then x else emptyS from rfl]
    generalize nmok x = B at ka
    have hst : ∀ w', Below (w.alloc (.cells #[.int .i64 1, .int .i64 f, .int .i64 t, .int .i64 l, .int .i64 n, .string x] 30)).heap.size (w.alloc (.cells #[.int .i64 1, .int .i64 f, .int .i64 t, .int .i64 l, .int .i64 n, .string x] 30)) w' → w'.cell? ⟨w.heap.size, 5, none⟩ = some (.string x) := fun w' hb => (tk_cells (hT0.below hb hlt)).2.2.2.2.2.1
    cases B with
    | true =>
      go_enter Tryd.func14, Tryd.ntmps14
      go_wp2_with (go_at_call 28; refine (ka _).mono ?_; rintro e w' ⟨rfl, hb⟩; have hc5 := hst _ hb; have hbb := hb0.trans (hb.mono hsz); clear hst hb0 hb hT0 hsz hlt)
      go_ret
      exact ⟨rfl, hbb⟩
    | false =>
      go_enter Tryd.func14, Tryd.ntmps14
      go_wp2_with (go_at_call 28; refine (ka _).mono ?_; rintro e w' ⟨rfl, hb⟩; have hc5 := hst _ hb; have hbb := hb0.trans (hb.mono hsz); clear hst hb0 hb hT0 hsz hlt)
      go_ret
      exact ⟨rfl, hbb⟩
  have g1 : (k == 1) = false := by rw [beq_eq_false_iff_ne]; exact e1
  by_cases e2 : k = 2
  · subst e2
    have ka := fun w => l1int_any n h0 h1 w
    rw [show tokS 2 n x = intS n from rfl]
    generalize intS n = R at ka
    go_enter Tryd.func14, Tryd.ntmps14
    go_wp2_with (go_at_call 29; refine (ka _).mono ?_; rintro e w' ⟨rfl, hb⟩; have hbb := hb0.trans (hb.mono hsz); clear hb0 hb hT0 hsz hlt)
    go_ret
    exact ⟨rfl, hbb⟩
  have g2 : (k == 2) = false := by rw [beq_eq_false_iff_ne]; exact e2
  by_cases e3 : k = 3
  · subst e3
    have ka := fun w => l1fltok_any x (by omega) w
    rw [show tokS 3 n x = if fok x = true then x else emptyS from rfl]
    generalize fok x = B at ka
    have hst : ∀ w', Below (w.alloc (.cells #[.int .i64 3, .int .i64 f, .int .i64 t, .int .i64 l, .int .i64 n, .string x] 30)).heap.size (w.alloc (.cells #[.int .i64 3, .int .i64 f, .int .i64 t, .int .i64 l, .int .i64 n, .string x] 30)) w' → w'.cell? ⟨w.heap.size, 5, none⟩ = some (.string x) := fun w' hb => (tk_cells (hT0.below hb hlt)).2.2.2.2.2.1
    cases B with
    | true =>
      go_enter Tryd.func14, Tryd.ntmps14
      go_wp2_with (go_at_call 30; refine (ka _).mono ?_; rintro e w' ⟨rfl, hb⟩; have hc5 := hst _ hb; have hbb := hb0.trans (hb.mono hsz); clear hst hb0 hb hT0 hsz hlt)
      go_ret
      exact ⟨rfl, hbb⟩
    | false =>
      go_enter Tryd.func14, Tryd.ntmps14
      go_wp2_with (go_at_call 30; refine (ka _).mono ?_; rintro e w' ⟨rfl, hb⟩; have hc5 := hst _ hb; have hbb := hb0.trans (hb.mono hsz); clear hst hb0 hb hT0 hsz hlt)
      go_ret
      exact ⟨rfl, hbb⟩
  have g3 : (k == 3) = false := by rw [beq_eq_false_iff_ne]; exact e3
  by_cases e4 : k = 4
  · subst e4
    have ka := fun w => specQ_any x hm w
    rw [show tokS 4 n x = quS x from rfl]
    generalize quS x = R at ka
    go_enter Tryd.func14, Tryd.ntmps14
    go_wp2_with (go_at_call 31; refine (ka _).mono ?_; rintro e w' ⟨rfl, hb⟩; have hbb := hb0.trans (hb.mono hsz); clear hb0 hb hT0 hsz hlt)
    go_ret
    exact ⟨rfl, hbb⟩
  have g4 : (k == 4) = false := by rw [beq_eq_false_iff_ne]; exact e4
  have hS : tokS k n x = fixI k := by unfold tokS; rw [if_neg e1, if_neg e2, if_neg e3, if_neg e4]
  rw [hS]
  by_cases e7 : k = 7
  · subst e7
    rw [show fixI 7 = { data := #[10] } from rfl]
    go_enter Tryd.func14, Tryd.ntmps14
    go_wp2
    go_ret
    exact ⟨rfl, hb0⟩
  have g7 : (k == 7) = false := by rw [beq_eq_false_iff_ne]; exact e7
  have ka := fun w => l1text_any k w
  rw [txt_fix k e7] at ka
  generalize fixI k = R at ka
  clear e1 e2 e3 e4 e7 hS
  go_enter Tryd.func14, Tryd.ntmps14
  go_wp2_with (go_at_call 32; refine (ka _).mono ?_; rintro e w' ⟨rfl, hb⟩; have hbb := hb0.trans (hb.mono hsz); clear hb0 hb hT0 hsz hlt)
  go_ret
  exact ⟨rfl, hbb⟩
end Go.Proofs.YtpllcogpohcbiaaDoor
