import Derived.Test.YtlmkmihbbnjngaaDoorZSgn
namespace Go.Proofs.YtlmkmihbbnjngaaDoor
open Go.RowKit Go.Maps Go.WideMaps
set_option linter.unusedVariables false

theorem Tabs.setCell {w : World} (h : Tabs w) {a : Addr} (ha : 9 ≤ a.block) (v : Value) : Tabs (w.setCell a v) := by
  obtain ⟨⟨t1, f1, h1⟩, ⟨t2, f2, h2⟩, ⟨t3, f3, h3⟩⟩ := h
  exact ⟨⟨t1, f1, (heap_setCell_other w a _ v (by omega)).trans h1⟩, ⟨t2, f2, (heap_setCell_other w a _ v (by omega)).trans h2⟩, ⟨t3, f3, (heap_setCell_other w a _ v (by omega)).trans h3⟩⟩
theorem Tabs.drewN {w : World} (h : Tabs w) (n : Nat) : Tabs (w.drewN n) := ⟨h.word, h.mark, h.bin⟩
theorem fix_size_nat : ∀ k : Fin 79, (fixI (k.val : Int)).size ≤ 6 := by decide +kernel
theorem fix_size (k : Int) : (fixI k).size ≤ 6 := by
  by_cases h : 0 ≤ k ∧ k ≤ 78
  · have := fix_size_nat ⟨k.toNat, by omega⟩
    simp only [show ((k.toNat : Nat) : Int) = k by omega] at this
    exact this
  · unfold fixI
    rw [if_neg (by omega), if_neg (by omega), if_neg (by omega), if_neg (by omega), if_neg (by omega)]
    decide
theorem sgL_in (V : Array Value) (base : Int) (r : ByteArray) (hb : 0 ≤ base) (N : Int) : ∀ (f i : Nat) (a : Int × Nat), 0 ≤ a.1 → a.1 ≤ N → base + ((i + f : Nat) : Int) ≤ N + 1 → 0 ≤ (sgL V base r f i a).1 ∧ (sgL V base r f i a).1 ≤ N
  | 0, i, a, h0, h1, _ => ⟨h0, h1⟩
  | f + 1, i, a, h0, h1, h2 => by
    unfold sgL
    refine sgL_in V base r hb N f (i + 1) _ ?_ ?_ (by omega)
    · split
      · simp only; omega
      · exact h0
    · split
      · simp only; omega
      · exact h1
theorem skI_in (r : ByteArray) : 0 ≤ skI r ∧ skI r ≤ 78 := by
  unfold skI
  split
  · omega
  split
  · omega
  have h1 := sgL_in othV 40 r (by omega) 50 11 0 (0, 0) (by simp) (by simp) (by simp)
  exact sgL_in binV 61 r (by omega) 78 18 0 _ h1.1 (by omega) (by simp)

/-- What stands behind the reading of a sign of this kind. -/
def SgnEnd (b t : Nat) (w' : World) (s : ByteArray) (m : Value) (fr : Int) (p : Nat) (l ln k : Int) : Prop :=
  if k = 0 then ScAt b w' s m fr p l true ∧ TkAt t w' 0 p 0 ln 0 ByteArray.empty else ScAt b w' s m fr ((p : Int) + ((fixI k).size : Int)) (if k = 7 then l + 1 else l) false ∧ TkAt t w' k p 0 ln 0 ByteArray.empty

set_option maxRecDepth 100000 in
set_option maxHeartbeats 6400000 in
theorem readSign_any {fr : Int} (s : ByteArray) (hm : s.size ≤ 70000) (b t : Nat) (w : World) (m : Value) (p : Nat) (l ln : Int) (hp : p < s.size) (hl0 : 0 ≤ l) (hl : l ≤ 100000) (hbt : b ≠ t) (hS : ScAt b w s m fr p l false) (hT : TkAt t w 0 p 0 ln 0 ByteArray.empty) (hB : Tabs w) (hEb : 9 ≤ b) (hEt : 9 ≤ t) :
    Calls Tryd.prog 43 #[.pointer (some ⟨b, 0, none⟩), .pointer (some ⟨t, 0, none⟩)] w fun e w' => e = .returned (.tuple #[]) ∧ Fr2 b t w w' ∧ SgnEnd b t w' s m fr p l ln (skI (s.extract p s.size)) := by
  have hbw : b < w.heap.size := lt_of_block hS
  have htw : t < w.heap.size := lt_of_block hT
  have hrs : (s.extract p s.size).size = s.size - p := ext_size s p s.size (Nat.le_refl _)
  have kk := fun w hB => signKind_any (s.extract p s.size) (by omega) (by omega) w hB
  have kin := skI_in (s.extract p s.size)
  generalize skI (s.extract p s.size) = k at kk kin
  obtain ⟨c0, c1, c2, c3, c4, f2, f3, f4⟩ := sc_cells hS
  obtain ⟨t0, t1, t2, t3, t4, t5, tf⟩ := tk_cells hT
  unfold SgnEnd
  by_cases hk0 : k = 0
  · subst hk0
    simp only [if_true]
    go_enter Tryd.func43, Tryd.ntmps43
    go_upto_region 0 with fail
    go_quiet ((go_at_call 52; exact Calls.quiet_of_same (kk _ (hB.drewN _))))
    go_wp2
    refine bodyPost_ret (results_none rfl _ _ _) rfl ?_
    exact ⟨rfl, ((Fr2.refl b t w).drewN _).setB 5 _, (hS.drewN _).setK _, (hT.drewN _).other (Ne.symm hbt) _⟩
  have gk0 : (k == 0) = false := by rw [beq_eq_false_iff_ne]; exact hk0
  have kf := fun w hB => fixedText_any k (by omega) (by omega) w hB
  have hfz := fix_size k
  generalize fixI k = x at kf hfz
  simp only [if_neg hk0]
  by_cases hk7 : k = 7
  · subst hk7
    simp only [if_true]
    go_enter Tryd.func43, Tryd.ntmps43
    go_upto_region 0 with fail
    go_quiet ((go_at_call 52; exact Calls.quiet_of_same (kk _ (hB.drewN _))))
    have hS1 := ((hS.drewN nq).setL (l + 1)).other (a := ⟨t, 0, none⟩) hbt (.int .i64 7)
    have hT1 := ((hT.drewN nq).other (a := ⟨b, 4, none⟩) (Ne.symm hbt) (.int .i64 (l + 1))).setKind 7
    have hf1 := (((Fr2.refl b t w).drewN nq).setB 4 (.int .i64 (l + 1))).setT 0 (.int .i64 7)
    have hB1 := ((hB.drewN nq).setCell (a := ⟨b, 4, none⟩) (by simp; omega) (.int .i64 (l + 1))).setCell (a := ⟨t, 0, none⟩) (by simp; omega) (.int .i64 7)
    go_upto_region 6 with fail
    generalize ((w.drewN nq).setCell ⟨b, 4, none⟩ (.int .i64 (l + 1))).setCell ⟨t, 0, none⟩ (.int .i64 7) = W1 at hS1 hT1 hf1 hB1 ⊢
    clear c0 c1 c2 c3 c4 f2 f3 f4 t0 t1 t2 t3 t4 t5 tf kk
    obtain ⟨c0, c1, c2, c3, c4, f2, f3, f4⟩ := sc_cells hS1
    have hBd : Tabs W1.drew := ⟨hB1.word, hB1.mark, hB1.bin⟩
    have kf' := kf W1.drew hBd
    have hwr : IntKind.i64.wrap ((p : Int) + (x.size : Int)) = (p : Int) + (x.size : Int) := by rw [IntKind.wrap_i64]; omega
    clear hBd hB1 hB kf
    go_region_with (first | (go_at_call 53; refine kf'.mono ?_; rintro e w' ⟨rfl, hw'⟩; obtain rfl := hw'.symm))
    all_goals
      go_end0
      exact ⟨rfl, (hf1.setB 3 _).drew, hS1.setP _, hT1.other (Ne.symm hbt) _⟩
  · have gk7 : (k == 7) = false := by rw [beq_eq_false_iff_ne]; exact hk7
    simp only [if_neg hk7]
    go_enter Tryd.func43, Tryd.ntmps43
    go_upto_region 0 with fail
    go_quiet ((go_at_call 52; exact Calls.quiet_of_same (kk _ (hB.drewN _))))
    have hS1 := (hS.drewN nq).other (a := ⟨t, 0, none⟩) hbt (.int .i64 k)
    have hT1 := (hT.drewN nq).setKind k
    have hf1 := ((Fr2.refl b t w).drewN nq).setT 0 (.int .i64 k)
    have hB1 := (hB.drewN nq).setCell (a := ⟨t, 0, none⟩) (by simp; omega) (.int .i64 k)
    go_upto_region 6 with fail
    generalize (w.drewN nq).setCell ⟨t, 0, none⟩ (.int .i64 k) = W1 at hS1 hT1 hf1 hB1 ⊢
    clear c0 c1 c2 c3 c4 f2 f3 f4 t0 t1 t2 t3 t4 t5 tf kk
    obtain ⟨c0, c1, c2, c3, c4, f2, f3, f4⟩ := sc_cells hS1
    have hBd : Tabs W1.drew := ⟨hB1.word, hB1.mark, hB1.bin⟩
    have kf' := kf W1.drew hBd
    have hwr : IntKind.i64.wrap ((p : Int) + (x.size : Int)) = (p : Int) + (x.size : Int) := by rw [IntKind.wrap_i64]; omega
    clear hBd hB1 hB kf
    go_region_with (first | (go_at_call 53; refine kf'.mono ?_; rintro e w' ⟨rfl, hw'⟩; obtain rfl := hw'.symm))
    all_goals
      go_end0
      exact ⟨rfl, (hf1.setB 3 _).drew, hS1.setP _, hT1.other (Ne.symm hbt) _⟩
end Go.Proofs.YtlmkmihbbnjngaaDoor
