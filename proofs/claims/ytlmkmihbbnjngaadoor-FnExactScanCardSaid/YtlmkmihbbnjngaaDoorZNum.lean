import Derived.Test.YtlmkmihbbnjngaaDoorZName
namespace Go.Proofs.YtlmkmihbbnjngaaDoor
open Go.RowKit Go.Maps Go.WideMaps
set_option linter.unusedVariables false

theorem ext_bat (s : ByteArray) (a b i : Nat) (hb : b ≤ s.size) (hi : a + i < b) : bat (s.extract a b) i = bat s (a + i) := by
  rw [bat_of, bat_of]
  have e : (s.extract a b).data.toList = (s.data.toList.drop a).take (b - a) := by rw [← ByteArray.toList_eq, Lib.extract_toList]
  rw [e, List.getElem?_take, if_pos (by omega), List.getElem?_drop]
theorem ext_size (s : ByteArray) (a b : Nat) (hb : b ≤ s.size) : (s.extract a b).size = b - a := by rw [ByteArray.size_extract]; omega
theorem hvS_ext (s : ByteArray) (a b p : Nat) (hb : b ≤ s.size) : ∀ n, a + p + n ≤ b → hvS (s.extract a b) p n = hvS s (a + p) n
  | 0, _ => rfl
  | n + 1, h => by
    rw [hvS, hvS, hvS_ext s a b p hb n (by omega), ext_bat s a b (p + n) hb (by omega), Nat.add_assoc]
theorem dcS_ext (s : ByteArray) (a b p : Nat) (hb : b ≤ s.size) : ∀ n, a + p + n ≤ b → dcS (s.extract a b) p n = dcS s (a + p) n
  | 0, _ => rfl
  | n + 1, h => by
    rw [dcS, dcS, dcS_ext s a b p hb n (by omega), ext_bat s a b (p + n) hb (by omega), Nat.add_assoc]

def nuP (s : ByteArray) (p : Nat) : Int × Int × ByteArray :=
  if bat s p = 48 ∧ bat s (p + 1) = 120 then (2, wrap64 (hvS s (p + 2) ((numN s p).1 - (p + 2)) : Int), { data := #[] })
  else match (if nKd s p = true then none else dcS s p ((numN s p).1 - p)) with
    | some u => (2, (u : Int), { data := #[] })
    | none => (3, 0, s.extract p (numN s p).1)
theorem numA_P (s : ByteArray) (p : Nat) (hok : (numN s p).2 = true) : numA s p = .agg #[.int .i64 (nuP s p).1, .int .i64 p, .int .i64 ((numN s p).1 : Int), .int .i64 0, .int .i64 (nuP s p).2.1, .string (nuP s p).2.2] ∧ numF s p = -1 := by
  unfold numA numF nuP
  by_cases hx : bat s p = 48 ∧ bat s (p + 1) = 120
  · have e : numN s p = hexN s (p + 2) := by unfold numN; rw [if_pos hx]
    rw [e] at hok ⊢
    simp only [if_pos hx]
    unfold hxA hxF
    rw [if_pos hok, if_pos hok]
    exact ⟨rfl, rfl⟩
  · have e : numN s p = nEx s (nA1 s (nA0 s p)) := by unfold numN; rw [if_neg hx]
    rw [e] at hok ⊢
    simp only [if_neg hx]
    unfold nmA nmF
    rw [if_pos hok, if_pos hok]
    cases nKd s p with
    | true => exact ⟨rfl, rfl⟩
    | false =>
      simp only [if_neg (show ¬ false = true by simp)]
      cases dcS s p ((nEx s (nA1 s (nA0 s p))).1 - p) <;> exact ⟨rfl, by trivial⟩
theorem numF_bad (s : ByteArray) (p : Nat) (hok : (numN s p).2 = false) : numF s p = ((numN s p).1 : Int) := by
  unfold numF
  by_cases hx : bat s p = 48 ∧ bat s (p + 1) = 120
  · have e : numN s p = hexN s (p + 2) := by unfold numN; rw [if_pos hx]
    rw [e] at hok ⊢
    rw [if_pos hx]
    unfold hxF
    rw [if_neg (by rw [hok]; simp)]
  · have e : numN s p = nEx s (nA1 s (nA0 s p)) := by unfold numN; rw [if_neg hx]
    rw [e] at hok ⊢
    rw [if_neg hx]
    unfold nmF
    rw [if_neg (by rw [hok]; simp)]

theorem piece_dec (s : ByteArray) (p : Nat) (hp : p < s.size) (hd : digB (bat s p) = true) (hx : ¬ (bat s p = 48 ∧ bat s (p + 1) = 120)) : decI (s.extract p (numN s p).1) = Option.map (fun u : Nat => (u : Int)) (if nKd s p = true then none else dcS s p ((numN s p).1 - p)) := by
  have bd := numN_bd s p hp
  have hz := ext_size s p (numN s p).1 bd.2
  have hb : ∀ i, p + i < (numN s p).1 → bat (s.extract p (numN s p).1) i = bat s (p + i) := fun i hi => ext_bat s p _ i bd.2 hi
  have h0 : digB (bat (s.extract p (numN s p).1) 0) = true := by rw [hb 0 (by omega)]; exact hd
  have e : numN s p = nEx s (nA1 s (nA0 s p)) := by unfold numN; rw [if_neg hx]
  have bA0 := nA0_bd s p hp
  have bA1 := nA1_bd s _ bA0.2
  have bE := nEx_bd s _ bA1.2
  cases hk : nKd s p with
  | false =>
    obtain ⟨h1, h2⟩ := dec_all s p hd hk
    have eN : (numN s p).1 = nA0 s p := by rw [e, h1]
    rw [decI_dig _ (by omega) (fun i hi => by rw [hb i (by omega)]; exact h2 _ (by omega) (by omega))]
    rw [hz, dcS_ext s p _ 0 bd.2 _ (by omega), Nat.add_zero]
    simp
  | true =>
    simp only [if_true, Option.map_none]
    unfold nKd at hk
    rcases of_decide_eq_true hk with h | h
    · have hl : nA0 s p < (numN s p).1 := by
        have : nA0 s p < nA1 s (nA0 s p) := by
          unfold nA1; rw [if_pos h]
          have := digE_bd s (nA0 s p + 1) (by have := dig_lt h.2; omega)
          omega
        rw [e]; omega
      exact decI_bad _ h0 (nA0 s p - p) (by omega) (by rw [hb _ (by omega), show p + (nA0 s p - p) = nA0 s p by omega, h.1]; decide)
    · have hl : nA1 s (nA0 s p) < (numN s p).1 := by
        have h2 := nA2_bd s _ h
        have h3 := digE_bd s _ h2.2
        rw [e]
        unfold nEx
        rw [if_pos h]
        simp only
        omega
      exact decI_bad _ h0 (nA1 s (nA0 s p) - p) (by omega) (by rw [hb _ (by omega), show p + (nA1 s (nA0 s p) - p) = nA1 s (nA0 s p) by omega, h]; decide)

/-- intOf of the piece that numberEnd has found. -/
theorem intOf_piece (s : ByteArray) (hm : s.size ≤ 1100000) (p : Nat) (hp : p < s.size) (hd : digB (bat s p) = true) (hok : (numN s p).2 = true) (w : World) (hE : Errs w) :
    Calls Tryd.prog 50 #[.string (s.extract p (numN s p).1)] w fun e w' => (((nuP s p).1 = 2 ∧ e = .returned (.tuple #[.int .i64 (nuP s p).2.1, .bool true]) ∧ (nuP s p).2.2 = { data := #[] }) ∨ ((nuP s p).1 = 3 ∧ (∃ x, e = .returned (.tuple #[.int .i64 x, .bool false])) ∧ (nuP s p).2.1 = 0 ∧ (nuP s p).2.2 = s.extract p (numN s p).1)) ∧ Below w.heap.size w w' := by
  have bd := numN_bd s p hp
  have hz := ext_size s p (numN s p).1 bd.2
  have hb : ∀ i, p + i < (numN s p).1 → bat (s.extract p (numN s p).1) i = bat s (p + i) := fun i hi => ext_bat s p _ i bd.2 hi
  by_cases hx : bat s p = 48 ∧ bat s (p + 1) = 120
  · have e : numN s p = hexN s (p + 2) := by unfold numN; rw [if_pos hx]
    have hh : hexN s (p + 2) = ((numN s p).1, true) := by rw [← e]; exact Prod.ext rfl hok
    obtain ⟨g1, g2, g3, g4⟩ := hexN_yes hh
    refine (intOf_hex _ (by rw [hb 0 (by omega)]; exact hx.1) (by rw [hb 1 (by omega)]; exact hx.2) (by omega) (by omega) (fun i h1 h2 => by rw [hb i (by omega)]; exact g4 _ (by omega) (by omega)) w).mono ?_
    rintro e' w' ⟨rfl, hbel⟩
    rw [hz, hvS_ext s p _ 2 bd.2 _ (by omega)]
    have hN : nuP s p = (2, wrap64 (hvS s (p + 2) ((numN s p).1 - (p + 2)) : Int), { data := #[] }) := by unfold nuP; rw [if_pos hx]
    rw [hN]
    exact ⟨.inl ⟨rfl, by rw [show (numN s p).1 - p - 2 = (numN s p).1 - (p + 2) by omega], rfl⟩, hbel⟩
  · have hx' : ¬ (bat (s.extract p (numN s p).1) 0 = 48 ∧ bat (s.extract p (numN s p).1) 1 = 120) := by
      rintro ⟨h1, h2⟩
      have hl := lt_of_bat h2 (by omega)
      rw [hb 0 (by omega)] at h1
      rw [hb 1 (by omega)] at h2
      exact hx ⟨h1, h2⟩
    refine (intOf_dec _ (by omega) hx' w hE).mono ?_
    rintro e' w' ⟨⟨x, rfl, hv⟩, hbel⟩
    rw [piece_dec s p hp hd hx] at hv ⊢
    refine ⟨?_, hbel⟩
    have hN : nuP s p = match (if nKd s p = true then none else dcS s p ((numN s p).1 - p)) with | some u => (2, (u : Int), { data := #[] }) | none => (3, 0, s.extract p (numN s p).1) := by unfold nuP; rw [if_neg hx]
    rw [hN]
    cases hc : (if nKd s p = true then none else dcS s p ((numN s p).1 - p)) with
    | some u =>
      rw [hc] at hv
      have := hv u rfl
      subst this
      exact .inl ⟨rfl, rfl, rfl⟩
    | none => exact .inr ⟨rfl, ⟨x, rfl⟩, rfl, rfl⟩

set_option maxRecDepth 100000 in
set_option maxHeartbeats 6400000 in
theorem readNumber_any {fr : Int} (s : ByteArray) (hm : s.size ≤ 70000) (b t : Nat) (w : World) (m : Value) (p : Nat) (l ln : Int) (hp : p < s.size) (hd : digB (bat s p) = true) (hbt : b ≠ t) (hS : ScAt b w s m fr p l false) (hT : TkAt t w 0 p 0 ln 0 ByteArray.empty) (hE : Errs w) (hEb : 9 ≤ b) (hEt : 9 ≤ t) :
    Calls Tryd.prog 41 #[.pointer (some ⟨b, 0, none⟩), .pointer (some ⟨t, 0, none⟩)] w fun e w' => e = .returned (.tuple #[]) ∧ Fr2 b t w w' ∧
      (if (numN s p).2 = true then ScAt b w' s m fr ((numN s p).1 : Int) l false ∧ TkAt t w' (nuP s p).1 p 0 ln (nuP s p).2.1 (nuP s p).2.2 else ScAt b w' s m fr ((numN s p).1 : Int) l true ∧ TkAt t w' 0 p 0 ln 0 ByteArray.empty) := by
  have hbw : b < w.heap.size := lt_of_block hS
  have htw : t < w.heap.size := lt_of_block hT
  have bd := numN_bd s p hp
  have kn := fun w => numberEnd_any s (by omega) p hp w
  have ki := fun hok w hE => intOf_piece s (by omega) p hp hd hok w hE
  obtain ⟨c0, c1, c2, c3, c4, f2, f3, f4⟩ := sc_cells hS
  obtain ⟨t0, t1, t2, t3, t4, t5, tf⟩ := tk_cells hT
  generalize nuP s p = NP at ki
  obtain ⟨n1, n2, n3⟩ := NP
  generalize numN s p = NN at kn bd ki
  obtain ⟨E, ok⟩ := NN
  simp only at kn bd ki ⊢
  cases ok with
  | false =>
    simp only [Bool.false_eq_true, if_false]
    go_enter Tryd.func41, Tryd.ntmps41
    go_upto_region 0 with fail
    go_quiet ((go_at_call 49; exact Calls.quiet_of_same (kn _)))
    have hS1 := (hS.drewN nq).setP (E : Int)
    have hT1 := (hT.drewN nq).other (a := ⟨b, 3, none⟩) (Ne.symm hbt) (.int .i64 (E : Int))
    have hf1 := ((Fr2.refl b t w).drewN nq).setB 3 (.int .i64 (E : Int))
    go_wp2
    refine bodyPost_ret (results_none rfl _ _ _) rfl ?_
    exact ⟨rfl, hf1.setB 5 _, hS1.setK _, hT1.other (Ne.symm hbt) _⟩
  | true =>
    simp only [if_true]
    have ki' := ki rfl
    clear ki
    go_enter Tryd.func41, Tryd.ntmps41
    go_upto_region 0 with fail
    go_quiet ((go_at_call 49; exact Calls.quiet_of_same (kn _)))
    have hS1 := (hS.drewN nq).setP (E : Int)
    have hT1 := (hT.drewN nq).other (a := ⟨b, 3, none⟩) (Ne.symm hbt) (.int .i64 (E : Int))
    have hf1 := ((Fr2.refl b t w).drewN nq).setB 3 (.int .i64 (E : Int))
    have hE1 : Errs ((w.drewN nq).setCell ⟨b, 3, none⟩ (.int .i64 (E : Int))) := by
      obtain ⟨⟨t1, p1, h1⟩, ⟨t2, p2, h2⟩⟩ := hE
      refine ⟨⟨t1, p1, ?_⟩, ⟨t2, p2, ?_⟩⟩
      · unfold World.cell? at h1 ⊢; rw [heap_setCell_other _ _ _ _ (by simp; omega)]; exact h1
      · unfold World.cell? at h2 ⊢; rw [heap_setCell_other _ _ _ _ (by simp; omega)]; exact h2
    go_upto_region 4 with fail
    generalize (w.drewN nq).setCell ⟨b, 3, none⟩ (.int .i64 (E : Int)) = W1 at hS1 hT1 hf1 hE1 ⊢
    clear c0 c1 c2 c3 c4 f2 f3 f4 t0 t1 t2 t3 t4 t5 tf kn
    obtain ⟨c0, c1, c2, c3, c4, f2, f3, f4⟩ := sc_cells hS1
    obtain ⟨t0, t1, t2, t3, t4, t5, tf⟩ := tk_cells hT1
    go_quiet (fail)
    have hS2 := hS1.drewN nq
    have hT2 := hT1.drewN nq
    have hf2 := hf1.drewN nq
    have hE2 : Errs (W1.drewN nq) := ⟨hE1.syn, hE1.rng⟩
    generalize W1.drewN nq = W2 at hS2 hT2 hf2 hE2 ⊢
    clear c0 c1 c2 c3 c4 f2 f3 f4 t0 t1 t2 t3 t4 t5 tf hS1 hT1 hf1 hE1 hE
    have hx1 : b < W2.heap.size := lt_of_block hS2
    have hx2 : t < W2.heap.size := lt_of_block hT2
    have hxs : (s.extract p E).size ≤ 70000 := by rw [ByteArray.size_extract]; omega
    have kc := fun w => clone_any (s.extract p E) (by omega) w
    have kj := ki' W2 hE2
    clear ki'
    generalize s.extract p E = q at kc kj hxs ⊢
    go_wp2_with (go_at_call 50; fail)
    refine kj.mono ?_
    rintro e w3 ⟨(⟨rfl, rfl, rfl⟩ | ⟨rfl, ⟨x, rfl⟩, rfl, rfl⟩), hb3⟩
    · have hS3 := hS2.below hb3 hx1
      have hT3 := hT2.below hb3 hx2
      have hf3 := hf2.below (hb3.mono hf2.size)
      clear hb3 kj kc
      obtain ⟨t0, t1, t2, t3, t4, t5, tf⟩ := tk_cells hT3
      go_wp2
      refine bodyPost_ret (results_none rfl _ _ _) rfl ?_
      exact ⟨rfl, (hf3.setT 0 _).setT 4 _, (hS3.other hbt _).other hbt _, (hT3.setKind _).setNum _⟩
    · have hS3 := hS2.below hb3 hx1
      have hT3 := hT2.below hb3 hx2
      have hf3 := hf2.below (hb3.mono hf2.size)
      have hx3 : b < w3.heap.size := lt_of_block hS3
      have hx4 : t < w3.heap.size := lt_of_block hT3
      clear hb3 kj
      go_wp2_with (go_at_call 48; refine (kc _).mono ?_; rintro e w4 ⟨rfl, hb4⟩; have hS4 := hS3.below hb4 hx3; have hT4 := hT3.below hb4 hx4; have hf4 := hf3.below (hb4.mono hf3.size); have tf4 := (tk_cells hT4).2.2.2.2.2.2; have y0 := (tk_cells hT4).1; have y5 := (tk_cells hT4).2.2.2.2.2.1; clear hb4)
      go_end0
      exact ⟨rfl, (hf4.setT 0 _).setT 5 _, (hS4.other hbt _).other hbt _, (hT4.setKind _).setText _⟩
end Go.Proofs.YtlmkmihbbnjngaaDoor
