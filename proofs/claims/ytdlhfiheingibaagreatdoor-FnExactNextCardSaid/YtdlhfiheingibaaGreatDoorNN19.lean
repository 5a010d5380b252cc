import Derived.Test.YtdlhfiheingibaaGreatDoorNN08
import Derived.Deep.RegionWith
namespace Go.Proofs.YtdlhfiheingibaaGreatDoor
open Go.RowKit Go.Maps Go.WideMaps
set_option linter.unusedVariables false

/-- The kind and the text of the word or name at p. -/
def wdP (s : ByteArray) (p : Nat) : Int × ByteArray := match fnd wordV (s.extract p (nmE s (s.size + 1) p)) 22 0 with | some k => (10 + (k : Int), { data := #[] }) | none => (1, s.extract p (nmE s (s.size + 1) p))
theorem wdT_P (s : ByteArray) (p : Nat) : wdT s p = .agg #[.int .i64 (wdP s p).1, .int .i64 p, .int .i64 (nmE s (s.size + 1) p), .int .i64 0, .int .i64 0, .string (wdP s p).2] := by
  unfold wdT wdP
  cases fnd wordV (s.extract p (nmE s (s.size + 1) p)) 22 0 <;> rfl
theorem map_fr2 {b t mb n : Nat} {w w' : World} {D : DataW Unit} (h : w.ownsMap Tryz.prog 9 (plainElem (H := Unit) Tryz.prog 3) mb n D) (hf : Fr2 b t w w') (h1 : mb ≠ b) (h2 : mb ≠ t) : w'.ownsMap Tryz.prog 9 (plainElem (H := Unit) Tryz.prog 3) mb n D := by
  obtain ⟨es, clock, hh, rest⟩ := h
  exact ⟨es, clock, (hf.block mb (lt_of_block hh) h1 h2).trans hh, rest⟩

set_option maxRecDepth 100000 in
set_option maxHeartbeats 6400000 in
theorem readName_any {fr : Int} (s : ByteArray) (hm : s.size ≤ 70000) (b t mb : Nat) (w : World) (p : Nat) (l ln : Int) (hp : p < s.size) (hbt : b ≠ t) (hmb : mb ≠ b) (hmt : mb ≠ t) (hS : ScAt b w s (.map (some mb)) fr p l false) (hT : TkAt t w 0 p 0 ln 0 ByteArray.empty) (hM : w.ownsMap Tryz.prog 9 (plainElem (H := Unit) Tryz.prog 3) mb 22 (wkD 22)) :
    Calls Tryz.prog 62 #[.pointer (some ⟨b, 0, none⟩), .pointer (some ⟨t, 0, none⟩)] w fun e w' => e = .returned (.tuple #[]) ∧ Fr2 b t w w' ∧ ScAt b w' s (.map (some mb)) fr (nmE s (s.size + 1) p : Int) l false ∧ TkAt t w' (wdP s p).1 p 0 ln 0 (wdP s p).2 := by
  have hbw : b < w.heap.size := lt_of_block hS
  have htw : t < w.heap.size := lt_of_block hT
  have bd := nmE_bd s (s.size + 1) p (Nat.le_of_lt hp)
  have kn := fun w => nameEnd_any s (by omega) p (Nat.le_of_lt hp) w
  obtain ⟨c0, c1, c2, c3, c4, f2, f3, f4⟩ := sc_cells hS
  obtain ⟨t0, t1, t2, t3, t4, t5, tf⟩ := tk_cells hT
  unfold wdP
  generalize nmE s (s.size + 1) p = E at kn bd
  obtain ⟨R, hR⟩ : ∃ R, fnd wordV (s.extract p E) 22 0 = R := ⟨_, rfl⟩
  rw [hR]
  have HR : Hid (fnd wordV (s.extract p E) 22 0 = R) := hR
  clear hR
  go_enter Tryz.func62, Tryz.ntmps62
  go_upto_region 0 with fail
  go_cut [16] from 7 (fun s16 wx => s16 = .int .i64 (E : Int) ∧ Fr2 b t w wx ∧ ScAt b wx s (.map (some mb)) fr E l false ∧ TkAt t wx 0 p 0 ln 0 ByteArray.empty)
  case first =>
    go_region_with (first | (go_at_call 76; refine (kn _).mono ?_; rintro e w' ⟨rfl, hw'⟩; obtain rfl := hw'.symm))
    all_goals
      go_wp2_with fail
      go_meet
      case rel => exact ⟨rfl, ((Fr2.refl b t w).setB 3 _).drew, hS.setP _, hT.other (Ne.symm hbt) _⟩
  case rest =>
    obtain ⟨rfl, hf1, hS1, hT1⟩ := hcut
    clear c0 c1 c2 c3 c4 f2 f3 f4 t0 t1 t2 t3 t4 t5 tf
    have hM1 := map_fr2 hM hf1 hmb hmt
    obtain ⟨c0, c1, c2, c3, c4, f2, f3, f4⟩ := sc_cells hS1
    obtain ⟨t0, t1, t2, t3, t4, t5, tf⟩ := tk_cells hT1
    go_upto_region 1 with fail
    go_quiet (fail)
    have hS2 := hS1.drewN nq
    have hT2 := hT1.drewN nq
    have hf2 := hf1.drewN nq
    have hM2 : (wc.drewN nq).ownsMap Tryz.prog 9 (plainElem (H := Unit) Tryz.prog 3) mb 22 (wkD 22) := hM1
    generalize wc.drewN nq = W2 at hS2 hT2 hf2 hM2 ⊢
    clear c0 c1 c2 c3 c4 f2 f3 f4 t0 t1 t2 t3 t4 t5 tf hS1 hT1 hf1 hM1 hM
    obtain ⟨c0, c1, c2, c3, c4, f2, f3, f4⟩ := sc_cells hS2
    obtain ⟨t0, t1, t2, t3, t4, t5, tf⟩ := tk_cells hT2
    have hx1 : b < W2.heap.size := lt_of_block hS2
    have hx2 : t < W2.heap.size := lt_of_block hT2
    have hxs : (s.extract p E).size ≤ 70000 := by rw [ByteArray.size_extract]; omega
    have hkey : keyOf Tryz.prog 9 (.string (s.extract p E)) = some (.string (s.extract p E).data.toList) := keyOf_string_mk Tryz.underlying9 (by unfold maxLen; omega)
    have hhas := has_word (H := Unit) (s.extract p E)
    have kc := fun w => clone_any (s.extract p E) (by omega) w
    unfold isWd at hhas
    rw [HR.out] at hhas
    cases R with
    | some k =>
      have hatw := at_word (H := Unit) (s.extract p E) k HR.out
      have hh : Maps.has (wkD (H := Unit) 22) (.string (s.extract p E).data.toList) = true := hhas
      clear hhas
      generalize s.extract p E = q at hkey hatw hh kc hxs ⊢
      go_wp2_with (at_lookup; refine wpList_lookup_own_ok_int _ rfl _ _ 60 rfl 9 3 .i64 kLaw Tryz.underlying60 Tryz.underlying3 (by kernel_rfl) mb 22 _ rfl hM2 _ _ rfl hkey ?_; intro c2' hat hwc; rw [hh]; rw [hatw] at hat; obtain rfl : 10 + (k : Int) = c2' := by injection hat with hat; injection hat)
      refine bodyPost_ret (results_none rfl _ _ _) rfl ?_
      exact ⟨rfl, hf2.setT 0 _, hS2.other hbt _, hT2.setKind _⟩
    | none =>
      have hh : Maps.has (wkD (H := Unit) 22) (.string (s.extract p E).data.toList) = false := hhas
      clear hhas
      obtain ⟨q, hq⟩ : ∃ q, s.extract p E = q := ⟨_, rfl⟩
      rw [hq] at hkey hh kc hxs ⊢
      have HQ : Hid (s.extract p E = q) := hq
      clear hq
      go_wp2_with (first | (at_lookup; refine wpList_lookup_own_ok_int _ rfl _ _ 60 rfl 9 3 .i64 kLaw Tryz.underlying60 Tryz.underlying3 (by kernel_rfl) mb 22 _ rfl hM2 _ _ rfl hkey ?_; intro c2' hat hwc; rw [hh]) | (go_at_call 77; refine (kc _).mono ?_; rintro e w3 ⟨rfl, hb3⟩; have hS3 := hS2.below hb3 hx1; have hT3 := hT2.below hb3 hx2; have hf3 := hf2.below (hb3.mono hf2.size); have tf3 := (tk_cells hT3).2.2.2.2.2.2; have y0 := (tk_cells hT3).1; have y5 := (tk_cells hT3).2.2.2.2.2.1; clear hb3))
      go_end0
      exact ⟨rfl, (hf3.setT 0 _).setT 5 _, (hS3.other hbt _).other hbt _, by rw [HQ.out]; exact (hT3.setKind _).setText _⟩
end Go.Proofs.YtdlhfiheingibaaGreatDoor

namespace Go.Proofs.YtdlhfiheingibaaGreatDoor
open Go.RowKit Go.Maps Go.WideMaps
set_option linter.unusedVariables false

theorem ext_bat (s : ByteArray) (a b i : Nat) (hb : b ≤ s.size) (hi : a + i < b) : bat (s.extract a b) i = bat s (a + i) := by
  rw [bat_of, bat_of]
  have e : (s.extract a b).data.toList = (s.data.toList.drop a).take (b - a) := by rw [← ByteArray.toList_eq, Lib.extract_toList]
  rw [e, List.getElem?_take, if_pos (by omega), List.getElem?_drop]
theorem ext_size (s : ByteArray) (a b : Nat) (hb : b ≤ s.size) : (s.extract a b).size = b - a := by rw [ByteArray.size_extract]; omega
theorem hvS_ext (s : ByteArray) (a b p : Nat) (hb : b ≤ s.size) : ∀ n, a + p + n ≤ b → hvS (s.extract a b) p n = hvS s (a + p) n
  | 0, _ => rfl
  | n + 1, h => by
    rw [hvS, hvS, hvS_ext s a b p hb n (by omega), ext_bat s a b (p + n) hb (by omega), Nat.add_assoc]
theorem dcS_ext (s : ByteArray) (a b p : Nat) (hb : b ≤ s.size) : ∀ n, a + p + n ≤ b → dcS (s.extract a b) p n = dcS s (a + p) n
  | 0, _ => rfl
  | n + 1, h => by
    rw [dcS, dcS, dcS_ext s a b p hb n (by omega), ext_bat s a b (p + n) hb (by omega), Nat.add_assoc]

def nuP (s : ByteArray) (p : Nat) : Int × Int × ByteArray :=
  if bat s p = 48 ∧ bat s (p + 1) = 120 then (2, wrap64 (hvS s (p + 2) ((numN s p).1 - (p + 2)) : Int), { data := #[] })
  else match (if nKd s p = true then none else dcS s p ((numN s p).1 - p)) with
    | some u => (2, (u : Int), { data := #[] })
    | none => (3, 0, s.extract p (numN s p).1)
theorem numA_P (s : ByteArray) (p : Nat) (hok : (numN s p).2 = true) : numA s p = .agg #[.int .i64 (nuP s p).1, .int .i64 p, .int .i64 ((numN s p).1 : Int), .int .i64 0, .int .i64 (nuP s p).2.1, .string (nuP s p).2.2] ∧ numF s p = -1 := by
  unfold numA numF nuP
  by_cases hx : bat s p = 48 ∧ bat s (p + 1) = 120
  · have e : numN s p = hexN s (p + 2) := by unfold numN; rw [if_pos hx]
    rw [e] at hok ⊢
    simp only [if_pos hx]
    unfold hxA hxF
    rw [if_pos hok, if_pos hok]
    exact ⟨rfl, rfl⟩
  · have e : numN s p = nEx s (nA1 s (nA0 s p)) := by unfold numN; rw [if_neg hx]
    rw [e] at hok ⊢
    simp only [if_neg hx]
    unfold nmA nmF
    rw [if_pos hok, if_pos hok]
    cases nKd s p with
    | true => exact ⟨rfl, rfl⟩
    | false =>
      simp only [if_neg (show ¬ false = true by simp)]
      cases dcS s p ((nEx s (nA1 s (nA0 s p))).1 - p) <;> exact ⟨rfl, by trivial⟩
theorem numF_bad (s : ByteArray) (p : Nat) (hok : (numN s p).2 = false) : numF s p = ((numN s p).1 : Int) := by
  unfold numF
  by_cases hx : bat s p = 48 ∧ bat s (p + 1) = 120
  · have e : numN s p = hexN s (p + 2) := by unfold numN; rw [if_pos hx]
    rw [e] at hok ⊢
    rw [if_pos hx]
    unfold hxF
    rw [if_neg (by rw [hok]; simp)]
  · have e : numN s p = nEx s (nA1 s (nA0 s p)) := by unfold numN; rw [if_neg hx]
    rw [e] at hok ⊢
    rw [if_neg hx]
    unfold nmF
    rw [if_neg (by rw [hok]; simp)]

theorem piece_dec (s : ByteArray) (p : Nat) (hp : p < s.size) (hd : digB (bat s p) = true) (hx : ¬ (bat s p = 48 ∧ bat s (p + 1) = 120)) : decI (s.extract p (numN s p).1) = Option.map (fun u : Nat => (u : Int)) (if nKd s p = true then none else dcS s p ((numN s p).1 - p)) := by
  have bd := numN_bd s p hp
  have hz := ext_size s p (numN s p).1 bd.2
  have hb : ∀ i, p + i < (numN s p).1 → bat (s.extract p (numN s p).1) i = bat s (p + i) := fun i hi => ext_bat s p _ i bd.2 hi
  have h0 : digB (bat (s.extract p (numN s p).1) 0) = true := by rw [hb 0 (by omega)]; exact hd
  have e : numN s p = nEx s (nA1 s (nA0 s p)) := by unfold numN; rw [if_neg hx]
  have bA0 := nA0_bd s p hp
  have bA1 := nA1_bd s _ bA0.2
  have bE := nEx_bd s _ bA1.2
  cases hk : nKd s p with
  | false =>
    obtain ⟨h1, h2⟩ := dec_all s p hd hk
    have eN : (numN s p).1 = nA0 s p := by rw [e, h1]
    rw [decI_dig _ (by omega) (fun i hi => by rw [hb i (by omega)]; exact h2 _ (by omega) (by omega))]
    rw [hz, dcS_ext s p _ 0 bd.2 _ (by omega), Nat.add_zero]
    simp
  | true =>
    simp only [if_true, Option.map_none]
    unfold nKd at hk
    rcases of_decide_eq_true hk with h | h
    · have hl : nA0 s p < (numN s p).1 := by
        have : nA0 s p < nA1 s (nA0 s p) := by
          unfold nA1; rw [if_pos h]
          have := digE_bd s (nA0 s p + 1) (by have := dig_lt h.2; omega)
          omega
        rw [e]; omega
      exact decI_bad _ h0 (nA0 s p - p) (by omega) (by rw [hb _ (by omega), show p + (nA0 s p - p) = nA0 s p by omega, h.1]; decide)
    · have hl : nA1 s (nA0 s p) < (numN s p).1 := by
        have h2 := nA2_bd s _ h
        have h3 := digE_bd s _ h2.2
        rw [e]
        unfold nEx
        rw [if_pos h]
        simp only
        omega
      exact decI_bad _ h0 (nA1 s (nA0 s p) - p) (by omega) (by rw [hb _ (by omega), show p + (nA1 s (nA0 s p) - p) = nA1 s (nA0 s p) by omega, h]; decide)

/-- intOf of the piece that numberEnd has found. -/
theorem intOf_piece (s : ByteArray) (hm : s.size ≤ 1100000) (p : Nat) (hp : p < s.size) (hd : digB (bat s p) = true) (hok : (numN s p).2 = true) (w : World) (hE : Errs w) :
    Calls Tryz.prog 79 #[.string (s.extract p (numN s p).1)] w fun e w' => (((nuP s p).1 = 2 ∧ e = .returned (.tuple #[.int .i64 (nuP s p).2.1, .bool true]) ∧ (nuP s p).2.2 = { data := #[] }) ∨ ((nuP s p).1 = 3 ∧ (∃ x, e = .returned (.tuple #[.int .i64 x, .bool false])) ∧ (nuP s p).2.1 = 0 ∧ (nuP s p).2.2 = s.extract p (numN s p).1)) ∧ Below w.heap.size w w' := by
  have bd := numN_bd s p hp
  have hz := ext_size s p (numN s p).1 bd.2
  have hb : ∀ i, p + i < (numN s p).1 → bat (s.extract p (numN s p).1) i = bat s (p + i) := fun i hi => ext_bat s p _ i bd.2 hi
  by_cases hx : bat s p = 48 ∧ bat s (p + 1) = 120
  · have e : numN s p = hexN s (p + 2) := by unfold numN; rw [if_pos hx]
    have hh : hexN s (p + 2) = ((numN s p).1, true) := by rw [← e]; exact Prod.ext rfl hok
    obtain ⟨g1, g2, g3, g4⟩ := hexN_yes hh
    refine (intOf_hex _ (by rw [hb 0 (by omega)]; exact hx.1) (by rw [hb 1 (by omega)]; exact hx.2) (by omega) (by omega) (fun i h1 h2 => by rw [hb i (by omega)]; exact g4 _ (by omega) (by omega)) w).mono ?_
    rintro e' w' ⟨rfl, hbel⟩
    rw [hz, hvS_ext s p _ 2 bd.2 _ (by omega)]
    have hN : nuP s p = (2, wrap64 (hvS s (p + 2) ((numN s p).1 - (p + 2)) : Int), { data := #[] }) := by unfold nuP; rw [if_pos hx]
    rw [hN]
    exact ⟨.inl ⟨rfl, by rw [show (numN s p).1 - p - 2 = (numN s p).1 - (p + 2) by omega], rfl⟩, hbel⟩
  · have hx' : ¬ (bat (s.extract p (numN s p).1) 0 = 48 ∧ bat (s.extract p (numN s p).1) 1 = 120) := by
      rintro ⟨h1, h2⟩
      have hl := lt_of_bat h2 (by omega)
      rw [hb 0 (by omega)] at h1
      rw [hb 1 (by omega)] at h2
      exact hx ⟨h1, h2⟩
    refine (intOf_dec _ (by omega) hx' w hE).mono ?_
    rintro e' w' ⟨⟨x, rfl, hv⟩, hbel⟩
    rw [piece_dec s p hp hd hx] at hv ⊢
    refine ⟨?_, hbel⟩
    have hN : nuP s p = match (if nKd s p = true then none else dcS s p ((numN s p).1 - p)) with | some u => (2, (u : Int), { data := #[] }) | none => (3, 0, s.extract p (numN s p).1) := by unfold nuP; rw [if_neg hx]
    rw [hN]
    cases hc : (if nKd s p = true then none else dcS s p ((numN s p).1 - p)) with
    | some u =>
      rw [hc] at hv
      have := hv u rfl
      subst this
      exact .inl ⟨rfl, rfl, rfl⟩
    | none => exact .inr ⟨rfl, ⟨x, rfl⟩, rfl, rfl⟩

set_option maxRecDepth 100000 in
set_option maxHeartbeats 6400000 in
theorem readNumber_any {fr : Int} (s : ByteArray) (hm : s.size ≤ 70000) (b t : Nat) (w : World) (m : Value) (p : Nat) (l ln : Int) (hp : p < s.size) (hd : digB (bat s p) = true) (hbt : b ≠ t) (hS : ScAt b w s m fr p l false) (hT : TkAt t w 0 p 0 ln 0 ByteArray.empty) (hE : Errs w) (hEb : 10 ≤ b) (hEt : 10 ≤ t) :
    Calls Tryz.prog 64 #[.pointer (some ⟨b, 0, none⟩), .pointer (some ⟨t, 0, none⟩)] w fun e w' => e = .returned (.tuple #[]) ∧ Fr2 b t w w' ∧
      (if (numN s p).2 = true then ScAt b w' s m fr ((numN s p).1 : Int) l false ∧ TkAt t w' (nuP s p).1 p 0 ln (nuP s p).2.1 (nuP s p).2.2 else ScAt b w' s m fr ((numN s p).1 : Int) l true ∧ TkAt t w' 0 p 0 ln 0 ByteArray.empty) := by
  have hbw : b < w.heap.size := lt_of_block hS
  have htw : t < w.heap.size := lt_of_block hT
  have bd := numN_bd s p hp
  have kn := fun w => numberEnd_any s (by omega) p hp w
  have ki := fun hok w hE => intOf_piece s (by omega) p hp hd hok w hE
  obtain ⟨c0, c1, c2, c3, c4, f2, f3, f4⟩ := sc_cells hS
  obtain ⟨t0, t1, t2, t3, t4, t5, tf⟩ := tk_cells hT
  generalize nuP s p = NP at ki
  obtain ⟨n1, n2, n3⟩ := NP
  generalize numN s p = NN at kn bd ki
  obtain ⟨E, ok⟩ := NN
  simp only at kn bd ki ⊢
  cases ok with
  | false =>
    simp only [Bool.false_eq_true, if_false]
    go_enter Tryz.func64, Tryz.ntmps64
    go_upto_region 0 with fail
    go_quiet ((go_at_call 78; exact Calls.quiet_of_same (kn _)))
    have hS1 := (hS.drewN nq).setP (E : Int)
    have hT1 := (hT.drewN nq).other (a := ⟨b, 3, none⟩) (Ne.symm hbt) (.int .i64 (E : Int))
    have hf1 := ((Fr2.refl b t w).drewN nq).setB 3 (.int .i64 (E : Int))
    go_wp2
    refine bodyPost_ret (results_none rfl _ _ _) rfl ?_
    exact ⟨rfl, hf1.setB 5 _, hS1.setK _, hT1.other (Ne.symm hbt) _⟩
  | true =>
    simp only [if_true]
    have ki' := ki rfl
    clear ki
    go_enter Tryz.func64, Tryz.ntmps64
    go_upto_region 0 with fail
    go_quiet ((go_at_call 78; exact Calls.quiet_of_same (kn _)))
    have hS1 := (hS.drewN nq).setP (E : Int)
    have hT1 := (hT.drewN nq).other (a := ⟨b, 3, none⟩) (Ne.symm hbt) (.int .i64 (E : Int))
    have hf1 := ((Fr2.refl b t w).drewN nq).setB 3 (.int .i64 (E : Int))
    have hE1 : Errs ((w.drewN nq).setCell ⟨b, 3, none⟩ (.int .i64 (E : Int))) := by
      obtain ⟨⟨t1, p1, h1⟩, ⟨t2, p2, h2⟩⟩ := hE
      refine ⟨⟨t1, p1, ?_⟩, ⟨t2, p2, ?_⟩⟩
      · unfold World.cell? at h1 ⊢; rw [heap_setCell_other _ _ _ _ (by simp; omega)]; exact h1
      · unfold World.cell? at h2 ⊢; rw [heap_setCell_other _ _ _ _ (by simp; omega)]; exact h2
    go_upto_region 4 with fail
    generalize (w.drewN nq).setCell ⟨b, 3, none⟩ (.int .i64 (E : Int)) = W1 at hS1 hT1 hf1 hE1 ⊢
    clear c0 c1 c2 c3 c4 f2 f3 f4 t0 t1 t2 t3 t4 t5 tf kn
    obtain ⟨c0, c1, c2, c3, c4, f2, f3, f4⟩ := sc_cells hS1
    obtain ⟨t0, t1, t2, t3, t4, t5, tf⟩ := tk_cells hT1
    go_quiet (fail)
    have hS2 := hS1.drewN nq
    have hT2 := hT1.drewN nq
    have hf2 := hf1.drewN nq
    have hE2 : Errs (W1.drewN nq) := ⟨hE1.syn, hE1.rng⟩
    generalize W1.drewN nq = W2 at hS2 hT2 hf2 hE2 ⊢
    clear c0 c1 c2 c3 c4 f2 f3 f4 t0 t1 t2 t3 t4 t5 tf hS1 hT1 hf1 hE1 hE
    have hx1 : b < W2.heap.size := lt_of_block hS2
    have hx2 : t < W2.heap.size := lt_of_block hT2
    have hxs : (s.extract p E).size ≤ 70000 := by rw [ByteArray.size_extract]; omega
    have kc := fun w => clone_any (s.extract p E) (by omega) w
    have kj := ki' W2 hE2
    clear ki'
    generalize s.extract p E = q at kc kj hxs ⊢
    go_wp2_with (go_at_call 79; fail)
    refine kj.mono ?_
    rintro e w3 ⟨(⟨rfl, rfl, rfl⟩ | ⟨rfl, ⟨x, rfl⟩, rfl, rfl⟩), hb3⟩
    · have hS3 := hS2.below hb3 hx1
      have hT3 := hT2.below hb3 hx2
      have hf3 := hf2.below (hb3.mono hf2.size)
      clear hb3 kj kc
      obtain ⟨t0, t1, t2, t3, t4, t5, tf⟩ := tk_cells hT3
      go_wp2
      refine bodyPost_ret (results_none rfl _ _ _) rfl ?_
      exact ⟨rfl, (hf3.setT 0 _).setT 4 _, (hS3.other hbt _).other hbt _, (hT3.setKind _).setNum _⟩
    · have hS3 := hS2.below hb3 hx1
      have hT3 := hT2.below hb3 hx2
      have hf3 := hf2.below (hb3.mono hf2.size)
      have hx3 : b < w3.heap.size := lt_of_block hS3
      have hx4 : t < w3.heap.size := lt_of_block hT3
      clear hb3 kj
      go_wp2_with (go_at_call 77; refine (kc _).mono ?_; rintro e w4 ⟨rfl, hb4⟩; have hS4 := hS3.below hb4 hx3; have hT4 := hT3.below hb4 hx4; have hf4 := hf3.below (hb4.mono hf3.size); have tf4 := (tk_cells hT4).2.2.2.2.2.2; have y0 := (tk_cells hT4).1; have y5 := (tk_cells hT4).2.2.2.2.2.1; clear hb4)
      go_end0
      exact ⟨rfl, (hf4.setT 0 _).setT 5 _, (hS4.other hbt _).other hbt _, (hT4.setKind _).setText _⟩
end Go.Proofs.YtdlhfiheingibaaGreatDoor

namespace Go.Proofs.YtdlhfiheingibaaGreatDoor
open Go.RowKit Go.Maps Go.WideMaps
set_option linter.unusedVariables false

theorem oidx (k : Nat) (hk : k < 11) (w : World) : (Instr.index 121 (.agg othV) (.int .i64 (k : Int))).run Tryz.prog w = .ok (.string (strAt othV k)) w := by
  rcases (show k = 0 ∨ k = 1 ∨ k = 2 ∨ k = 3 ∨ k = 4 ∨ k = 5 ∨ k = 6 ∨ k = 7 ∨ k = 8 ∨ k = 9 ∨ k = 10 by omega) with rfl | rfl | rfl | rfl | rfl | rfl | rfl | rfl | rfl | rfl | rfl
  all_goals kernel_rfl
theorem bidx (k : Nat) (hk : k < 18) (w : World) : (Instr.index 122 (.agg binV) (.int .i64 (k : Int))).run Tryz.prog w = .ok (.string (strAt binV k)) w := by
  rcases (show k = 0 ∨ k = 1 ∨ k = 2 ∨ k = 3 ∨ k = 4 ∨ k = 5 ∨ k = 6 ∨ k = 7 ∨ k = 8 ∨ k = 9 ∨ k = 10 ∨ k = 11 ∨ k = 12 ∨ k = 13 ∨ k = 14 ∨ k = 15 ∨ k = 16 ∨ k = 17 by omega) with rfl | rfl | rfl | rfl | rfl | rfl | rfl | rfl | rfl | rfl | rfl | rfl | rfl | rfl | rfl | rfl | rfl | rfl
  all_goals kernel_rfl
theorem osz : ∀ k : Fin 11, (strAt othV k.val).size ≤ 3 := by decide
theorem bsz : ∀ k : Fin 18, (strAt binV k.val).size ≤ 3 := by decide

/-- The longest of a table's texts that a text begins with, f of them looked at, from i on. -/
def sgL (V : Array Value) (base : Int) (r : ByteArray) : Nat → Nat → Int × Nat → Int × Nat
  | 0, _, a => a
  | f + 1, i, a => sgL V base r f (i + 1) (if a.2 < (strAt V i).size ∧ Lib.hasPrefix r.data.toList (strAt V i).data.toList = true then (base + (i : Int), (strAt V i).size) else a)
structure SgIs (V : Array Value) (base : Int) (r : ByteArray) (f i : Nat) (a R : Int × Nat) : Prop where
  out : sgL V base r f i a = R
def skI (r : ByteArray) : Int := if bat r 0 = 59 then 5 else if bat r 0 = 10 then 7 else (sgL binV 61 r 18 0 (sgL othV 40 r 11 0 (0, 0))).1

set_option maxRecDepth 100000 in
set_option maxHeartbeats 800000 in
theorem signKind_any (r : ByteArray) (hm : r.size ≤ 70000) (h0 : 0 < r.size) (w : World) (hT : Tabs w) : Calls Tryz.prog 81 #[.string r] w fun e w' => e = .returned (.int .i64 (skI r)) ∧ w' = w := by
  unfold skI
  have i0 : ∀ w, (Instr.index 9 (.string r) (.int .i64 0)).run Tryz.prog w = .ok (.int .u8 (bat r 0)) w := fun w => idx_run h0 w
  by_cases h59 : bat r 0 = 59
  · rw [if_pos h59]
    rw [h59] at i0
    go_enter Tryz.func81, Tryz.ntmps81
    go_wp2
    go_ret
    exact ⟨rfl, rfl⟩
  rw [if_neg h59]
  by_cases h10 : bat r 0 = 10
  · rw [if_pos h10]
    rw [h10] at i0
    go_enter Tryz.func81, Tryz.ntmps81
    go_wp2
    go_ret
    exact ⟨rfl, rfl⟩
  rw [if_neg h10]
  have g59 : (bat r 0 == 59) = false := by rw [beq_eq_false_iff_ne]; exact h59
  have g10 : (bat r 0 == 10) = false := by rw [beq_eq_false_iff_ne]; exact h10
  generalize bat r 0 = c at i0 g59 g10
  clear h59 h10
  obtain ⟨-, ⟨t2, f2, hmk⟩, ⟨t3, f3, hbn⟩⟩ := hT
  have hoi := fun i hi w => oidx i hi w
  have hbi := fun i hi w => bidx i hi w
  obtain ⟨OV, hOV⟩ : ∃ OV : Array Value, othV = OV := ⟨_, rfl⟩
  obtain ⟨BV, hBV⟩ : ∃ BV : Array Value, binV = BV := ⟨_, rfl⟩
  have HOI : Hid (∀ i : Nat, i < 11 → ∀ w, (Instr.index 121 (.agg OV) (.int .i64 (i : Int))).run Tryz.prog w = .ok (.string (strAt othV i)) w) := by rw [← hOV]; exact hoi
  have HBI : Hid (∀ i : Nat, i < 18 → ∀ w, (Instr.index 122 (.agg BV) (.int .i64 (i : Int))).run Tryz.prog w = .ok (.string (strAt binV i)) w) := by rw [← hBV]; exact hbi
  rw [hOV] at hmk
  rw [hBV] at hbn
  have z1 : OV.size = 11 := by rw [← hOV]; rfl
  have z2 : BV.size = 18 := by rw [← hBV]; rfl
  clear hoi hbi hOV hBV
  obtain ⟨R1, hR1⟩ : ∃ R, sgL othV 40 r 11 0 (0, 0) = R := ⟨_, rfl⟩
  rw [hR1]
  obtain ⟨R2, hR2⟩ : ∃ R, sgL binV 61 r 18 0 R1 = R := ⟨_, rfl⟩
  rw [hR2]
  have HR1 : SgIs othV 40 r 11 0 (0, 0) R1 := ⟨hR1⟩
  have HR2 : SgIs binV 61 r 18 0 R1 R2 := ⟨hR2⟩
  clear hR1 hR2
  go_enter Tryz.func81, Tryz.ntmps81
  go_wp2_with (refine wpList_load_row rfl 121 _ rfl 2 rfl t2 _ f2 _ hmk Tryz.underlying121 rfl (by rw [z1]; kernel_rfl) ?_)
  go_loop [3, 4, 16] (fun vk vl vi => ∃ (i n : Nat) (k : Int), i ≤ 11 ∧ n ≤ 3 ∧ vk = .int .i64 k ∧ vl = .int .i64 n ∧ vi = .int .i64 i ∧ SgIs othV 40 r (11 - i) i (k, n) R1) (fun _ _ vi => 11 - (intOf vi).toNat)
  case atStart => exact ⟨0, 0, 0, by omega, by omega, rfl, rfl, rfl, HR1⟩
  case round =>
    obtain ⟨i, n, k, hi, hn, rfl, rfl, rfl, HF⟩ := hrel
    by_cases hlt : i < 11
    · have hix := HOI.out i hlt
      have hsz : (strAt othV i).size ≤ 3 := osz ⟨i, hlt⟩
      have hst := HF.out
      rw [show 11 - i = (11 - (i + 1)) + 1 by omega, sgL] at hst
      have kp := fun w => Tryz.strings_HasPrefix r (strAt othV i) w
      generalize strAt othV i = x at hix hsz hst kp
      by_cases h1 : n < x.size
      · have h1i : (n : Int) < (x.size : Int) := by omega
        by_cases h2 : Lib.hasPrefix r.data.toList x.data.toList = true
        · rw [if_pos ⟨h1, h2⟩] at hst
          have HS : SgIs othV 40 r (11 - (i + 1)) (i + 1) (40 + (i : Int), x.size) R1 := ⟨hst⟩
          rw [h2] at kp
          clear hst h2
          go_wp2_with (go_at_call 42; refine (kp _).mono ?_; rintro e w' ⟨rfl, rfl⟩)
          go_round
          case rel => exact ⟨i + 1, x.size, 40 + (i : Int), by omega, hsz, by go_num, rfl, by go_num, HS⟩
          case measure => simp [intOf]; omega
        · have h2' : Lib.hasPrefix r.data.toList x.data.toList = false := by simpa using h2
          rw [if_neg (fun h => h2 h.2)] at hst
          have HS : SgIs othV 40 r (11 - (i + 1)) (i + 1) (k, n) R1 := ⟨hst⟩
          rw [h2'] at kp
          clear hst h2 h2'
          go_wp2_with (go_at_call 42; refine (kp _).mono ?_; rintro e w' ⟨rfl, rfl⟩)
          go_round
          case rel => exact ⟨i + 1, n, k, by omega, hn, rfl, rfl, by go_num, HS⟩
          case measure => simp [intOf]; omega
      · have h1i : ¬ (n : Int) < (x.size : Int) := by omega
        rw [if_neg (fun h => h1 h.1)] at hst
        have HS : SgIs othV 40 r (11 - (i + 1)) (i + 1) (k, n) R1 := ⟨hst⟩
        clear hst
        go_wp2
        go_round
        case rel => exact ⟨i + 1, n, k, by omega, hn, rfl, rfl, by go_num, HS⟩
        case measure => simp [intOf]; omega
    · obtain rfl : i = 11 := by omega
      have hst := HF.out
      rw [Nat.sub_self, sgL] at hst
      subst hst
      clear HF HR1
      go_wp2_with (refine wpList_load_row rfl 122 _ rfl 3 rfl t3 _ f3 _ hbn Tryz.underlying122 rfl (by rw [z2]; kernel_rfl) ?_)
      go_loop [3, 4, 35] (fun vk vl vi => ∃ (i n : Nat) (k : Int), i ≤ 18 ∧ n ≤ 3 ∧ vk = .int .i64 k ∧ vl = .int .i64 n ∧ vi = .int .i64 i ∧ SgIs binV 61 r (18 - i) i (k, n) R2) (fun _ _ vi => 18 - (intOf vi).toNat)
      case atStart => exact ⟨0, n, k, by omega, hn, rfl, rfl, rfl, HR2⟩
      case round =>
        obtain ⟨i, n, k, hi, hn, rfl, rfl, rfl, HF⟩ := hrel
        by_cases hlt : i < 18
        · have hix := HBI.out i hlt
          have hsz : (strAt binV i).size ≤ 3 := bsz ⟨i, hlt⟩
          have hst := HF.out
          rw [show 18 - i = (18 - (i + 1)) + 1 by omega, sgL] at hst
          have kp := fun w => Tryz.strings_HasPrefix r (strAt binV i) w
          generalize strAt binV i = x at hix hsz hst kp
          by_cases h1 : n < x.size
          · have h1i : (n : Int) < (x.size : Int) := by omega
            by_cases h2 : Lib.hasPrefix r.data.toList x.data.toList = true
            · rw [if_pos ⟨h1, h2⟩] at hst
              have HS : SgIs binV 61 r (18 - (i + 1)) (i + 1) (61 + (i : Int), x.size) R2 := ⟨hst⟩
              rw [h2] at kp
              clear hst h2
              go_wp2_with (go_at_call 42; refine (kp _).mono ?_; rintro e w' ⟨rfl, rfl⟩)
              go_round
              case rel => exact ⟨i + 1, x.size, 61 + (i : Int), by omega, hsz, by go_num, rfl, by go_num, HS⟩
              case measure => simp [intOf]; omega
            · have h2' : Lib.hasPrefix r.data.toList x.data.toList = false := by simpa using h2
              rw [if_neg (fun h => h2 h.2)] at hst
              have HS : SgIs binV 61 r (18 - (i + 1)) (i + 1) (k, n) R2 := ⟨hst⟩
              rw [h2'] at kp
              clear hst h2 h2'
              go_wp2_with (go_at_call 42; refine (kp _).mono ?_; rintro e w' ⟨rfl, rfl⟩)
              go_round
              case rel => exact ⟨i + 1, n, k, by omega, hn, rfl, rfl, by go_num, HS⟩
              case measure => simp [intOf]; omega
          · have h1i : ¬ (n : Int) < (x.size : Int) := by omega
            rw [if_neg (fun h => h1 h.1)] at hst
            have HS : SgIs binV 61 r (18 - (i + 1)) (i + 1) (k, n) R2 := ⟨hst⟩
            clear hst
            go_wp2
            go_round
            case rel => exact ⟨i + 1, n, k, by omega, hn, rfl, rfl, by go_num, HS⟩
            case measure => simp [intOf]; omega
        · obtain rfl : i = 18 := by omega
          have hst := HF.out
          rw [Nat.sub_self, sgL] at hst
          subst hst
          clear HF HR2
          go_wp2
          go_ret
          exact ⟨rfl, rfl⟩
end Go.Proofs.YtdlhfiheingibaaGreatDoor

namespace Go.Proofs.YtdlhfiheingibaaGreatDoor
open Go.RowKit Go.Maps Go.WideMaps
set_option linter.unusedVariables false

theorem Tabs.setCell {w : World} (h : Tabs w) {a : Addr} (ha : 10 ≤ a.block) (v : Value) : Tabs (w.setCell a v) := by
  obtain ⟨⟨t1, f1, h1⟩, ⟨t2, f2, h2⟩, ⟨t3, f3, h3⟩⟩ := h
  exact ⟨⟨t1, f1, (heap_setCell_other w a _ v (by omega)).trans h1⟩, ⟨t2, f2, (heap_setCell_other w a _ v (by omega)).trans h2⟩, ⟨t3, f3, (heap_setCell_other w a _ v (by omega)).trans h3⟩⟩
theorem Tabs.drewN {w : World} (h : Tabs w) (n : Nat) : Tabs (w.drewN n) := ⟨h.word, h.mark, h.bin⟩
theorem fix_size_nat : ∀ k : Fin 79, (fixI (k.val : Int)).size ≤ 6 := by decide +kernel
theorem fix_size (k : Int) : (fixI k).size ≤ 6 := by
  by_cases h : 0 ≤ k ∧ k ≤ 78
  · have := fix_size_nat ⟨k.toNat, by omega⟩
    simp only [show ((k.toNat : Nat) : Int) = k by omega] at this
    exact this
  · unfold fixI
    rw [if_neg (by omega), if_neg (by omega), if_neg (by omega), if_neg (by omega), if_neg (by omega)]
    decide
theorem sgL_in (V : Array Value) (base : Int) (r : ByteArray) (hb : 0 ≤ base) (N : Int) : ∀ (f i : Nat) (a : Int × Nat), 0 ≤ a.1 → a.1 ≤ N → base + ((i + f : Nat) : Int) ≤ N + 1 → 0 ≤ (sgL V base r f i a).1 ∧ (sgL V base r f i a).1 ≤ N
  | 0, i, a, h0, h1, _ => ⟨h0, h1⟩
  | f + 1, i, a, h0, h1, h2 => by
    unfold sgL
    refine sgL_in V base r hb N f (i + 1) _ ?_ ?_ (by omega)
    · split
      · simp only; omega
      · exact h0
    · split
      · simp only; omega
      · exact h1
theorem skI_in (r : ByteArray) : 0 ≤ skI r ∧ skI r ≤ 78 := by
  unfold skI
  split
  · omega
  split
  · omega
  have h1 := sgL_in othV 40 r (by omega) 50 11 0 (0, 0) (by simp) (by simp) (by simp)
  exact sgL_in binV 61 r (by omega) 78 18 0 _ h1.1 (by omega) (by simp)

/-- What stands behind the reading of a sign of this kind. -/
def SgnEnd (b t : Nat) (w' : World) (s : ByteArray) (m : Value) (fr : Int) (p : Nat) (l ln k : Int) : Prop :=
  if k = 0 then ScAt b w' s m fr p l true ∧ TkAt t w' 0 p 0 ln 0 ByteArray.empty else ScAt b w' s m fr ((p : Int) + ((fixI k).size : Int)) (if k = 7 then l + 1 else l) false ∧ TkAt t w' k p 0 ln 0 ByteArray.empty

set_option maxRecDepth 100000 in
set_option maxHeartbeats 6400000 in
theorem readSign_any {fr : Int} (s : ByteArray) (hm : s.size ≤ 70000) (b t : Nat) (w : World) (m : Value) (p : Nat) (l ln : Int) (hp : p < s.size) (hl0 : 0 ≤ l) (hl : l ≤ 100000) (hbt : b ≠ t) (hS : ScAt b w s m fr p l false) (hT : TkAt t w 0 p 0 ln 0 ByteArray.empty) (hB : Tabs w) (hEb : 10 ≤ b) (hEt : 10 ≤ t) :
    Calls Tryz.prog 66 #[.pointer (some ⟨b, 0, none⟩), .pointer (some ⟨t, 0, none⟩)] w fun e w' => e = .returned (.tuple #[]) ∧ Fr2 b t w w' ∧ SgnEnd b t w' s m fr p l ln (skI (s.extract p s.size)) := by
  have hbw : b < w.heap.size := lt_of_block hS
  have htw : t < w.heap.size := lt_of_block hT
  have hrs : (s.extract p s.size).size = s.size - p := ext_size s p s.size (Nat.le_refl _)
  have kk := fun w hB => signKind_any (s.extract p s.size) (by omega) (by omega) w hB
  have kin := skI_in (s.extract p s.size)
  generalize skI (s.extract p s.size) = k at kk kin
  obtain ⟨c0, c1, c2, c3, c4, f2, f3, f4⟩ := sc_cells hS
  obtain ⟨t0, t1, t2, t3, t4, t5, tf⟩ := tk_cells hT
  unfold SgnEnd
  by_cases hk0 : k = 0
  · subst hk0
    simp only [if_true]
    go_enter Tryz.func66, Tryz.ntmps66
    go_upto_region 0 with fail
    go_quiet ((go_at_call 81; exact Calls.quiet_of_same (kk _ (hB.drewN _))))
    go_wp2
    refine bodyPost_ret (results_none rfl _ _ _) rfl ?_
    exact ⟨rfl, ((Fr2.refl b t w).drewN _).setB 5 _, (hS.drewN _).setK _, (hT.drewN _).other (Ne.symm hbt) _⟩
  have gk0 : (k == 0) = false := by rw [beq_eq_false_iff_ne]; exact hk0
  have kf := fun w hB => fixedText_any k (by omega) (by omega) w hB
  have hfz := fix_size k
  generalize fixI k = x at kf hfz
  simp only [if_neg hk0]
  by_cases hk7 : k = 7
  · subst hk7
    simp only [if_true]
    go_enter Tryz.func66, Tryz.ntmps66
    go_upto_region 0 with fail
    go_quiet ((go_at_call 81; exact Calls.quiet_of_same (kk _ (hB.drewN _))))
    have hS1 := ((hS.drewN nq).setL (l + 1)).other (a := ⟨t, 0, none⟩) hbt (.int .i64 7)
    have hT1 := ((hT.drewN nq).other (a := ⟨b, 4, none⟩) (Ne.symm hbt) (.int .i64 (l + 1))).setKind 7
    have hf1 := (((Fr2.refl b t w).drewN nq).setB 4 (.int .i64 (l + 1))).setT 0 (.int .i64 7)
    have hB1 := ((hB.drewN nq).setCell (a := ⟨b, 4, none⟩) (by simp; omega) (.int .i64 (l + 1))).setCell (a := ⟨t, 0, none⟩) (by simp; omega) (.int .i64 7)
    go_upto_region 6 with fail
    generalize ((w.drewN nq).setCell ⟨b, 4, none⟩ (.int .i64 (l + 1))).setCell ⟨t, 0, none⟩ (.int .i64 7) = W1 at hS1 hT1 hf1 hB1 ⊢
    clear c0 c1 c2 c3 c4 f2 f3 f4 t0 t1 t2 t3 t4 t5 tf kk
    obtain ⟨c0, c1, c2, c3, c4, f2, f3, f4⟩ := sc_cells hS1
    have hBd : Tabs W1.drew := ⟨hB1.word, hB1.mark, hB1.bin⟩
    have kf' := kf W1.drew hBd
    have hwr : IntKind.i64.wrap ((p : Int) + (x.size : Int)) = (p : Int) + (x.size : Int) := by rw [IntKind.wrap_i64]; omega
    clear hBd hB1 hB kf
    go_region_with (first | (go_at_call 71; refine kf'.mono ?_; rintro e w' ⟨rfl, hw'⟩; obtain rfl := hw'.symm))
    all_goals
      go_end0
      exact ⟨rfl, (hf1.setB 3 _).drew, hS1.setP _, hT1.other (Ne.symm hbt) _⟩
  · have gk7 : (k == 7) = false := by rw [beq_eq_false_iff_ne]; exact hk7
    simp only [if_neg hk7]
    go_enter Tryz.func66, Tryz.ntmps66
    go_upto_region 0 with fail
    go_quiet ((go_at_call 81; exact Calls.quiet_of_same (kk _ (hB.drewN _))))
    have hS1 := (hS.drewN nq).other (a := ⟨t, 0, none⟩) hbt (.int .i64 k)
    have hT1 := (hT.drewN nq).setKind k
    have hf1 := ((Fr2.refl b t w).drewN nq).setT 0 (.int .i64 k)
    have hB1 := (hB.drewN nq).setCell (a := ⟨t, 0, none⟩) (by simp; omega) (.int .i64 k)
    go_upto_region 6 with fail
    generalize (w.drewN nq).setCell ⟨t, 0, none⟩ (.int .i64 k) = W1 at hS1 hT1 hf1 hB1 ⊢
    clear c0 c1 c2 c3 c4 f2 f3 f4 t0 t1 t2 t3 t4 t5 tf kk
    obtain ⟨c0, c1, c2, c3, c4, f2, f3, f4⟩ := sc_cells hS1
    have hBd : Tabs W1.drew := ⟨hB1.word, hB1.mark, hB1.bin⟩
    have kf' := kf W1.drew hBd
    have hwr : IntKind.i64.wrap ((p : Int) + (x.size : Int)) = (p : Int) + (x.size : Int) := by rw [IntKind.wrap_i64]; omega
    clear hBd hB1 hB kf
    go_region_with (first | (go_at_call 71; refine kf'.mono ?_; rintro e w' ⟨rfl, hw'⟩; obtain rfl := hw'.symm))
    all_goals
      go_end0
      exact ⟨rfl, (hf1.setB 3 _).drew, hS1.setP _, hT1.other (Ne.symm hbt) _⟩
end Go.Proofs.YtdlhfiheingibaaGreatDoor
