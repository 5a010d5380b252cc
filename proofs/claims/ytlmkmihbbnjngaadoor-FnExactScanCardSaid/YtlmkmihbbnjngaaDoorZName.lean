import Derived.Test.YtlmkmihbbnjngaaDoorTTok
import Derived.Deep.RegionWith
namespace Go.Proofs.YtlmkmihbbnjngaaDoor
open Go.RowKit Go.Maps Go.WideMaps
set_option linter.unusedVariables false

/-- The kind and the text of the word or name at p. -/
def wdP (s : ByteArray) (p : Nat) : Int × ByteArray := match fnd wordV (s.extract p (nmE s (s.size + 1) p)) 22 0 with | some k => (10 + (k : Int), { data := #[] }) | none => (1, s.extract p (nmE s (s.size + 1) p))
theorem wdT_P (s : ByteArray) (p : Nat) : wdT s p = .agg #[.int .i64 (wdP s p).1, .int .i64 p, .int .i64 (nmE s (s.size + 1) p), .int .i64 0, .int .i64 0, .string (wdP s p).2] := by
  unfold wdT wdP
  cases fnd wordV (s.extract p (nmE s (s.size + 1) p)) 22 0 <;> rfl
theorem map_fr2 {b t mb n : Nat} {w w' : World} {D : DataW Unit} (h : w.ownsMap Tryd.prog 9 (plainElem (H := Unit) Tryd.prog 3) mb n D) (hf : Fr2 b t w w') (h1 : mb ≠ b) (h2 : mb ≠ t) : w'.ownsMap Tryd.prog 9 (plainElem (H := Unit) Tryd.prog 3) mb n D := by
  obtain ⟨es, clock, hh, rest⟩ := h
  exact ⟨es, clock, (hf.block mb (lt_of_block hh) h1 h2).trans hh, rest⟩

set_option maxRecDepth 100000 in
set_option maxHeartbeats 6400000 in
theorem readName_any {fr : Int} (s : ByteArray) (hm : s.size ≤ 70000) (b t mb : Nat) (w : World) (p : Nat) (l ln : Int) (hp : p < s.size) (hbt : b ≠ t) (hmb : mb ≠ b) (hmt : mb ≠ t) (hS : ScAt b w s (.map (some mb)) fr p l false) (hT : TkAt t w 0 p 0 ln 0 ByteArray.empty) (hM : w.ownsMap Tryd.prog 9 (plainElem (H := Unit) Tryd.prog 3) mb 22 (wkD 22)) :
    Calls Tryd.prog 39 #[.pointer (some ⟨b, 0, none⟩), .pointer (some ⟨t, 0, none⟩)] w fun e w' => e = .returned (.tuple #[]) ∧ Fr2 b t w w' ∧ ScAt b w' s (.map (some mb)) fr (nmE s (s.size + 1) p : Int) l false ∧ TkAt t w' (wdP s p).1 p 0 ln 0 (wdP s p).2 := by
  have hbw : b < w.heap.size := lt_of_block hS
  have htw : t < w.heap.size := lt_of_block hT
  have bd := nmE_bd s (s.size + 1) p (Nat.le_of_lt hp)
  have kn := fun w => nameEnd_any s (by omega) p (Nat.le_of_lt hp) w
  obtain ⟨c0, c1, c2, c3, c4, f2, f3, f4⟩ := sc_cells hS
  obtain ⟨t0, t1, t2, t3, t4, t5, tf⟩ := tk_cells hT
  unfold wdP
  generalize nmE s (s.size + 1) p = E at kn bd
  obtain ⟨R, hR⟩ : ∃ R, fnd wordV (s.extract p E) 22 0 = R := ⟨_, rfl⟩
  rw [hR]
  have HR : Hid (fnd wordV (s.extract p E) 22 0 = R) := hR
  clear hR
  go_enter Tryd.func39, Tryd.ntmps39
  go_upto_region 0 with fail
  go_cut [16] from 7 (fun s16 wx => s16 = .int .i64 (E : Int) ∧ Fr2 b t w wx ∧ ScAt b wx s (.map (some mb)) fr E l false ∧ TkAt t wx 0 p 0 ln 0 ByteArray.empty)
  case first =>
    go_region_with (first | (go_at_call 47; refine (kn _).mono ?_; rintro e w' ⟨rfl, hw'⟩; obtain rfl := hw'.symm))
    all_goals
      go_wp2_with fail
      go_meet
      case rel => exact ⟨rfl, ((Fr2.refl b t w).setB 3 _).drew, hS.setP _, hT.other (Ne.symm hbt) _⟩
  case rest =>
    obtain ⟨rfl, hf1, hS1, hT1⟩ := hcut
    clear c0 c1 c2 c3 c4 f2 f3 f4 t0 t1 t2 t3 t4 t5 tf
    have hM1 := map_fr2 hM hf1 hmb hmt
    obtain ⟨c0, c1, c2, c3, c4, f2, f3, f4⟩ := sc_cells hS1
    obtain ⟨t0, t1, t2, t3, t4, t5, tf⟩ := tk_cells hT1
    go_upto_region 1 with fail
    go_quiet (fail)
    have hS2 := hS1.drewN nq
    have hT2 := hT1.drewN nq
    have hf2 := hf1.drewN nq
    have hM2 : (wc.drewN nq).ownsMap Tryd.prog 9 (plainElem (H := Unit) Tryd.prog 3) mb 22 (wkD 22) := hM1
    generalize wc.drewN nq = W2 at hS2 hT2 hf2 hM2 ⊢
    clear c0 c1 c2 c3 c4 f2 f3 f4 t0 t1 t2 t3 t4 t5 tf hS1 hT1 hf1 hM1 hM
    obtain ⟨c0, c1, c2, c3, c4, f2, f3, f4⟩ := sc_cells hS2
    obtain ⟨t0, t1, t2, t3, t4, t5, tf⟩ := tk_cells hT2
    have hx1 : b < W2.heap.size := lt_of_block hS2
    have hx2 : t < W2.heap.size := lt_of_block hT2
    have hxs : (s.extract p E).size ≤ 70000 := by rw [ByteArray.size_extract]; omega
    have hkey : keyOf Tryd.prog 9 (.string (s.extract p E)) = some (.string (s.extract p E).data.toList) := keyOf_string_mk Tryd.underlying9 (by unfold maxLen; omega)
    have hhas := has_word (H := Unit) (s.extract p E)
    have kc := fun w => clone_any (s.extract p E) (by omega) w
    unfold isWd at hhas
    rw [HR.out] at hhas
    cases R with
    | some k =>
      have hatw := at_word (H := Unit) (s.extract p E) k HR.out
      have hh : Maps.has (wkD (H := Unit) 22) (.string (s.extract p E).data.toList) = true := hhas
      clear hhas
      generalize s.extract p E = q at hkey hatw hh kc hxs ⊢
      go_wp2_with (at_lookup; refine wpList_lookup_own_ok_int _ rfl _ _ 43 rfl 9 3 .i64 kLaw Tryd.underlying43 Tryd.underlying3 (by kernel_rfl) mb 22 _ rfl hM2 _ _ rfl hkey ?_; intro c2' hat hwc; rw [hh]; rw [hatw] at hat; obtain rfl : 10 + (k : Int) = c2' := by injection hat with hat; injection hat)
      refine bodyPost_ret (results_none rfl _ _ _) rfl ?_
      exact ⟨rfl, hf2.setT 0 _, hS2.other hbt _, hT2.setKind _⟩
    | none =>
      have hh : Maps.has (wkD (H := Unit) 22) (.string (s.extract p E).data.toList) = false := hhas
      clear hhas
      obtain ⟨q, hq⟩ : ∃ q, s.extract p E = q := ⟨_, rfl⟩
      rw [hq] at hkey hh kc hxs ⊢
      have HQ : Hid (s.extract p E = q) := hq
      clear hq
      go_wp2_with (first | (at_lookup; refine wpList_lookup_own_ok_int _ rfl _ _ 43 rfl 9 3 .i64 kLaw Tryd.underlying43 Tryd.underlying3 (by kernel_rfl) mb 22 _ rfl hM2 _ _ rfl hkey ?_; intro c2' hat hwc; rw [hh]) | (go_at_call 48; refine (kc _).mono ?_; rintro e w3 ⟨rfl, hb3⟩; have hS3 := hS2.below hb3 hx1; have hT3 := hT2.below hb3 hx2; have hf3 := hf2.below (hb3.mono hf2.size); have tf3 := (tk_cells hT3).2.2.2.2.2.2; have y0 := (tk_cells hT3).1; have y5 := (tk_cells hT3).2.2.2.2.2.1; clear hb3))
      go_end0
      exact ⟨rfl, (hf3.setT 0 _).setT 5 _, (hS3.other hbt _).other hbt _, by rw [HQ.out]; exact (hT3.setKind _).setText _⟩
end Go.Proofs.YtlmkmihbbnjngaaDoor
