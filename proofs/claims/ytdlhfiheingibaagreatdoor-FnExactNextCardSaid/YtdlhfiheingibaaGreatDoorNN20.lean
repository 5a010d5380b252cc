import Derived.Test.YtdlhfiheingibaaGreatDoorNN19
import Derived.Test.YtdlhfiheingibaaGreatDoorNN02
import Derived.Test.YtdlhfiheingibaaGreatDoorNN16
import Derived.Deep.Cut
import Derived.Deep.CutBlock
namespace Go.Proofs.YtdlhfiheingibaaGreatDoor
open Go.RowKit Go.Maps Go.WideMaps
set_option linter.unusedVariables false

/-- What the scanner reads at p: whether it goes on, where it stands then, how many lines it went down; the kind, the number, the text. -/
structure Rd where
  ok : Bool
  a : Nat
  d : Int
  k : Int
  n : Int
  x : ByteArray
def rdI (s : ByteArray) (p : Nat) : Rd :=
  if lettB (bat s p) = true then ⟨true, nmE s (s.size + 1) p, 0, (wdP s p).1, 0, (wdP s p).2⟩
  else if digB (bat s p) = true then (if (numN s p).2 = true then ⟨true, (numN s p).1, 0, (nuP s p).1, (nuP s p).2.1, (nuP s p).2.2⟩ else ⟨false, (numN s p).1, 0, 0, 0, ByteArray.empty⟩)
  else if bat s p = 34 then (if (rdStr s (s.size + 1) (p + 1) []).1 = true then ⟨true, (rdStr s (s.size + 1) (p + 1) []).2.1, 0, 4, 0, strI (rdStr s (s.size + 1) (p + 1) []).2.2⟩ else ⟨false, (rdStr s (s.size + 1) (p + 1) []).2.1, 0, 0, 0, ByteArray.empty⟩)
  else if skI (s.extract p s.size) = 0 then ⟨false, p, 0, 0, 0, ByteArray.empty⟩ else ⟨true, p + (fixI (skI (s.extract p s.size))).size, if skI (s.extract p s.size) = 7 then 1 else 0, skI (s.extract p s.size), 0, ByteArray.empty⟩

/-- The world behind the reading, the token in block t. -/
def RdEnd (b t : Nat) (w w' : World) (s : ByteArray) (m : Value) (fr : Int) (p : Nat) (l : Int) (R : Rd) : Prop := Fr2 b t w w' ∧ ScAt b w' s m fr (R.a : Int) (l + R.d) (!R.ok) ∧ TkAt t w' R.k p 0 l R.n R.x

theorem Lay.blocks {w w' : World} (h : Lay w) (hb : ∀ k, k < 10 → w'.heap[k]? = w.heap[k]?) : Lay w' := by
  obtain ⟨⟨⟨t1, f1, h1⟩, ⟨t2, f2, h2⟩, ⟨t3, f3, h3⟩⟩, ⟨⟨t4, f4, h4⟩, ⟨t5, f5, h5⟩⟩, h6, h7⟩ := h
  refine ⟨⟨⟨t1, f1, (hb _ (by decide)).trans h1⟩, ⟨t2, f2, (hb _ (by decide)).trans h2⟩, ⟨t3, f3, (hb _ (by decide)).trans h3⟩⟩, ⟨⟨t4, f4, ?_⟩, ⟨t5, f5, ?_⟩⟩, ?_, ?_⟩
  · unfold World.cell? at h4 ⊢; rw [hb _ (by decide)]; exact h4
  · unfold World.cell? at h5 ⊢; rw [hb _ (by decide)]; exact h5
  · unfold Lib.TabIs World.var? at h6 ⊢
    rw [show Tryz.prog.globalNamed "internal/strconv.uint64pow10" = some 7 by kernel_rfl] at h6 ⊢
    simp only [Option.bind_some] at h6 ⊢
    rw [hb _ (by decide)]; exact h6
  · unfold World.cell? at h7 ⊢; rw [hb _ (by decide)]; exact h7

theorem grw_trans2 {x y z : World} {b : Option Nat} (h : x.grownBy y b) (k : y.grownBy z b) : x.grownBy z b :=
  ⟨k.os.trans h.os, k.tape.trans h.tape, k.output.trans h.output, Nat.le_trans h.size k.size, fun i hi hne => (k.block i (Nat.lt_of_lt_of_le hi h.size) hne).trans (h.block i hi hne)⟩
set_option maxRecDepth 100000 in
set_option maxHeartbeats 6400000 in
theorem token_any {fr : Int} (s : ByteArray) (hm : s.size ≤ 70000) (b mb : Nat) (w : World) (p : Nat) (l : Int) (hp : p < s.size) (hl0 : 0 ≤ l) (hl : l ≤ 100000) (hmb : mb ≠ b) (hEb : 10 ≤ b) (hS : ScAt b w s (.map (some mb)) fr p l false) (hM : w.ownsMap Tryz.prog 9 (plainElem (H := Unit) Tryz.prog 3) mb 22 (wkD 22)) (hL : Lay w) :
    Calls Tryz.prog 43 #[.pointer (some ⟨b, 0, none⟩)] w fun e w' => e = .returned (.agg #[.int .i64 (rdI s p).k, .int .i64 p, .int .i64 ((rdI s p).a : Int), .int .i64 l, .int .i64 (rdI s p).n, .string (rdI s p).x]) ∧ w.grownBy w' (some b) ∧ ScAt b w' s (.map (some mb)) (p : Int) ((rdI s p).a : Int) (l + (rdI s p).d) (!(rdI s p).ok) := by
  have hbw : b < w.heap.size := lt_of_block hS
  have hmw : mb < w.heap.size := hM.lt
  have i1 := fun w => idx_run hp w
  obtain ⟨c0, c1, c2, c3, c4, f2, f3, f4⟩ := sc_cells hS
  obtain ⟨cF, fF⟩ := sc_from hS
  obtain ⟨R, hR⟩ : ∃ R, rdI s p = R := ⟨_, rfl⟩
  rw [hR]
  have HR : Hid (rdI s p = R) := hR
  clear hR
  go_enter Tryz.func43, Tryz.ntmps43
  go_wp2_with fail
  have hS0 := hS.setF (p : Int)
  have hM0 := map_fr2 (t := b) hM ((Fr2.refl b b w).setB 2 (.int .i64 (p : Int))) hmb hmb
  have hL0 : Lay (w.setCell ⟨b, 2, none⟩ (.int .i64 (p : Int))) := hL.blocks (fun k hk => heap_setCell_other _ _ _ _ (by simp only; omega))
  have hg0 : w.grownBy (w.setCell ⟨b, 2, none⟩ (.int .i64 (p : Int))) (some b) := ⟨rfl, rfl, rfl, by simp [World.setCell], fun k hk hne => heap_setCell_other _ _ _ _ (fun e => hne (by rw [e]))⟩
  have hsz0 : (w.setCell ⟨b, 2, none⟩ (.int .i64 (p : Int))).heap.size = w.heap.size := by simp [World.setCell]
  obtain ⟨c0', c1', c2', c3', c4', f2', f3', f4'⟩ := sc_cells hS0
  obtain ⟨cF', fF'⟩ := sc_from hS0
  rw [← hsz0]
  rw [← hsz0] at hbw hmw
  generalize w.setCell ⟨b, 2, none⟩ (.int .i64 (p : Int)) = wN at hS0 hM0 hL0 hg0 hsz0 hbw hmw c0' c1' c2' c3' c4' f2' f3' f4' cF' fF' ⊢
  have HG0 : Hid (w.grownBy wN (some b)) := hg0
  clear hS hM hL hg0 hsz0 c0 c1 c2 c3 c4 f2 f3 f4 cF fF
  go_region
  have hZ : ∀ x : World, TkAt x.heap.size (x.alloc (.cells #[.int .i64 0, .int .i64 0, .int .i64 0, .int .i64 0, .int .i64 0, .string { data := #[] }] 45)) 0 0 0 0 0 ByteArray.empty := fun x => heap_alloc_new x _
  have hB2 : Below wN.heap.size wN ((wN.alloc (.cells #[.int .i64 0, .int .i64 0, .int .i64 0, .int .i64 0, .int .i64 0, .string { data := #[] }] 45)).alloc (.cells #[.int .i64 0, .int .i64 p, .int .i64 0, .int .i64 l, .int .i64 0, .string { data := #[] }] 45)) :=
    (((Below.refl _ wN).alloc (Nat.le_refl _) _).alloc (by simp) _)
  have hZ2 : TkAt wN.heap.size ((wN.alloc (.cells #[.int .i64 0, .int .i64 0, .int .i64 0, .int .i64 0, .int .i64 0, .string { data := #[] }] 45)).alloc (.cells #[.int .i64 0, .int .i64 p, .int .i64 0, .int .i64 l, .int .i64 0, .string { data := #[] }] 45)) 0 0 0 0 0 ByteArray.empty :=
    (Below.heap_alloc _ _ _ (by simp)).trans (hZ wN)
  have hT2 : TkAt (wN.heap.size + 1) ((wN.alloc (.cells #[.int .i64 0, .int .i64 0, .int .i64 0, .int .i64 0, .int .i64 0, .string { data := #[] }] 45)).alloc (.cells #[.int .i64 0, .int .i64 p, .int .i64 0, .int .i64 l, .int .i64 0, .string { data := #[] }] 45)) 0 p 0 l 0 ByteArray.empty := by
    have := heap_alloc_new (wN.alloc (.cells #[.int .i64 0, .int .i64 0, .int .i64 0, .int .i64 0, .int .i64 0, .string { data := #[] }] 45)) (.cells #[.int .i64 0, .int .i64 p, .int .i64 0, .int .i64 l, .int .i64 0, .string { data := #[] }] 45)
    rw [World.size_alloc] at this
    exact this
  have hS2 := hS0.below hB2 hbw
  have hL2 := hL0.below hB2 (Nat.le_refl _)
  have hM2 := (hM0.alloc (.cells #[.int .i64 0, .int .i64 0, .int .i64 0, .int .i64 0, .int .i64 0, .string { data := #[] }] 45)).alloc (.cells #[.int .i64 0, .int .i64 p, .int .i64 0, .int .i64 l, .int .i64 0, .string { data := #[] }] 45)
  obtain ⟨W2, hW2⟩ : ∃ W2, ((wN.alloc (.cells #[.int .i64 0, .int .i64 0, .int .i64 0, .int .i64 0, .int .i64 0, .string { data := #[] }] 45)).alloc (.cells #[.int .i64 0, .int .i64 p, .int .i64 0, .int .i64 l, .int .i64 0, .string { data := #[] }] 45)) = W2 := ⟨_, rfl⟩
  rw [hW2] at hB2 hZ2 hT2 hS2 hL2 hM2 ⊢
  clear hW2 hZ c0' c1' c2' c3' c4' f2' f3' f4' cF' fF'
  obtain ⟨c0, c1, c2, c3, c4, f2, f3, f4⟩ := sc_cells hS2
  have hne : b ≠ wN.heap.size + 1 := by omega
  go_wp2_with fail
  go_quiet (fail)
  go_upto_block 0 with fail
  have hS3 : ScAt b (W2.drew.drewN nq) s (.map (some mb)) p p l false := hS2
  have hT3 : TkAt (wN.heap.size + 1) (W2.drew.drewN nq) 0 p 0 l 0 ByteArray.empty := hT2
  have hF3 : Fr2 b (wN.heap.size + 1) W2 (W2.drew.drewN nq) := ((Fr2.refl _ _ _).drew).drewN nq
  have hM3 : (W2.drew.drewN nq).ownsMap Tryz.prog 9 (plainElem (H := Unit) Tryz.prog 3) mb 22 (wkD 22) := hM2
  have hB3 : Tabs (W2.drew.drewN nq) := ⟨hL2.tabs.word, hL2.tabs.mark, hL2.tabs.bin⟩
  have hE3 : Errs (W2.drew.drewN nq) := ⟨hL2.errs.syn, hL2.errs.rng⟩
  generalize W2.drew.drewN nq = W3 at hS3 hT3 hF3 hM3 hB3 hE3 ⊢
  clear c0 c1 c2 c3 c4 f2 f3 f4 i1
  go_cut [] from 4 (fun wx => RdEnd b (wN.heap.size + 1) W2 wx s (.map (some mb)) p p l R)
  case first =>
    have kr1 := readName_any s hm b (wN.heap.size + 1) mb W3 p l l hp hne hmb (by omega) hS3 hT3 hM3
    have kr2 := fun hd => readNumber_any s hm b (wN.heap.size + 1) W3 (.map (some mb)) p l l hp hd hne hS3 hT3 hE3 (by omega) (by omega)
    have kr3 := readString_any s hm b (wN.heap.size + 1) W3 (.map (some mb)) p l p l hp hne hS3 hT3
    have kr4 := readSign_any s hm b (wN.heap.size + 1) W3 (.map (some mb)) p l l hp hl0 hl hne hS3 hT3 hB3 hEb (by omega)
    have hst := HR.out
    unfold rdI at hst
    clear hM3 hB3 hE3 hL2 hM2 hL0 hM0 HR
    cases hlt : lettB (bat s p) with
    | true =>
      rw [hlt, if_pos rfl] at hst
      have HS : Hid (({ ok := true, a := nmE s (s.size + 1) p, d := 0, k := (wdP s p).1, n := 0, x := (wdP s p).2 } : Rd) = R) := hst
      have kl := fun w => isLetter_any (bat s p) w
      rw [hlt] at kl
      clear hst hlt kr2 kr3 kr4
      generalize bat s p = c at kl ⊢
      go_wp2_with (first | (go_at_call 61; refine (kl _).mono ?_; rintro e w' ⟨rfl, rfl⟩) | (go_at_call 62; refine kr1.mono ?_; rintro e w4 ⟨rfl, g1, g2, g3⟩))
      go_meet
      case rel => rw [← HS.out]; exact ⟨hF3.trans g1, by simpa using g2, g3⟩
    | false =>
      rw [hlt, if_neg (by simp)] at hst
      have kl := fun w => isLetter_any (bat s p) w
      rw [hlt] at kl
      cases hdg : digB (bat s p) with
      | true =>
        rw [hdg, if_pos rfl] at hst
        have kd := fun w => isDigit_any (bat s p) w
        rw [hdg] at kd
        have HS : Hid ((if (numN s p).2 = true then ({ ok := true, a := (numN s p).1, d := 0, k := (nuP s p).1, n := (nuP s p).2.1, x := (nuP s p).2.2 } : Rd) else { ok := false, a := (numN s p).1, d := 0, k := 0, n := 0, x := ByteArray.empty }) = R) := hst
        have kr := kr2 hdg
        clear hst hlt hdg kr1 kr2 kr3 kr4
        generalize bat s p = c at kl kd ⊢
        go_wp2_with (first | (go_at_call 61; refine (kl _).mono ?_; rintro e w' ⟨rfl, rfl⟩) | (go_at_call 63; refine (kd _).mono ?_; rintro e w' ⟨rfl, rfl⟩) | (go_at_call 64; refine kr.mono ?_; rintro e w4 ⟨rfl, g1, g2⟩; have g2' : Hid _ := g2; clear g2))
        go_meet
        case rel =>
          rw [← HS.out]
          have g2 := g2'.out
          cases hok : (numN s p).2 with
          | true => rw [hok] at g2; simp only [if_true] at g2 ⊢; exact ⟨hF3.trans g1, by simpa using g2.1, g2.2⟩
          | false => rw [hok] at g2; simp only [Bool.false_eq_true, if_false] at g2 ⊢; exact ⟨hF3.trans g1, by simpa using g2.1, g2.2⟩
      | false =>
        rw [hdg, if_neg (by simp)] at hst
        have kd := fun w => isDigit_any (bat s p) w
        rw [hdg] at kd
        by_cases h34 : bat s p = 34
        · rw [if_pos h34] at hst
          have HS : Hid ((if (rdStr s (s.size + 1) (p + 1) []).1 = true then ({ ok := true, a := (rdStr s (s.size + 1) (p + 1) []).2.1, d := 0, k := 4, n := 0, x := strI (rdStr s (s.size + 1) (p + 1) []).2.2 } : Rd) else { ok := false, a := (rdStr s (s.size + 1) (p + 1) []).2.1, d := 0, k := 0, n := 0, x := ByteArray.empty }) = R) := hst
          rw [h34] at kl kd ⊢
          generalize rdStr s (s.size + 1) (p + 1) [] = Q at kr3 HS
          clear hst hlt hdg h34 kr1 kr2 kr4
          go_wp2_with (first | (go_at_call 61; refine (kl _).mono ?_; rintro e w' ⟨rfl, rfl⟩) | (go_at_call 63; refine (kd _).mono ?_; rintro e w' ⟨rfl, rfl⟩) | (go_at_call 65; refine kr3.mono ?_; rintro e w4 ⟨rfl, g1, g2⟩; have g2' : Hid _ := g2; clear g2))
          go_meet
          case rel =>
            rw [← HS.out]
            have g2 := g2'.out
            unfold StrEnd at g2
            obtain ⟨q1, q2, q3⟩ := Q
            cases q1 with
            | true => simp only [if_true] at g2 ⊢; exact ⟨hF3.trans g1, by simpa using g2.1, g2.2⟩
            | false => simp only [Bool.false_eq_true, if_false] at g2 ⊢; exact ⟨hF3.trans g1, by simpa using g2.1, g2.2⟩
        · rw [if_neg h34] at hst
          have g34 : (bat s p == 34) = false := by rw [beq_eq_false_iff_ne]; exact h34
          generalize skI (s.extract p s.size) = k at kr4 hst
          have HS : Hid ((if k = 0 then ({ ok := false, a := p, d := 0, k := 0, n := 0, x := ByteArray.empty } : Rd) else { ok := true, a := p + (fixI k).size, d := if k = 7 then 1 else 0, k := k, n := 0, x := ByteArray.empty }) = R) := hst
          clear hst hlt hdg h34 kr1 kr2 kr3
          generalize bat s p = c at kl kd g34 ⊢
          go_wp2_with (first | (go_at_call 61; refine (kl _).mono ?_; rintro e w' ⟨rfl, rfl⟩) | (go_at_call 63; refine (kd _).mono ?_; rintro e w' ⟨rfl, rfl⟩) | (go_at_call 66; refine kr4.mono ?_; rintro e w4 ⟨rfl, g1, g2⟩; have g2' : Hid _ := g2; clear g2))
          go_meet
          case rel =>
            rw [← HS.out]
            have g2 := g2'.out
            unfold SgnEnd at g2
            by_cases hk : k = 0
            · rw [if_pos hk] at g2 ⊢; exact ⟨hF3.trans g1, by simpa using g2.1, g2.2⟩
            · rw [if_neg hk] at g2 ⊢
              refine ⟨hF3.trans g1, ?_, g2.2⟩
              have g3 := g2.1
              have e1 : (if k = 7 then l + 1 else l) = l + (if k = 7 then 1 else 0) := by split <;> omega
              rw [e1] at g3
              simpa using g3
  case rest =>
    obtain ⟨hfr, hS4, hT4⟩ := hcut
    have hZ4 : TkAt wN.heap.size wc 0 0 0 0 0 ByteArray.empty := (hfr.block wN.heap.size (lt_of_block hZ2) (by omega) (by omega)).trans hZ2
    clear hS2 hT2 hZ2 hS3 hT3 hF3 hM3 hB3 hE3 hL2 hM2 hL0 hM0 HR
    obtain ⟨ok, a, d, k, n, x⟩ := R
    simp only at hS4 hT4 ⊢
    obtain ⟨c0, c1, c2, c3, c4, f2, f3, f4⟩ := sc_cells hS4
    obtain ⟨t0, t1, t2, t3, t4, t5, tf⟩ := tk_cells hT4
    obtain ⟨z0, z1, z2, z3, z4, z5, zf⟩ := tk_cells hZ4
    have hzlt : wN.heap.size < wc.heap.size := lt_of_block hZ4
    go_wp2
    refine bodyPost_ret (v := .agg #[.int .i64 k, .int .i64 p, .int .i64 (a : Int), .int .i64 l, .int .i64 n, .string x]) (by simp [results, Tryz.results43, go_sem, z0, z1, z2, z3, z4, z5]) rfl ⟨rfl, ?_, ?_⟩
    · refine grw_trans2 HG0.out ?_
      exact gr_new (gr_new (gr_new (gr_new (gr_new (gr_new (gr_new (gr_fr2 hB2 hfr (by omega)) _ (by simp)) _ (by simp)) _ (by simp)) _ (by simp)) _ (by simp)) _ (by simp)) _ (by simp)
    · exact ((((((hS4.other (by simp; omega) _).other (by simp; omega) _).other (by simp; omega) _).other (by simp; omega) _).other (by simp; omega) _).other (by simp; omega) _).other (by simp; omega) _
/-- The scanner in memory, wherever its last token began. -/
def ScE (b : Nat) (w : World) (s : ByteArray) (m : Value) (p l : Int) (k : Bool) : Prop := ∃ fr, ScAt b w s m fr p l k
theorem ScE.cells {b : Nat} {w : World} {s : ByteArray} {m : Value} {p l : Int} {k : Bool} (h : ScE b w s m p l k) : w.cell? ⟨b, 0, none⟩ = some (.string s) ∧ w.cell? ⟨b, 1, none⟩ = some m ∧ w.cell? ⟨b, 3, none⟩ = some (.int .i64 p) ∧ w.cell? ⟨b, 4, none⟩ = some (.int .i64 l) ∧ w.cell? ⟨b, 5, none⟩ = some (.bool k) ∧
    w.frozen? ⟨b, 3, none⟩ = false ∧ w.frozen? ⟨b, 4, none⟩ = false ∧ w.frozen? ⟨b, 5, none⟩ = false := by obtain ⟨fr, h⟩ := h; exact sc_cells h
theorem ScE.pos {b : Nat} {w : World} {s : ByteArray} {m : Value} {p : Nat} {l : Int} {k : Bool} (h : ScE b w s m p l k) : posOf b w = p := by obtain ⟨fr, h⟩ := h; exact posOf_eq h
theorem ScE.lt {b : Nat} {w : World} {s : ByteArray} {m : Value} {p l : Int} {k : Bool} (h : ScE b w s m p l k) : b < w.heap.size := by obtain ⟨fr, h⟩ := h; exact lt_of_block h
theorem ScE.setP {b : Nat} {w : World} {s : ByteArray} {m : Value} {p l : Int} {k : Bool} (h : ScE b w s m p l k) (x : Int) : ScE b (w.setCell ⟨b, 3, none⟩ (.int .i64 x)) s m x l k := by obtain ⟨fr, h⟩ := h; exact ⟨fr, h.setP x⟩
theorem ScE.heap {b : Nat} {w w' : World} {s : ByteArray} {m : Value} {p l : Int} {k : Bool} (h : ScE b w s m p l k) (he : w'.heap[b]? = w.heap[b]?) : ScE b w' s m p l k := by obtain ⟨fr, h⟩ := h; exact ⟨fr, he.trans h⟩
theorem token_e (s : ByteArray) (hm : s.size ≤ 70000) (b mb : Nat) (w : World) (p : Nat) (l : Int) (hp : p < s.size) (hl0 : 0 ≤ l) (hl : l ≤ 100000) (hmb : mb ≠ b) (hEb : 10 ≤ b) (hS : ScE b w s (.map (some mb)) p l false) (hM : w.ownsMap Tryz.prog 9 (plainElem (H := Unit) Tryz.prog 3) mb 22 (wkD 22)) (hL : Lay w) :
    Calls Tryz.prog 43 #[.pointer (some ⟨b, 0, none⟩)] w fun e w' => e = .returned (.agg #[.int .i64 (rdI s p).k, .int .i64 p, .int .i64 ((rdI s p).a : Int), .int .i64 l, .int .i64 (rdI s p).n, .string (rdI s p).x]) ∧ w.grownBy w' (some b) ∧ ScE b w' s (.map (some mb)) ((rdI s p).a : Int) (l + (rdI s p).d) (!(rdI s p).ok) := by
  obtain ⟨fr, hS⟩ := hS
  exact (token_any s hm b mb w p l hp hl0 hl hmb hEb hS hM hL).mono fun e w' ⟨h1, h2, h3⟩ => ⟨h1, h2, _, h3⟩
end Go.Proofs.YtdlhfiheingibaaGreatDoor

namespace Go.Proofs.YtdlhfiheingibaaGreatDoor
open Go.RowKit
set_option linter.unusedVariables false

/-- A token: its kind, its places, its line, its number and its text. -/
structure Tk where
  k : Int
  f : Int
  t : Int
  l : Int
  n : Int
  x : ByteArray
def vTk (T : Tk) : Value := .agg #[.int .i64 T.k, .int .i64 T.f, .int .i64 T.t, .int .i64 T.l, .int .i64 T.n, .string T.x]
def cTk (T : Tk) : List Value := [.int .i64 T.k, .int .i64 T.f, .int .i64 T.t, .int .i64 T.l, .int .i64 T.n, .string T.x]
def cTks (ts : List Tk) : List Value := ts.flatMap cTk
theorem cTks_app (a : List Tk) (T : Tk) : cTks (a ++ [T]) = cTks a ++ cTk T := by simp [cTks]
end Go.Proofs.YtdlhfiheingibaaGreatDoor

namespace Go.Proofs.YtdlhfiheingibaaGreatDoor
open Go.RowKit Go.Maps Go.WideMaps
set_option linter.unusedVariables false

theorem fix_oth (i : Nat) (h : i < 11) : fixI (40 + (i : Int)) = strAt othV i := by
  unfold fixI
  rw [if_neg (by omega), if_neg (by omega), if_neg (by omega), if_pos (by omega)]
  rw [show (40 + (i : Int) - 40).toNat = i by omega]
theorem fix_bin (i : Nat) (h : i < 18) : fixI (61 + (i : Int)) = strAt binV i := by
  unfold fixI
  rw [if_neg (by omega), if_neg (by omega), if_neg (by omega), if_neg (by omega), if_pos (by omega)]
  rw [show (61 + (i : Int) - 61).toNat = i by omega]
/-- The kind of a sign that the text begins with. -/
def Sgn (r : ByteArray) (k : Int) (n : Nat) : Prop := (k = 0 ∧ n = 0) ∨ (n = (fixI k).size ∧ 1 ≤ n ∧ Lib.hasPrefix r.data.toList (fixI k).data.toList = true ∧ k ≠ 0)
theorem sgL_sgn (V : Array Value) (base : Int) (r : ByteArray) (N : Nat) (hb : 0 < base) (hV : ∀ i, i < N → fixI (base + (i : Int)) = strAt V i) : ∀ (f i : Nat) (a : Int × Nat), i + f ≤ N → Sgn r a.1 a.2 → Sgn r (sgL V base r f i a).1 (sgL V base r f i a).2
  | 0, i, a, _, h => h
  | f + 1, i, a, hi, h => by
    unfold sgL
    refine sgL_sgn V base r N hb hV f (i + 1) _ (by omega) ?_
    split
    · rename_i hc
      refine .inr ⟨?_, ?_, ?_, ?_⟩
      · show (strAt V i).size = _; rw [hV i (by omega)]
      · show 1 ≤ (strAt V i).size; omega
      · show Lib.hasPrefix _ (fixI (base + (i : Int))).data.toList = true; rw [hV i (by omega)]; exact hc.2
      · show base + (i : Int) ≠ 0; omega
    · exact h
theorem pre_len (r x : ByteArray) (h : Lib.hasPrefix r.data.toList x.data.toList = true) : x.size ≤ r.size := by
  unfold Lib.hasPrefix at h
  rw [List.isPrefixOf_iff_prefix] at h
  have := h.length_le
  rwa [Array.length_toList, Array.length_toList] at this
theorem skI_pos (r : ByteArray) (h0 : 0 < r.size) (hk : skI r ≠ 0) : 1 ≤ (fixI (skI r)).size ∧ (fixI (skI r)).size ≤ r.size := by
  unfold skI at hk ⊢
  split
  · exact ⟨by decide, by show 1 ≤ r.size; omega⟩
  split
  · exact ⟨by decide, by show 1 ≤ r.size; omega⟩
  rename_i h1 h2
  rw [if_neg h1, if_neg h2] at hk
  have s1 := sgL_sgn othV 40 r 11 (by omega) fix_oth 11 0 (0, 0) (by omega) (.inl ⟨rfl, rfl⟩)
  have s2 := sgL_sgn binV 61 r 18 (by omega) fix_bin 18 0 _ (by omega) s1
  rcases s2 with ⟨h, _⟩ | ⟨h, h3, h4, _⟩
  · exact absurd h hk
  · exact ⟨by omega, pre_len r _ h4⟩

theorem nmE_pos (s : ByteArray) (p : Nat) (h : lettB (bat s p) = true) : p < nmE s (s.size + 1) p := by
  have hp : p < s.size := by
    rcases Nat.lt_or_ge p s.size with h1 | h1
    · exact h1
    · exact absurd (.inl h) (ld_out (by omega))
  rw [nmE, if_pos (.inl h)]
  have := nmE_bd s s.size (p + 1) (by omega)
  omega
/-- A token that was read stands behind its beginning and within the text. -/
theorem rdI_pos (s : ByteArray) (p : Nat) (hp : p < s.size) (hok : (rdI s p).ok = true) : p < (rdI s p).a ∧ (rdI s p).a ≤ s.size ∧ 0 ≤ (rdI s p).d ∧ (rdI s p).d ≤ 1 := by
  unfold rdI at hok ⊢
  split
  · rename_i h
    exact ⟨nmE_pos s p h, (nmE_bd s _ p (by omega)).2, by simp, by simp⟩
  split
  · rename_i h1 h2
    rw [if_neg h1, if_pos h2] at hok
    have := numN_bd s p hp
    split
    · exact ⟨this.1, this.2, by simp, by simp⟩
    · rename_i h3; rw [if_neg h3] at hok; cases hok
  split
  · rename_i h1 h2 h3
    rw [if_neg h1, if_neg h2, if_pos h3] at hok
    have := rdStr_bd s (s.size + 1) (p + 1) [] (by omega)
    split
    · exact ⟨by simp only; omega, this.2.1, by simp, by simp⟩
    · rename_i h4; rw [if_neg h4] at hok; cases hok
  · rename_i h1 h2 h3
    rw [if_neg h1, if_neg h2, if_neg h3] at hok
    split
    · rename_i h4; rw [if_pos h4] at hok; cases hok
    · rename_i h4
      have hz := ext_size s p s.size (Nat.le_refl _)
      have := skI_pos (s.extract p s.size) (by omega) h4
      refine ⟨by simp only; omega, by simp only; omega, ?_, ?_⟩
      · simp only; split <;> omega
      · simp only; split <;> omega

def nnB (c : Int) : Bool := decide (c ≠ 10 ∧ c ≠ -1)
theorem nn_neg : nnB (-1) = false := by decide
def nlE (s : ByteArray) (p : Nat) : Nat := runE nnB s (s.size + 1) p
/-- Where the next token begins. -/
def blk (s : ByteArray) : Nat → Nat → Nat
  | 0, p => p
  | f + 1, p => if s.size ≤ p then p else if blankB (bat s p) = true then blk s f (p + 1) else if bat s p = 45 ∧ bat s (p + 1) = 45 then blk s f (nlE s p) else p
theorem nlE_bd (s : ByteArray) (p : Nat) (h : p ≤ s.size) : p ≤ nlE s p ∧ nlE s p ≤ s.size := runE_bd nnB nn_neg s _ p h
theorem nlE_pos (s : ByteArray) (p : Nat) (h : bat s p = 45) : p < nlE s p := by
  have hp := lt_of_bat h (by omega)
  unfold nlE
  rw [runE, if_pos (by rw [h]; decide)]
  have := runE_bd nnB nn_neg s s.size (p + 1) (by omega)
  omega
theorem blk_fuel (s : ByteArray) : ∀ (f g p : Nat), p ≤ s.size → s.size < p + f → s.size < p + g → blk s f p = blk s g p
  | 0, g, p, h, hf, hg => by omega
  | f + 1, 0, p, h, hf, hg => by omega
  | f + 1, g + 1, p, h, hf, hg => by
    unfold blk
    split
    · rfl
    split
    · exact blk_fuel s f g (p + 1) (by omega) (by omega) (by omega)
    split
    · rename_i hd
      have h1 := nlE_pos s p hd.1
      have h2 := nlE_bd s p h
      exact blk_fuel s f g _ h2.2 (by omega) (by omega)
    · rfl
theorem blk_bd (s : ByteArray) : ∀ (f p : Nat), p ≤ s.size → p ≤ blk s f p ∧ blk s f p ≤ s.size
  | 0, p, h => ⟨Nat.le_refl _, h⟩
  | f + 1, p, h => by
    unfold blk
    split
    · exact ⟨Nat.le_refl _, h⟩
    split
    · have := blk_bd s f (p + 1) (by omega); omega
    split
    · have h2 := nlE_bd s p h
      have := blk_bd s f (nlE s p) h2.2
      omega
    · exact ⟨Nat.le_refl _, h⟩

/-- What the scanner makes of a text from p on: whether it comes through, the fault's place, the tokens. -/
def scn (s : ByteArray) : Nat → Nat → Int → Bool × Nat × List Tk
  | 0, _, _ => (true, 0, [])
  | f + 1, p, l =>
    if s.size ≤ blk s (s.size + 1) p then (true, 0, [])
    else if (rdI s (blk s (s.size + 1) p)).ok = true then
      ((scn s f (rdI s (blk s (s.size + 1) p)).a (l + (rdI s (blk s (s.size + 1) p)).d)).1, (scn s f (rdI s (blk s (s.size + 1) p)).a (l + (rdI s (blk s (s.size + 1) p)).d)).2.1,
        ⟨(rdI s (blk s (s.size + 1) p)).k, (blk s (s.size + 1) p : Nat), ((rdI s (blk s (s.size + 1) p)).a : Nat), l, (rdI s (blk s (s.size + 1) p)).n, (rdI s (blk s (s.size + 1) p)).x⟩ :: (scn s f (rdI s (blk s (s.size + 1) p)).a (l + (rdI s (blk s (s.size + 1) p)).d)).2.2)
    else (false, (rdI s (blk s (s.size + 1) p)).a, [])
/-- 'pre' has come, the scanner stands at p, in line l. -/
structure Rel (s : ByteArray) (E : Bool × Nat × List Tk) (pre : List Tk) (p : Nat) (l : Int) (f : Nat) : Prop where
  fu : s.size < p + f
  le : p ≤ s.size
  l0 : 0 ≤ l
  l1 : l ≤ (p : Int) + 1
  cn : pre.length ≤ p
  eq : E = ((scn s f p l).1, (scn s f p l).2.1, pre ++ (scn s f p l).2.2)
theorem scn_blk (s : ByteArray) (p q : Nat) (h : blk s (s.size + 1) p = blk s (s.size + 1) q) : ∀ (f : Nat) (l : Int), scn s f p l = scn s f q l
  | 0, _ => rfl
  | f + 1, l => by rw [scn, scn, h]
theorem blk_blank (s : ByteArray) (p : Nat) (hp : p < s.size) (h : blankB (bat s p) = true) : blk s (s.size + 1) p = blk s (s.size + 1) (p + 1) := by
  rw [blk, if_neg (by omega), if_pos h]
  exact blk_fuel s _ _ _ (by omega) (by omega) (by omega)
theorem dash_not (c : Int) (h : c = 45) : ¬ blankB c = true := by subst h; decide
theorem blk_dash (s : ByteArray) (p : Nat) (h : bat s p = 45) (h2 : bat s (p + 1) = 45) : blk s (s.size + 1) p = blk s (s.size + 1) (nlE s p) := by
  have hp := lt_of_bat h (by omega)
  have h1 := nlE_pos s p h
  have h3 := nlE_bd s p (by omega)
  rw [blk, if_neg (by omega), if_neg (dash_not _ h), if_pos ⟨h, h2⟩]
  exact blk_fuel s _ _ _ h3.2 (by omega) (by omega)
theorem blk_tok (s : ByteArray) (p : Nat) (h1 : ¬ blankB (bat s p) = true) (h2 : ¬ (bat s p = 45 ∧ bat s (p + 1) = 45)) : blk s (s.size + 1) p = p := by
  rw [blk, if_neg h1, if_neg h2]
  split <;> rfl
theorem blk_end (s : ByteArray) (p : Nat) (h : s.size ≤ p) : blk s (s.size + 1) p = p := by rw [blk, if_pos h]
theorem Rel.blank {s : ByteArray} {E : Bool × Nat × List Tk} {pre : List Tk} {p f : Nat} {l : Int} (h : Rel s E pre p l f) (hp : p < s.size) (hb : blankB (bat s p) = true) : Rel s E pre (p + 1) l f :=
  ⟨by have := h.fu; omega, by omega, h.l0, by have := h.l1; omega, by have := h.cn; omega, by rw [h.eq, scn_blk s p (p + 1) (blk_blank s p hp hb)]⟩
theorem Rel.dash {s : ByteArray} {E : Bool × Nat × List Tk} {pre : List Tk} {p f : Nat} {l : Int} (h : Rel s E pre p l f) (h1 : bat s p = 45) (h2 : bat s (p + 1) = 45) : Rel s E pre (nlE s p) l f := by
  have hp := lt_of_bat h1 (by omega)
  have hb := nlE_bd s p (by omega)
  exact ⟨by have := h.fu; omega, hb.2, h.l0, by have := h.l1; omega, by have := h.cn; omega, by rw [h.eq, scn_blk s p _ (blk_dash s p h1 h2)]⟩
theorem Rel.atEnd {s : ByteArray} {E : Bool × Nat × List Tk} {pre : List Tk} {p f : Nat} {l : Int} (h : Rel s E pre p l f) (hp : s.size ≤ p) : E = (true, 0, pre) := by
  rw [h.eq]
  cases f with
  | zero => simp [scn]
  | succ f => rw [scn, blk_end s p hp, if_pos hp]; simp
theorem Rel.tok {s : ByteArray} {E : Bool × Nat × List Tk} {pre : List Tk} {p f : Nat} {l : Int} (h : Rel s E pre p l f) (hp : p < s.size) (h1 : ¬ blankB (bat s p) = true) (h2 : ¬ (bat s p = 45 ∧ bat s (p + 1) = 45)) (hok : (rdI s p).ok = true) :
    Rel s E (pre ++ [⟨(rdI s p).k, (p : Nat), ((rdI s p).a : Nat), l, (rdI s p).n, (rdI s p).x⟩]) (rdI s p).a (l + (rdI s p).d) (f - 1) := by
  have hpos := rdI_pos s p hp hok
  have hf := h.fu
  obtain ⟨f, rfl⟩ : ∃ g, f = g + 1 := ⟨f - 1, by omega⟩
  refine ⟨by omega, hpos.2.1, by have := h.l0; omega, by have := h.l1; omega, by have := h.cn; simp; omega, ?_⟩
  rw [h.eq, scn, blk_tok s p h1 h2, if_neg (by omega), if_pos hok]
  simp
theorem Rel.bad {s : ByteArray} {E : Bool × Nat × List Tk} {pre : List Tk} {p f : Nat} {l : Int} (h : Rel s E pre p l f) (hp : p < s.size) (h1 : ¬ blankB (bat s p) = true) (h2 : ¬ (bat s p = 45 ∧ bat s (p + 1) = 45)) (hok : (rdI s p).ok = false) :
    E = (false, (rdI s p).a, pre) := by
  have hf := h.fu
  obtain ⟨f, rfl⟩ : ∃ g, f = g + 1 := ⟨f - 1, by omega⟩
  rw [h.eq, scn, blk_tok s p h1 h2, if_neg (by omega), if_neg (by rw [hok]; simp)]
  simp
end Go.Proofs.YtdlhfiheingibaaGreatDoor

namespace Go.Proofs.YtdlhfiheingibaaGreatDoor
open Go.RowKit
set_option linter.unusedVariables false
attribute [local go_sem] Oper.semAt_some

theorem no_dash {s : ByteArray} (h : bat s 0 = 34) (hl : 0 < s.size) : ¬ (2 ≤ s.size ∧ (s.extract 0 2).toList = [45, 45]) := by
  rintro ⟨_, h2⟩
  rw [Lib.extract_toList] at h2
  have h3 : s.data.toList[0]? = some 45 := by
    have : ((s.data.toList.drop 0).take (2 - 0))[0]? = some 45 := by rw [h2]; rfl
    simpa using this
  unfold bat at h
  rw [dif_pos hl] at h
  have h4 : s.data.toList[0]? = some s[0] := by
    rw [List.getElem?_eq_getElem (by simpa using hl)]; rfl
  rw [h3] at h4
  have h5 : s[0] = 45 := by simpa using h4.symm
  rw [h5] at h
  exact absurd h (by decide)

end Go.Proofs.YtdlhfiheingibaaGreatDoor

namespace Go.Proofs.YtdlhfiheingibaaGreatDoor
open Go.RowKit Go.Maps Go.WideMaps
set_option linter.unusedVariables false
attribute [local go_sem] Oper.semAt_some

/-- The scanner at p, in line l, behind the tokens 'pre'. -/
structure Iv (b mb B : Nat) (s : ByteArray) (T : List Tk → World → Prop) (pre : List Tk) (W : World) (p : Nat) (l : Int) : Prop where
  sc : ScE b W s (.map (some mb)) p l false
  mp : W.ownsMap Tryz.prog 9 (plainElem (H := Unit) Tryz.prog 3) mb 22 (wkD 22)
  ly : Lay W
  tt : T pre W
  sz : B ≤ W.heap.size
theorem Iv.gr {b mb B : Nat} {s : ByteArray} {T : List Tk → World → Prop} {pre : List Tk} {W W' : World} {p p' : Nat} {l l' : Int} (h : Iv b mb B s T pre W p l) (hT : ∀ k W W', T k W → W.grownBy W' (some b) → T k W') (hmb : mb ≠ b) (hb9 : 10 ≤ b) (hB9 : 10 ≤ B) (hg : W.grownBy W' (some b)) (hS : ScE b W' s (.map (some mb)) p' l' false) : Iv b mb B s T pre W' p' l' :=
  ⟨hS, h.mp.kept hg (by simp [hmb]), h.ly.blocks (fun k hk => hg.block k (by have := h.sz; omega) (by simp; omega)), hT _ _ _ h.tt hg, Nat.le_trans h.sz hg.size⟩

theorem gr_setb (w : World) (b i : Nat) (v : Value) : w.grownBy (w.setCell ⟨b, i, none⟩ v) (some b) :=
  ⟨rfl, rfl, rfl, by simp [World.setCell], fun k hk hne => heap_setCell_other _ _ _ _ (by simpa using hne)⟩

theorem pre_dash (s : ByteArray) (p : Nat) (w : World) : Calls Tryz.prog 42 #[.string (s.extract p s.size), .string { data := #[45, 45] }] w fun e w' => e = .returned (.bool (decide (bat s p = 45 ∧ bat s (p + 1) = 45))) ∧ w' = w := by
  have h := Tryz.strings_HasPrefix (s.extract p s.size) { data := #[45, 45] } w
  rw [show ({ data := #[45, 45] } : ByteArray).data.toList = [45, 45] from rfl, pre_two] at h
  exact h

/-- Where the last of these tokens ends. -/
def lastT (pre : List Tk) : Nat := match pre.getLast? with | some x => x.t.toNat | none => 0
theorem lastT_app (pre : List Tk) (x : Tk) : lastT (pre ++ [x]) = x.t.toNat := by unfold lastT; rw [List.getLast?_concat]
structure RunIs (q : Int → Bool) (s : ByteArray) (f p e : Nat) : Prop where
  out : runE q s f p = e
def IEnd (b mb B : Nat) (s : ByteArray) (T : List Tk → World → Prop) (E : Bool × Nat × List Tk) (W : World) : Prop :=
  (E.1 = true ∧ ∃ p l, Iv b mb B s T E.2.2 W p l) ∨ (E.1 = false ∧ ∃ pre l, ScE b W s (.map (some mb)) (E.2.1 : Int) l true ∧ T pre W)

set_option maxRecDepth 100000 in
set_option maxHeartbeats 6400000 in
theorem tokens_any (n l b mb B : Nat) (s : ByteArray) (hm : s.size ≤ 70000) (E : Bool × Nat × List Tk) (hbB : b < B) (hmb : mb ≠ b) (hb9 : 10 ≤ b)
    (T : List Tk → World → Prop) (hT : ∀ k W W', T k W → W.grownBy W' (some b) → T k W') (BK : World → Prop) (hBK : ∀ W W', KeepsFrom B W W' → BK W → BK W')
    (hY : ∀ pre x W, (∃ ln f, Iv b mb B s T pre W (lastT (pre ++ [x])) ln ∧ Rel s E (pre ++ [x]) (lastT (pre ++ [x])) ln f) → BK W → YieldAt Fence.wide (n - 1) Tryz.prog l #[vTk x] W fun e W' => e = .returned (.bool true) ∧ (∃ ln f, Iv b mb B s T (pre ++ [x]) W' (lastT (pre ++ [x])) ln ∧ Rel s E (pre ++ [x]) (lastT (pre ++ [x])) ln f) ∧ BK W')
    (W : World) (p0 : Nat) (l0 : Int) (f0 : Nat) (hI : Iv b mb B s T [] W p0 l0) (hR : Rel s E [] p0 l0 f0) (hB0 : BK W) :
    CallsIn Fence.wide n Tryz.prog 23 #[.pointer (some ⟨b, 0, none⟩), .func (.yield l) #[] #[]] W fun e W' => (∃ v, e = .returned v) ∧ IEnd b mb B s T E W' ∧ BK W' := by
  have keep : ∀ {X Y : World}, X.grownBy Y (some b) → BK X → BK Y := fun hg h => hBK _ _ (KeepsFrom.of_grownBy hg (fun j e => by cases e; exact hbB)) h
  refine callsIn_wide.2 ?_
  go_enter Tryz.func23, Tryz.ntmps23
  go_wp2
  go_step3
  go_wp2
  go_step3
  go_wp2
  have sq : ∀ {pre : List Tk} {X : World} {p : Nat} {ln : Int} (q : Nat), Iv b mb B s T pre X p ln → Iv b mb B s T pre (X.drewN q) p ln := fun q h => h.gr hT hmb hb9 (by omega) (gr_drewN (gr_refl _ b) q) h.sc
  have sb : ∀ {X : World} (q : Nat), BK X → BK (X.drewN q) := fun q h => keep (gr_drewN (gr_refl _ b) q) h
  have sp : ∀ {pre : List Tk} {X : World} {p : Nat} {ln : Int} (p' : Nat), Iv b mb B s T pre X p ln → Iv b mb B s T pre (X.setCell ⟨b, 3, none⟩ (.int .i64 (p' : Int))) p' ln := fun p' h => h.gr hT hmb hb9 (by omega) (gr_setb _ b 3 _) (h.sc.setP _)
  have sbp : ∀ {X : World} (v : Value), BK X → BK (X.setCell ⟨b, 3, none⟩ v) := fun v h => keep (gr_setb _ b 3 v) h
  go_loopw [] (fun wr => ∃ (pre : List Tk) (p : Nat) (ln : Int) (f : Nat), Iv b mb B s T pre wr p ln ∧ Rel s E pre p ln f ∧ BK wr) (fun wr => s.size - posOf b wr)
  case atStart => exact ⟨[], p0, l0, f0, hI, hR, hB0⟩
  case round =>
    obtain ⟨pre, p, ln, f, hIr, hRr, hBr⟩ := hrel
    have hpo := ScE.pos hIr.sc
    have hple := hRr.le
    obtain ⟨c0, c1, c2, c3, c4, f2, f3, f4⟩ := ScE.cells hIr.sc
    by_cases hp : p < s.size
    · have hpi : (p : Int) < (s.size : Int) := by omega
      have i1 := fun w => idx_run hp w
      have HPO : Hid (posOf b wr = p) := hpo
      clear hpo
      go_wp2_with fail
      go_quiet (fail)
      go_wp2_with fail
      have hI1 := sq nq hIr
      have hB1 := sb nq hBr
      generalize wr.drewN nq = W1 at hI1 hB1 ⊢
      clear c0 c1 c2 c3 c4 f2 f3 f4 hIr hBr
      obtain ⟨c0, c1, c2, c3, c4, f2, f3, f4⟩ := ScE.cells hI1.sc
      have kb : ∀ w, Calls Tryz.prog 41 #[.int .u8 (bat s p)] w fun e w' => e = .returned (.bool (blankB (bat s p))) ∧ w' = w := fun w => (isBlank_any _ w).mono fun e w' h => ⟨h.1, h.2.symm⟩
      cases hbl : blankB (bat s p) with
      | true =>
        have hR2 := hRr.blank hp hbl
        rw [hbl] at kb
        generalize bat s p = c at i1 kb
        clear hbl
        go_quiet ((go_at_call 41; exact Calls.quiet_of_same (kb _)))
        have hI2 := sp (p + 1) (sq nq hI1)
        have hB2 := sbp (.int .i64 ((p + 1 : Nat) : Int)) (sb nq hB1)
        rw [show ((p + 1 : Nat) : Int) = (p : Int) + 1 by omega] at hI2 hB2
        go_wp2_with fail
        exact ⟨⟨pre, p + 1, ln, f, hI2, hR2, hB2⟩, by rw [ScE.pos hI2.sc, HPO.out]; omega⟩
      | false =>
        rw [hbl] at kb
        go_quiet ((go_at_call 41; exact Calls.quiet_of_same (kb _)))
        go_wp2_with fail
        have hI2 := sq nq hI1
        have hB2 := sb nq hB1
        generalize W1.drewN nq = W2 at hI2 hB2 ⊢
        clear c0 c1 c2 c3 c4 f2 f3 f4 hI1 hB1 kb
        obtain ⟨c0, c1, c2, c3, c4, f2, f3, f4⟩ := ScE.cells hI2.sc
        have kp := fun w => pre_dash s p w
        by_cases hda : bat s p = 45 ∧ bat s (p + 1) = 45
        · rw [decide_eq_true hda] at kp
          have hRd := hRr.dash hda.1 hda.2
          have hnl := nlE_bd s p hple
          have hnp := nlE_pos s p hda.1
          go_quiet ((go_at_call 42; exact Calls.quiet_of_same (kp _)))
          go_wp2_with fail
          have hI3 := sq nq hI2
          have hB3 := sb nq hB2
          generalize W2.drewN nq = W3 at hI3 hB3 ⊢
          clear c0 c1 c2 c3 c4 f2 f3 f4 hI2 hB2 kp i1
          go_loopw [] (fun wq => ∃ (k g : Nat), p ≤ k ∧ k ≤ s.size ∧ s.size < k + g ∧ RunIs nnB s g k (nlE s p) ∧ Iv b mb B s T pre wq k ln ∧ BK wq) (fun wq => s.size - posOf b wq)
          case atStart => exact ⟨p, s.size + 1, Nat.le_refl _, hple, by omega, ⟨rfl⟩, hI3, hB3⟩
          case round =>
            obtain ⟨k, g, hpk, hks, hkg, hru, hIk, hBk⟩ := hrel
            obtain ⟨g, rfl⟩ : ∃ q, g = q + 1 := ⟨g - 1, by omega⟩
            obtain ⟨c0, c1, c2, c3, c4, f2, f3, f4⟩ := ScE.cells hIk.sc
            have hst := hru.out
            rw [runE] at hst
            have hpk2 := ScE.pos hIk.sc
            have HPK : Hid (posOf b wr = k) := hpk2
            clear hpk2
            by_cases hkl : k < s.size
            · have hki : (k : Int) < (s.size : Int) := by omega
              have i2 := fun w => idx_run hkl w
              go_wp2_with fail
              go_quiet (fail)
              go_wp2_with fail
              have hI4 := sq nq hIk
              have hB4 := sb nq hBk
              generalize wr.drewN nq = W4 at hI4 hB4 ⊢
              clear c0 c1 c2 c3 c4 f2 f3 f4 hIk hBk
              obtain ⟨c0, c1, c2, c3, c4, f2, f3, f4⟩ := ScE.cells hI4.sc
              by_cases h10 : bat s k = 10
              · rw [if_neg (by rw [h10]; decide)] at hst
                rw [h10] at i2
                have HK : Hid (k = nlE s p) := hst
                clear hst hru h10
                go_quiet (fail)
                go_wp2_with fail
                have hI5 := sq nq hI4
                have hB5 := sb nq hB4
                rw [← HK.out] at hRd
                exact ⟨⟨pre, k, ln, f, hI5, hRd, hB5⟩, by rw [ScE.pos hI5.sc, HPO.out]; have := HK.out; omega⟩
              · have hnn : nnB (bat s k) = true := by
                  have := bat_in hkl
                  unfold nnB
                  rw [decide_eq_true_iff]
                  exact ⟨h10, by omega⟩
                rw [if_pos hnn] at hst
                have g10 : (bat s k == 10) = false := by rw [beq_eq_false_iff_ne]; exact h10
                generalize bat s k = c at i2 g10
                clear hnn h10 hru
                have HS : RunIs nnB s g (k + 1) (nlE s p) := ⟨hst⟩
                clear hst
                go_quiet (fail)
                have hI5 := sp (k + 1) (sq nq hI4)
                have hB5 := sbp (.int .i64 ((k + 1 : Nat) : Int)) (sb nq hB4)
                rw [show ((k + 1 : Nat) : Int) = (k : Int) + 1 by omega] at hI5 hB5
                go_wp2_with fail
                exact ⟨⟨k + 1, g, by omega, by omega, by omega, HS, hI5, hB5⟩, by rw [ScE.pos hI5.sc, HPK.out]; omega⟩
            · obtain rfl : k = s.size := by omega
              rw [if_neg (by rw [bat_out (Nat.lt_irrefl _)]; decide)] at hst
              have HK : Hid (s.size = nlE s p) := hst
              clear hst hru
              have hE := hRd.atEnd (by rw [← HK.out]; exact Nat.le_refl _)
              go_wp2_with fail
              go_quiet (fail)
              go_wp2
              rw [Exit.noGoto_ret]
              refine bodyPost_ret (results_none rfl _ _ _) rfl ?_
              exact ⟨⟨_, rfl⟩, .inl ⟨by rw [hE], _, _, by rw [hE]; exact sq _ hIk⟩, sb _ hBk⟩
        · have hda' : ¬ (bat s p = 45 ∧ bat s (p + 1) = 45) := hda
          rw [decide_eq_false hda] at kp
          have hblf : ¬ blankB (bat s p) = true := by rw [hbl]; simp
          have hRok := hRr.tok hp hblf hda'
          have hRbad := hRr.bad hp hblf hda'
          have hpos := rdI_pos s p hp
          have hl0 := hRr.l0
          have hl1 := hRr.l1
          have kt := fun (w : World) (hI : Iv b mb B s T pre w p ln) => token_e s hm b mb w p ln hp hl0 (by omega) hmb hb9 hI.sc hI.mp hI.ly
          go_quiet ((go_at_call 42; exact Calls.quiet_of_same (kp _)))
          go_wp2_with (go_at_call 43; fail)
          have hI3 := sq nq hI2
          have hB3 := sb nq hB2
          have kt3 := kt _ hI3
          generalize W2.drewN nq = W3 at hI3 hB3 kt3 ⊢
          clear c0 c1 c2 c3 c4 f2 f3 f4 hI2 hB2 kp i1 kt hbl hblf hda hda'
          generalize rdI s p = R at kt3 hRok hRbad hpos
          obtain ⟨ok, ra, rd, rk, rn, rx⟩ := R
          simp only at kt3 hRok hRbad hpos
          refine kt3.mono ?_
          rintro e w4 ⟨rfl, hg4, hS4⟩
          have hB4 := keep hg4 hB3
          have hb4 : b < w4.heap.size := hS4.lt
          clear kt3
          cases ok with
          | false =>
            have hE := hRbad rfl
            have hT4 := hT _ _ _ hI3.tt hg4
            have hga := World.grownBy_alloc w4 (.cells #[.int .i64 rk, .int .i64 p, .int .i64 (ra : Int), .int .i64 ln, .int .i64 rn, .string rx] 45) (some b)
            have hT5 := hT _ _ _ hT4 hga
            have hB5 := keep hga hB4
            have hS5 : ScE b (w4.alloc (.cells #[.int .i64 rk, .int .i64 p, .int .i64 (ra : Int), .int .i64 ln, .int .i64 rn, .string rx] 45)) s (.map (some mb)) (ra : Int) (ln + rd) true := hS4.heap (Below.heap_alloc w4 _ b hb4)
            obtain ⟨c0, c1, c2, c3, c4, f2, f3, f4⟩ := ScE.cells hS4
            go_wp2
            rw [Exit.noGoto_ret]
            refine bodyPost_ret (results_none rfl _ _ _) rfl ?_
            exact ⟨⟨_, rfl⟩, .inr ⟨by rw [hE], pre, ln + rd, by rw [hE]; exact hS5, hT5⟩, hB5⟩
          | true =>
            have hRo := hRok rfl
            have hpo := hpos rfl
            have hI4 : Iv b mb B s T pre w4 ra (ln + rd) := hI3.gr hT hmb hb9 (by omega) hg4 hS4
            have hga := World.grownBy_alloc w4 (.cells #[.int .i64 rk, .int .i64 p, .int .i64 (ra : Int), .int .i64 ln, .int .i64 rn, .string rx] 45) (some b)
            have hI5 : Iv b mb B s T pre (w4.alloc (.cells #[.int .i64 rk, .int .i64 p, .int .i64 (ra : Int), .int .i64 ln, .int .i64 rn, .string rx] 45)) ra (ln + rd) := hI4.gr hT hmb hb9 (by omega) hga (hS4.heap (Below.heap_alloc w4 _ b hb4))
            have hB5 := keep hga hB4
            have hlast : lastT (pre ++ [⟨rk, p, ra, ln, rn, rx⟩]) = ra := by rw [lastT_app]; simp
            obtain ⟨fn, tmps, assign, body, hy, hRy⟩ := hY pre ⟨rk, p, ra, ln, rn, rx⟩ _ ⟨_, _, by rw [hlast]; exact hI5, by rw [hlast]; exact hRo⟩ hB5
            rw [hlast] at hRy
            unfold vTk at hy
            simp only at hy
            obtain ⟨c0, c1, c2, c3, c4, f2, f3, f4⟩ := ScE.cells hS4
            go_upto_region 8 with fail
            refine (wpIn_wide (n := n)).1 ?_
            gi_wp2
            refine ⟨fun h => by simp [Fence.wide] at h, hRy.mono ?_⟩
            rintro e W6 ⟨rfl, ⟨l6, f6, hI6, hR6⟩, hB6⟩
            clear c0 c1 c2 c3 c4 f2 f3 f4 hy hRy
            gi_wp2
            go_wp2_with fail
            exact ⟨⟨_, ra, l6, f6, hI6, hR6, hB6⟩, by rw [ScE.pos hI6.sc, HPO.out]; omega⟩
    · obtain rfl : p = s.size := by omega
      have hE := hRr.atEnd (Nat.le_refl _)
      go_wp2_with fail
      go_quiet (fail)
      go_wp2
      try rw [Exit.noGoto_normal]
      go_end0
      refine ⟨⟨_, rfl⟩, .inl ⟨by rw [hE], _, _, by rw [hE]; exact sq _ hIr⟩, sb _ hBr⟩
end Go.Proofs.YtdlhfiheingibaaGreatDoor
