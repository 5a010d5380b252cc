import Derived.Test.YtlmkmihbbnjngaaDoorZRs
namespace Go.Proofs.YtlmkmihbbnjngaaDoor
open Go.RowKit Go.Maps Go.WideMaps
set_option linter.unusedVariables false

/-- What the scanner reads at p: whether it goes on, where it stands then, how many lines it went down; the kind, the number, the text. -/
structure Rd where
  ok : Bool
  a : Nat
  d : Int
  k : Int
  n : Int
  x : ByteArray
def rdI (s : ByteArray) (p : Nat) : Rd :=
  if lettB (bat s p) = true then ⟨true, nmE s (s.size + 1) p, 0, (wdP s p).1, 0, (wdP s p).2⟩
  else if digB (bat s p) = true then (if (numN s p).2 = true then ⟨true, (numN s p).1, 0, (nuP s p).1, (nuP s p).2.1, (nuP s p).2.2⟩ else ⟨false, (numN s p).1, 0, 0, 0, ByteArray.empty⟩)
  else if bat s p = 34 then (if (rdStr s (s.size + 1) (p + 1) []).1 = true then ⟨true, (rdStr s (s.size + 1) (p + 1) []).2.1, 0, 4, 0, strI (rdStr s (s.size + 1) (p + 1) []).2.2⟩ else ⟨false, (rdStr s (s.size + 1) (p + 1) []).2.1, 0, 0, 0, ByteArray.empty⟩)
  else if skI (s.extract p s.size) = 0 then ⟨false, p, 0, 0, 0, ByteArray.empty⟩ else ⟨true, p + (fixI (skI (s.extract p s.size))).size, if skI (s.extract p s.size) = 7 then 1 else 0, skI (s.extract p s.size), 0, ByteArray.empty⟩

/-- The world behind the reading, the token in block t. -/
def RdEnd (b t : Nat) (w w' : World) (s : ByteArray) (m : Value) (fr : Int) (p : Nat) (l : Int) (R : Rd) : Prop := Fr2 b t w w' ∧ ScAt b w' s m fr (R.a : Int) (l + R.d) (!R.ok) ∧ TkAt t w' R.k p 0 l R.n R.x

theorem Lay.blocks {w w' : World} (h : Lay w) (hb : ∀ k, k < 9 → w'.heap[k]? = w.heap[k]?) : Lay w' := by
  obtain ⟨⟨⟨t1, f1, h1⟩, ⟨t2, f2, h2⟩, ⟨t3, f3, h3⟩⟩, ⟨⟨t4, f4, h4⟩, ⟨t5, f5, h5⟩⟩, h6, h7⟩ := h
  refine ⟨⟨⟨t1, f1, (hb _ (by decide)).trans h1⟩, ⟨t2, f2, (hb _ (by decide)).trans h2⟩, ⟨t3, f3, (hb _ (by decide)).trans h3⟩⟩, ⟨⟨t4, f4, ?_⟩, ⟨t5, f5, ?_⟩⟩, ?_, ?_⟩
  · unfold World.cell? at h4 ⊢; rw [hb _ (by decide)]; exact h4
  · unfold World.cell? at h5 ⊢; rw [hb _ (by decide)]; exact h5
  · unfold Lib.TabIs World.var? at h6 ⊢
    rw [show Tryd.prog.globalNamed "internal/strconv.uint64pow10" = some 6 by kernel_rfl] at h6 ⊢
    simp only [Option.bind_some] at h6 ⊢
    rw [hb _ (by decide)]; exact h6
  · unfold World.cell? at h7 ⊢; rw [hb _ (by decide)]; exact h7

theorem grw_trans2 {x y z : World} {b : Option Nat} (h : x.grownBy y b) (k : y.grownBy z b) : x.grownBy z b :=
  ⟨k.os.trans h.os, k.tape.trans h.tape, k.output.trans h.output, Nat.le_trans h.size k.size, fun i hi hne => (k.block i (Nat.lt_of_lt_of_le hi h.size) hne).trans (h.block i hi hne)⟩
set_option maxRecDepth 100000 in
set_option maxHeartbeats 6400000 in
theorem token_any {fr : Int} (s : ByteArray) (hm : s.size ≤ 70000) (b mb : Nat) (w : World) (p : Nat) (l : Int) (hp : p < s.size) (hl0 : 0 ≤ l) (hl : l ≤ 100000) (hmb : mb ≠ b) (hEb : 9 ≤ b) (hS : ScAt b w s (.map (some mb)) fr p l false) (hM : w.ownsMap Tryd.prog 9 (plainElem (H := Unit) Tryd.prog 3) mb 22 (wkD 22)) (hL : Lay w) :
    Calls Tryd.prog 26 #[.pointer (some ⟨b, 0, none⟩)] w fun e w' => e = .returned (.agg #[.int .i64 (rdI s p).k, .int .i64 p, .int .i64 ((rdI s p).a : Int), .int .i64 l, .int .i64 (rdI s p).n, .string (rdI s p).x]) ∧ w.grownBy w' (some b) ∧ ScAt b w' s (.map (some mb)) (p : Int) ((rdI s p).a : Int) (l + (rdI s p).d) (!(rdI s p).ok) := by
  have hbw : b < w.heap.size := lt_of_block hS
  have hmw : mb < w.heap.size := hM.lt
  have i1 := fun w => idx_run hp w
  obtain ⟨c0, c1, c2, c3, c4, f2, f3, f4⟩ := sc_cells hS
  obtain ⟨cF, fF⟩ := sc_from hS
  obtain ⟨R, hR⟩ : ∃ R, rdI s p = R := ⟨_, rfl⟩
  rw [hR]
  have HR : Hid (rdI s p = R) := hR
  clear hR
  go_enter Tryd.func26, Tryd.ntmps26
  go_wp2_with fail
  have hS0 := hS.setF (p : Int)
  have hM0 := map_fr2 (t := b) hM ((Fr2.refl b b w).setB 2 (.int .i64 (p : Int))) hmb hmb
  have hL0 : Lay (w.setCell ⟨b, 2, none⟩ (.int .i64 (p : Int))) := hL.blocks (fun k hk => heap_setCell_other _ _ _ _ (by simp only; omega))
  have hg0 : w.grownBy (w.setCell ⟨b, 2, none⟩ (.int .i64 (p : Int))) (some b) := ⟨rfl, rfl, rfl, by simp [World.setCell], fun k hk hne => heap_setCell_other _ _ _ _ (fun e => hne (by rw [e]))⟩
  have hsz0 : (w.setCell ⟨b, 2, none⟩ (.int .i64 (p : Int))).heap.size = w.heap.size := by simp [World.setCell]
  obtain ⟨c0', c1', c2', c3', c4', f2', f3', f4'⟩ := sc_cells hS0
  obtain ⟨cF', fF'⟩ := sc_from hS0
  rw [← hsz0]
  rw [← hsz0] at hbw hmw
  generalize w.setCell ⟨b, 2, none⟩ (.int .i64 (p : Int)) = wN at hS0 hM0 hL0 hg0 hsz0 hbw hmw c0' c1' c2' c3' c4' f2' f3' f4' cF' fF' ⊢
  have HG0 : Hid (w.grownBy wN (some b)) := hg0
  clear hS hM hL hg0 hsz0 c0 c1 c2 c3 c4 f2 f3 f4 cF fF
  go_region
  have hZ : ∀ x : World, TkAt x.heap.size (x.alloc (.cells #[.int .i64 0, .int .i64 0, .int .i64 0, .int .i64 0, .int .i64 0, .string { data := #[] }] 30)) 0 0 0 0 0 ByteArray.empty := fun x => heap_alloc_new x _
  have hB2 : Below wN.heap.size wN ((wN.alloc (.cells #[.int .i64 0, .int .i64 0, .int .i64 0, .int .i64 0, .int .i64 0, .string { data := #[] }] 30)).alloc (.cells #[.int .i64 0, .int .i64 p, .int .i64 0, .int .i64 l, .int .i64 0, .string { data := #[] }] 30)) :=
    (((Below.refl _ wN).alloc (Nat.le_refl _) _).alloc (by simp) _)
  have hZ2 : TkAt wN.heap.size ((wN.alloc (.cells #[.int .i64 0, .int .i64 0, .int .i64 0, .int .i64 0, .int .i64 0, .string { data := #[] }] 30)).alloc (.cells #[.int .i64 0, .int .i64 p, .int .i64 0, .int .i64 l, .int .i64 0, .string { data := #[] }] 30)) 0 0 0 0 0 ByteArray.empty :=
    (Below.heap_alloc _ _ _ (by simp)).trans (hZ wN)
  have hT2 : TkAt (wN.heap.size + 1) ((wN.alloc (.cells #[.int .i64 0, .int .i64 0, .int .i64 0, .int .i64 0, .int .i64 0, .string { data := #[] }] 30)).alloc (.cells #[.int .i64 0, .int .i64 p, .int .i64 0, .int .i64 l, .int .i64 0, .string { data := #[] }] 30)) 0 p 0 l 0 ByteArray.empty := by
    have := heap_alloc_new (wN.alloc (.cells #[.int .i64 0, .int .i64 0, .int .i64 0, .int .i64 0, .int .i64 0, .string { data := #[] }] 30)) (.cells #[.int .i64 0, .int .i64 p, .int .i64 0, .int .i64 l, .int .i64 0, .string { data := #[] }] 30)
    rw [World.size_alloc] at this
    exact this
  have hS2 := hS0.below hB2 hbw
  have hL2 := hL0.below hB2 (Nat.le_refl _)
  have hM2 := (hM0.alloc (.cells #[.int .i64 0, .int .i64 0, .int .i64 0, .int .i64 0, .int .i64 0, .string { data := #[] }] 30)).alloc (.cells #[.int .i64 0, .int .i64 p, .int .i64 0, .int .i64 l, .int .i64 0, .string { data := #[] }] 30)
  obtain ⟨W2, hW2⟩ : ∃ W2, ((wN.alloc (.cells #[.int .i64 0, .int .i64 0, .int .i64 0, .int .i64 0, .int .i64 0, .string { data := #[] }] 30)).alloc (.cells #[.int .i64 0, .int .i64 p, .int .i64 0, .int .i64 l, .int .i64 0, .string { data := #[] }] 30)) = W2 := ⟨_, rfl⟩
  rw [hW2] at hB2 hZ2 hT2 hS2 hL2 hM2 ⊢
  clear hW2 hZ c0' c1' c2' c3' c4' f2' f3' f4' cF' fF'
  obtain ⟨c0, c1, c2, c3, c4, f2, f3, f4⟩ := sc_cells hS2
  have hne : b ≠ wN.heap.size + 1 := by omega
  go_wp2_with fail
  go_quiet (fail)
  go_upto_block 0 with fail
  have hS3 : ScAt b (W2.drew.drewN nq) s (.map (some mb)) p p l false := hS2
  have hT3 : TkAt (wN.heap.size + 1) (W2.drew.drewN nq) 0 p 0 l 0 ByteArray.empty := hT2
  have hF3 : Fr2 b (wN.heap.size + 1) W2 (W2.drew.drewN nq) := ((Fr2.refl _ _ _).drew).drewN nq
  have hM3 : (W2.drew.drewN nq).ownsMap Tryd.prog 9 (plainElem (H := Unit) Tryd.prog 3) mb 22 (wkD 22) := hM2
  have hB3 : Tabs (W2.drew.drewN nq) := ⟨hL2.tabs.word, hL2.tabs.mark, hL2.tabs.bin⟩
  have hE3 : Errs (W2.drew.drewN nq) := ⟨hL2.errs.syn, hL2.errs.rng⟩
  generalize W2.drew.drewN nq = W3 at hS3 hT3 hF3 hM3 hB3 hE3 ⊢
  clear c0 c1 c2 c3 c4 f2 f3 f4 i1
  go_cut [] from 4 (fun wx => RdEnd b (wN.heap.size + 1) W2 wx s (.map (some mb)) p p l R)
  case first =>
    have kr1 := readName_any s hm b (wN.heap.size + 1) mb W3 p l l hp hne hmb (by omega) hS3 hT3 hM3
    have kr2 := fun hd => readNumber_any s hm b (wN.heap.size + 1) W3 (.map (some mb)) p l l hp hd hne hS3 hT3 hE3 (by omega) (by omega)
    have kr3 := readString_any s hm b (wN.heap.size + 1) W3 (.map (some mb)) p l p l hp hne hS3 hT3
    have kr4 := readSign_any s hm b (wN.heap.size + 1) W3 (.map (some mb)) p l l hp hl0 hl hne hS3 hT3 hB3 hEb (by omega)
    have hst := HR.out
    unfold rdI at hst
    clear hM3 hB3 hE3 hL2 hM2 hL0 hM0 HR
    cases hlt : lettB (bat s p) with
    | true =>
      rw [hlt, if_pos rfl] at hst
      have HS : Hid (({ ok := true, a := nmE s (s.size + 1) p, d := 0, k := (wdP s p).1, n := 0, x := (wdP s p).2 } : Rd) = R) := hst
      have kl := fun w => isLetter_any (bat s p) w
      rw [hlt] at kl
      clear hst hlt kr2 kr3 kr4
      generalize bat s p = c at kl ⊢
      go_wp2_with (first | (go_at_call 38; refine (kl _).mono ?_; rintro e w' ⟨rfl, rfl⟩) | (go_at_call 39; refine kr1.mono ?_; rintro e w4 ⟨rfl, g1, g2, g3⟩))
      go_meet
      case rel => rw [← HS.out]; exact ⟨hF3.trans g1, by simpa using g2, g3⟩
    | false =>
      rw [hlt, if_neg (by simp)] at hst
      have kl := fun w => isLetter_any (bat s p) w
      rw [hlt] at kl
      cases hdg : digB (bat s p) with
      | true =>
        rw [hdg, if_pos rfl] at hst
        have kd := fun w => isDigit_any (bat s p) w
        rw [hdg] at kd
        have HS : Hid ((if (numN s p).2 = true then ({ ok := true, a := (numN s p).1, d := 0, k := (nuP s p).1, n := (nuP s p).2.1, x := (nuP s p).2.2 } : Rd) else { ok := false, a := (numN s p).1, d := 0, k := 0, n := 0, x := ByteArray.empty }) = R) := hst
        have kr := kr2 hdg
        clear hst hlt hdg kr1 kr2 kr3 kr4
        generalize bat s p = c at kl kd ⊢
        go_wp2_with (first | (go_at_call 38; refine (kl _).mono ?_; rintro e w' ⟨rfl, rfl⟩) | (go_at_call 40; refine (kd _).mono ?_; rintro e w' ⟨rfl, rfl⟩) | (go_at_call 41; refine kr.mono ?_; rintro e w4 ⟨rfl, g1, g2⟩; have g2' : Hid _ := g2; clear g2))
        go_meet
        case rel =>
          rw [← HS.out]
          have g2 := g2'.out
          cases hok : (numN s p).2 with
          | true => rw [hok] at g2; simp only [if_true] at g2 ⊢; exact ⟨hF3.trans g1, by simpa using g2.1, g2.2⟩
          | false => rw [hok] at g2; simp only [Bool.false_eq_true, if_false] at g2 ⊢; exact ⟨hF3.trans g1, by simpa using g2.1, g2.2⟩
      | false =>
        rw [hdg, if_neg (by simp)] at hst
        have kd := fun w => isDigit_any (bat s p) w
        rw [hdg] at kd
        by_cases h34 : bat s p = 34
        · rw [if_pos h34] at hst
          have HS : Hid ((if (rdStr s (s.size + 1) (p + 1) []).1 = true then ({ ok := true, a := (rdStr s (s.size + 1) (p + 1) []).2.1, d := 0, k := 4, n := 0, x := strI (rdStr s (s.size + 1) (p + 1) []).2.2 } : Rd) else { ok := false, a := (rdStr s (s.size + 1) (p + 1) []).2.1, d := 0, k := 0, n := 0, x := ByteArray.empty }) = R) := hst
          rw [h34] at kl kd ⊢
          generalize rdStr s (s.size + 1) (p + 1) [] = Q at kr3 HS
          clear hst hlt hdg h34 kr1 kr2 kr4
          go_wp2_with (first | (go_at_call 38; refine (kl _).mono ?_; rintro e w' ⟨rfl, rfl⟩) | (go_at_call 40; refine (kd _).mono ?_; rintro e w' ⟨rfl, rfl⟩) | (go_at_call 42; refine kr3.mono ?_; rintro e w4 ⟨rfl, g1, g2⟩; have g2' : Hid _ := g2; clear g2))
          go_meet
          case rel =>
            rw [← HS.out]
            have g2 := g2'.out
            unfold StrEnd at g2
            obtain ⟨q1, q2, q3⟩ := Q
            cases q1 with
            | true => simp only [if_true] at g2 ⊢; exact ⟨hF3.trans g1, by simpa using g2.1, g2.2⟩
            | false => simp only [Bool.false_eq_true, if_false] at g2 ⊢; exact ⟨hF3.trans g1, by simpa using g2.1, g2.2⟩
        · rw [if_neg h34] at hst
          have g34 : (bat s p == 34) = false := by rw [beq_eq_false_iff_ne]; exact h34
          generalize skI (s.extract p s.size) = k at kr4 hst
          have HS : Hid ((if k = 0 then ({ ok := false, a := p, d := 0, k := 0, n := 0, x := ByteArray.empty } : Rd) else { ok := true, a := p + (fixI k).size, d := if k = 7 then 1 else 0, k := k, n := 0, x := ByteArray.empty }) = R) := hst
          clear hst hlt hdg h34 kr1 kr2 kr3
          generalize bat s p = c at kl kd g34 ⊢
          go_wp2_with (first | (go_at_call 38; refine (kl _).mono ?_; rintro e w' ⟨rfl, rfl⟩) | (go_at_call 40; refine (kd _).mono ?_; rintro e w' ⟨rfl, rfl⟩) | (go_at_call 43; refine kr4.mono ?_; rintro e w4 ⟨rfl, g1, g2⟩; have g2' : Hid _ := g2; clear g2))
          go_meet
          case rel =>
            rw [← HS.out]
            have g2 := g2'.out
            unfold SgnEnd at g2
            by_cases hk : k = 0
            · rw [if_pos hk] at g2 ⊢; exact ⟨hF3.trans g1, by simpa using g2.1, g2.2⟩
            · rw [if_neg hk] at g2 ⊢
              refine ⟨hF3.trans g1, ?_, g2.2⟩
              have g3 := g2.1
              have e1 : (if k = 7 then l + 1 else l) = l + (if k = 7 then 1 else 0) := by split <;> omega
              rw [e1] at g3
              simpa using g3
  case rest =>
    obtain ⟨hfr, hS4, hT4⟩ := hcut
    have hZ4 : TkAt wN.heap.size wc 0 0 0 0 0 ByteArray.empty := (hfr.block wN.heap.size (lt_of_block hZ2) (by omega) (by omega)).trans hZ2
    clear hS2 hT2 hZ2 hS3 hT3 hF3 hM3 hB3 hE3 hL2 hM2 hL0 hM0 HR
    obtain ⟨ok, a, d, k, n, x⟩ := R
    simp only at hS4 hT4 ⊢
    obtain ⟨c0, c1, c2, c3, c4, f2, f3, f4⟩ := sc_cells hS4
    obtain ⟨t0, t1, t2, t3, t4, t5, tf⟩ := tk_cells hT4
    obtain ⟨z0, z1, z2, z3, z4, z5, zf⟩ := tk_cells hZ4
    have hzlt : wN.heap.size < wc.heap.size := lt_of_block hZ4
    go_wp2
    refine bodyPost_ret (v := .agg #[.int .i64 k, .int .i64 p, .int .i64 (a : Int), .int .i64 l, .int .i64 n, .string x]) (by simp [results, Tryd.results26, go_sem, z0, z1, z2, z3, z4, z5]) rfl ⟨rfl, ?_, ?_⟩
    · refine grw_trans2 HG0.out ?_
      exact gr_new (gr_new (gr_new (gr_new (gr_new (gr_new (gr_new (gr_fr2 hB2 hfr (by omega)) _ (by simp)) _ (by simp)) _ (by simp)) _ (by simp)) _ (by simp)) _ (by simp)) _ (by simp)
    · exact ((((((hS4.other (by simp; omega) _).other (by simp; omega) _).other (by simp; omega) _).other (by simp; omega) _).other (by simp; omega) _).other (by simp; omega) _).other (by simp; omega) _
/-- The scanner in memory, wherever its last token began. -/
def ScE (b : Nat) (w : World) (s : ByteArray) (m : Value) (p l : Int) (k : Bool) : Prop := ∃ fr, ScAt b w s m fr p l k
theorem ScE.cells {b : Nat} {w : World} {s : ByteArray} {m : Value} {p l : Int} {k : Bool} (h : ScE b w s m p l k) : w.cell? ⟨b, 0, none⟩ = some (.string s) ∧ w.cell? ⟨b, 1, none⟩ = some m ∧ w.cell? ⟨b, 3, none⟩ = some (.int .i64 p) ∧ w.cell? ⟨b, 4, none⟩ = some (.int .i64 l) ∧ w.cell? ⟨b, 5, none⟩ = some (.bool k) ∧
    w.frozen? ⟨b, 3, none⟩ = false ∧ w.frozen? ⟨b, 4, none⟩ = false ∧ w.frozen? ⟨b, 5, none⟩ = false := by obtain ⟨fr, h⟩ := h; exact sc_cells h
theorem ScE.pos {b : Nat} {w : World} {s : ByteArray} {m : Value} {p : Nat} {l : Int} {k : Bool} (h : ScE b w s m p l k) : posOf b w = p := by obtain ⟨fr, h⟩ := h; exact posOf_eq h
theorem ScE.lt {b : Nat} {w : World} {s : ByteArray} {m : Value} {p l : Int} {k : Bool} (h : ScE b w s m p l k) : b < w.heap.size := by obtain ⟨fr, h⟩ := h; exact lt_of_block h
theorem ScE.setP {b : Nat} {w : World} {s : ByteArray} {m : Value} {p l : Int} {k : Bool} (h : ScE b w s m p l k) (x : Int) : ScE b (w.setCell ⟨b, 3, none⟩ (.int .i64 x)) s m x l k := by obtain ⟨fr, h⟩ := h; exact ⟨fr, h.setP x⟩
theorem ScE.heap {b : Nat} {w w' : World} {s : ByteArray} {m : Value} {p l : Int} {k : Bool} (h : ScE b w s m p l k) (he : w'.heap[b]? = w.heap[b]?) : ScE b w' s m p l k := by obtain ⟨fr, h⟩ := h; exact ⟨fr, he.trans h⟩
theorem token_e (s : ByteArray) (hm : s.size ≤ 70000) (b mb : Nat) (w : World) (p : Nat) (l : Int) (hp : p < s.size) (hl0 : 0 ≤ l) (hl : l ≤ 100000) (hmb : mb ≠ b) (hEb : 9 ≤ b) (hS : ScE b w s (.map (some mb)) p l false) (hM : w.ownsMap Tryd.prog 9 (plainElem (H := Unit) Tryd.prog 3) mb 22 (wkD 22)) (hL : Lay w) :
    Calls Tryd.prog 26 #[.pointer (some ⟨b, 0, none⟩)] w fun e w' => e = .returned (.agg #[.int .i64 (rdI s p).k, .int .i64 p, .int .i64 ((rdI s p).a : Int), .int .i64 l, .int .i64 (rdI s p).n, .string (rdI s p).x]) ∧ w.grownBy w' (some b) ∧ ScE b w' s (.map (some mb)) ((rdI s p).a : Int) (l + (rdI s p).d) (!(rdI s p).ok) := by
  obtain ⟨fr, hS⟩ := hS
  exact (token_any s hm b mb w p l hp hl0 hl hmb hEb hS hM hL).mono fun e w' ⟨h1, h2, h3⟩ => ⟨h1, h2, _, h3⟩
end Go.Proofs.YtlmkmihbbnjngaaDoor
