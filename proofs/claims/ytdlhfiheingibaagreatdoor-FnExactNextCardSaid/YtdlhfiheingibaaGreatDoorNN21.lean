import Derived.Test.YtdlhfiheingibaaGreatDoorNN20
namespace Go.Proofs.YtdlhfiheingibaaGreatDoor
open Go.RowKit Go.Maps Go.WideMaps
set_option linter.unusedVariables false
attribute [local go_sem] Oper.semAt_some

/-- The block is a scanner's. -/
def ScX (b : Nat) (W : World) : Prop := ∃ cs fr, W.heap[b]? = some (.cells cs 63 fr)
theorem ScE.x {b : Nat} {W : World} {s : ByteArray} {m : Value} {p l : Int} {k : Bool} (h : ScE b W s m p l k) : ScX b W := by obtain ⟨fr, h⟩ := h; exact ⟨_, _, h⟩
/-- The scanner at q, in line l2, while what I says stands for the place p in line l. -/
structure Iw (b mb B : Nat) (s : ByteArray) (I : Nat → Int → World → Prop) (W : World) (q : Nat) (l2 : Int) (p : Nat) (l : Int) : Prop where
  sc : ScE b W s (.map (some mb)) q l2 false
  mp : W.ownsMap Tryz.prog 9 (plainElem (H := Unit) Tryz.prog 3) mb 22 (wkD 22)
  ly : Lay W
  ii : I p l W
  sz : B ≤ W.heap.size
theorem Iw.gr {b mb B : Nat} {s : ByteArray} {I : Nat → Int → World → Prop} {W W' : World} {p q p' q' : Nat} {l l2 l' l2' : Int} (h : Iw b mb B s I W q l2 p l) (hT : ∀ p l W W', I p l W → ScX b W → W.grownBy W' (some b) → I p l W') (hmb : mb ≠ b) (hb9 : 10 ≤ b) (hB9 : 10 ≤ B) (hg : W.grownBy W' (some b)) (hS : ScE b W' s (.map (some mb)) q' l2' false) (hi : I p l W' → I p' l' W') : Iw b mb B s I W' q' l2' p' l' :=
  ⟨hS, h.mp.kept hg (by simp [hmb]), h.ly.blocks (fun k hk => hg.block k (by have := h.sz; omega) (by simp; omega)), hi (hT _ _ _ _ h.ii h.sc.x hg), Nat.le_trans h.sz hg.size⟩
/-- A token begins at p. -/
structure TkAtP (s : ByteArray) (p : Nat) : Prop where
  lt : p < s.size
  nb : ¬ blankB (bat s p) = true
  nd : ¬ (bat s p = 45 ∧ bat s (p + 1) = 45)
/-- How the scanner has come to an end: off the text's end; stuck in the token that begins at p. -/
inductive IwEnd (b mb B : Nat) (s : ByteArray) (I : Nat → Int → World → Prop) (W : World) : Prop
  | fin (l : Int) (h : Iw b mb B s I W s.size l s.size l)
  | bad (p : Nat) (l : Int) (hp : TkAtP s p) (hr : (rdI s p).ok = false) (hS : ScAt b W s (.map (some mb)) (p : Int) ((rdI s p).a : Int) (l + (rdI s p).d) true) (hy : Lay W) (hz : B ≤ W.heap.size) (hi : I p l W)

set_option maxRecDepth 100000 in
set_option maxHeartbeats 6400000 in
/-- The scanner's tokens; a round may panic. -/
theorem tokens_pn (n l b mb B : Nat) (s : ByteArray) (hm : s.size ≤ 70000) (hbB : b < B) (hmb : mb ≠ b) (hb9 : 10 ≤ b)
    (I : Nat → Int → World → Prop) (hT : ∀ p l W W', I p l W → ScX b W → W.grownBy W' (some b) → I p l W') (hP : ∀ p q l W, blk s (s.size + 1) p = blk s (s.size + 1) q → p ≤ q → q ≤ s.size → I p l W → I q l W) (hL : ∀ p l W, I p l W → 0 ≤ l ∧ l ≤ (p : Int) + 1 ∧ p ≤ s.size)
    (BK : World → Prop) (hBK : ∀ W W', KeepsFrom B W W' → BK W → BK W') (Pn : List PanicEntry → World → Prop)
    (hY : ∀ p ln W, TkAtP s p → (rdI s p).ok = true → Iw b mb B s I W (rdI s p).a (ln + (rdI s p).d) p ln → BK W → YieldAt Fence.wide (n - 1) Tryz.prog l #[vTk ⟨(rdI s p).k, (p : Int), ((rdI s p).a : Int), ln, (rdI s p).n, (rdI s p).x⟩] W fun e W' => (e = .returned (.bool true) ∧ Iw b mb B s I W' (rdI s p).a (ln + (rdI s p).d) (rdI s p).a (ln + (rdI s p).d) ∧ BK W') ∨ (∃ ch, e = .panicked ch ∧ Pn ch W'))
    (W : World) (p0 : Nat) (l0 : Int) (hI : Iw b mb B s I W p0 l0 p0 l0) (hB0 : BK W) :
    CallsIn Fence.wide n Tryz.prog 23 #[.pointer (some ⟨b, 0, none⟩), .func (.yield l) #[] #[]] W fun e W' => ((∃ v, e = .returned v) ∧ IwEnd b mb B s I W' ∧ BK W') ∨ (∃ ch, e = .panicked ch ∧ Pn ch W') := by
  have keep : ∀ {X Y : World}, X.grownBy Y (some b) → BK X → BK Y := fun hg h => hBK _ _ (KeepsFrom.of_grownBy hg (fun j e => by cases e; exact hbB)) h
  refine callsIn_wide.2 ?_
  go_enter Tryz.func23, Tryz.ntmps23
  go_wp2
  go_step3
  go_wp2
  go_step3
  go_wp2
  have sq : ∀ {X : World} {p : Nat} {ln : Int} (q : Nat), Iw b mb B s I X p ln p ln → Iw b mb B s I (X.drewN q) p ln p ln := fun q h => h.gr hT hmb hb9 (by omega) (gr_drewN (gr_refl _ b) q) h.sc id
  have sb : ∀ {X : World} (q : Nat), BK X → BK (X.drewN q) := fun q h => keep (gr_drewN (gr_refl _ b) q) h
  have sp : ∀ {X : World} {p : Nat} {ln : Int} (p' : Nat), blk s (s.size + 1) p = blk s (s.size + 1) p' → p ≤ p' → p' ≤ s.size → Iw b mb B s I X p ln p ln → Iw b mb B s I (X.setCell ⟨b, 3, none⟩ (.int .i64 (p' : Int))) p' ln p' ln := fun p' he hl hs h => h.gr hT hmb hb9 (by omega) (gr_setb _ b 3 _) (h.sc.setP _) (hP _ _ _ _ he hl hs)
  have sbp : ∀ {X : World} (v : Value), BK X → BK (X.setCell ⟨b, 3, none⟩ v) := fun v h => keep (gr_setb _ b 3 v) h
  go_loopw [] (fun wr => ∃ (p : Nat) (ln : Int), Iw b mb B s I wr p ln p ln ∧ BK wr) (fun wr => s.size - posOf b wr)
  case atStart => exact ⟨p0, l0, hI, hB0⟩
  case round =>
    obtain ⟨p, ln, hIr, hBr⟩ := hrel
    have hpo := ScE.pos hIr.sc
    obtain ⟨hl0, hl1, hple⟩ := hL _ _ _ hIr.ii
    obtain ⟨c0, c1, c2, c3, c4, f2, f3, f4⟩ := ScE.cells hIr.sc
    by_cases hp : p < s.size
    · have hpi : (p : Int) < (s.size : Int) := by omega
      have i1 := fun w => idx_run hp w
      have HPO : Hid (posOf b wr = p) := hpo
      clear hpo
      go_wp2_with fail
      go_quiet (fail)
      go_wp2_with fail
      have hI1 := sq nq hIr
      have hB1 := sb nq hBr
      generalize wr.drewN nq = W1 at hI1 hB1 ⊢
      clear c0 c1 c2 c3 c4 f2 f3 f4 hIr hBr
      obtain ⟨c0, c1, c2, c3, c4, f2, f3, f4⟩ := ScE.cells hI1.sc
      have kb : ∀ w, Calls Tryz.prog 41 #[.int .u8 (bat s p)] w fun e w' => e = .returned (.bool (blankB (bat s p))) ∧ w' = w := fun w => (isBlank_any _ w).mono fun e w' h => ⟨h.1, h.2.symm⟩
      cases hbl : blankB (bat s p) with
      | true =>
        have hbe := blk_blank s p hp hbl
        rw [hbl] at kb
        generalize bat s p = c at i1 kb
        clear hbl
        go_quiet ((go_at_call 41; exact Calls.quiet_of_same (kb _)))
        have hI2 := sp (p + 1) hbe (by omega) (by omega) (sq nq hI1)
        have hB2 := sbp (.int .i64 ((p + 1 : Nat) : Int)) (sb nq hB1)
        rw [show ((p + 1 : Nat) : Int) = (p : Int) + 1 by omega] at hI2 hB2
        go_wp2_with fail
        exact ⟨⟨p + 1, ln, hI2, hB2⟩, by rw [ScE.pos hI2.sc, HPO.out]; omega⟩
      | false =>
        rw [hbl] at kb
        go_quiet ((go_at_call 41; exact Calls.quiet_of_same (kb _)))
        go_wp2_with fail
        have hI2 := sq nq hI1
        have hB2 := sb nq hB1
        generalize W1.drewN nq = W2 at hI2 hB2 ⊢
        clear c0 c1 c2 c3 c4 f2 f3 f4 hI1 hB1 kb
        obtain ⟨c0, c1, c2, c3, c4, f2, f3, f4⟩ := ScE.cells hI2.sc
        have kp := fun w => pre_dash s p w
        by_cases hda : bat s p = 45 ∧ bat s (p + 1) = 45
        · rw [decide_eq_true hda] at kp
          have hbe := blk_dash s p hda.1 hda.2
          have hnl := nlE_bd s p hple
          have hnp := nlE_pos s p hda.1
          go_quiet ((go_at_call 42; exact Calls.quiet_of_same (kp _)))
          go_wp2_with fail
          have hI3 := sq nq hI2
          have hB3 := sb nq hB2
          generalize W2.drewN nq = W3 at hI3 hB3 ⊢
          clear c0 c1 c2 c3 c4 f2 f3 f4 hI2 hB2 kp i1
          go_loopw [] (fun wq => ∃ (k g : Nat), p ≤ k ∧ k ≤ s.size ∧ s.size < k + g ∧ RunIs nnB s g k (nlE s p) ∧ Iw b mb B s I wq k ln p ln ∧ BK wq) (fun wq => s.size - posOf b wq)
          case atStart => exact ⟨p, s.size + 1, Nat.le_refl _, hple, by omega, ⟨rfl⟩, hI3, hB3⟩
          case round =>
            obtain ⟨k, g, hpk, hks, hkg, hru, hIk, hBk⟩ := hrel
            obtain ⟨g, rfl⟩ : ∃ q, g = q + 1 := ⟨g - 1, by omega⟩
            obtain ⟨c0, c1, c2, c3, c4, f2, f3, f4⟩ := ScE.cells hIk.sc
            have hst := hru.out
            rw [runE] at hst
            have hpk2 := ScE.pos hIk.sc
            have HPK : Hid (posOf b wr = k) := hpk2
            clear hpk2
            have dq : ∀ {X : World} {q : Nat} (j : Nat), Iw b mb B s I X q ln p ln → Iw b mb B s I (X.drewN j) q ln p ln := fun j h => h.gr hT hmb hb9 (by omega) (gr_drewN (gr_refl _ b) j) h.sc id
            have dp : ∀ {X : World} {q : Nat} (q' : Nat), Iw b mb B s I X q ln p ln → Iw b mb B s I (X.setCell ⟨b, 3, none⟩ (.int .i64 (q' : Int))) q' ln p ln := fun q' h => h.gr hT hmb hb9 (by omega) (gr_setb _ b 3 _) (h.sc.setP _) id
            by_cases hkl : k < s.size
            · have hki : (k : Int) < (s.size : Int) := by omega
              have i2 := fun w => idx_run hkl w
              go_wp2_with fail
              go_quiet (fail)
              go_wp2_with fail
              have hI4 := dq nq hIk
              have hB4 := sb nq hBk
              generalize wr.drewN nq = W4 at hI4 hB4 ⊢
              clear c0 c1 c2 c3 c4 f2 f3 f4 hIk hBk
              obtain ⟨c0, c1, c2, c3, c4, f2, f3, f4⟩ := ScE.cells hI4.sc
              by_cases h10 : bat s k = 10
              · rw [if_neg (by rw [h10]; decide)] at hst
                rw [h10] at i2
                have HK : Hid (k = nlE s p) := hst
                clear hst hru h10
                go_quiet (fail)
                go_wp2_with fail
                have hI5 := dq nq hI4
                have hB5 := sb nq hB4
                rw [← HK.out] at hbe
                have hI6 : Iw b mb B s I (W4.drewN nq) k ln k ln := ⟨hI5.sc, hI5.mp, hI5.ly, hP _ _ _ _ hbe hpk hks hI5.ii, hI5.sz⟩
                exact ⟨⟨k, ln, hI6, hB5⟩, by rw [ScE.pos hI5.sc, HPO.out]; have := HK.out; omega⟩
              · have hnn : nnB (bat s k) = true := by
                  have := bat_in hkl
                  unfold nnB
                  rw [decide_eq_true_iff]
                  exact ⟨h10, by omega⟩
                rw [if_pos hnn] at hst
                have g10 : (bat s k == 10) = false := by rw [beq_eq_false_iff_ne]; exact h10
                generalize bat s k = c at i2 g10
                clear hnn h10 hru
                have HS : RunIs nnB s g (k + 1) (nlE s p) := ⟨hst⟩
                clear hst
                go_quiet (fail)
                have hI5 := dp (k + 1) (dq nq hI4)
                have hB5 := sbp (.int .i64 ((k + 1 : Nat) : Int)) (sb nq hB4)
                rw [show ((k + 1 : Nat) : Int) = (k : Int) + 1 by omega] at hI5 hB5
                go_wp2_with fail
                exact ⟨⟨k + 1, g, by omega, by omega, by omega, HS, hI5, hB5⟩, by rw [ScE.pos hI5.sc, HPK.out]; omega⟩
            · obtain rfl : k = s.size := by omega
              rw [if_neg (by rw [bat_out (Nat.lt_irrefl _)]; decide)] at hst
              have HK : Hid (s.size = nlE s p) := hst
              clear hst hru
              have hE : Iw b mb B s I wr s.size ln s.size ln := ⟨hIk.sc, hIk.mp, hIk.ly, hP _ _ _ _ (by rw [hbe, ← HK.out]) hple (Nat.le_refl _) hIk.ii, hIk.sz⟩
              go_wp2_with fail
              go_quiet (fail)
              go_wp2
              rw [Exit.noGoto_ret]
              refine bodyPost_ret (results_none rfl _ _ _) rfl ?_
              exact .inl ⟨⟨_, rfl⟩, .fin ln (sq _ hE), sb _ hBk⟩
        · have hda' : ¬ (bat s p = 45 ∧ bat s (p + 1) = 45) := hda
          rw [decide_eq_false hda] at kp
          have hblf : ¬ blankB (bat s p) = true := by rw [hbl]; simp
          have HTK : TkAtP s p := ⟨hp, hblf, hda'⟩
          have hpos := rdI_pos s p hp
          have kt := fun (w : World) (hI : Iw b mb B s I w p ln p ln) (fr : Int) (hf : ScAt b w s (.map (some mb)) fr p ln false) => token_any s hm b mb w p ln hp hl0 (by omega) hmb hb9 hf hI.mp hI.ly
          have hYp := fun W => hY p ln W HTK
          go_quiet ((go_at_call 42; exact Calls.quiet_of_same (kp _)))
          go_wp2_with (go_at_call 43; fail)
          have hI3 := sq nq hI2
          have hB3 := sb nq hB2
          obtain ⟨fr3, hf3⟩ := hI3.sc
          have kt3 := kt _ hI3 fr3 hf3
          have hbadE := fun (W : World) (l : Int) (h1 : (rdI s p).ok = false) => IwEnd.bad (b := b) (mb := mb) (B := B) (I := I) (W := W) p l HTK h1
          generalize W2.drewN nq = W3 at hI3 hB3 kt3 hf3 ⊢
          clear c0 c1 c2 c3 c4 f2 f3 f4 hI2 hB2 kp i1 kt hbl hblf hda hda' hY hf3
          generalize rdI s p = R at kt3 hpos hYp hbadE
          obtain ⟨ok, ra, rd, rk, rn, rx⟩ := R
          simp only at kt3 hpos hYp hbadE
          refine kt3.mono ?_
          rintro e w4 ⟨rfl, hg4, hS4⟩
          have hB4 := keep hg4 hB3
          have hb4 : b < w4.heap.size := lt_of_block hS4
          clear kt3
          cases ok with
          | false =>
            have hT4 := hT _ _ _ _ hI3.ii hI3.sc.x hg4
            have hga := World.grownBy_alloc w4 (.cells #[.int .i64 rk, .int .i64 p, .int .i64 (ra : Int), .int .i64 ln, .int .i64 rn, .string rx] 45) (some b)
            have hT5 := hT _ _ _ _ hT4 ⟨_, _, hS4⟩ hga
            have hB5 := keep hga hB4
            have hS5 : ScAt b (w4.alloc (.cells #[.int .i64 rk, .int .i64 p, .int .i64 (ra : Int), .int .i64 ln, .int .i64 rn, .string rx] 45)) s (.map (some mb)) (p : Int) (ra : Int) (ln + rd) true := (Below.heap_alloc w4 _ b hb4).trans hS4
            have hy5 : Lay (w4.alloc (.cells #[.int .i64 rk, .int .i64 p, .int .i64 (ra : Int), .int .i64 ln, .int .i64 rn, .string rx] 45)) := hI3.ly.blocks (fun k hk => ((Below.heap_alloc w4 _ k (by have := hI3.sz; have := hg4.size; omega)).trans (hg4.block k (by have := hI3.sz; omega) (by simp; omega))))
            have hz5 : B ≤ (w4.alloc (.cells #[.int .i64 rk, .int .i64 p, .int .i64 (ra : Int), .int .i64 ln, .int .i64 rn, .string rx] 45)).heap.size := by have := hI3.sz; have := hg4.size; simp; omega
            obtain ⟨c0, c1, c2, c3, c4, f2, f3, f4⟩ := sc_cells hS4
            have HFB : Hid (IwEnd b mb B s I (w4.alloc (.cells #[.int .i64 rk, .int .i64 p, .int .i64 (ra : Int), .int .i64 ln, .int .i64 rn, .string rx] 45)) ∧ BK (w4.alloc (.cells #[.int .i64 rk, .int .i64 p, .int .i64 (ra : Int), .int .i64 ln, .int .i64 rn, .string rx] 45))) := ⟨hbadE _ ln rfl hS5 hy5 hz5 hT5, hB5⟩
            clear hT4 hT5 hS5 hy5 hz5 hB5 hbadE hYp
            go_wp2
            rw [Exit.noGoto_ret]
            refine bodyPost_ret (results_none rfl _ _ _) rfl ?_
            exact .inl ⟨⟨_, rfl⟩, HFB.out.1, HFB.out.2⟩
          | true =>
            have hpo := hpos rfl
            have hga := World.grownBy_alloc w4 (.cells #[.int .i64 rk, .int .i64 p, .int .i64 (ra : Int), .int .i64 ln, .int .i64 rn, .string rx] 45) (some b)
            have hI4 : Iw b mb B s I w4 ra (ln + rd) p ln := hI3.gr hT hmb hb9 (by omega) hg4 ⟨_, hS4⟩ id
            have hI5 : Iw b mb B s I (w4.alloc (.cells #[.int .i64 rk, .int .i64 p, .int .i64 (ra : Int), .int .i64 ln, .int .i64 rn, .string rx] 45)) ra (ln + rd) p ln := hI4.gr hT hmb hb9 (by omega) hga ⟨_, (Below.heap_alloc w4 _ b hb4).trans hS4⟩ id
            have hB5 := keep hga hB4
            obtain ⟨fn, tmps, assign, body, hy, hRy⟩ := hYp _ rfl hI5 hB5
            unfold vTk at hy
            simp only at hy
            obtain ⟨c0, c1, c2, c3, c4, f2, f3, f4⟩ := sc_cells hS4
            clear hbadE hYp
            go_upto_region 8 with fail
            refine (wpIn_wide (n := n)).1 ?_
            gi_wp2
            refine ⟨fun h => by simp [Fence.wide] at h, hRy.mono ?_⟩
            rintro e W6 (⟨rfl, hI6, hB6⟩ | ⟨ch, rfl, hpn⟩)
            · clear c0 c1 c2 c3 c4 f2 f3 f4 hy hRy
              gi_wp2
              go_wp2_with fail
              exact ⟨⟨ra, ln + rd, hI6, hB6⟩, by rw [ScE.pos hI6.sc, HPO.out]; omega⟩
            · exact ⟨rfl, .inr ⟨ch, rfl, hpn⟩⟩
    · obtain rfl : p = s.size := by omega
      go_wp2_with fail
      go_quiet (fail)
      go_wp2
      try rw [Exit.noGoto_normal]
      go_end0
      exact .inl ⟨⟨_, rfl⟩, .fin ln (sq _ hIr), sb _ hBr⟩
end Go.Proofs.YtdlhfiheingibaaGreatDoor
