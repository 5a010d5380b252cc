import Derived.Test.YtlmkmihbbnjngaaDoorZPure
import Derived.Test.YtlmkmihbbnjngaaDoorRTok
import Derived.Deep.CutBlock
namespace Go.Proofs.YtlmkmihbbnjngaaDoor
open Go.RowKit Go.Maps Go.WideMaps
set_option linter.unusedVariables false
attribute [local go_sem] Oper.semAt_some

/-- The scanner at p, in line l, behind the tokens 'pre'. -/
structure Iv (b mb B : Nat) (s : ByteArray) (T : List Tk → World → Prop) (pre : List Tk) (W : World) (p : Nat) (l : Int) : Prop where
  sc : ScE b W s (.map (some mb)) p l false
  mp : W.ownsMap Tryd.prog 9 (plainElem (H := Unit) Tryd.prog 3) mb 22 (wkD 22)
  ly : Lay W
  tt : T pre W
  sz : B ≤ W.heap.size
theorem Iv.gr {b mb B : Nat} {s : ByteArray} {T : List Tk → World → Prop} {pre : List Tk} {W W' : World} {p p' : Nat} {l l' : Int} (h : Iv b mb B s T pre W p l) (hT : ∀ k W W', T k W → W.grownBy W' (some b) → T k W') (hmb : mb ≠ b) (hb9 : 9 ≤ b) (hB9 : 9 ≤ B) (hg : W.grownBy W' (some b)) (hS : ScE b W' s (.map (some mb)) p' l' false) : Iv b mb B s T pre W' p' l' :=
  ⟨hS, h.mp.kept hg (by simp [hmb]), h.ly.blocks (fun k hk => hg.block k (by have := h.sz; omega) (by simp; omega)), hT _ _ _ h.tt hg, Nat.le_trans h.sz hg.size⟩

theorem gr_setb (w : World) (b i : Nat) (v : Value) : w.grownBy (w.setCell ⟨b, i, none⟩ v) (some b) :=
  ⟨rfl, rfl, rfl, by simp [World.setCell], fun k hk hne => heap_setCell_other _ _ _ _ (by simpa using hne)⟩

theorem pre_dash (s : ByteArray) (p : Nat) (w : World) : Calls Tryd.prog 25 #[.string (s.extract p s.size), .string { data := #[45, 45] }] w fun e w' => e = .returned (.bool (decide (bat s p = 45 ∧ bat s (p + 1) = 45))) ∧ w' = w := by
  have h := Tryd.strings_HasPrefix (s.extract p s.size) { data := #[45, 45] } w
  rw [show ({ data := #[45, 45] } : ByteArray).data.toList = [45, 45] from rfl, pre_two] at h
  exact h

/-- Where the last of these tokens ends. -/
def lastT (pre : List Tk) : Nat := match pre.getLast? with | some x => x.t.toNat | none => 0
theorem lastT_app (pre : List Tk) (x : Tk) : lastT (pre ++ [x]) = x.t.toNat := by unfold lastT; rw [List.getLast?_concat]
structure RunIs (q : Int → Bool) (s : ByteArray) (f p e : Nat) : Prop where
  out : runE q s f p = e
def IEnd (b mb B : Nat) (s : ByteArray) (T : List Tk → World → Prop) (E : Bool × Nat × List Tk) (W : World) : Prop :=
  (E.1 = true ∧ ∃ p l, Iv b mb B s T E.2.2 W p l) ∨ (E.1 = false ∧ ∃ pre l, ScE b W s (.map (some mb)) (E.2.1 : Int) l true ∧ T pre W)

set_option maxRecDepth 100000 in
set_option maxHeartbeats 6400000 in
theorem tokens_any (n l b mb B : Nat) (s : ByteArray) (hm : s.size ≤ 70000) (E : Bool × Nat × List Tk) (hbB : b < B) (hmb : mb ≠ b) (hb9 : 9 ≤ b)
    (T : List Tk → World → Prop) (hT : ∀ k W W', T k W → W.grownBy W' (some b) → T k W') (BK : World → Prop) (hBK : ∀ W W', KeepsFrom B W W' → BK W → BK W')
    (hY : ∀ pre x W, (∃ ln f, Iv b mb B s T pre W (lastT (pre ++ [x])) ln ∧ Rel s E (pre ++ [x]) (lastT (pre ++ [x])) ln f) → BK W → YieldAt Fence.wide (n - 1) Tryd.prog l #[vTk x] W fun e W' => e = .returned (.bool true) ∧ (∃ ln f, Iv b mb B s T (pre ++ [x]) W' (lastT (pre ++ [x])) ln ∧ Rel s E (pre ++ [x]) (lastT (pre ++ [x])) ln f) ∧ BK W')
    (W : World) (p0 : Nat) (l0 : Int) (f0 : Nat) (hI : Iv b mb B s T [] W p0 l0) (hR : Rel s E [] p0 l0 f0) (hB0 : BK W) :
    CallsIn Fence.wide n Tryd.prog 17 #[.pointer (some ⟨b, 0, none⟩), .func (.yield l) #[] #[]] W fun e W' => (∃ v, e = .returned v) ∧ IEnd b mb B s T E W' ∧ BK W' := by
  have keep : ∀ {X Y : World}, X.grownBy Y (some b) → BK X → BK Y := fun hg h => hBK _ _ (KeepsFrom.of_grownBy hg (fun j e => by cases e; exact hbB)) h
  refine callsIn_wide.2 ?_
  go_enter Tryd.func17, Tryd.ntmps17
  go_wp2
  go_step3
  go_wp2
  go_step3
  go_wp2
  have sq : ∀ {pre : List Tk} {X : World} {p : Nat} {ln : Int} (q : Nat), Iv b mb B s T pre X p ln → Iv b mb B s T pre (X.drewN q) p ln := fun q h => h.gr hT hmb hb9 (by omega) (gr_drewN (gr_refl _ b) q) h.sc
  have sb : ∀ {X : World} (q : Nat), BK X → BK (X.drewN q) := fun q h => keep (gr_drewN (gr_refl _ b) q) h
  have sp : ∀ {pre : List Tk} {X : World} {p : Nat} {ln : Int} (p' : Nat), Iv b mb B s T pre X p ln → Iv b mb B s T pre (X.setCell ⟨b, 3, none⟩ (.int .i64 (p' : Int))) p' ln := fun p' h => h.gr hT hmb hb9 (by omega) (gr_setb _ b 3 _) (h.sc.setP _)
  have sbp : ∀ {X : World} (v : Value), BK X → BK (X.setCell ⟨b, 3, none⟩ v) := fun v h => keep (gr_setb _ b 3 v) h
  go_loopw [] (fun wr => ∃ (pre : List Tk) (p : Nat) (ln : Int) (f : Nat), Iv b mb B s T pre wr p ln ∧ Rel s E pre p ln f ∧ BK wr) (fun wr => s.size - posOf b wr)
  case atStart => exact ⟨[], p0, l0, f0, hI, hR, hB0⟩
  case round =>
    obtain ⟨pre, p, ln, f, hIr, hRr, hBr⟩ := hrel
    have hpo := ScE.pos hIr.sc
    have hple := hRr.le
    obtain ⟨c0, c1, c2, c3, c4, f2, f3, f4⟩ := ScE.cells hIr.sc
    by_cases hp : p < s.size
    · have hpi : (p : Int) < (s.size : Int) := by omega
      have i1 := fun w => idx_run hp w
      have HPO : Hid (posOf b wr = p) := hpo
      clear hpo
      go_wp2_with fail
      go_quiet (fail)
      go_wp2_with fail
      have hI1 := sq nq hIr
      have hB1 := sb nq hBr
      generalize wr.drewN nq = W1 at hI1 hB1 ⊢
      clear c0 c1 c2 c3 c4 f2 f3 f4 hIr hBr
      obtain ⟨c0, c1, c2, c3, c4, f2, f3, f4⟩ := ScE.cells hI1.sc
      have kb : ∀ w, Calls Tryd.prog 24 #[.int .u8 (bat s p)] w fun e w' => e = .returned (.bool (blankB (bat s p))) ∧ w' = w := fun w => (isBlank_any _ w).mono fun e w' h => ⟨h.1, h.2.symm⟩
      cases hbl : blankB (bat s p) with
      | true =>
        have hR2 := hRr.blank hp hbl
        rw [hbl] at kb
        generalize bat s p = c at i1 kb
        clear hbl
        go_quiet ((go_at_call 24; exact Calls.quiet_of_same (kb _)))
        have hI2 := sp (p + 1) (sq nq hI1)
        have hB2 := sbp (.int .i64 ((p + 1 : Nat) : Int)) (sb nq hB1)
        rw [show ((p + 1 : Nat) : Int) = (p : Int) + 1 by omega] at hI2 hB2
        go_wp2_with fail
        exact ⟨⟨pre, p + 1, ln, f, hI2, hR2, hB2⟩, by rw [ScE.pos hI2.sc, HPO.out]; omega⟩
      | false =>
        rw [hbl] at kb
        go_quiet ((go_at_call 24; exact Calls.quiet_of_same (kb _)))
        go_wp2_with fail
        have hI2 := sq nq hI1
        have hB2 := sb nq hB1
        generalize W1.drewN nq = W2 at hI2 hB2 ⊢
        clear c0 c1 c2 c3 c4 f2 f3 f4 hI1 hB1 kb
        obtain ⟨c0, c1, c2, c3, c4, f2, f3, f4⟩ := ScE.cells hI2.sc
        have kp := fun w => pre_dash s p w
        by_cases hda : bat s p = 45 ∧ bat s (p + 1) = 45
        · rw [decide_eq_true hda] at kp
          have hRd := hRr.dash hda.1 hda.2
          have hnl := nlE_bd s p hple
          have hnp := nlE_pos s p hda.1
          go_quiet ((go_at_call 25; exact Calls.quiet_of_same (kp _)))
          go_wp2_with fail
          have hI3 := sq nq hI2
          have hB3 := sb nq hB2
          generalize W2.drewN nq = W3 at hI3 hB3 ⊢
          clear c0 c1 c2 c3 c4 f2 f3 f4 hI2 hB2 kp i1
          go_loopw [] (fun wq => ∃ (k g : Nat), p ≤ k ∧ k ≤ s.size ∧ s.size < k + g ∧ RunIs nnB s g k (nlE s p) ∧ Iv b mb B s T pre wq k ln ∧ BK wq) (fun wq => s.size - posOf b wq)
          case atStart => exact ⟨p, s.size + 1, Nat.le_refl _, hple, by omega, ⟨rfl⟩, hI3, hB3⟩
          case round =>
            obtain ⟨k, g, hpk, hks, hkg, hru, hIk, hBk⟩ := hrel
            obtain ⟨g, rfl⟩ : ∃ q, g = q + 1 := ⟨g - 1, by omega⟩
            obtain ⟨c0, c1, c2, c3, c4, f2, f3, f4⟩ := ScE.cells hIk.sc
            have hst := hru.out
            rw [runE] at hst
            have hpk2 := ScE.pos hIk.sc
            have HPK : Hid (posOf b wr = k) := hpk2
            clear hpk2
            by_cases hkl : k < s.size
            · have hki : (k : Int) < (s.size : Int) := by omega
              have i2 := fun w => idx_run hkl w
              go_wp2_with fail
              go_quiet (fail)
              go_wp2_with fail
              have hI4 := sq nq hIk
              have hB4 := sb nq hBk
              generalize wr.drewN nq = W4 at hI4 hB4 ⊢
              clear c0 c1 c2 c3 c4 f2 f3 f4 hIk hBk
              obtain ⟨c0, c1, c2, c3, c4, f2, f3, f4⟩ := ScE.cells hI4.sc
              by_cases h10 : bat s k = 10
              · rw [if_neg (by rw [h10]; decide)] at hst
                rw [h10] at i2
                have HK : Hid (k = nlE s p) := hst
                clear hst hru h10
                go_quiet (fail)
                go_wp2_with fail
                have hI5 := sq nq hI4
                have hB5 := sb nq hB4
                rw [← HK.out] at hRd
                exact ⟨⟨pre, k, ln, f, hI5, hRd, hB5⟩, by rw [ScE.pos hI5.sc, HPO.out]; have := HK.out; omega⟩
              · have hnn : nnB (bat s k) = true := by
                  have := bat_in hkl
                  unfold nnB
                  rw [decide_eq_true_iff]
                  exact ⟨h10, by omega⟩
                rw [if_pos hnn] at hst
                have g10 : (bat s k == 10) = false := by rw [beq_eq_false_iff_ne]; exact h10
                generalize bat s k = c at i2 g10
                clear hnn h10 hru
                have HS : RunIs nnB s g (k + 1) (nlE s p) := ⟨hst⟩
                clear hst
                go_quiet (fail)
                have hI5 := sp (k + 1) (sq nq hI4)
                have hB5 := sbp (.int .i64 ((k + 1 : Nat) : Int)) (sb nq hB4)
                rw [show ((k + 1 : Nat) : Int) = (k : Int) + 1 by omega] at hI5 hB5
                go_wp2_with fail
                exact ⟨⟨k + 1, g, by omega, by omega, by omega, HS, hI5, hB5⟩, by rw [ScE.pos hI5.sc, HPK.out]; omega⟩
            · obtain rfl : k = s.size := by omega
              rw [if_neg (by rw [bat_out (Nat.lt_irrefl _)]; decide)] at hst
              have HK : Hid (s.size = nlE s p) := hst
              clear hst hru
              have hE := hRd.atEnd (by rw [← HK.out]; exact Nat.le_refl _)
              go_wp2_with fail
              go_quiet (fail)
              go_wp2
              rw [Exit.noGoto_ret]
              refine bodyPost_ret (results_none rfl _ _ _) rfl ?_
              exact ⟨⟨_, rfl⟩, .inl ⟨by rw [hE], _, _, by rw [hE]; exact sq _ hIk⟩, sb _ hBk⟩
        · have hda' : ¬ (bat s p = 45 ∧ bat s (p + 1) = 45) := hda
          rw [decide_eq_false hda] at kp
          have hblf : ¬ blankB (bat s p) = true := by rw [hbl]; simp
          have hRok := hRr.tok hp hblf hda'
          have hRbad := hRr.bad hp hblf hda'
          have hpos := rdI_pos s p hp
          have hl0 := hRr.l0
          have hl1 := hRr.l1
          have kt := fun (w : World) (hI : Iv b mb B s T pre w p ln) => token_e s hm b mb w p ln hp hl0 (by omega) hmb hb9 hI.sc hI.mp hI.ly
          go_quiet ((go_at_call 25; exact Calls.quiet_of_same (kp _)))
          go_wp2_with (go_at_call 26; fail)
          have hI3 := sq nq hI2
          have hB3 := sb nq hB2
          have kt3 := kt _ hI3
          generalize W2.drewN nq = W3 at hI3 hB3 kt3 ⊢
          clear c0 c1 c2 c3 c4 f2 f3 f4 hI2 hB2 kp i1 kt hbl hblf hda hda'
          generalize rdI s p = R at kt3 hRok hRbad hpos
          obtain ⟨ok, ra, rd, rk, rn, rx⟩ := R
          simp only at kt3 hRok hRbad hpos
          refine kt3.mono ?_
          rintro e w4 ⟨rfl, hg4, hS4⟩
          have hB4 := keep hg4 hB3
          have hb4 : b < w4.heap.size := hS4.lt
          clear kt3
          cases ok with
          | false =>
            have hE := hRbad rfl
            have hT4 := hT _ _ _ hI3.tt hg4
            have hga := World.grownBy_alloc w4 (.cells #[.int .i64 rk, .int .i64 p, .int .i64 (ra : Int), .int .i64 ln, .int .i64 rn, .string rx] 30) (some b)
            have hT5 := hT _ _ _ hT4 hga
            have hB5 := keep hga hB4
            have hS5 : ScE b (w4.alloc (.cells #[.int .i64 rk, .int .i64 p, .int .i64 (ra : Int), .int .i64 ln, .int .i64 rn, .string rx] 30)) s (.map (some mb)) (ra : Int) (ln + rd) true := hS4.heap (Below.heap_alloc w4 _ b hb4)
            obtain ⟨c0, c1, c2, c3, c4, f2, f3, f4⟩ := ScE.cells hS4
            go_wp2
            rw [Exit.noGoto_ret]
            refine bodyPost_ret (results_none rfl _ _ _) rfl ?_
            exact ⟨⟨_, rfl⟩, .inr ⟨by rw [hE], pre, ln + rd, by rw [hE]; exact hS5, hT5⟩, hB5⟩
          | true =>
            have hRo := hRok rfl
            have hpo := hpos rfl
            have hI4 : Iv b mb B s T pre w4 ra (ln + rd) := hI3.gr hT hmb hb9 (by omega) hg4 hS4
            have hga := World.grownBy_alloc w4 (.cells #[.int .i64 rk, .int .i64 p, .int .i64 (ra : Int), .int .i64 ln, .int .i64 rn, .string rx] 30) (some b)
            have hI5 : Iv b mb B s T pre (w4.alloc (.cells #[.int .i64 rk, .int .i64 p, .int .i64 (ra : Int), .int .i64 ln, .int .i64 rn, .string rx] 30)) ra (ln + rd) := hI4.gr hT hmb hb9 (by omega) hga (hS4.heap (Below.heap_alloc w4 _ b hb4))
            have hB5 := keep hga hB4
            have hlast : lastT (pre ++ [⟨rk, p, ra, ln, rn, rx⟩]) = ra := by rw [lastT_app]; simp
            obtain ⟨fn, tmps, assign, body, hy, hRy⟩ := hY pre ⟨rk, p, ra, ln, rn, rx⟩ _ ⟨_, _, by rw [hlast]; exact hI5, by rw [hlast]; exact hRo⟩ hB5
            rw [hlast] at hRy
            unfold vTk at hy
            simp only at hy
            obtain ⟨c0, c1, c2, c3, c4, f2, f3, f4⟩ := ScE.cells hS4
            go_upto_region 8 with fail
            refine (wpIn_wide (n := n)).1 ?_
            gi_wp2
            refine ⟨fun h => by simp [Fence.wide] at h, hRy.mono ?_⟩
            rintro e W6 ⟨rfl, ⟨l6, f6, hI6, hR6⟩, hB6⟩
            clear c0 c1 c2 c3 c4 f2 f3 f4 hy hRy
            gi_wp2
            go_wp2_with fail
            exact ⟨⟨_, ra, l6, f6, hI6, hR6, hB6⟩, by rw [ScE.pos hI6.sc, HPO.out]; omega⟩
    · obtain rfl : p = s.size := by omega
      have hE := hRr.atEnd (Nat.le_refl _)
      go_wp2_with fail
      go_quiet (fail)
      go_wp2
      try rw [Exit.noGoto_normal]
      go_end0
      refine ⟨⟨_, rfl⟩, .inl ⟨by rw [hE], _, _, by rw [hE]; exact sq _ hIr⟩, sb _ hBr⟩
end Go.Proofs.YtlmkmihbbnjngaaDoor
