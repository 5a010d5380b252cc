import Derived.Test.YtdgbmihokecmhaaGreatDoorMM10
import Derived.Test.YtdgbmihokecmhaaGreatDoorMM08
namespace Go.Proofs.YtdgbmihokecmhaaGreatDoor
open Go.RowKit Go.Maps Go.WideMaps
set_option linter.unusedVariables false

theorem hxA_is (s : ByteArray) (p : Nat) : ∃ (t n : Int), hxA s p = .agg #[.int .i64 2, .int .i64 p, .int .i64 t, .int .i64 0, .int .i64 n, .string { data := #[] }] := by
  unfold hxA; split <;> exact ⟨_, _, rfl⟩
def numA (s : ByteArray) (p : Nat) : Value := if bat s p = 48 ∧ bat s (p + 1) = 120 then hxA s p else nmA s p
def numF (s : ByteArray) (p : Nat) : Int := if bat s p = 48 ∧ bat s (p + 1) = 120 then hxF s p else nmF s p
theorem nmA_is (s : ByteArray) (p : Nat) : ∃ (k t n : Int) (x : ByteArray), nmA s p = .agg #[.int .i64 k, .int .i64 p, .int .i64 t, .int .i64 0, .int .i64 n, .string x] := by
  unfold nmA decV; split
  · split
    · exact ⟨_, _, _, _, rfl⟩
    · split <;> exact ⟨_, _, _, _, rfl⟩
  · exact ⟨_, _, _, _, rfl⟩
theorem numA_is (s : ByteArray) (p : Nat) : ∃ (k t n : Int) (x : ByteArray), numA s p = .agg #[.int .i64 k, .int .i64 p, .int .i64 t, .int .i64 0, .int .i64 n, .string x] := by
  unfold numA; split
  · obtain ⟨t, n, h⟩ := hxA_is s p; exact ⟨_, _, _, _, h⟩
  · exact nmA_is s p

set_option maxRecDepth 100000 in
set_option maxHeartbeats 3200000 in
theorem l1number_hex (s : ByteArray) (hm : s.size ≤ 1100000) (p : Nat) (h0 : bat s p = 48) (h1 : bat s (p + 1) = 120) (w : World) : Calls Tryz.prog 85 #[.string s, .agg #[.int .i64 0, .int .i64 p, .int .i64 0, .int .i64 0, .int .i64 0, .string { data := #[] }]] w fun e w' => e = .returned (.tuple #[hxA s p, .int .i64 (hxF s p)]) ∧ Below w.heap.size w w' := by
  have hp1 := lt_of_bat h1 (by omega)
  have i0 := fun w => idx_run (s := s) (i := p) (by omega) w
  rw [h0] at i0
  have kk : ∀ w, Calls Tryz.prog 102 #[.string s, .int .i64 ((p : Int) + 1)] w fun e w' => e = .returned (.int .u8 120) ∧ w' = w := fun w => by
    have := l1look_q s hm ((p : Int) + 1) (p + 1) (by omega) w
    rw [lk_bat hp1, h1] at this
    exact this
  have kh := fun w => l1hexed_any s hm p (by omega) w
  obtain ⟨t, n, hA⟩ := hxA_is s p
  rw [hA] at kh ⊢
  generalize hxF s p = F at kh
  clear hA h0 h1
  have hZ0 : TkAt (w.heap.size + 1) ((w.alloc (.cells #[.int .i64 2, .int .i64 p, .int .i64 0, .int .i64 0, .int .i64 0, .string { data := #[] }] 136)).alloc (.cells #[.int .i64 0, .int .i64 0, .int .i64 0, .int .i64 0, .int .i64 0, .string { data := #[] }] 136)) 0 0 0 0 0 { data := #[] } := by
    have := heap_alloc_new (w.alloc (.cells #[.int .i64 2, .int .i64 p, .int .i64 0, .int .i64 0, .int .i64 0, .string { data := #[] }] 136)) (.cells #[.int .i64 0, .int .i64 0, .int .i64 0, .int .i64 0, .int .i64 0, .string { data := #[] }] 136)
    rw [World.size_alloc] at this
    exact this
  have hB0 : Below w.heap.size w ((w.alloc (.cells #[.int .i64 2, .int .i64 p, .int .i64 0, .int .i64 0, .int .i64 0, .string { data := #[] }] 136)).alloc (.cells #[.int .i64 0, .int .i64 0, .int .i64 0, .int .i64 0, .int .i64 0, .string { data := #[] }] 136)) := (((Below.refl _ w).alloc (Nat.le_refl _) _).alloc (by simp) _)
  go_enter Tryz.func85, Tryz.ntmps85
  go_wp2_with (first | (go_at_call 102; refine (kk _).mono ?_; rintro e w' ⟨rfl, rfl⟩) | (go_at_call 104; fail))
  refine (kh _).mono ?_
  rintro e w3 ⟨rfl, hb3⟩
  have hZ3 := hZ0.below hb3 (by simp)
  have hB3 := hB0.trans (hb3.mono (by simp; omega))
  clear hb3 hZ0 hB0 kh kk i0
  obtain ⟨z0, z1, z2, z3, z4, z5, zf⟩ := tk_cells hZ3
  have hx1 : w.heap.size + 1 < w3.heap.size := lt_of_block hZ3
  go_wp2
  refine bodyPost_ret (v := .tuple #[.agg #[.int .i64 2, .int .i64 p, .int .i64 t, .int .i64 0, .int .i64 n, .string { data := #[] }], .int .i64 F]) (by simp [results, Tryz.results85, go_sem, z0, z1, z2, z3, z4, z5]) rfl ⟨rfl, ?_⟩
  iterate 6 refine Below.setCell ?_ (by simp) _
  exact hB3

theorem l1number_any (s : ByteArray) (hm : s.size ≤ 1100000) (p : Nat) (hp : p < s.size) (hd : digB (bat s p) = true) (w : World) : Calls Tryz.prog 85 #[.string s, .agg #[.int .i64 0, .int .i64 p, .int .i64 0, .int .i64 0, .int .i64 0, .string { data := #[] }]] w fun e w' => e = .returned (.tuple #[numA s p, .int .i64 (numF s p)]) ∧ Below w.heap.size w w' := by
  unfold numA numF
  split
  · rename_i hx; exact l1number_hex s hm p hx.1 hx.2 w
  · rename_i hx; exact l1number_dec s hm p hp hd hx w

theorem l1letter_q {c : Int} {b : Bool} (h : lettB c = b) (w : World) : Calls Tryz.prog 72 #[.int .u8 c] w fun e w' => e = .returned (.bool b) ∧ w' = w := (l1letter_any c w).mono fun e w' g => ⟨by rw [g.1, h], g.2.symm⟩

set_option maxRecDepth 100000 in
set_option maxHeartbeats 3200000 in
/-- l1read at a digit. -/
theorem l1read_dig (s : ByteArray) (hm : s.size ≤ 1100000) (p : Nat) (hp : p < s.size) (hd : digB (bat s p) = true) (w : World) : Calls Tryz.prog 71 #[.string s, .int .i64 p] w fun e w' => e = .returned (.tuple #[numA s p, .int .i64 (numF s p)]) ∧ Below w.heap.size w w' := by
  have i1 := fun w => idx_run hp w
  have hr := dig_range hd
  have hl : lettB (bat s p) = false := by simp [lettB]; omega
  have kl := fun w => l1letter_q hl w
  have kd := fun w => l1digit_q hd w
  have kw := fun w => l1number_any s hm p hp hd w
  obtain ⟨k, t, n, x, hT⟩ := numA_is s p
  rw [hT] at kw ⊢
  generalize numF s p = F at kw
  generalize bat s p = c at i1 kl kd hr
  have h10 : (c == 10) = false := by rw [beq_eq_false_iff_ne]; omega
  clear hl hd hT
  have hZ0 : TkAt w.heap.size ((w.alloc (.cells #[.int .i64 0, .int .i64 0, .int .i64 0, .int .i64 0, .int .i64 0, .string { data := #[] }] 136)).alloc (.cells #[.int .i64 0, .int .i64 p, .int .i64 0, .int .i64 0, .int .i64 0, .string { data := #[] }] 136)) 0 0 0 0 0 { data := #[] } := (Below.heap_alloc _ _ _ (by simp)).trans (heap_alloc_new w _)
  have hB0 : Below w.heap.size w ((w.alloc (.cells #[.int .i64 0, .int .i64 0, .int .i64 0, .int .i64 0, .int .i64 0, .string { data := #[] }] 136)).alloc (.cells #[.int .i64 0, .int .i64 p, .int .i64 0, .int .i64 0, .int .i64 0, .string { data := #[] }] 136)) := (((Below.refl _ w).alloc (Nat.le_refl _) _).alloc (by simp) _)
  go_enter Tryz.func71, Tryz.ntmps71
  go_wp2_with (first | (go_at_call 72; refine (kl _).mono ?_; rintro e w' ⟨rfl, rfl⟩) | (go_at_call 70; refine (kd _).mono ?_; rintro e w' ⟨rfl, rfl⟩))
  refine (kw _).mono ?_
  rintro e w3 ⟨rfl, hb3⟩
  have hZ3 := hZ0.below hb3 (by simp; omega)
  have hB3 := hB0.trans (hb3.mono (by simp; omega))
  clear hb3 hZ0 hB0 kw kl kd i1
  obtain ⟨z0, z1, z2, z3, z4, z5, zf⟩ := tk_cells hZ3
  have hx1 : w.heap.size < w3.heap.size := lt_of_block hZ3
  go_wp2
  refine bodyPost_ret (v := .tuple #[.agg #[.int .i64 k, .int .i64 p, .int .i64 t, .int .i64 0, .int .i64 n, .string x], .int .i64 F]) (by simp [results, Tryz.results71, go_sem, z0, z1, z2, z3, z4, z5]) rfl ⟨rfl, ?_⟩
  iterate 6 refine Below.setCell ?_ (by simp) _
  exact hB3

/-- l1fltok, by what l1read answers. -/
theorem numN_num (s : ByteArray) (p : Nat) : (numF s p < 0 ↔ (numN s p).2 = true) ∧ ∃ (k t n : Int) (x : ByteArray), numA s p = .agg #[.int .i64 k, .int .i64 p, .int .i64 t, .int .i64 0, .int .i64 n, .string x] ∧ ((numN s p).2 = true → t = ((numN s p).1 : Int) ∧ ((k == 3) = decide (¬ (bat s p = 48 ∧ bat s (p + 1) = 120) ∧ (nKd s p = true ∨ dcS s p ((numN s p).1 - p) = none)))) := by
  unfold numF numA numN
  by_cases hx : bat s p = 48 ∧ bat s (p + 1) = 120
  · simp only [if_pos hx]
    unfold hxF hxA
    cases hh : (hexN s (p + 2)).2 with
    | true =>
      simp only [if_true]
      refine ⟨⟨fun _ => trivial, fun _ => by omega⟩, 2, _, _, _, rfl, fun _ => ⟨rfl, ?_⟩⟩
      simp [hx]
    | false =>
      simp only [if_neg (show ¬ false = true by simp)]
      refine ⟨⟨fun h => by omega, fun h => by cases h⟩, 2, _, _, _, rfl, fun h => by cases h⟩
  · simp only [if_neg hx]
    unfold nmF nmA decV
    cases hh : (nEx s (nA1 s (nA0 s p))).2 with
    | true =>
      simp only [if_true]
      refine ⟨⟨fun _ => trivial, fun _ => by omega⟩, ?_⟩
      cases hk : nKd s p with
      | true =>
        simp only [if_true]
        exact ⟨3, _, _, _, rfl, fun _ => ⟨rfl, by simp [hx]⟩⟩
      | false =>
        simp only [if_neg (show ¬ false = true by simp)]
        cases hc : dcS s p ((nEx s (nA1 s (nA0 s p))).1 - p) with
        | none => exact ⟨3, _, _, _, rfl, fun _ => ⟨rfl, by simp [hx]⟩⟩
        | some u => exact ⟨2, _, _, _, rfl, fun _ => ⟨rfl, by simp⟩⟩
    | false =>
      simp only [if_neg (show ¬ false = true by simp)]
      refine ⟨⟨fun h => by omega, fun h => by cases h⟩, 3, _, _, _, rfl, fun h => by cases h⟩
end Go.Proofs.YtdgbmihokecmhaaGreatDoor

namespace Go.Proofs.YtdgbmihokecmhaaGreatDoor
open Go.RowKit Go.Maps Go.WideMaps
set_option linter.unusedVariables false

theorem dec_flt (q : ByteArray) (hd : digB (bat q 0) = true) (hN : nEx q (nA1 q (nA0 q 0)) = (q.size, true)) : decI q = none ↔ (nKd q 0 = true ∨ dcS q 0 q.size = none) := by
  cases hk : nKd q 0 with
  | false =>
    obtain ⟨h1, h2⟩ := dec_all q 0 hd hk
    have e : nA0 q 0 = q.size := by rw [hN] at h1; exact (Prod.mk.inj h1).1.symm
    rw [decI_dig q (dig_lt hd) (fun i hi => h2 i (by omega) (by omega))]
    simp
  | true =>
    simp only [true_or, iff_true]
    unfold nKd at hk
    rcases of_decide_eq_true hk with h | h
    · exact decI_bad q hd _ (lt_of_bat h.1 (by omega)) (by rw [h.1]; decide)
    · exact decI_bad q hd _ (lt_of_bat h (by omega)) (by rw [h]; decide)

def fok (q : ByteArray) : Bool := decide (q.size ≤ 40) && fltI q

set_option maxRecDepth 100000 in
set_option maxHeartbeats 3200000 in
theorem l1fltok_any (s : ByteArray) (hm : s.size ≤ 1100000) (w : World) : Calls Tryz.prog 59 #[.string s] w fun e w' => e = .returned (.bool (fok s)) ∧ Below w.heap.size w w' := by
  unfold fok
  by_cases h0 : 0 < s.size
  · have n0 : ((s.size : Int) == 0) = false := by rw [beq_eq_false_iff_ne]; omega
    by_cases h40 : s.size ≤ 40
    · have n40 : ¬ (40 : Int) < (s.size : Int) := by omega
      have i1 : ∀ w, (Instr.index 9 (.string s) (.int .i64 0)).run Tryz.prog w = .ok (.int .u8 (bat s 0)) w := fun w => idx_run h0 w
      by_cases hd : digB (bat s 0) = true
      · have kd := fun w => l1digit_q hd w
        have kr : ∀ w, Calls Tryz.prog 71 #[.string s, .int .i64 0] w fun e w' => e = .returned (.tuple #[numA s 0, .int .i64 (numF s 0)]) ∧ Below w.heap.size w w' := fun w => l1read_dig s hm 0 h0 hd w
        obtain ⟨hF, k, t, n, x, hA, hok⟩ := numN_num s 0
        rw [hA] at kr
        have hres : (decide (s.size ≤ 40) && fltI s) = (decide (numF s 0 < 0) && ((k == 3) && (t == (s.size : Int)))) := by
          rw [decide_eq_true h40, Bool.true_and]
          unfold fltI
          cases h2 : (numN s 0).2 with
          | false =>
            rw [decide_eq_false (show ¬ numF s 0 < 0 by rw [hF, h2]; simp), Bool.false_and, decide_eq_false_iff_not]
            rintro ⟨_, h, _⟩
            rw [h] at h2; cases h2
          | true =>
            obtain ⟨ht, hk⟩ := hok h2
            rw [decide_eq_true (hF.2 h2), Bool.true_and, hk, ht]
            by_cases he : (numN s 0).1 = s.size
            · have hN : numN s 0 = (s.size, true) := Prod.ext he h2
              rw [hN]
              simp only [Nat.sub_zero, beq_self_eq_true, Bool.and_true]
              rw [decide_eq_decide]
              constructor
              · rintro ⟨_, _, g1, g2⟩
                have hx : nEx s (nA1 s (nA0 s 0)) = (s.size, true) := by rw [← hN]; unfold numN; rw [if_neg g1]
                exact ⟨g1, (dec_flt s hd hx).1 g2⟩
              · rintro ⟨g1, g2⟩
                have hx : nEx s (nA1 s (nA0 s 0)) = (s.size, true) := by rw [← hN]; unfold numN; rw [if_neg g1]
                exact ⟨hd, trivial, g1, (dec_flt s hd hx).2 g2⟩
            · rw [show ((((numN s 0).1 : Nat) : Int) == (s.size : Int)) = false by rw [beq_eq_false_iff_ne]; omega, Bool.and_false, decide_eq_false_iff_not]
              rintro ⟨_, h, _⟩
              rw [h] at he; exact he rfl
        rw [hres]
        clear hres hok hA hF
        generalize numF s 0 = F at kr
        generalize bat s 0 = c at i1 kd
        clear hd
        by_cases hF : F < 0
        · by_cases hk : k = 3
          · subst hk
            go_enter Tryz.func59, Tryz.ntmps59
            go_wp2_with (first | (go_at_call 70; refine (kd _).mono ?_; rintro e w' ⟨rfl, rfl⟩) | (go_at_call 71; refine (kr _).mono ?_; rintro e w3 ⟨rfl, hb3⟩))
            go_ret
            exact ⟨by simp [hF], hb3.alloc hb3.size _⟩
          · have hk' : (k == 3) = false := by simp [hk]
            clear hk
            go_enter Tryz.func59, Tryz.ntmps59
            go_wp2_with (first | (go_at_call 70; refine (kd _).mono ?_; rintro e w' ⟨rfl, rfl⟩) | (go_at_call 71; refine (kr _).mono ?_; rintro e w3 ⟨rfl, hb3⟩))
            go_ret
            exact ⟨by simp [hk'], hb3.alloc hb3.size _⟩
        · go_enter Tryz.func59, Tryz.ntmps59
          go_wp2_with (first | (go_at_call 70; refine (kd _).mono ?_; rintro e w' ⟨rfl, rfl⟩) | (go_at_call 71; refine (kr _).mono ?_; rintro e w3 ⟨rfl, hb3⟩))
          go_ret
          exact ⟨by rw [decide_eq_false (show ¬ F < 0 by omega)]; simp, hb3.alloc hb3.size _⟩
      · have hd' : digB (bat s 0) = false := by simpa using hd
        have kd := fun w => l1digit_q hd' w
        rw [show fltI s = false by unfold fltI; simp [hd'], Bool.and_false]
        clear hd hd'
        generalize bat s 0 = c at i1 kd
        go_enter Tryz.func59, Tryz.ntmps59
        go_wp2_with (first | (go_at_call 70; refine (kd _).mono ?_; rintro e w' ⟨rfl, rfl⟩))
        go_ret
        exact ⟨rfl, Below.refl _ _⟩
    · have n40 : (40 : Int) < (s.size : Int) := by omega
      rw [decide_eq_false h40, Bool.false_and]
      go_enter Tryz.func59, Tryz.ntmps59
      go_wp2
      go_ret
      exact ⟨rfl, Below.refl _ _⟩
  · have n0 : ((s.size : Int) == 0) = true := by rw [beq_iff_eq]; omega
    rw [show fltI s = false by unfold fltI; rw [bat_out h0]; simp [dig_neg], Bool.and_false]
    go_enter Tryz.func59, Tryz.ntmps59
    go_wp2
    go_ret
    exact ⟨rfl, Below.refl _ _⟩
end Go.Proofs.YtdgbmihokecmhaaGreatDoor

namespace Go.Proofs.YtdgbmihokecmhaaGreatDoor
open Go.RowKit Go.Maps Go.WideMaps
set_option linter.unusedVariables false

/-- A tree and one of its nodes, as arguments, to be read. -/
structure NArg (W : World) (vt : Value) (ns : List Nd) (N : Nd) (vn vk : Value) : Prop where
  t : NdsAt W vt ns
  n : StrsAt W vn N.nm
  k : IntsAt W vk N.ks
  ok : KidsOk ns N
  ln : ns.length ≤ 1048576
  l1 : N.nm.length ≤ 1048576
  l2 : N.ks.length ≤ 1048576
  lx : N.x.size ≤ 1048576
  ls : ∀ s ∈ N.nm, s.size ≤ 1048576
theorem NArg.below {W W' : World} {vt : Value} {ns : List Nd} {N : Nd} {vn vk : Value} (h : NArg W vt ns N vn vk) (hb : Below W.heap.size W W') : NArg W' vt ns N vn vk :=
  ⟨h.t.below hb, h.n.below hb, h.k.below hb, h.ok, h.ln, h.l1, h.l2, h.lx, h.ls⟩
/-- They lie in boxes of their own. -/
structure St (w : World) (vt : Value) (ns : List Nd) (N : Nd) (vn vk : Value) (W : World) : Prop where
  a : NArg W vt ns N vn vk
  bt : W.cell? ⟨w.heap.size, 0, none⟩ = some vt
  bn : NdBox (w.heap.size + 1) W 67 N vn vk
  bel : Below w.heap.size w W
theorem St.below {w : World} {vt : Value} {ns : List Nd} {N : Nd} {vn vk : Value} {W W' : World} (h : St w vt ns N vn vk W) (hb : Below W.heap.size W W') : St w vt ns N vn vk W' :=
  ⟨h.a.below hb, cell_kept hb h.bt, h.bn.below hb, h.bel.trans (hb.mono h.bel.size)⟩
theorem St.start {w : World} {vt : Value} {ns : List Nd} {N : Nd} {vn vk : Value} (h : NArg w vt ns N vn vk) : St w vt ns N vn vk ((w.alloc (.cells #[vt] 30)).alloc (.cells #[.int .i64 N.k, .int .i64 N.f, .int .i64 N.t, .int .i64 N.l, .int .i64 N.op, .int .i64 N.n, .string N.x, vn, vk] 67)) := by
  have hb : Below w.heap.size w ((w.alloc (.cells #[vt] 30)).alloc (.cells #[.int .i64 N.k, .int .i64 N.f, .int .i64 N.t, .int .i64 N.l, .int .i64 N.op, .int .i64 N.n, .string N.x, vn, vk] 67)) := ((Below.refl _ w).alloc (Nat.le_refl _) _).alloc (by simp) _
  refine ⟨h.below hb, ?_, ?_, hb⟩
  · rw [cell_of_row _ _ _ _ _ _ ((Below.heap_alloc _ _ _ (by simp)).trans (heap_alloc_new w _))]; rfl
  · have := heap_alloc_new (w.alloc (.cells #[vt] 30)) (.cells #[.int .i64 N.k, .int .i64 N.f, .int .i64 N.t, .int .i64 N.l, .int .i64 N.op, .int .i64 N.n, .string N.x, vn, vk] 67)
    rw [World.size_alloc] at this
    exact this
theorem kid_any {w : World} {vt : Value} {ns : List Nd} {N : Nd} {vn vk : Value} (A : NArg w vt ns N vn vk) (i : Nat) (hi : i < N.ks.length) :
    Calls Tryz.prog 54 #[.agg #[vt], vNd N vn vk, .int .i64 i] w fun e w' => e = .returned (.int .i64 (kidK ns N i)) ∧ Below w.heap.size w w' := by
  obtain ⟨z, M, e1, e2, e3, e4⟩ := A.ok.get hi
  rw [e3]
  exact l2kid_any w vt ns N M vn vk i z A.t A.n A.k e1 e2 A.ln A.l2
end Go.Proofs.YtdgbmihokecmhaaGreatDoor

namespace Go.Proofs.YtdgbmihokecmhaaGreatDoor
open Go.RowKit Go.Maps Go.WideMaps
set_option linter.unusedVariables false

set_option maxRecDepth 100000 in
set_option maxHeartbeats 3200000 in
theorem l2ex_e20 {w : World} {vt : Value} {ns : List Nd} {N : Nd} {vn vk : Value} (A : NArg w vt ns N vn vk) (hK : N.k = 20) :
    Calls Tryz.prog 42 #[.agg #[vt], vNd N vn vk] w fun e w' => e = .returned (.bool (((N.ks.length : Int) == 0) && bareB N false false false false)) ∧ Below w.heap.size w w' := by
  obtain ⟨a1, c1, rfl⟩ := A.t.form
  obtain ⟨a2, c2, rfl⟩ := A.n.form
  obtain ⟨a3, c3, rfl⟩ := A.k.form
  have st := St.start A
  have hlx := A.lx
  have HX : Hid (N.x.size ≤ 1100000) := by show _ ≤ _; omega
  clear A
  have q20 : (N.k == 20) = true := by rw [hK]; rfl
  clear hK
  cases t0 : ((N.ks.length : Int) == 0) with
  | false =>
    unfold vNd
    go_enter Tryz.func42, Tryz.ntmps42
    go_wp2_with (first | (go_at_call 55; refine (l2bare_ffff _ N _ _ st.a.n st.a.k st.a.l1).mono ?_; rintro e w' ⟨rfl, hb'⟩; replace st := st.below hb'; clear hb'; obtain ⟨x0, x1, x2, x3, x4, x5, x6, x7, x8, xf⟩ := nd_cells st.bn; have xt := st.bt))
    go_ret
    exact ⟨rfl, st.bel⟩
  | true =>
    have HL : N.ks.length = 0 := by have := eq_of_beq t0; omega
    clear HL
    cases t1 : bareB N false false false false with
    | false =>
      unfold vNd
      go_enter Tryz.func42, Tryz.ntmps42
      go_wp2_with (first | (go_at_call 55; refine (l2bare_ffff _ N _ _ st.a.n st.a.k st.a.l1).mono ?_; rintro e w' ⟨rfl, hb'⟩; replace st := st.below hb'; clear hb'; obtain ⟨x0, x1, x2, x3, x4, x5, x6, x7, x8, xf⟩ := nd_cells st.bn; have xt := st.bt))
      go_ret
      exact ⟨rfl, st.bel⟩
    | true =>
      unfold vNd
      go_enter Tryz.func42, Tryz.ntmps42
      go_wp2_with (first | (go_at_call 55; refine (l2bare_ffff _ N _ _ st.a.n st.a.k st.a.l1).mono ?_; rintro e w' ⟨rfl, hb'⟩; replace st := st.below hb'; clear hb'; obtain ⟨x0, x1, x2, x3, x4, x5, x6, x7, x8, xf⟩ := nd_cells st.bn; have xt := st.bt))
      go_ret
      exact ⟨rfl, st.bel⟩

set_option maxRecDepth 100000 in
set_option maxHeartbeats 3200000 in
theorem l2ex_e21 {w : World} {vt : Value} {ns : List Nd} {N : Nd} {vn vk : Value} (A : NArg w vt ns N vn vk) (hK : N.k = 21) :
    Calls Tryz.prog 42 #[.agg #[vt], vNd N vn vk] w fun e w' => e = .returned (.bool (((N.ks.length : Int) == 0) && bareB N false false false false)) ∧ Below w.heap.size w w' := by
  obtain ⟨a1, c1, rfl⟩ := A.t.form
  obtain ⟨a2, c2, rfl⟩ := A.n.form
  obtain ⟨a3, c3, rfl⟩ := A.k.form
  have st := St.start A
  have hlx := A.lx
  have HX : Hid (N.x.size ≤ 1100000) := by show _ ≤ _; omega
  clear A
  have q20 : (N.k == 20) = false := by rw [hK]; rfl
  have q21 : (N.k == 21) = true := by rw [hK]; rfl
  clear hK
  cases t0 : ((N.ks.length : Int) == 0) with
  | false =>
    unfold vNd
    go_enter Tryz.func42, Tryz.ntmps42
    go_wp2_with (first | (go_at_call 55; refine (l2bare_ffff _ N _ _ st.a.n st.a.k st.a.l1).mono ?_; rintro e w' ⟨rfl, hb'⟩; replace st := st.below hb'; clear hb'; obtain ⟨x0, x1, x2, x3, x4, x5, x6, x7, x8, xf⟩ := nd_cells st.bn; have xt := st.bt))
    go_ret
    exact ⟨rfl, st.bel⟩
  | true =>
    have HL : N.ks.length = 0 := by have := eq_of_beq t0; omega
    clear HL
    cases t1 : bareB N false false false false with
    | false =>
      unfold vNd
      go_enter Tryz.func42, Tryz.ntmps42
      go_wp2_with (first | (go_at_call 55; refine (l2bare_ffff _ N _ _ st.a.n st.a.k st.a.l1).mono ?_; rintro e w' ⟨rfl, hb'⟩; replace st := st.below hb'; clear hb'; obtain ⟨x0, x1, x2, x3, x4, x5, x6, x7, x8, xf⟩ := nd_cells st.bn; have xt := st.bt))
      go_ret
      exact ⟨rfl, st.bel⟩
    | true =>
      unfold vNd
      go_enter Tryz.func42, Tryz.ntmps42
      go_wp2_with (first | (go_at_call 55; refine (l2bare_ffff _ N _ _ st.a.n st.a.k st.a.l1).mono ?_; rintro e w' ⟨rfl, hb'⟩; replace st := st.below hb'; clear hb'; obtain ⟨x0, x1, x2, x3, x4, x5, x6, x7, x8, xf⟩ := nd_cells st.bn; have xt := st.bt))
      go_ret
      exact ⟨rfl, st.bel⟩

set_option maxRecDepth 100000 in
set_option maxHeartbeats 3200000 in
theorem l2ex_e22 {w : World} {vt : Value} {ns : List Nd} {N : Nd} {vn vk : Value} (A : NArg w vt ns N vn vk) (hK : N.k = 22) :
    Calls Tryz.prog 42 #[.agg #[vt], vNd N vn vk] w fun e w' => e = .returned (.bool (((N.ks.length : Int) == 0) && bareB N false false false false)) ∧ Below w.heap.size w w' := by
  obtain ⟨a1, c1, rfl⟩ := A.t.form
  obtain ⟨a2, c2, rfl⟩ := A.n.form
  obtain ⟨a3, c3, rfl⟩ := A.k.form
  have st := St.start A
  have hlx := A.lx
  have HX : Hid (N.x.size ≤ 1100000) := by show _ ≤ _; omega
  clear A
  have q20 : (N.k == 20) = false := by rw [hK]; rfl
  have q21 : (N.k == 21) = false := by rw [hK]; rfl
  have q22 : (N.k == 22) = true := by rw [hK]; rfl
  clear hK
  cases t0 : ((N.ks.length : Int) == 0) with
  | false =>
    unfold vNd
    go_enter Tryz.func42, Tryz.ntmps42
    go_wp2_with (first | (go_at_call 55; refine (l2bare_ffff _ N _ _ st.a.n st.a.k st.a.l1).mono ?_; rintro e w' ⟨rfl, hb'⟩; replace st := st.below hb'; clear hb'; obtain ⟨x0, x1, x2, x3, x4, x5, x6, x7, x8, xf⟩ := nd_cells st.bn; have xt := st.bt))
    go_ret
    exact ⟨rfl, st.bel⟩
  | true =>
    have HL : N.ks.length = 0 := by have := eq_of_beq t0; omega
    clear HL
    cases t1 : bareB N false false false false with
    | false =>
      unfold vNd
      go_enter Tryz.func42, Tryz.ntmps42
      go_wp2_with (first | (go_at_call 55; refine (l2bare_ffff _ N _ _ st.a.n st.a.k st.a.l1).mono ?_; rintro e w' ⟨rfl, hb'⟩; replace st := st.below hb'; clear hb'; obtain ⟨x0, x1, x2, x3, x4, x5, x6, x7, x8, xf⟩ := nd_cells st.bn; have xt := st.bt))
      go_ret
      exact ⟨rfl, st.bel⟩
    | true =>
      unfold vNd
      go_enter Tryz.func42, Tryz.ntmps42
      go_wp2_with (first | (go_at_call 55; refine (l2bare_ffff _ N _ _ st.a.n st.a.k st.a.l1).mono ?_; rintro e w' ⟨rfl, hb'⟩; replace st := st.below hb'; clear hb'; obtain ⟨x0, x1, x2, x3, x4, x5, x6, x7, x8, xf⟩ := nd_cells st.bn; have xt := st.bt))
      go_ret
      exact ⟨rfl, st.bel⟩

set_option maxRecDepth 100000 in
set_option maxHeartbeats 3200000 in
theorem l2ex_e27 {w : World} {vt : Value} {ns : List Nd} {N : Nd} {vn vk : Value} (A : NArg w vt ns N vn vk) (hK : N.k = 27) :
    Calls Tryz.prog 42 #[.agg #[vt], vNd N vn vk] w fun e w' => e = .returned (.bool (((N.ks.length : Int) == 0) && bareB N false false false false)) ∧ Below w.heap.size w w' := by
  obtain ⟨a1, c1, rfl⟩ := A.t.form
  obtain ⟨a2, c2, rfl⟩ := A.n.form
  obtain ⟨a3, c3, rfl⟩ := A.k.form
  have st := St.start A
  have hlx := A.lx
  have HX : Hid (N.x.size ≤ 1100000) := by show _ ≤ _; omega
  clear A
  have q20 : (N.k == 20) = false := by rw [hK]; rfl
  have q21 : (N.k == 21) = false := by rw [hK]; rfl
  have q22 : (N.k == 22) = false := by rw [hK]; rfl
  have q27 : (N.k == 27) = true := by rw [hK]; rfl
  clear hK
  cases t0 : ((N.ks.length : Int) == 0) with
  | false =>
    unfold vNd
    go_enter Tryz.func42, Tryz.ntmps42
    go_wp2_with (first | (go_at_call 55; refine (l2bare_ffff _ N _ _ st.a.n st.a.k st.a.l1).mono ?_; rintro e w' ⟨rfl, hb'⟩; replace st := st.below hb'; clear hb'; obtain ⟨x0, x1, x2, x3, x4, x5, x6, x7, x8, xf⟩ := nd_cells st.bn; have xt := st.bt))
    go_ret
    exact ⟨rfl, st.bel⟩
  | true =>
    have HL : N.ks.length = 0 := by have := eq_of_beq t0; omega
    clear HL
    cases t1 : bareB N false false false false with
    | false =>
      unfold vNd
      go_enter Tryz.func42, Tryz.ntmps42
      go_wp2_with (first | (go_at_call 55; refine (l2bare_ffff _ N _ _ st.a.n st.a.k st.a.l1).mono ?_; rintro e w' ⟨rfl, hb'⟩; replace st := st.below hb'; clear hb'; obtain ⟨x0, x1, x2, x3, x4, x5, x6, x7, x8, xf⟩ := nd_cells st.bn; have xt := st.bt))
      go_ret
      exact ⟨rfl, st.bel⟩
    | true =>
      unfold vNd
      go_enter Tryz.func42, Tryz.ntmps42
      go_wp2_with (first | (go_at_call 55; refine (l2bare_ffff _ N _ _ st.a.n st.a.k st.a.l1).mono ?_; rintro e w' ⟨rfl, hb'⟩; replace st := st.below hb'; clear hb'; obtain ⟨x0, x1, x2, x3, x4, x5, x6, x7, x8, xf⟩ := nd_cells st.bn; have xt := st.bt))
      go_ret
      exact ⟨rfl, st.bel⟩

set_option maxRecDepth 100000 in
set_option maxHeartbeats 3200000 in
theorem l2ex_e23 {w : World} {vt : Value} {ns : List Nd} {N : Nd} {vn vk : Value} (A : NArg w vt ns N vn vk) (hK : N.k = 23) :
    Calls Tryz.prog 42 #[.agg #[vt], vNd N vn vk] w fun e w' => e = .returned (.bool (((N.ks.length : Int) == 0) && bareB N false true false false)) ∧ Below w.heap.size w w' := by
  obtain ⟨a1, c1, rfl⟩ := A.t.form
  obtain ⟨a2, c2, rfl⟩ := A.n.form
  obtain ⟨a3, c3, rfl⟩ := A.k.form
  have st := St.start A
  have hlx := A.lx
  have HX : Hid (N.x.size ≤ 1100000) := by show _ ≤ _; omega
  clear A
  have q20 : (N.k == 20) = false := by rw [hK]; rfl
  have q21 : (N.k == 21) = false := by rw [hK]; rfl
  have q22 : (N.k == 22) = false := by rw [hK]; rfl
  have q27 : (N.k == 27) = false := by rw [hK]; rfl
  have q23 : (N.k == 23) = true := by rw [hK]; rfl
  clear hK
  cases t0 : ((N.ks.length : Int) == 0) with
  | false =>
    unfold vNd
    go_enter Tryz.func42, Tryz.ntmps42
    go_wp2_with (first | (go_at_call 55; refine (l2bare_ftff _ N _ _ st.a.n st.a.k st.a.l1).mono ?_; rintro e w' ⟨rfl, hb'⟩; replace st := st.below hb'; clear hb'; obtain ⟨x0, x1, x2, x3, x4, x5, x6, x7, x8, xf⟩ := nd_cells st.bn; have xt := st.bt))
    go_ret
    exact ⟨rfl, st.bel⟩
  | true =>
    have HL : N.ks.length = 0 := by have := eq_of_beq t0; omega
    clear HL
    cases t1 : bareB N false true false false with
    | false =>
      unfold vNd
      go_enter Tryz.func42, Tryz.ntmps42
      go_wp2_with (first | (go_at_call 55; refine (l2bare_ftff _ N _ _ st.a.n st.a.k st.a.l1).mono ?_; rintro e w' ⟨rfl, hb'⟩; replace st := st.below hb'; clear hb'; obtain ⟨x0, x1, x2, x3, x4, x5, x6, x7, x8, xf⟩ := nd_cells st.bn; have xt := st.bt))
      go_ret
      exact ⟨rfl, st.bel⟩
    | true =>
      unfold vNd
      go_enter Tryz.func42, Tryz.ntmps42
      go_wp2_with (first | (go_at_call 55; refine (l2bare_ftff _ N _ _ st.a.n st.a.k st.a.l1).mono ?_; rintro e w' ⟨rfl, hb'⟩; replace st := st.below hb'; clear hb'; obtain ⟨x0, x1, x2, x3, x4, x5, x6, x7, x8, xf⟩ := nd_cells st.bn; have xt := st.bt))
      go_ret
      exact ⟨rfl, st.bel⟩

set_option maxRecDepth 100000 in
set_option maxHeartbeats 3200000 in
theorem l2ex_e24 {w : World} {vt : Value} {ns : List Nd} {N : Nd} {vn vk : Value} (A : NArg w vt ns N vn vk) (hK : N.k = 24) :
    Calls Tryz.prog 42 #[.agg #[vt], vNd N vn vk] w fun e w' => e = .returned (.bool (((N.ks.length : Int) == 0) && bareB N false false true false && fok N.x)) ∧ Below w.heap.size w w' := by
  obtain ⟨a1, c1, rfl⟩ := A.t.form
  obtain ⟨a2, c2, rfl⟩ := A.n.form
  obtain ⟨a3, c3, rfl⟩ := A.k.form
  have st := St.start A
  have hlx := A.lx
  have HX : Hid (N.x.size ≤ 1100000) := by show _ ≤ _; omega
  clear A
  have q20 : (N.k == 20) = false := by rw [hK]; rfl
  have q21 : (N.k == 21) = false := by rw [hK]; rfl
  have q22 : (N.k == 22) = false := by rw [hK]; rfl
  have q27 : (N.k == 27) = false := by rw [hK]; rfl
  have q23 : (N.k == 23) = false := by rw [hK]; rfl
  have q24 : (N.k == 24) = true := by rw [hK]; rfl
  clear hK
  cases t0 : ((N.ks.length : Int) == 0) with
  | false =>
    unfold vNd
    go_enter Tryz.func42, Tryz.ntmps42
    go_wp2_with (first | (go_at_call 55; refine (l2bare_fftf _ N _ _ st.a.n st.a.k st.a.l1).mono ?_; rintro e w' ⟨rfl, hb'⟩; replace st := st.below hb'; clear hb'; obtain ⟨x0, x1, x2, x3, x4, x5, x6, x7, x8, xf⟩ := nd_cells st.bn; have xt := st.bt) | (go_at_call 59; refine (l1fltok_any N.x HX.out _).mono ?_; rintro e w' ⟨rfl, hb'⟩; replace st := st.below hb'; clear hb'; obtain ⟨x0, x1, x2, x3, x4, x5, x6, x7, x8, xf⟩ := nd_cells st.bn; have xt := st.bt))
    go_ret
    exact ⟨rfl, st.bel⟩
  | true =>
    have HL : N.ks.length = 0 := by have := eq_of_beq t0; omega
    clear HL
    cases t1 : bareB N false false true false with
    | false =>
      unfold vNd
      go_enter Tryz.func42, Tryz.ntmps42
      go_wp2_with (first | (go_at_call 55; refine (l2bare_fftf _ N _ _ st.a.n st.a.k st.a.l1).mono ?_; rintro e w' ⟨rfl, hb'⟩; replace st := st.below hb'; clear hb'; obtain ⟨x0, x1, x2, x3, x4, x5, x6, x7, x8, xf⟩ := nd_cells st.bn; have xt := st.bt) | (go_at_call 59; refine (l1fltok_any N.x HX.out _).mono ?_; rintro e w' ⟨rfl, hb'⟩; replace st := st.below hb'; clear hb'; obtain ⟨x0, x1, x2, x3, x4, x5, x6, x7, x8, xf⟩ := nd_cells st.bn; have xt := st.bt))
      go_ret
      exact ⟨rfl, st.bel⟩
    | true =>
      cases t2 : fok N.x with
      | false =>
        unfold vNd
        go_enter Tryz.func42, Tryz.ntmps42
        go_wp2_with (first | (go_at_call 55; refine (l2bare_fftf _ N _ _ st.a.n st.a.k st.a.l1).mono ?_; rintro e w' ⟨rfl, hb'⟩; replace st := st.below hb'; clear hb'; obtain ⟨x0, x1, x2, x3, x4, x5, x6, x7, x8, xf⟩ := nd_cells st.bn; have xt := st.bt) | (go_at_call 59; refine (l1fltok_any N.x HX.out _).mono ?_; rintro e w' ⟨rfl, hb'⟩; replace st := st.below hb'; clear hb'; obtain ⟨x0, x1, x2, x3, x4, x5, x6, x7, x8, xf⟩ := nd_cells st.bn; have xt := st.bt))
        go_ret
        exact ⟨rfl, st.bel⟩
      | true =>
        unfold vNd
        go_enter Tryz.func42, Tryz.ntmps42
        go_wp2_with (first | (go_at_call 55; refine (l2bare_fftf _ N _ _ st.a.n st.a.k st.a.l1).mono ?_; rintro e w' ⟨rfl, hb'⟩; replace st := st.below hb'; clear hb'; obtain ⟨x0, x1, x2, x3, x4, x5, x6, x7, x8, xf⟩ := nd_cells st.bn; have xt := st.bt) | (go_at_call 59; refine (l1fltok_any N.x HX.out _).mono ?_; rintro e w' ⟨rfl, hb'⟩; replace st := st.below hb'; clear hb'; obtain ⟨x0, x1, x2, x3, x4, x5, x6, x7, x8, xf⟩ := nd_cells st.bn; have xt := st.bt))
        go_ret
        exact ⟨rfl, st.bel⟩

set_option maxRecDepth 100000 in
set_option maxHeartbeats 3200000 in
theorem l2ex_e25 {w : World} {vt : Value} {ns : List Nd} {N : Nd} {vn vk : Value} (A : NArg w vt ns N vn vk) (hK : N.k = 25) :
    Calls Tryz.prog 42 #[.agg #[vt], vNd N vn vk] w fun e w' => e = .returned (.bool (((N.ks.length : Int) == 0) && bareB N false false true false && decide ((N.x.size : Int) ≤ 4000))) ∧ Below w.heap.size w w' := by
  obtain ⟨a1, c1, rfl⟩ := A.t.form
  obtain ⟨a2, c2, rfl⟩ := A.n.form
  obtain ⟨a3, c3, rfl⟩ := A.k.form
  have st := St.start A
  have hlx := A.lx
  have HX : Hid (N.x.size ≤ 1100000) := by show _ ≤ _; omega
  clear A
  have q20 : (N.k == 20) = false := by rw [hK]; rfl
  have q21 : (N.k == 21) = false := by rw [hK]; rfl
  have q22 : (N.k == 22) = false := by rw [hK]; rfl
  have q27 : (N.k == 27) = false := by rw [hK]; rfl
  have q23 : (N.k == 23) = false := by rw [hK]; rfl
  have q24 : (N.k == 24) = false := by rw [hK]; rfl
  have q25 : (N.k == 25) = true := by rw [hK]; rfl
  clear hK
  cases t0 : ((N.ks.length : Int) == 0) with
  | false =>
    unfold vNd
    go_enter Tryz.func42, Tryz.ntmps42
    go_wp2_with (first | (go_at_call 55; refine (l2bare_fftf _ N _ _ st.a.n st.a.k st.a.l1).mono ?_; rintro e w' ⟨rfl, hb'⟩; replace st := st.below hb'; clear hb'; obtain ⟨x0, x1, x2, x3, x4, x5, x6, x7, x8, xf⟩ := nd_cells st.bn; have xt := st.bt))
    go_ret
    exact ⟨rfl, st.bel⟩
  | true =>
    have HL : N.ks.length = 0 := by have := eq_of_beq t0; omega
    clear HL
    cases t1 : bareB N false false true false with
    | false =>
      unfold vNd
      go_enter Tryz.func42, Tryz.ntmps42
      go_wp2_with (first | (go_at_call 55; refine (l2bare_fftf _ N _ _ st.a.n st.a.k st.a.l1).mono ?_; rintro e w' ⟨rfl, hb'⟩; replace st := st.below hb'; clear hb'; obtain ⟨x0, x1, x2, x3, x4, x5, x6, x7, x8, xf⟩ := nd_cells st.bn; have xt := st.bt))
      go_ret
      exact ⟨rfl, st.bel⟩
    | true =>
      cases t2 : decide ((N.x.size : Int) ≤ 4000) with
      | false =>
        unfold vNd
        go_enter Tryz.func42, Tryz.ntmps42
        go_wp2_with (first | (go_at_call 55; refine (l2bare_fftf _ N _ _ st.a.n st.a.k st.a.l1).mono ?_; rintro e w' ⟨rfl, hb'⟩; replace st := st.below hb'; clear hb'; obtain ⟨x0, x1, x2, x3, x4, x5, x6, x7, x8, xf⟩ := nd_cells st.bn; have xt := st.bt))
        go_ret
        exact ⟨rfl, st.bel⟩
      | true =>
        unfold vNd
        go_enter Tryz.func42, Tryz.ntmps42
        go_wp2_with (first | (go_at_call 55; refine (l2bare_fftf _ N _ _ st.a.n st.a.k st.a.l1).mono ?_; rintro e w' ⟨rfl, hb'⟩; replace st := st.below hb'; clear hb'; obtain ⟨x0, x1, x2, x3, x4, x5, x6, x7, x8, xf⟩ := nd_cells st.bn; have xt := st.bt))
        go_ret
        exact ⟨rfl, st.bel⟩

set_option maxRecDepth 100000 in
set_option maxHeartbeats 3200000 in
theorem l2ex_e26 {w : World} {vt : Value} {ns : List Nd} {N : Nd} {vn vk : Value} (A : NArg w vt ns N vn vk) (hK : N.k = 26) :
    Calls Tryz.prog 42 #[.agg #[vt], vNd N vn vk] w fun e w' => e = .returned (.bool (((N.ks.length : Int) == 0) && bareB N false false true false && nmok N.x)) ∧ Below w.heap.size w w' := by
  obtain ⟨a1, c1, rfl⟩ := A.t.form
  obtain ⟨a2, c2, rfl⟩ := A.n.form
  obtain ⟨a3, c3, rfl⟩ := A.k.form
  have st := St.start A
  have hlx := A.lx
  have HX : Hid (N.x.size ≤ 1100000) := by show _ ≤ _; omega
  clear A
  have q20 : (N.k == 20) = false := by rw [hK]; rfl
  have q21 : (N.k == 21) = false := by rw [hK]; rfl
  have q22 : (N.k == 22) = false := by rw [hK]; rfl
  have q27 : (N.k == 27) = false := by rw [hK]; rfl
  have q23 : (N.k == 23) = false := by rw [hK]; rfl
  have q24 : (N.k == 24) = false := by rw [hK]; rfl
  have q25 : (N.k == 25) = false := by rw [hK]; rfl
  have q26 : (N.k == 26) = true := by rw [hK]; rfl
  clear hK
  cases t0 : ((N.ks.length : Int) == 0) with
  | false =>
    unfold vNd
    go_enter Tryz.func42, Tryz.ntmps42
    go_wp2_with (first | (go_at_call 55; refine (l2bare_fftf _ N _ _ st.a.n st.a.k st.a.l1).mono ?_; rintro e w' ⟨rfl, hb'⟩; replace st := st.below hb'; clear hb'; obtain ⟨x0, x1, x2, x3, x4, x5, x6, x7, x8, xf⟩ := nd_cells st.bn; have xt := st.bt) | (go_at_call 60; refine (l1nameok_any N.x HX.out _).mono ?_; rintro e w' ⟨rfl, hb'⟩; replace st := st.below hb'; clear hb'; obtain ⟨x0, x1, x2, x3, x4, x5, x6, x7, x8, xf⟩ := nd_cells st.bn; have xt := st.bt))
    go_ret
    exact ⟨rfl, st.bel⟩
  | true =>
    have HL : N.ks.length = 0 := by have := eq_of_beq t0; omega
    clear HL
    cases t1 : bareB N false false true false with
    | false =>
      unfold vNd
      go_enter Tryz.func42, Tryz.ntmps42
      go_wp2_with (first | (go_at_call 55; refine (l2bare_fftf _ N _ _ st.a.n st.a.k st.a.l1).mono ?_; rintro e w' ⟨rfl, hb'⟩; replace st := st.below hb'; clear hb'; obtain ⟨x0, x1, x2, x3, x4, x5, x6, x7, x8, xf⟩ := nd_cells st.bn; have xt := st.bt) | (go_at_call 60; refine (l1nameok_any N.x HX.out _).mono ?_; rintro e w' ⟨rfl, hb'⟩; replace st := st.below hb'; clear hb'; obtain ⟨x0, x1, x2, x3, x4, x5, x6, x7, x8, xf⟩ := nd_cells st.bn; have xt := st.bt))
      go_ret
      exact ⟨rfl, st.bel⟩
    | true =>
      cases t2 : nmok N.x with
      | false =>
        unfold vNd
        go_enter Tryz.func42, Tryz.ntmps42
        go_wp2_with (first | (go_at_call 55; refine (l2bare_fftf _ N _ _ st.a.n st.a.k st.a.l1).mono ?_; rintro e w' ⟨rfl, hb'⟩; replace st := st.below hb'; clear hb'; obtain ⟨x0, x1, x2, x3, x4, x5, x6, x7, x8, xf⟩ := nd_cells st.bn; have xt := st.bt) | (go_at_call 60; refine (l1nameok_any N.x HX.out _).mono ?_; rintro e w' ⟨rfl, hb'⟩; replace st := st.below hb'; clear hb'; obtain ⟨x0, x1, x2, x3, x4, x5, x6, x7, x8, xf⟩ := nd_cells st.bn; have xt := st.bt))
        go_ret
        exact ⟨rfl, st.bel⟩
      | true =>
        unfold vNd
        go_enter Tryz.func42, Tryz.ntmps42
        go_wp2_with (first | (go_at_call 55; refine (l2bare_fftf _ N _ _ st.a.n st.a.k st.a.l1).mono ?_; rintro e w' ⟨rfl, hb'⟩; replace st := st.below hb'; clear hb'; obtain ⟨x0, x1, x2, x3, x4, x5, x6, x7, x8, xf⟩ := nd_cells st.bn; have xt := st.bt) | (go_at_call 60; refine (l1nameok_any N.x HX.out _).mono ?_; rintro e w' ⟨rfl, hb'⟩; replace st := st.below hb'; clear hb'; obtain ⟨x0, x1, x2, x3, x4, x5, x6, x7, x8, xf⟩ := nd_cells st.bn; have xt := st.bt))
        go_ret
        exact ⟨rfl, st.bel⟩
end Go.Proofs.YtdgbmihokecmhaaGreatDoor
