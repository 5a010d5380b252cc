import Derived.Test.YtdlhfiheingibaaGreatDoorNN17
import Derived.Sort.LoopGhostIn
import Derived.Test.YtdlhfiheingibaaGreatDoorNN14
import Derived.Test.YtdlhfiheingibaaGreatDoorNN02
import Derived.Test.YtdlhfiheingibaaGreatDoorNN08
namespace Go.Proofs.YtdlhfiheingibaaGreatDoor
open Go.RowKit Go.Maps Go.WideMaps
set_option linter.unusedVariables false
set_option linter.unusedSimpArgs false
attribute [local go_sem] Oper.semAt_some

theorem kf_gp {B gb : Nat} {W W' : World} {cs : Array Value} {t : TypeId} {fr : Nat × Nat} (hg : W.heap[gb]? = some (.cells cs t fr)) (h : Gp gb W W') : KeepsFrom B W W' := ⟨h.size, fun k o _ hk ho => (h.block k (Array.getElem?_eq_some_iff.1 hk).1 (by rintro rfl; rw [hg] at hk; cases hk; cases ho) (fun cs' fr' e => by rw [hk] at e; cases e; cases ho)).trans hk⟩
theorem gp_cells {gb k : Nat} {W W' : World} {cs : Array Value} {t : TypeId} {fr : Nat × Nat} (h : Gp gb W W') (hk : W.heap[k]? = some (.cells cs t fr)) (hne : k ≠ gb) (ht : t ≠ 59) : W'.heap[k]? = some (.cells cs t fr) :=
  (h.block k (Array.getElem?_eq_some_iff.1 hk).1 hne (fun cs' fr' e => by rw [hk] at e; cases e; exact ht rfl)).trans hk
/-- The guard while a token is passed. -/
structure PsSt (w : World) (base gb mb : Nat) (st : List Int) (c : List Nat) (W : World) : Prop where
  g : GAt W base gb (.map (some mb)) st
  r : RI W base mb
  gp : Gp gb w W
  bb : Below base w W
  b0 : W.heap[w.heap.size]? = some (.cells #[.pointer (some ⟨gb, 0, none⟩)] 38 (0, 0))
  mks : Marks (w.heap.size + 1) c W
  ne : gb < w.heap.size
theorem PsSt.below {w : World} {base gb mb : Nat} {st : List Int} {c : List Nat} {W W' : World} (h : PsSt w base gb mb st c W) (hb : Below W.heap.size W W') : PsSt w base gb mb st c W' := by
  refine ⟨h.g.below hb, h.r.below hb, h.gp.trans (Gp.of_below hb), h.bb.trans (hb.mono ?_), (hb.block _ (lt_of_mapblock h.b0)).trans h.b0, h.mks.below hb, h.ne⟩
  have := h.g.lo
  have := h.ne
  have := h.gp.size
  omega
/-- The guard's stack has turned. -/
theorem PsSt.turn {w : World} {base gb mb : Nat} {st st' : List Int} {c : List Nat} {W W' : World} (h : PsSt w base gb mb st c W) (g' : GAt W' base gb (.map (some mb)) st') (hp : Gp gb W W') (hb : Below base W W') : PsSt w base gb mb st' c W' := by
  obtain ⟨v, hg, _⟩ := h.g.ex
  exact ⟨g', h.r.gp hg hp, h.gp.trans hp, h.bb.trans hb, gp_cells hp h.b0 (by have := h.ne; omega) (by decide),
    ⟨h.mks.nd, h.mks.lo, fun b hm => (hp.block b (Array.getElem?_eq_some_iff.1 (h.mks.at_ b hm)).1 (by rintro rfl; have := h.mks.at_ b hm; rw [hg] at this; cases this) (fun cs fr e => by rw [h.mks.at_ b hm] at e; cases e)).trans (h.mks.at_ b hm)⟩, h.ne⟩
theorem PsSt.put {w : World} {base gb mb : Nat} {st : List Int} {c : List Nat} {W : World} (h : PsSt w base gb mb st c W) {k : Nat} {r : Loop} (hk : w.heap.size < k) (hl : W.heap[k]? = some (.loop r)) (o : Obj) : PsSt w base gb mb st c (W.putObj k o) := by
  obtain ⟨v, hg, ho⟩ := h.g.ex
  have hne : gb ≠ k := by have := h.ne; omega
  have hsz : base ≤ k := by have := h.g.lo; have := h.ne; omega
  refine ⟨⟨⟨v, (World.putObj_heap_other hne).trans hg, ownsRow_putObj ho o hl rfl⟩, h.g.lo⟩, h.r.same (fun es c e => (World.putObj_heap_other (by rintro rfl; rw [hl] at e; cases e)).trans e) (fun g cs fr e => (World.putObj_heap_other (by rintro rfl; rw [hl] at e; cases e)).trans e), ?_, h.bb.grown (grownBy_putObj' W k o) (by have := h.gp.size; have := h.g.lo; have := h.ne; omega) (fun j e => by cases e; exact hsz), (World.putObj_heap_other (by omega)).trans h.b0,
    ⟨h.mks.nd, h.mks.lo, fun b hm => (World.putObj_heap_other (by rintro rfl; have := (h.mks.at_ b hm).symm.trans hl; cases this)).trans (h.mks.at_ b hm)⟩, h.ne⟩
  have hw := h.gp
  refine ⟨hw.os, hw.tape, hw.output, by have := hw.size; simpa using this, fun j hj hne hc => (World.putObj_heap_other (by omega)).trans (hw.block j hj hne hc)⟩

/-- In the rounds over a row. -/
structure RoSt (w : World) (base gb mb : Nat) (st : List Int) (c : List Nat) (sz : Nat) (x0 x1 x2 x3 x4 x5 : Int) (W : World) : Prop where
  ps : PsSt w base gb mb st c W
  b0 : W.heap[sz]? = some (.cells #[.int .u8 x0, .int .u8 x1, .int .u8 x2, .int .u8 x3, .int .u8 x4, .int .u8 x5] 100 (0, 0))
  b1 : W.heap[sz + 1]? = some (.cells #[.slice (some ⟨sz, 0, none⟩) 6 6] 53 (0, 0))
theorem RoSt.put {w : World} {base gb mb : Nat} {st : List Int} {c : List Nat} {sz : Nat} {x0 x1 x2 x3 x4 x5 : Int} {W : World} (h : RoSt w base gb mb st c sz x0 x1 x2 x3 x4 x5 W) (hs : w.heap.size < sz) {k : Nat} {r : Loop} (hk : sz + 1 < k) (hl : W.heap[k]? = some (.loop r)) (o : Obj) : RoSt w base gb mb st c sz x0 x1 x2 x3 x4 x5 (W.putObj k o) :=
  ⟨h.ps.put (by omega) hl o, (World.putObj_heap_other (by omega)).trans h.b0, (World.putObj_heap_other (by omega)).trans h.b1⟩
set_option maxRecDepth 100000 in
set_option maxHeartbeats 3200000 in
theorem pass_any (w : World) (base gb mb : Nat) (st : List Int) (t : Int) (M f0 : Nat) (stF : List Int) (hG : GAt w base gb (.map (some mb)) st) (hI : RI w base mb) (hok : ∀ a ∈ st, 0 ≤ a ∧ a ≤ 133) (hl : st.length ≤ M) (hM : M ≤ 100000000) (t0 : 1 ≤ t) (t1 : t ≤ 78) (hP : passOk M f0 st t stF) :
    Calls Tryz.prog 47 #[.pointer (some ⟨gb, 0, none⟩), .int .u8 t] w fun e w' => e = .returned (.tuple #[]) ∧ GAt w' base gb (.map (some mb)) stF ∧ RI w' base mb ∧ Gp gb w w' ∧ Below base w w' := by
  obtain ⟨v, hgb, hown⟩ := hG.ex
  have hglt := lt_of_mapblock hgb
  have hlo := hG.lo
  obtain ⟨f, rfl⟩ : ∃ f, f0 = f + 1 := by
    cases f0 with
    | zero => exact hP.elim
    | succ f => exact ⟨f, rfl⟩
  obtain ⟨s, r, rfl⟩ : ∃ s r, st = s :: r := by
    cases st with
    | nil => exact hP.elim
    | cons s r => exact ⟨s, r, rfl⟩
  have hB1 := (Below.refl w.heap.size w).alloc (Nat.le_refl _) (.cells #[.pointer (some ⟨gb, 0, none⟩)] 38 (0, 0))
  have hst1 : PsSt w base gb mb (s :: r) [] (w.alloc (.cells #[.pointer (some ⟨gb, 0, none⟩)] 38 (0, 0))) :=
    ⟨hG.below hB1, hI.below hB1, Gp.of_below hB1, hB1.mono (by omega), heap_alloc_new w _, ⟨List.nodup_nil, fun b hb => by simp at hb, fun b hb => by simp at hb⟩, hglt⟩
  have kp := popI_any _ base gb (.map (some mb)) r s hst1.g (by simp only [List.length_cons] at hl; omega)
  have HH : Hid (PsSt w base gb mb (s :: r) [] (w.alloc (.cells #[.pointer (some ⟨gb, 0, none⟩)] 38 (0, 0))) ∧ (∀ a ∈ s :: r, 0 ≤ a ∧ a ≤ 133) ∧ passOk M (f + 1) (s :: r) t stF) := ⟨hst1, hok, hP⟩
  clear hG hI hok hown hst1 hP hgb
  refine callsIn_wide (n := 5).1 ?_
  refine callsIn_of_wp_marks Tryz.func47 rfl trivial ?_ rfl
  simp only [Tryz.ntmps47, List.size_toArray, List.length_cons, List.length_nil, Nat.reduceAdd, Nat.reduceSub, Array.replicate_succ, Array.replicate_zero, List.push_toArray, List.append_toArray, List.nil_append, List.cons_append]
  refine wpIn_wide.2 ?_
  go_wp2_with (go_at_call 70; refine kp.mono ?_; rintro e w2 ⟨rfl, g2, p2, b2⟩)
  have hst2 := HH.out.1.turn g2 p2 b2
  have HI0 : Hid (PsSt w base gb mb r [] w2 ∧ (∀ a ∈ s :: r, 0 ≤ a ∧ a ≤ 133) ∧ passOk M (f + 1) (s :: r) t stF ∧ r.length ≤ M) := ⟨hst2, HH.out.2.1, HH.out.2.2, by simp only [List.length_cons] at hl; omega⟩
  clear HH hst2 g2 p2 b2 kp hB1
  obtain ⟨s0, hs0⟩ : ∃ s0, s = s0 := ⟨_, rfl⟩
  refine (wpIn_wide (n := 5)).1 (wpIn_loop_ghost (fun f a' W => ∃ (s : Int) (st : List Int) (c : List Nat), Hid (PsSt w base gb mb st c W ∧ (∀ a ∈ s :: st, 0 ≤ a ∧ a ≤ 133) ∧ passOk M (f + 1) (s :: st) t stF ∧ st.length ≤ M) ∧ ∃ u5 u6 u13 u14 u15 u16 u17 u18 u19 u20 u21 u22 u23 u24 u25 u26 u27 u28 : Value, a' = { tmps := #[.pointer (some ⟨gb, 0, none⟩), .int .u8 t, .pointer (some ⟨w.heap.size, 0, none⟩), undef, .int .u8 s, u5, u6, undef, undef, .pointer (some ⟨gb, 0, none⟩), .pointer (some ⟨gb, 0, none⟩), .pointer (some ⟨gb, 1, none⟩), .int .u8 s0, u13, u14, u15, u16, u17, u18, u19, u20, u21, u22, u23, u24, u25, u26, u27, u28, undef, undef, undef, undef, undef, undef, undef, undef, undef], defers := c.map markOf }) f ?start ?round)
  case start => exact ⟨s, r, [], HI0, undef, undef, undef, undef, undef, undef, undef, undef, undef, undef, undef, undef, undef, undef, undef, undef, undef, undef, by rw [← hs0]; rfl⟩
  case round =>
    clear HI0 hl hs0
    rintro f a' W ⟨s, st, c, HR, u5, u6, u13, u14, u15, u16, u17, u18, u19, u20, u21, u22, u23, u24, u25, u26, u27, u28, rfl⟩
    refine wpIn_wide.2 ?_
    have hb0 := one_cellG HR.out.1.b0
    have hsr := HR.out.2.1 s (by simp)
    by_cases hst : s = t
    · have hpo := HR.out.2.2.1
      unfold passOk at hpo
      have hstF : stF = st := by
        rcases hpo with ⟨_, h, _⟩ | ⟨h, _⟩
        · exact h
        · exact absurd hst h
      have HF : Hid (PsSt w base gb mb stF c W) := by rw [hstF]; exact HR.out.1
      clear hpo HR hstF
      subst hst
      go_wp2_with fail
      show LeavesInM _ _ _ _ _ _ (c.map markOf) .returning W
      have h := HF.out
      refine leaves_marks (w.heap.size + 1) c W h.mks (fun W4 hw => ?_)
      have hsub : ∀ k, k ≤ w.heap.size → W4.heap[k]? = W.heap[k]? := fun k hk => hw.same k (fun hm => by have := h.mks.lo k hm; omega)
      have hnc : ∀ (k : Nat) (o : Obj), W.heap[k]? = some o → (∀ q, o ≠ .deferred q) → W4.heap[k]? = some o := fun k o hk ho => (hw.same k (fun hm => by have := h.mks.at_ k hm; rw [hk] at this; exact ho _ (Option.some.inj this))).trans hk
      refine ⟨_, results_none rfl _ _ _, rfl, ?_, ?_, ?_, ?_⟩
      · obtain ⟨v, hg, ho⟩ := h.g.ex
        refine ⟨⟨v, hnc _ _ hg (fun q e => by cases e), ho.1, ?_⟩, h.g.lo⟩
        rcases ho.2 with h1 | ⟨g2, cap2, cur, q1, q2, q3, q4⟩
        · exact .inl h1
        · exact .inr ⟨g2, cap2, cur, q1, q2, hnc _ _ q3 (fun q e => by cases e), q4⟩
      · exact h.r.same (fun es c e => hnc _ _ e (fun q e => by cases e)) (fun g cs fr e => hnc _ _ e (fun q e => by cases e))
      · exact ⟨hw.os.trans h.gp.os, hw.tape.trans h.gp.tape, hw.output.trans h.gp.output, by rw [hw.size]; exact h.gp.size, fun k hk hne hc => (hsub k (by omega)).trans (h.gp.block k hk hne hc)⟩
      · exact ⟨hw.os.trans h.bb.os, hw.tape.trans h.bb.tape, hw.output.trans h.bb.output, by rw [hw.size]; exact h.bb.size, fun k hk => (hsub k (by omega)).trans (h.bb.block k hk)⟩
    · have hsn : (s == t) = false := by rw [beq_eq_false_iff_ne]; exact hst
      have hpo : (rwI s t ++ st).length ≤ M ∧ passOk M f (rwI s t ++ st) t stF := by
        have := HR.out.2.2.1
        unfold passOk at this
        rcases this with ⟨h, _⟩ | ⟨_, h⟩
        · exact absurd h hst
        · exact h
      obtain ⟨vg, hg, _⟩ := HR.out.1.g.ex
      have hGB : GB W base gb mb := ⟨by rw [cell_of_row _ _ _ _ _ _ hg]; rfl, HR.out.1.r⟩
      obtain ⟨b0, hL⟩ : ∃ b0, LeftIs 8 t (rowsI s) 0 (rwI s t) b0 := ⟨_, ⟨rw_same t0, rfl⟩⟩
      have kr := rowWith_at 7 (begins_any 7) W base gb mb s t hGB hsr.1 hsr.2 (dp_le s) t0 t1 _ b0 hL
      obtain ⟨hr6, hrz⟩ := rw_len (t := t) hsr.1 hsr.2
      rw [rc_eq hr6] at kr
      have HP : Hid ((rwI s t ++ st).length ≤ M ∧ passOk M f (rwI s t ++ st) t stF ∧ (rwI s t).length ≤ 6 ∧ ∀ z ∈ rwI s t, 1 ≤ z ∧ z ≤ 133) := ⟨hpo.1, hpo.2, hr6, hrz⟩
      generalize rwI s t = rw at kr HP
      obtain ⟨x0, hx0⟩ : ∃ x, rw.getD 0 0 = x := ⟨_, rfl⟩
      obtain ⟨x1, hx1⟩ : ∃ x, rw.getD 1 0 = x := ⟨_, rfl⟩
      obtain ⟨x2, hx2⟩ : ∃ x, rw.getD 2 0 = x := ⟨_, rfl⟩
      obtain ⟨x3, hx3⟩ : ∃ x, rw.getD 3 0 = x := ⟨_, rfl⟩
      obtain ⟨x4, hx4⟩ : ∃ x, rw.getD 4 0 = x := ⟨_, rfl⟩
      obtain ⟨x5, hx5⟩ : ∃ x, rw.getD 5 0 = x := ⟨_, rfl⟩
      rw [hx0, hx1, hx2, hx3, hx4, hx5] at kr
      have HX : Hid (rw.getD 0 0 = x0 ∧ rw.getD 1 0 = x1 ∧ rw.getD 2 0 = x2 ∧ rw.getD 3 0 = x3 ∧ rw.getD 4 0 = x4 ∧ rw.getD 5 0 = x5) := ⟨hx0, hx1, hx2, hx3, hx4, hx5⟩
      clear hpo hg hGB hL hr6 hrz hx0 hx1 hx2 hx3 hx4 hx5 hst
      go_wp2_with (first
        | (go_at_call 68; refine kr.mono ?_; rintro e w3 ⟨rfl, hB3⟩)
        | (go_at_call 44; refine (backwardS_any _ 6 6 _).mono ?_; rintro e w4 ⟨rfl, rfl⟩))
      rename_i K2 hK2
      obtain ⟨sz, hsz⟩ : ∃ sz, w3.heap.size = sz := ⟨_, rfl⟩
      have hB4 : Below W.heap.size W ((w3.alloc (.cells #[.int .u8 x0, .int .u8 x1, .int .u8 x2, .int .u8 x3, .int .u8 x4, .int .u8 x5] 100)).alloc (.cells #[.slice (some ⟨sz, 0, none⟩) 6 6] 53)) := (hB3.alloc hB3.size _).alloc (by have := hB3.size; simp; omega) _
      have hst3 := HR.out.1.below hB4
      have hr0 : ((w3.alloc (.cells #[.int .u8 x0, .int .u8 x1, .int .u8 x2, .int .u8 x3, .int .u8 x4, .int .u8 x5] 100)).alloc (.cells #[.slice (some ⟨sz, 0, none⟩) 6 6] 53)).heap[sz]? = some (.cells #[.int .u8 x0, .int .u8 x1, .int .u8 x2, .int .u8 x3, .int .u8 x4, .int .u8 x5] 100 (0, 0)) := (Below.heap_alloc _ _ _ (by simp; omega)).trans (by rw [← hsz]; exact heap_alloc_new w3 _)
      have hr1 : ((w3.alloc (.cells #[.int .u8 x0, .int .u8 x1, .int .u8 x2, .int .u8 x3, .int .u8 x4, .int .u8 x5] 100)).alloc (.cells #[.slice (some ⟨sz, 0, none⟩) 6 6] 53)).heap[sz + 1]? = some (.cells #[.slice (some ⟨sz, 0, none⟩) 6 6] 53 (0, 0)) := by
        have := heap_alloc_new (w3.alloc (.cells #[.int .u8 x0, .int .u8 x1, .int .u8 x2, .int .u8 x3, .int .u8 x4, .int .u8 x5] 100)) (.cells #[.slice (some ⟨sz, 0, none⟩) 6 6] 53)
        rw [World.size_alloc, hsz] at this; exact this
      have hz3 : ((w3.alloc (.cells #[.int .u8 x0, .int .u8 x1, .int .u8 x2, .int .u8 x3, .int .u8 x4, .int .u8 x5] 100)).alloc (.cells #[.slice (some ⟨sz, 0, none⟩) 6 6] 53)).heap.size = sz + 1 + 1 := by simp; omega
      have hcs : ∀ b ∈ c, b < sz := fun b hb => by have := (Array.getElem?_eq_some_iff.1 (HR.out.1.mks.at_ b hb)).1; have := hB3.size; omega
      have hws : w.heap.size < sz := by have := lt_of_mapblock HR.out.1.b0; have := hB3.size; omega
      rw [hsz]
      generalize (w3.alloc (.cells #[.int .u8 x0, .int .u8 x1, .int .u8 x2, .int .u8 x3, .int .u8 x4, .int .u8 x5] 100)).alloc (.cells #[.slice (some ⟨sz, 0, none⟩) 6 6] 53) = W3 at hst3 hr0 hr1 hz3 hB4 ⊢
      clear kr hB3 hb0 hB4
      refine (wpIn_wide (n := 5)).1 ?_
      refine rangeDown (P := Tryz.prog) (gf := 67) (lb := #[.pointer (some ⟨sz + 1, 0, none⟩)]) rfl (enters_of Tryz.func67 (by kernel_rfl) rfl)
        (fun m => #[.int .i64 (m : Int), .int .u8 (rw.getD m 0)]) (fun _ => rfl) 6
        (fun m W => RoSt w base gb mb (rw.drop m ++ st) c sz x0 x1 x2 x3 x4 x5 W)
        (fun m a' W => RoSt w base gb mb (rw.drop (m + 1) ++ st) c sz x0 x1 x2 x3 x4 x5 W ∧ a' = { tmps := #[.pointer (some ⟨gb, 0, none⟩), .int .u8 t, .pointer (some ⟨w.heap.size, 0, none⟩), undef, .int .u8 s, .pointer (some ⟨sz, 0, none⟩), .bool b0, undef, .int .u8 (rw.getD m 0), .pointer (some ⟨gb, 0, none⟩), .pointer (some ⟨gb, 0, none⟩), .pointer (some ⟨gb, 1, none⟩), .int .u8 s0, .int .u8 s, .int .u8 t, .bool true, u16, u17, u18, u19, .tuple #[.agg #[.int .u8 x0, .int .u8 x1, .int .u8 x2, .int .u8 x3, .int .u8 x4, .int .u8 x5], .bool b0], .pointer (some ⟨gb, 0, none⟩), .int .u8 s, .int .u8 t, .tuple #[.agg #[.int .u8 x0, .int .u8 x1, .int .u8 x2, .int .u8 x3, .int .u8 x4, .int .u8 x5], .bool b0], .agg #[.int .u8 x0, .int .u8 x1, .int .u8 x2, .int .u8 x3, .int .u8 x4, .int .u8 x5], .bool b0, .slice (some ⟨sz, 0, none⟩) 6 6, .func (.func 67) #[] #[.pointer (some ⟨sz + 1, 0, none⟩)], .int .i64 (m : Int), .int .u8 (rw.getD m 0), undef, undef, undef, undef, undef, undef, undef], defers := [] })
        (fun _ => False)
        ?pZ ?pAx ?pX ?h0 ?assign ?body ?seq ?done ?ret
      case pZ =>
        rintro m W r o h hl
        rw [hz3] at hl ⊢
        exact h.put hws (by omega) hl o
      case pAx =>
        rintro m a' W r o ⟨h, rfl⟩ hl
        rw [hz3] at hl ⊢
        exact ⟨h.put hws (by omega) hl o, rfl⟩
      case pX => intro W r o h; exact h.elim
      case h0 =>
        intro W1 hb hs
        refine ⟨?_, (hb.block _ (by omega)).trans hr0, (hb.block _ (by omega)).trans hr1⟩
        rw [List.drop_of_length_le HP.out.2.2.1]
        exact hst3.below hb
      case assign =>
        rintro l m W K3 hm h hK3
        have HD : Hid (RoSt w base gb mb (rw.drop (m + 1) ++ st) c sz x0 x1 x2 x3 x4 x5 W) := h
        clear h
        gi_wp2
        exact hK3 _ _ ⟨HD.out, rfl⟩ (KeepsFrom.refl _ _)
      case seq =>
        intro l J Jx hJ hY W hW
        refine back1S_in 4 l (sz + 1) 6 6 (some ⟨sz, 0, none⟩) _ (by decide) (Nat.le_refl _) J Jx (fun m W h => ?_) (fun m W h j hj => ?_) hY W hW
        · exact one_cellG (hJ m W h).b1
        · obtain ⟨q0, q1, q2, q3, q4, q5⟩ := row_cells6 (hJ m W h).b0
          obtain ⟨y0, y1, y2, y3, y4, y5⟩ := HX.out
          refine ⟨_, rfl, ?_⟩
          rw [add_zero_at']
          rcases (show j = 0 ∨ j = 1 ∨ j = 2 ∨ j = 3 ∨ j = 4 ∨ j = 5 by omega) with rfl | rfl | rfl | rfl | rfl | rfl
          · rw [y0]; exact q0
          · rw [y1]; exact q1
          · rw [y2]; exact q2
          · rw [y3]; exact q3
          · rw [y4]; exact q4
          · rw [y5]; exact q5
      case ret => intro W h; exact h.elim
      case body =>
        rintro l m a' W' hm ⟨h, rfl⟩
        rw [hz3]
        have c0 := one_cellG h.ps.b0
        obtain ⟨vg, hg, _⟩ := h.ps.g.ex
        by_cases hml : m < rw.length
        · have hxm : rw.getD m 0 ∈ rw := by rw [List.getD_eq_getElem?_getD, List.getElem?_eq_getElem hml]; exact List.getElem_mem _
          have hxr := HP.out.2.2.2 _ hxm
          have hdr : rw.drop m = rw.getD m 0 :: rw.drop (m + 1) := by
            rw [List.drop_eq_getElem_cons hml]
            congr 1
            rw [List.getD_eq_getElem?_getD, List.getElem?_eq_getElem hml]; rfl
          have hlen : (rw.drop (m + 1) ++ st).length ≤ 100000000 := by
            have := HP.out.1
            rw [List.length_append] at this ⊢
            rw [List.length_drop]
            omega
          have kp := CallsIn.inRound l (callsIn_wide (n := 2).2 (pushI_any W' base gb (.map (some mb)) (rw.drop (m + 1) ++ st) (rw.getD m 0) h.ps.g hlen))
          rw [← List.cons_append, ← hdr] at kp
          have HD : Hid (RoSt w base gb mb (rw.drop (m + 1) ++ st) c sz x0 x1 x2 x3 x4 x5 W' ∧ W'.heap[gb]? = some (.cells #[.map (some mb), vg] 57 (0, 0))) := ⟨h, hg⟩
          generalize rw.getD m 0 = x at hxr kp ⊢
          have hx0 : (x == 0) = false := by rw [beq_eq_false_iff_ne]; omega
          clear h hg hxm hdr
          gi_wp2_with (refine ⟨trivial, ?_⟩; gi_at_call 21; fail)
          refine ⟨trivial, kp.mono ?_⟩
          rintro e w5 ⟨rfl, g5, p5, b5⟩
          have HF : Hid (RoSt w base gb mb (rw.drop m ++ st) c sz x0 x1 x2 x3 x4 x5 w5 ∧ KeepsFrom (sz + 1 + 1) W' w5) := ⟨⟨HD.out.1.ps.turn g5 p5 b5, gp_cells p5 HD.out.1.b0 (by omega) (by decide), gp_cells p5 HD.out.1.b1 (by omega) (by decide)⟩, kf_gp HD.out.2 p5⟩
          clear g5 p5 b5 kp HD c0
          gi_wp2
          exact ⟨HF.out.2, HF.out.1⟩
        · have hx : rw.getD m 0 = 0 := by rw [List.getD_eq_getElem?_getD, List.getElem?_eq_none (by omega)]; rfl
          rw [hx]
          have HF : Hid (RoSt w base gb mb (rw.drop m ++ st) c sz x0 x1 x2 x3 x4 x5 W') := by
            have e1 : rw.drop m = rw.drop (m + 1) := by rw [List.drop_of_length_le (by omega), List.drop_of_length_le (by omega)]
            rw [e1]; exact h
          clear h hg
          gi_wp2
          exact ⟨KeepsFrom.refl _ _, HF.out⟩
      case done =>
        rintro W' h hD
        rw [hz3] at hD ⊢
        obtain ⟨f', rfl⟩ : ∃ f', f = f' + 1 := by
          cases f with
          | zero => exact (HP.out.2.1).elim
          | succ f => exact ⟨f, rfl⟩
        obtain ⟨s', st', hss⟩ : ∃ s' st', rw ++ st = s' :: st' := by
          cases hq : rw ++ st with
          | nil => have := HP.out.2.1; rw [hq] at this; exact this.elim
          | cons a b => exact ⟨a, b, rfl⟩
        have hps := h.ps
        rw [List.drop_zero, hss] at hps
        have hlm : st'.length + 1 ≤ M := by have := HP.out.1; rw [hss, List.length_cons] at this; exact this
        have kp := popI_any W' base gb (.map (some mb)) st' s' hps.g (by omega)
        have c0 := one_cellG hps.b0
        have hmk : Marks (w.heap.size + 1) ((sz + 1 + 1) :: c) W' := ⟨List.nodup_cons.2 ⟨fun hm => by have := hcs _ hm; omega, hps.mks.nd⟩, fun b hb => by
            rcases List.mem_cons.1 hb with rfl | hb
            · omega
            · exact hps.mks.lo b hb, fun b hb => by
            rcases List.mem_cons.1 hb with rfl | hb
            · exact hD
            · exact hps.mks.at_ b hb⟩
        have HQ : Hid (PsSt w base gb mb (s' :: st') ((sz + 1 + 1) :: c) W' ∧ (∀ a ∈ s' :: st', 0 ≤ a ∧ a ≤ 133) ∧ passOk M (f' + 1) (s' :: st') t stF) := by
          refine ⟨⟨hps.g, hps.r, hps.gp, hps.bb, hps.b0, hmk, hps.ne⟩, fun a ha => ?_, by rw [← hss]; exact HP.out.2.1⟩
          rw [← hss] at ha
          rcases List.mem_append.1 ha with ha | ha
          · have := HP.out.2.2.2 a ha; omega
          · exact HR.out.2.1 a (by simp [ha])
        refine hK2 _ _ ?_
        clear hmk hps h hD hK2 HR HP HX hst3 hr0 hr1
        go_wp2_with (go_at_call 70; refine kp.mono ?_; rintro e w6 ⟨rfl, g6, p6, b6⟩)
        exact ⟨f', by omega, s', st', (sz + 1 + 1) :: c, ⟨HQ.out.1.turn g6 p6 b6, HQ.out.2.1, HQ.out.2.2, by omega⟩, _, _, _, _, _, _, _, _, _, _, _, _, _, _, _, _, _, _, rfl⟩
end Go.Proofs.YtdlhfiheingibaaGreatDoor

namespace Go.Proofs.YtdlhfiheingibaaGreatDoor
open Go.RowKit Go.Maps Go.WideMaps
set_option linter.unusedVariables false

/-- The tokens from 1 to j that may stand. -/
def nmTo (st : List Int) : Nat → List Int
  | 0 => []
  | j + 1 => if mayI st ((j : Int) + 1) = true then nmTo st j ++ [(j : Int) + 1] else nmTo st j
theorem nmTo_len (st : List Int) : ∀ j, (nmTo st j).length ≤ j
  | 0 => Nat.le_refl _
  | j + 1 => by
    have := nmTo_len st j
    rw [nmTo]
    split
    · rw [List.length_append]; simp; omega
    · omega
theorem nmTo_rng (st : List Int) : ∀ j, ∀ z ∈ nmTo st j, 1 ≤ z ∧ z ≤ (j : Int)
  | 0 => by intro z hz; simp [nmTo] at hz
  | j + 1 => by
    intro z hz
    have ih := nmTo_rng st j
    rw [nmTo] at hz
    split at hz
    · rcases List.mem_append.1 hz with h | h
      · have := ih z h; omega
      · simp at h; omega
    · have := ih z hz; omega
theorem Sim.nm {st stk : List Int} (h : Sim st stk) : ∀ j, j ≤ 78 → nmTo st j = mayTo stk j
  | 0, _ => rfl
  | j + 1, hj => by rw [nmTo, mayTo, h.nm j (by omega), h.may (by omega) (by omega)]
/-- The guard as it is asked. -/
structure GQ (W : World) (base gb mb : Nat) (st : List Int) : Prop where
  g : GAt W base gb (.map (some mb)) st
  r : RI W base mb
  ok : ∀ a ∈ st, 0 ≤ a ∧ a ≤ 133
  len : st.length ≤ 99999000
theorem GQ.below {W W' : World} {base gb mb : Nat} {st : List Int} (h : GQ W base gb mb st) (hb : Below W.heap.size W W') : GQ W' base gb mb st := ⟨h.g.below hb, h.r.below hb, h.ok, h.len⟩
theorem GQ.may {W : World} {base gb mb : Nat} {st : List Int} (h : GQ W base gb mb st) {t : Int} (t0 : 1 ≤ t) (t1 : t ≤ 78) {R : Bool} (hR : mayI st t = R) :
    Calls Tryz.prog 24 #[.pointer (some ⟨gb, 0, none⟩), .int .i64 t] W fun e w' => e = .returned (.bool R) ∧ Below W.heap.size W w' :=
  may_any' W base gb mb st t R h.g h.r h.ok (by have := h.len; omega) t0 t1 hR
structure NxSt (w : World) (st : List Int) (j : Nat) (vo : Value) (W : World) : Prop where
  bl : Below w.heap.size w W
  row : W.ownsRow w.heap.size 3 1 vo (nmTo st j).length ((nmTo st j).map (Value.int .i64))

set_option maxRecDepth 100000 in
set_option maxHeartbeats 1600000 in
theorem next_any (w : World) (base gb mb : Nat) (st : List Int) (h : GQ w base gb mb st) :
    Calls Tryz.prog 14 #[.pointer (some ⟨gb, 0, none⟩)] w fun e w' => ∃ a c, e = .returned (.slice a (nmTo st 78).length c) ∧ w'.ownsRow w.heap.size 3 1 (.slice a (nmTo st 78).length c) (nmTo st 78).length ((nmTo st 78).map (Value.int .i64)) ∧ Below w.heap.size w w' := by
  have HG : Hid (GQ w base gb mb st) := h
  have HS0 : Hid (NxSt w st 0 (.slice none 0 0) w) := ⟨Below.refl _ _, World.ownsRow_nil _ _ _ _⟩
  obtain ⟨j0, ji, jz0, jz1, jz2⟩ := info_parts infoInt
  clear h
  go_enter Tryz.func14, Tryz.ntmps14
  go_wp2_with fail
  go_loopw [3, 4] (fun vo vt wr => ∃ (j : Nat), j ≤ 78 ∧ vt = .int .i64 ((j : Int) + 1) ∧ (∃ a c, ∃ m : Nat, vo = .slice a m c) ∧ Hid (NxSt w st j vo wr)) (fun _ vt _ => (79 - intOf vt).toNat)
  case atStart => exact ⟨0, Nat.zero_le _, rfl, ⟨_, _, _, rfl⟩, HS0⟩
  case round =>
    obtain ⟨j, hj, rfl, ⟨av, cv, mv, rfl⟩, HS⟩ := hrel
    clear HS0
    by_cases hlt : j < 78
    · obtain ⟨R, hR⟩ : ∃ R, mayI st ((j : Int) + 1) = R := ⟨_, rfl⟩
      have km := (HG.out.below HS.out.bl).may (t := (j : Int) + 1) (by omega) (by omega) hR
      have HR : Hid (mayI st ((j : Int) + 1) = R) := hR
      obtain ⟨T, hT⟩ : ∃ T : Int, (j : Int) + 1 = T := ⟨_, rfl⟩
      have HT : Hid ((j : Int) + 1 = T) := hT
      have hT1 : T ≤ 78 := by omega
      have hT0 : 1 ≤ T := by omega
      rw [hT] at km ⊢
      clear hR hT
      go_wp2_with (go_at_call 24; fail)
      refine km.mono ?_
      rintro e w2 ⟨rfl, b2⟩
      have hbl2 : Below w.heap.size w w2 := HS.out.bl.trans (b2.mono HS.out.bl.size)
      have hrow := own_keep HS.out.row b2
      have hml := nmTo_len st j
      obtain ⟨nn, hnn⟩ : ∃ nn, (nmTo st j).length = nn := ⟨_, rfl⟩
      rw [hnn] at hrow hml
      obtain ⟨a9, c9, e9⟩ := own_form hrow
      cases e9
      have HRW : Hid (w2.ownsRow w.heap.size 3 1 (.slice av mv cv) mv ((nmTo st j).map (Value.int .i64)) ∧ (nmTo st j).length = mv ∧ Below w.heap.size w w2) := ⟨hrow, hnn, hbl2⟩
      have hws := hbl2.size
      clear km HS b2 hrow hnn hbl2
      cases R with
      | false =>
        have e : nmTo st (j + 1) = nmTo st j := by rw [nmTo, HR.out, if_neg (by decide)]
        go_wp2_with fail
        refine ⟨⟨j + 1, by omega, ?_, ⟨_, _, _, rfl⟩, ⟨HRW.out.2.2, by rw [e, HRW.out.2.1]; exact HRW.out.1⟩⟩, ?_⟩
        · have := HT.out; congr 1; push_cast; omega
        · simp [intOf]; omega
      | true =>
        have HE : Hid (nmTo st (j + 1) = nmTo st j ++ [T]) := by show _ = _; rw [nmTo, HR.out, if_pos rfl, HT.out]
        go_wp2_with (at_builtin; refine wpList_append_own _ rfl _ _ 22 rfl w.heap.size 3 j0 _ 1 8 Tryz.underlying22 ji jz0 jz1 jz2 rfl (by decide) _ _ _ rfl (HRW.out.1.alloc _) ⟨w2.heap.size, 0, none⟩ 1 1 [.int .i64 T] rfl rfl (World.news_of_block (cs := #[.int .i64 T]) (fr := (0, 0)) (heap_alloc_new w2 _)) (by intro u hu; simp at hu; subst hu; rfl) (by unfold maxLen; omega) (by omega) (by simp; omega) ?_; intro v' w5 ho5 hg5 hn5; obtain ⟨g', cap', rfl⟩ := ownsRow_succ ho5)
        refine ⟨⟨j + 1, by omega, ?_, ⟨_, _, _, rfl⟩, ⟨?_, ?_⟩⟩, ?_⟩
        · have := HT.out; congr 1; push_cast; omega
        · exact (HRW.out.2.2.alloc hws _).grown hg5 (by simp; omega) (fun k hk => (HRW.out.1.lt k hk).1)
        · rw [HE.out, List.length_append, HRW.out.2.1, List.map_append]; exact ho5
        · simp [intOf]; omega
    · obtain rfl : j = 78 := by omega
      have hrow := HS.out.row
      obtain ⟨nn, hnn⟩ : ∃ nn, (nmTo st 78).length = nn := ⟨_, rfl⟩
      rw [hnn] at hrow
      obtain ⟨a9, c9, e9⟩ := own_form hrow
      cases e9
      have HF : Hid (wr.ownsRow w.heap.size 3 1 (.slice av mv cv) mv ((nmTo st 78).map (Value.int .i64)) ∧ (nmTo st 78).length = mv ∧ Below w.heap.size w wr) := ⟨hrow, hnn, HS.out.bl⟩
      clear HS hrow hnn
      go_wp2_with fail
      go_ret
      refine ⟨av, cv, ?_, ?_, HF.out.2.2⟩
      · rw [HF.out.2.1]; rfl
      · rw [HF.out.2.1]; exact HF.out.1
end Go.Proofs.YtdlhfiheingibaaGreatDoor

namespace Go.Proofs.YtdlhfiheingibaaGreatDoor
open Go.RowKit
set_option linter.unusedVariables false

/-- How many bytes two texts begin with alike, from n on. -/
def cmL (a b : ByteArray) : Nat → Nat → Nat
  | 0, n => n
  | f + 1, n => if n < a.size ∧ n < b.size ∧ bat a n = bat b n then cmL a b f (n + 1) else n
def cmF (a b : ByteArray) : Nat := cmL a b (a.size + 1) 0
structure CmIs (a b : ByteArray) (f n R : Nat) : Prop where
  out : cmL a b f n = R

set_option maxRecDepth 100000 in
set_option maxHeartbeats 6400000 in
theorem common_any (w : World) (a b : ByteArray) (ha : a.size ≤ 1100000) (hb : b.size ≤ 1100000) :
    Calls Tryz.prog 48 #[.string a, .string b] w fun e w' => e = .returned (.int .i64 (cmF a b)) ∧ Below w.heap.size w w' := by
  unfold cmF
  obtain ⟨R, hR⟩ : ∃ R, cmL a b (a.size + 1) 0 = R := ⟨_, rfl⟩
  rw [hR]
  have HR0 : CmIs a b (a.size + 1) 0 R := ⟨hR⟩
  clear hR
  go_enter Tryz.func48, Tryz.ntmps48
  go_wp2_with fail
  go_loopw [5] (fun vi wr => ∃ (k f : Nat), k ≤ a.size ∧ a.size < k + f ∧ vi = .int .i64 k ∧ CmIs a b f k R ∧ Below w.heap.size w wr) (fun vi _ => a.size + 1 - (intOf vi).toNat)
  case atStart => exact ⟨0, a.size + 1, by omega, by omega, rfl, HR0, Below.refl _ _⟩
  case round =>
    obtain ⟨k, f, hk, hf, rfl, HC, hbl⟩ := hrel
    clear HR0
    obtain ⟨f, rfl⟩ : ∃ g, f = g + 1 := ⟨f - 1, by omega⟩
    have hst := HC.out
    rw [cmL] at hst
    have HB : Hid (Below w.heap.size w wr) := hbl
    have bN : ∀ q, Below w.heap.size w (wr.drewN q) := fun q => hbl.trans (bel_drewN _ wr q)
    clear HC hbl
    by_cases h1 : k < a.size
    · have i1 : (k : Int) < (a.size : Int) := by omega
      by_cases h2 : k < b.size
      · have i2 : (k : Int) < (b.size : Int) := by omega
        have x1 := fun w => idx_run h1 w
        have x2 := fun w => idx_run h2 w
        by_cases h3 : bat a k = bat b k
        · rw [if_pos ⟨h1, h2, h3⟩] at hst
          rw [h3] at x1
          have HS : CmIs a b f (k + 1) R := ⟨hst⟩
          clear hst h3
          generalize bat b k = c at x1 x2
          go_wp2_with fail
          go_quiet (fail)
          go_wp2_with fail
          exact ⟨⟨k + 1, f, by omega, by omega, by go_num, HS, bN _⟩, by simp [intOf]; omega⟩
        · rw [if_neg (fun h => h3 h.2.2)] at hst
          have HF : Hid (k = R) := hst
          have hne : (bat a k == bat b k) = false := beq_eq_false_iff_ne.2 h3
          clear hst h3
          go_wp2_with fail
          go_quiet (fail)
          go_wp2_with fail
          go_ret
          exact ⟨by rw [← HF.out]; rfl, bN _⟩
      · rw [if_neg (fun h => h2 h.2.1)] at hst
        have HF : Hid (k = R) := hst
        have i2 : ¬ (k : Int) < (b.size : Int) := by omega
        clear hst
        go_wp2_with fail
        go_quiet (fail)
        go_wp2_with fail
        go_ret
        exact ⟨by rw [← HF.out]; rfl, bN _⟩
    · rw [if_neg (fun h => h1 h.1)] at hst
      have HF : Hid (k = R) := hst
      have i1 : ¬ (k : Int) < (a.size : Int) := by omega
      clear hst
      go_wp2_with fail
      go_quiet (fail)
      go_wp2_with fail
      go_ret
      exact ⟨by rw [← HF.out]; rfl, bN _⟩
/-- How many bytes of a piece some token of a kind begins with. -/
def bnC (k c : Int) : Bool := if k = 1 then lettB c else if k = 2 then digB c else if k = 3 then digB c else decide (c = 34)
def bnF (k : Int) (x : ByteArray) : Nat := if x.size = 0 then 0 else if k = 1 ∨ k = 2 ∨ k = 3 ∨ k = 4 then (if bnC k (bat x 0) = true then x.size else 0) else cmF x (fixI k)
theorem fix_sz (k : Int) : (fixI k).size ≤ 6 := by
  by_cases h : 0 ≤ k ∧ k ≤ 78
  · have hh : ∀ j : Fin 79, (fixI (j.val : Int)).size ≤ 6 := by decide +kernel
    have := hh ⟨k.toNat, by omega⟩
    rw [show (((⟨k.toNat, by omega⟩ : Fin 79).val : Nat) : Int) = k by simp; omega] at this
    exact this
  · unfold fixI
    rw [if_neg (by omega), if_neg (by omega), if_neg (by omega), if_neg (by omega), if_neg (by omega)]
    decide

set_option maxRecDepth 100000 in
set_option maxHeartbeats 6400000 in
theorem beginning_any (w : World) (k : Int) (x : ByteArray) (hT : Tabs w) (hx : x.size ≤ 1100000) (k0 : 1 ≤ k) (k1 : k ≤ 78) :
    Calls Tryz.prog 49 #[.int .i64 k, .string x] w fun e w' => e = .returned (.int .i64 (bnF k x)) ∧ Below w.heap.size w w' := by
  unfold bnF
  by_cases h0 : x.size = 0
  · rw [if_pos h0]
    have e : x = ⟨#[]⟩ := by
      obtain ⟨d⟩ := x
      have : d.size = 0 := h0
      congr
      exact Array.eq_empty_of_size_eq_zero this
    subst e
    go_enter Tryz.func49, Tryz.ntmps49
    go_wp2_with fail
    go_ret
    exact ⟨rfl, Below.refl _ _⟩
  · rw [if_neg h0]
    have hne : (x.toList == []) = false := by
      have : x.toList.length = x.size := by rw [ByteArray.toList_eq]; simp
      cases hs : x.toList with
      | nil => rw [hs] at this; simp at this; omega
      | cons a r => rfl
    have i1 := fun w => idx_run (s := x) (i := 0) (by omega) w
    rw [show (((0 : Nat) : Int)) = 0 from rfl] at i1
    have hq : (k = 1 ∨ k = 2 ∨ k = 3 ∨ k = 4) ∨ ¬ (k = 1 ∨ k = 2 ∨ k = 3 ∨ k = 4) := Classical.em _
    rcases hq with h | h
    · rw [if_pos h]
      generalize bat x 0 = c at i1 ⊢
      have kl := fun w => isLetter_any c w
      have kd := fun w => isDigit_any c w
      rcases h with rfl | rfl | rfl | rfl
      · rw [show bnC 1 c = lettB c from rfl]
        clear kd
        cases hc : lettB c
        all_goals
          rw [hc] at kl
          go_enter Tryz.func49, Tryz.ntmps49
          go_wp2_with (go_at_call 61; refine (kl _).mono ?_; rintro e w' ⟨rfl, rfl⟩)
          go_ret
          exact ⟨rfl, Below.refl _ _⟩
      · rw [show bnC 2 c = digB c from rfl]
        clear kl
        cases hc : digB c
        all_goals
          rw [hc] at kd
          go_enter Tryz.func49, Tryz.ntmps49
          go_wp2_with (go_at_call 63; refine (kd _).mono ?_; rintro e w' ⟨rfl, rfl⟩)
          go_ret
          exact ⟨rfl, Below.refl _ _⟩
      · rw [show bnC 3 c = digB c from rfl]
        clear kl
        cases hc : digB c
        all_goals
          rw [hc] at kd
          go_enter Tryz.func49, Tryz.ntmps49
          go_wp2_with (go_at_call 63; refine (kd _).mono ?_; rintro e w' ⟨rfl, rfl⟩)
          go_ret
          exact ⟨rfl, Below.refl _ _⟩
      · rw [show bnC 4 c = decide (c = 34) from rfl]
        clear kl kd
        by_cases hc : c = 34
        · subst hc
          go_enter Tryz.func49, Tryz.ntmps49
          go_wp2_with fail
          go_ret
          exact ⟨rfl, Below.refl _ _⟩
        · rw [decide_eq_false hc]
          have hcb : (c == 34) = false := beq_eq_false_iff_ne.2 hc
          go_enter Tryz.func49, Tryz.ntmps49
          go_wp2_with fail
          go_ret
          exact ⟨rfl, Below.refl _ _⟩
    · rw [if_neg h]
      have n1 : ¬ k = 1 := by omega
      have n2 : ¬ k = 2 := by omega
      have n3 : ¬ k = 3 := by omega
      have n4 : ¬ k = 4 := by omega
      have kf := fixedText_any k (by omega) (by omega) w hT
      have hfz := fix_sz k
      have kc := fun w => common_any w x (fixI k) hx (by omega)
      generalize fixI k = F at kf kc hfz ⊢
      clear h i1 hT
      go_enter Tryz.func49, Tryz.ntmps49
      go_wp2_with (first | (go_at_call 71; refine kf.mono ?_; rintro e w' ⟨rfl, hw⟩; subst w') | (go_at_call 48; refine (kc _).mono ?_; rintro e w2 ⟨rfl, hb2⟩))
      go_ret
      exact ⟨rfl, hb2⟩
end Go.Proofs.YtdlhfiheingibaaGreatDoor

namespace Go.Proofs.YtdlhfiheingibaaGreatDoor
open Go.RowKit Go.Maps Go.WideMaps
set_option linter.unusedVariables false

/-- How many bytes of a piece some token that may stand, or a remark, begins with. -/
def rcF (x : ByteArray) (L : List Int) (m : Nat) : Nat := L.foldl (fun m k => max m (bnF k x)) m
def dashB : ByteArray := { data := #[45, 45] }
def rchI (st : List Int) (x : ByteArray) : Nat := rcF x (nmTo st 78) (cmF x dashB)
structure RcIs (x : ByteArray) (L : List Int) (j m R : Nat) : Prop where
  out : rcF x (L.drop j) m = R
theorem cmL_le (a b : ByteArray) : ∀ f n, n ≤ a.size → cmL a b f n ≤ a.size
  | 0, n, h => h
  | f + 1, n, h => by
    rw [cmL]
    split
    · rename_i hc; exact cmL_le a b f (n + 1) (by omega)
    · exact h
theorem bnF_le (k : Int) (x : ByteArray) : bnF k x ≤ x.size := by
  unfold bnF
  split
  · omega
  split
  · split <;> omega
  · exact cmL_le _ _ _ _ (Nat.zero_le _)
theorem rcF_le (x : ByteArray) : ∀ (L : List Int) (m : Nat), m ≤ x.size → rcF x L m ≤ x.size
  | [], m, h => h
  | k :: L, m, h => by
    show rcF x L (max m (bnF k x)) ≤ x.size
    exact rcF_le x L _ (by have := bnF_le k x; omega)
theorem rchI_le (st : List Int) (x : ByteArray) : rchI st x ≤ x.size := rcF_le x _ _ (cmL_le _ _ _ _ (Nat.zero_le _))

set_option maxRecDepth 100000 in
set_option maxHeartbeats 1600000 in
theorem reach_any (w : World) (base gb mb : Nat) (st : List Int) (x : ByteArray) (h : GQ w base gb mb st) (hT : Tabs w) (hx : x.size ≤ 1100000) :
    Calls Tryz.prog 26 #[.pointer (some ⟨gb, 0, none⟩), .string x] w fun e w' => e = .returned (.int .i64 (rchI st x)) ∧ Below w.heap.size w w' := by
  obtain ⟨L, hL⟩ : ∃ L, nmTo st 78 = L := ⟨_, rfl⟩
  obtain ⟨R, hR⟩ : ∃ R, rchI st x = R := ⟨_, rfl⟩
  have hrng := nmTo_rng st 78
  have hlen := nmTo_len st 78
  rw [hL] at hrng hlen
  have HR0 : RcIs x L 0 (cmF x dashB) R := ⟨by rw [← hR, ← hL]; rfl⟩
  rw [hR]
  have kc := common_any w x dashB hx (by decide)
  have hc0 : cmF x dashB ≤ x.size := cmL_le _ _ _ _ (Nat.zero_le _)
  have HG : Hid (GQ w base gb mb st ∧ Tabs w) := ⟨h, hT⟩
  clear h hR hT
  unfold dashB at kc
  go_enter Tryz.func26, Tryz.ntmps26
  go_wp2_with (go_at_call 48; fail)
  refine kc.mono ?_
  rintro e w2 ⟨rfl, b2⟩
  have kn := next_any w2 base gb mb st (HG.out.1.below b2)
  rw [hL] at kn
  change RcIs x L 0 (cmF x { data := #[45, 45] }) R at HR0
  change cmF x { data := #[45, 45] } ≤ x.size at hc0
  generalize cmF x { data := #[45, 45] } = m0 at HR0 hc0 ⊢
  clear kc
  go_wp2_with (go_at_call 14; fail)
  refine kn.mono ?_
  rintro e w3 ⟨av, cv, rfl, hrow, b3⟩
  clear kn
  have b03 : Below w.heap.size w w3 := b2.trans (b3.mono b2.size)
  obtain ⟨ln, hln⟩ : ∃ ln, L.length = ln := ⟨_, rfl⟩
  rw [hln] at hrow hlen ⊢
  have HW : Hid (w3.ownsRow w2.heap.size 3 1 (.slice av ln cv) ln (L.map (Value.int .i64)) ∧ L.length = ln ∧ Below w.heap.size w w3) := ⟨hrow, hln, b03⟩
  clear hrow hln b03 b3 b2 hL
  go_wp2_with fail
  go_loopw [5, 13] (fun vm vi wr => ∃ (j m : Nat), j ≤ ln ∧ m ≤ x.size ∧ vm = .int .i64 (m : Int) ∧ vi = .int .i64 (j : Int) ∧ RcIs x L j m R ∧ Below w3.heap.size w3 wr) (fun _ vi _ => ln - (intOf vi).toNat)
  case atStart => exact ⟨0, m0, Nat.zero_le _, hc0, rfl, rfl, HR0, Below.refl _ _⟩
  case round =>
    obtain ⟨j, m, hj, hm, rfl, rfl, HR, hb⟩ := hrel
    clear HR0
    by_cases hlt : j < ln
    · obtain ⟨z, hz⟩ : ∃ z, L[j]? = some z := ⟨_, List.getElem?_eq_getElem (by rw [HW.out.2.1]; exact hlt)⟩
      have hzr := hrng z (List.mem_of_getElem? hz)
      have hdr : L.drop j = z :: L.drop (j + 1) := by
        obtain ⟨e1, e2⟩ := List.getElem?_eq_some_iff.1 hz
        rw [List.drop_eq_getElem_cons e1, e2]
      have hrow := own_keep HW.out.1 hb
      obtain ⟨g, rfl⟩ : ∃ g, av = some ⟨g, 0, none⟩ := by
        rcases own_zero_or hrow with ⟨h, _⟩ | ⟨g, c, h⟩
        · omega
        · cases h; exact ⟨_, rfl⟩
      have cz : wr.cell? ⟨g, j, none⟩ = some (.int .i64 z) := by rw [hrow.cellAt j (by omega), List.getElem?_map, hz]; rfl
      have hst := HR.out
      rw [hdr] at hst
      have hst2 : rcF x (L.drop (j + 1)) (max m (bnF z x)) = R := hst
      have hbw : Below w.heap.size w wr := HW.out.2.2.trans (hb.mono HW.out.2.2.size)
      have kb := beginning_any wr z x (HG.out.2.below hbw (Nat.le_refl _)) hx hzr.1 (by omega)
      have hbn := bnF_le z x
      generalize bnF z x = B at hst2 kb hbn
      have HF : RcIs x L (j + 1) (max m B) R := ⟨hst2⟩
      have hji : (j : Int) < (ln : Int) := by omega
      have hj0 : (0 : Int) ≤ (j : Int) := by omega
      clear hst hst2 hdr hz HR hrow hbw
      go_wp2_with (go_at_call 49; fail)
      refine kb.mono ?_
      rintro e w5 ⟨rfl, b5⟩
      have hb5 : Below w3.heap.size w3 w5 := hb.trans (b5.mono hb.size)
      clear kb b5 cz
      go_wp2_with fail
      exact ⟨⟨j + 1, max m B, by omega, by omega, by congr 1; omega, by push_cast; rfl, HF, hb5⟩, by simp [intOf]; omega⟩
    · obtain rfl : j = ln := by omega
      have hst := HR.out
      rw [List.drop_of_length_le (by rw [HW.out.2.1]; exact Nat.le_refl _)] at hst
      have HF : Hid (m = R) := hst
      clear hst HR
      go_wp2_with fail
      go_ret
      exact ⟨by rw [← HF.out]; rfl, HW.out.2.2.trans (hb.mono HW.out.2.2.size)⟩
end Go.Proofs.YtdlhfiheingibaaGreatDoor
