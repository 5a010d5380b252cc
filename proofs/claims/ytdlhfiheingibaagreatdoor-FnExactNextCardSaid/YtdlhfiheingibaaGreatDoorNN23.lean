import Derived.Test.YtdlhfiheingibaaGreatDoorNN18
import Derived.Test.YtdlhfiheingibaaGreatDoorNN21
import Derived.Test.YtdlhfiheingibaaGreatDoorNN22
import Derived.Test.YtdlhfiheingibaaGreatDoorNN17
import Derived.Deep.RegionHeld3
import Derived.Test.YtdlhfiheingibaaGreatDoorNN14
import Derived.Test.YtdlhfiheingibaaGreatDoorNN02
import Derived.Test.YtdlhfiheingibaaGreatDoorNN08
import Derived.Test.YtdlhfiheingibaaGreatDoorNN10
import Derived.Test.YtdlhfiheingibaaGreatDoorNN20
namespace Go.Proofs.YtdlhfiheingibaaGreatDoor
open Go.RowKit Go.Maps Go.WideMaps
set_option linter.unusedVariables false
attribute [local go_sem] Oper.semAt_some

theorem region_plain {P : Program} {ops : Array Oper} {Q : Exit → Act → World → Prop} {id : Nat} {S : World → Prop} {a : Act} {w : World} (hm : P.follows .mixedOrders = true) (hS : S w.drew)
    (h : S w.drew → wpAnyH P .any ops Q S ops.size (Array.replicate ops.size false) a w.drew) : (Go.Code.region id ops true).wp P Q a w :=
  wp_region_any hm (wpAny_of_held _ _ _ _ (h hS))
/-- The panic at a token that cannot stand. -/
def misV (z : Int) : List PanicEntry := [{ v := .iface 36 (.agg #[.int .i64 z]), recovered := false }]
/-- A token is admitted, or is the end. -/
structure AdPost (w : World) (base gb mb : Nat) (st stF : List Int) (k z : Int) (e : Ending) (w' : World) : Prop where
  out : (mayI st k = true ∧ e = .returned (.tuple #[]) ∧ GQ w' base gb mb stF ∧ Gp gb w w' ∧ Below base w w') ∨ (mayI st k = false ∧ e = .panicked (misV z) ∧ Below w.heap.size w w')

set_option maxRecDepth 100000 in
set_option maxHeartbeats 1600000 in
theorem admit_any (w : World) (base gb mb : Nat) (st stF : List Int) (T : Tk) (s : ByteArray) (f : Nat) (h : GQ w base gb mb st) (hT : Tabs w) (hs : s.size ≤ 1100000) (k0 : 1 ≤ T.k) (k1 : T.k ≤ 78) (f0 : 0 ≤ T.f) (f1 : T.f ≤ T.t) (f2 : T.t ≤ (s.size : Int))
    (hP : mayI st T.k = true → passOk (st.length + 45) f st T.k stF ∧ stF.length ≤ 99999000 ∧ ∀ a ∈ stF, 0 ≤ a ∧ a ≤ 133) :
    Calls Tryz.prog 25 #[.pointer (some ⟨gb, 0, none⟩), vTk T, .string s] w fun e w' => AdPost w base gb mb st stF T.k (T.f + (rchI st (s.extract T.f.toNat T.t.toNat) : Nat)) e w' := by
  obtain ⟨k, tf, tt, tl, tn, tx⟩ := T
  unfold vTk
  simp only at k0 k1 f0 f1 f2 hP ⊢
  obtain ⟨F, rfl⟩ := Int.eq_ofNat_of_zero_le f0
  obtain ⟨E, rfl⟩ := Int.eq_ofNat_of_zero_le (show 0 ≤ tt by omega)
  simp only [Int.toNat_natCast]
  obtain ⟨z, hz⟩ : ∃ z : Nat, rchI st (s.extract F E) = z := ⟨_, rfl⟩
  rw [hz]
  have HZ : Hid (rchI st (s.extract F E) = z) := hz
  clear hz
  have hB1 := (Below.refl w.heap.size w).alloc (Nat.le_refl _) (.cells #[.int .i64 k, .int .i64 (F : Int), .int .i64 (E : Int), .int .i64 tl, .int .i64 tn, .string tx] 45 (0, 0))
  have hbx : (w.alloc (.cells #[.int .i64 k, .int .i64 (F : Int), .int .i64 (E : Int), .int .i64 tl, .int .i64 tn, .string tx] 45 (0, 0))).heap[w.heap.size]? = _ := heap_alloc_new w _
  have hQ1 := h.below hB1
  have hglt : gb < w.heap.size := by obtain ⟨v, hg, _⟩ := h.g.ex; exact lt_of_mapblock hg
  obtain ⟨R, hR⟩ : ∃ R, mayI st k = R := ⟨_, rfl⟩
  have km := hQ1.may k0 k1 hR
  have HH : Hid (GQ w base gb mb st ∧ Tabs w ∧ (w.alloc (.cells #[.int .i64 k, .int .i64 (F : Int), .int .i64 (E : Int), .int .i64 tl, .int .i64 tn, .string tx] 45 (0, 0))).heap[w.heap.size]? = some (.cells #[.int .i64 k, .int .i64 (F : Int), .int .i64 (E : Int), .int .i64 tl, .int .i64 tn, .string tx] 45 (0, 0)) ∧ mayI st k = R ∧ GQ (w.alloc (.cells #[.int .i64 k, .int .i64 (F : Int), .int .i64 (E : Int), .int .i64 tl, .int .i64 tn, .string tx] 45 (0, 0))) base gb mb st) := ⟨h, hT, hbx, hR, hQ1⟩
  clear h hT hbx hR hQ1
  go_enter Tryz.func25, Tryz.ntmps25
  go_wp2_with (go_at_call 24; fail)
  refine km.mono ?_
  rintro e w2 ⟨rfl, b2⟩
  have hw2 : Below w.heap.size w w2 := hB1.trans (b2.mono (by simp))
  have hb2 := (b2.block _ (lt_of_mapblock HH.out.2.2.1)).trans HH.out.2.2.1
  have c0 : w2.cell? ⟨w.heap.size, 0, none⟩ = some (.int .i64 k) := by rw [cell_of_row _ _ _ _ _ _ hb2]; rfl
  have c1 : w2.cell? ⟨w.heap.size, 1, none⟩ = some (.int .i64 (F : Int)) := by rw [cell_of_row _ _ _ _ _ _ hb2]; rfl
  have c2 : w2.cell? ⟨w.heap.size, 2, none⟩ = some (.int .i64 (E : Int)) := by rw [cell_of_row _ _ _ _ _ _ hb2]; rfl
  clear km hb2
  cases R with
  | true =>
    obtain ⟨hp1, hp2, hp3⟩ := hP HH.out.2.2.2.1
    have hQ2 := HH.out.2.2.2.2.below b2
    have kp := pass_any w2 base gb mb st k (st.length + 45) f stF hQ2.g hQ2.r hQ2.ok (by omega) (by have := hQ2.len; omega) k0 k1 hp1
    have cw : IntKind.u8.wrap k = k := by rw [IntKind.wrap_u8]; omega
    have hlo := HH.out.1.g.lo
    clear hP hQ2 hp1 b2
    go_wp2_with (go_at_call 47; refine kp.mono ?_; rintro e w3 ⟨rfl, g3, r3, p3, b3⟩)
    go_end0
    exact ⟨.inl ⟨HH.out.2.2.2.1, rfl, ⟨g3, r3, hp3, hp2⟩, (Gp.of_below hw2).trans p3, (hw2.mono (by omega)).trans b3⟩⟩
  | false =>
    have hb2d : Below w.heap.size w w2.drew := hw2.drew
    have kr := reach_any w2.drew base gb mb st (s.extract F E) (HH.out.1.below hb2d) (HH.out.2.1.below hb2d (Nat.le_refl _)) (by have := ByteArray.size_extract (a := s) (b := F) (e := E); omega)
    have hle : (rchI st (s.extract F E) : Nat) ≤ s.size := by
      have := rchI_le st (s.extract F E)
      have := ByteArray.size_extract (a := s) (b := F) (e := E)
      omega
    rw [HZ.out] at kr hle
    have hF : (F : Int) ≤ (E : Int) := f1
    have hE : (E : Int) ≤ (s.size : Int) := f2
    have hF0 : (0 : Int) ≤ (F : Int) := by omega
    have hE0 : (0 : Int) ≤ (E : Int) := by omega
    have hwr : IntKind.i64.wrap ((F : Int) + (z : Int)) = (F : Int) + (z : Int) := by rw [IntKind.wrap_i64]; omega
    clear hP b2 f0
    go_wp2_with fail
    refine region_plain (S := fun w' => w'.cell? ⟨w.heap.size, 1, none⟩ = some (.int .i64 (F : Int)) ∧ w'.cell? ⟨w.heap.size, 2, none⟩ = some (.int .i64 (E : Int))) (by kernel_rfl) ⟨c1, c2⟩ (fun hS => ?_)
    refine takeAt 0 11 (.pointer (some ⟨w.heap.size, 1, none⟩)) rfl rfl (by kernel_rfl) (by kernel_rfl) (by kernel_rfl) (fun _ _ _ h => h) (by rfl) hS (fun w' hw' => by obtain ⟨s1, s2⟩ := hw'; go_simp) ?_
    simp only [Act.put, List.setIfInBounds_toArray, List.set_cons_zero, List.set_cons_succ]
    refine takeAt 1 12 (.int .i64 (F : Int)) rfl rfl (by kernel_rfl) (by kernel_rfl) (by kernel_rfl) (fun _ _ _ h => h) (by rfl) hS (fun w' hw' => by obtain ⟨s1, s2⟩ := hw'; go_simp) ?_
    simp only [Act.put, List.setIfInBounds_toArray, List.set_cons_zero, List.set_cons_succ]
    refine takeAt 2 13 (.pointer (some ⟨gb, 0, none⟩)) rfl rfl (by kernel_rfl) (by kernel_rfl) (by kernel_rfl) (fun _ _ _ h => h) (by rfl) hS (fun w' hw' => by obtain ⟨s1, s2⟩ := hw'; go_simp) ?_
    simp only [Act.put, List.setIfInBounds_toArray, List.set_cons_zero, List.set_cons_succ]
    refine takeAt 3 14 (.string s) rfl rfl (by kernel_rfl) (by kernel_rfl) (by kernel_rfl) (fun _ _ _ h => h) (by rfl) hS (fun w' hw' => by obtain ⟨s1, s2⟩ := hw'; go_simp) ?_
    simp only [Act.put, List.setIfInBounds_toArray, List.set_cons_zero, List.set_cons_succ]
    refine takeAt 4 15 (.pointer (some ⟨w.heap.size, 1, none⟩)) rfl rfl (by kernel_rfl) (by kernel_rfl) (by kernel_rfl) (fun _ _ _ h => h) (by rfl) hS (fun w' hw' => by obtain ⟨s1, s2⟩ := hw'; go_simp) ?_
    simp only [Act.put, List.setIfInBounds_toArray, List.set_cons_zero, List.set_cons_succ]
    refine takeAt 5 16 (.int .i64 (F : Int)) rfl rfl (by kernel_rfl) (by kernel_rfl) (by kernel_rfl) (fun _ _ _ h => h) (by rfl) hS (fun w' hw' => by obtain ⟨s1, s2⟩ := hw'; go_simp) ?_
    simp only [Act.put, List.setIfInBounds_toArray, List.set_cons_zero, List.set_cons_succ]
    refine takeAt 6 17 (.pointer (some ⟨w.heap.size, 2, none⟩)) rfl rfl (by kernel_rfl) (by kernel_rfl) (by kernel_rfl) (fun _ _ _ h => h) (by rfl) hS (fun w' hw' => by obtain ⟨s1, s2⟩ := hw'; go_simp) ?_
    simp only [Act.put, List.setIfInBounds_toArray, List.set_cons_zero, List.set_cons_succ]
    refine takeAt 7 18 (.int .i64 (E : Int)) rfl rfl (by kernel_rfl) (by kernel_rfl) (by kernel_rfl) (fun _ _ _ h => h) (by rfl) hS (fun w' hw' => by obtain ⟨s1, s2⟩ := hw'; go_simp) ?_
    simp only [Act.put, List.setIfInBounds_toArray, List.set_cons_zero, List.set_cons_succ]
    refine takeAt 8 19 (.string (s.extract F E)) rfl rfl (by kernel_rfl) (by kernel_rfl) (by kernel_rfl) (fun _ _ _ h => h) (by rfl) hS (fun w' hw' => by obtain ⟨s1, s2⟩ := hw'; go_simp) ?_
    simp only [Act.put, List.setIfInBounds_toArray, List.set_cons_zero, List.set_cons_succ]
    refine wpAnyH_ready (rs := [9]) (by kernel_rfl) (by simp) (AllReadyH.cons rfl (fun K3 hK3 => ?_) AllReadyH.nil)
    go_simp
    refine kr.mono ?_
    rintro e w4 ⟨rfl, hb4⟩
    refine hK3.out _ _ ⟨cell_kept hb4 c1, cell_kept hb4 c2⟩ (fun hS => ?_)
    clear hK3 K3
    try simp only [Act.put, List.setIfInBounds_toArray, List.set_cons_zero, List.set_cons_succ]
    refine takeAt 10 21 (.int .i64 ((F : Int) + (z : Int))) rfl rfl (by kernel_rfl) (by kernel_rfl) (by kernel_rfl) (fun _ _ _ h => h) (by rfl) hS (fun w' hw' => by obtain ⟨s1, s2⟩ := hw'; go_simp) ?_
    simp only [Act.put, List.setIfInBounds_toArray, List.set_cons_zero, List.set_cons_succ]
    refine takeAt 11 22 (.agg #[.int .i64 ((F : Int) + (z : Int))]) rfl rfl (by kernel_rfl) (by kernel_rfl) (by kernel_rfl) (fun _ _ _ h => h) (by rfl) hS (fun w' hw' => by obtain ⟨s1, s2⟩ := hw'; go_simp) ?_
    simp only [Act.put, List.setIfInBounds_toArray, List.set_cons_zero, List.set_cons_succ]
    refine takeAt 12 23 (.iface 36 (.agg #[.int .i64 ((F : Int) + (z : Int))])) rfl rfl (by kernel_rfl) (by kernel_rfl) (by kernel_rfl) (fun _ _ _ h => h) (by rfl) hS (fun w' hw' => by obtain ⟨s1, s2⟩ := hw'; go_simp) ?_
    simp only [Act.put, List.setIfInBounds_toArray, List.set_cons_zero, List.set_cons_succ]
    refine wpAnyH_ready (rs := [13]) (by kernel_rfl) (by simp) (AllReadyH.cons rfl (fun K3 hK3 => ?_) AllReadyH.nil)
    go_simp
    exact ⟨rfl, ⟨.inr ⟨HH.out.2.2.2.1, rfl, hb2d.trans (hb4.mono hb2d.size)⟩⟩⟩
end Go.Proofs.YtdlhfiheingibaaGreatDoor

namespace Go.Proofs.YtdlhfiheingibaaGreatDoor
open Go.RowKit
set_option linter.unusedVariables false

/-- Some token of a kind begins with a piece, by its first byte. -/
def bgC (c k : Int) : Bool := decide ((k = 1 ∧ lettB c = true) ∨ ((k = 2 ∨ k = 3) ∧ digB c = true) ∨ (k = 4 ∧ c = 34))
def bgT (x : ByteArray) (k : Int) : Bool := decide (x.size ≤ (txtI k).size) && (((txtI k).extract 0 x.size).toList == x.toList)
def bgL (x : ByteArray) : List Int → Bool
  | [] => false
  | k :: r => if bgC (bat x 0) k = true then true else if bgT x k = true then true else bgL x r
def begunF (ks : List Int) (x : ByteArray) : Bool := if x.size = 1 ∧ bat x 0 = 45 then true else bgL x ks
structure BgIs (x : ByteArray) (ks : List Int) (R : Bool) : Prop where
  out : bgL x ks = R

set_option maxRecDepth 100000 in
set_option maxHeartbeats 12800000 in
theorem l3begun_any (w : World) (v : Value) (ks : List Int) (x : ByteArray) (h : IntsAt w v ks) (hl : ks.length ≤ 1000) (h0 : 0 < x.size) (hx : x.size ≤ 70000) :
    Calls Tryz.prog 37 #[v, .string x] w fun e w' => e = .returned (.bool (begunF ks x)) ∧ Below w.heap.size w w' := by
  have i1 := fun w => idx_run h0 w
  rw [show (((0 : Nat) : Int)) = 0 from rfl] at i1
  obtain ⟨a, c, rfl⟩ := h.form
  unfold begunF
  by_cases hd : x.size = 1 ∧ bat x 0 = 45
  · rw [if_pos hd]
    rw [hd.2] at i1
    have hx1 := hd.1
    clear h hd
    go_enter Tryz.func37, Tryz.ntmps37
    go_wp2_with fail
    go_ret
    exact ⟨rfl, Below.refl _ _⟩
  · rw [if_neg hd]
    obtain ⟨R, hR⟩ : ∃ R, bgL x ks = R := ⟨_, rfl⟩
    rw [hR]
    obtain ⟨n, hn⟩ : ∃ n, ks.length = n := ⟨_, rfl⟩
    rw [hn] at h hl ⊢
    have HA : Hid (IntsAt w (.slice a n c) ks ∧ ks.length = n) := ⟨h, hn⟩
    have HR0 : BgIs x (ks.drop 0) R := ⟨hR⟩
    obtain ⟨cb, hcb⟩ : ∃ cb, bat x 0 = cb := ⟨_, rfl⟩
    have HC : Hid (bat x 0 = cb) := hcb
    rw [hcb] at i1 hd
    have hfirst : ((x.size : Int) = 1 ∧ (cb == 45) = false) ∨ ((x.size : Int) == 1) = false := by
      rcases Classical.em (x.size = 1) with g | g
      · exact .inl ⟨by omega, by rw [beq_eq_false_iff_ne]; exact fun e => hd ⟨g, e⟩⟩
      · exact .inr (by rw [beq_eq_false_iff_ne]; omega)
    clear h hn hR hcb hd
    rcases hfirst with ⟨p1, p2⟩ | p1
    all_goals
      go_enter Tryz.func37, Tryz.ntmps37
      go_wp2_with fail
      clear p1
      try clear p2
      go_loopw [18] (fun vi wr => ∃ j : Nat, j ≤ n ∧ vi = .int .i64 j ∧ BgIs x (ks.drop j) R ∧ Below w.heap.size w wr) (fun vi _ => n - (intOf vi).toNat)
      case atStart => exact ⟨0, Nat.zero_le _, rfl, HR0, Below.refl _ _⟩
      case round =>
        obtain ⟨j, hj, rfl, HB, hb⟩ := hrel
        clear HR0
        have hst := HB.out
        by_cases hjn : j < n
        · have hji : (j : Int) < (n : Int) := by omega
          have hj0 : (0 : Int) ≤ (j : Int) := by omega
          obtain ⟨k, hk⟩ := some_at HA.out.2 hjn
          obtain ⟨a', rfl, hck⟩ := (HA.out.1.below hb).get hk
          have hjk := List.getElem?_eq_some_iff.1 hk
          rw [List.drop_eq_getElem_cons hjk.1, hjk.2, bgL, HC.out] at hst
          have HBL : Hid (Below w.heap.size w wr) := hb
          clear hk hjk HB hb
          by_cases q1 : bgC cb k = true
          · rw [if_pos q1] at hst
            have HF : Hid (true = R) := hst
            have q := of_decide_eq_true q1
            clear hst q1
            rcases q with ⟨rfl, f⟩ | ⟨rfl | rfl, f⟩ | ⟨rfl, rfl⟩
            · go_wp2_with (go_at_call 29; refine (l1letter_q f _).mono ?_; rintro e w' ⟨rfl, hw⟩; subst w')
              go_ret
              exact ⟨by rw [← HF.out]; rfl, HBL.out⟩
            · go_wp2_with (go_at_call 31; refine (l1digit_q f _).mono ?_; rintro e w' ⟨rfl, hw⟩; subst w')
              go_ret
              exact ⟨by rw [← HF.out]; rfl, HBL.out⟩
            · go_wp2_with (go_at_call 31; refine (l1digit_q f _).mono ?_; rintro e w' ⟨rfl, hw⟩; subst w')
              go_ret
              exact ⟨by rw [← HF.out]; rfl, HBL.out⟩
            · go_wp2_with fail
              go_ret
              exact ⟨by rw [← HF.out]; rfl, HBL.out⟩
          · rw [if_neg q1] at hst
            have q : ¬ ((k = 1 ∧ lettB cb = true) ∨ ((k = 2 ∨ k = 3) ∧ digB cb = true) ∨ (k = 4 ∧ cb = 34)) := fun hh => q1 (decide_eq_true hh)
            have qq : (k = 1 ∧ lettB cb = false) ∨ (k = 2 ∧ digB cb = false) ∨ (k = 3 ∧ digB cb = false) ∨ (k = 4 ∧ (cb == 34) = false) ∨ ((k == 1) = false ∧ (k == 2) = false ∧ (k == 3) = false ∧ (k == 4) = false) := by
              by_cases k1 : k = 1
              · refine .inl ⟨k1, ?_⟩
                cases hh : lettB cb with
                | false => rfl
                | true => exact absurd (.inl ⟨k1, hh⟩) q
              by_cases k2 : k = 2
              · refine .inr (.inl ⟨k2, ?_⟩)
                cases hh : digB cb with
                | false => rfl
                | true => exact absurd (.inr (.inl ⟨.inl k2, hh⟩)) q
              by_cases k3 : k = 3
              · refine .inr (.inr (.inl ⟨k3, ?_⟩))
                cases hh : digB cb with
                | false => rfl
                | true => exact absurd (.inr (.inl ⟨.inr k3, hh⟩)) q
              by_cases k4 : k = 4
              · exact .inr (.inr (.inr (.inl ⟨k4, beq_eq_false_iff_ne.2 fun hh => q (.inr (.inr ⟨k4, hh⟩))⟩)))
              · exact .inr (.inr (.inr (.inr ⟨beq_eq_false_iff_ne.2 k1, beq_eq_false_iff_ne.2 k2, beq_eq_false_iff_ne.2 k3, beq_eq_false_iff_ne.2 k4⟩)))
            have kt := fun w => l1text_any k w
            unfold bgT at hst
            generalize txtI k = T at kt hst
            clear q q1
            by_cases ht : (decide (x.size ≤ T.size) && ((T.extract 0 x.size).toList == x.toList)) = true
            · rw [if_pos ht] at hst
              have HF : Hid (true = R) := hst
              rw [Bool.and_eq_true] at ht
              obtain ⟨t1, t2⟩ := ht
              have t3 : (x.size : Int) ≤ (T.size : Int) := by have := of_decide_eq_true t1; omega
              clear hst t1
              rcases qq with ⟨rfl, f⟩ | ⟨rfl, f⟩ | ⟨rfl, f⟩ | ⟨rfl, f⟩ | ⟨f1, f2, f3, f4⟩
              all_goals
                go_wp2_with (first | (go_at_call 29; refine (l1letter_q f _).mono ?_; rintro e w' ⟨rfl, hw⟩; subst w') | (go_at_call 31; refine (l1digit_q f _).mono ?_; rintro e w' ⟨rfl, hw⟩; subst w') | (go_at_call 58; refine (kt _).mono ?_; rintro e w2 ⟨rfl, hb2⟩))
                go_ret
                exact ⟨by rw [← HF.out]; rfl, HBL.out.trans (hb2.mono HBL.out.size)⟩
            · rw [if_neg ht] at hst
              have HB2 : BgIs x (ks.drop (j + 1)) R := ⟨hst⟩
              clear hst
              have ht2 : (x.size : Int) ≤ (T.size : Int) ∧ ((T.extract 0 x.size).toList == x.toList) = false ∨ ¬ (x.size : Int) ≤ (T.size : Int) := by
                rcases Nat.lt_or_ge T.size x.size with g | g
                · exact .inr (by omega)
                · refine .inl ⟨by omega, ?_⟩
                  rw [decide_eq_true g, Bool.true_and] at ht
                  simpa using ht
              clear ht
              rcases ht2 with ⟨t3, t2⟩ | t3
              all_goals
                rcases qq with ⟨rfl, f⟩ | ⟨rfl, f⟩ | ⟨rfl, f⟩ | ⟨rfl, f⟩ | ⟨f1, f2, f3, f4⟩
                all_goals
                  go_wp2_with (first | (go_at_call 29; refine (l1letter_q f _).mono ?_; rintro e w' ⟨rfl, hw⟩; subst w') | (go_at_call 31; refine (l1digit_q f _).mono ?_; rintro e w' ⟨rfl, hw⟩; subst w') | (go_at_call 58; refine (kt _).mono ?_; rintro e w2 ⟨rfl, hb2⟩))
                  exact ⟨⟨j + 1, by omega, by go_num, HB2, HBL.out.trans (hb2.mono HBL.out.size)⟩, by simp [intOf]; omega⟩
        · obtain rfl : j = n := by omega
          rw [List.drop_of_length_le (by rw [HA.out.2]; exact Nat.le_refl _), bgL] at hst
          have HF : Hid (false = R) := hst
          clear hst HB
          go_wp2_with fail
          go_ret
          exact ⟨by rw [← HF.out]; rfl, hb⟩
end Go.Proofs.YtdlhfiheingibaaGreatDoor

namespace Go.Proofs.YtdlhfiheingibaaGreatDoor
open Go.RowKit
set_option linter.unusedVariables false

/-- A word ends here: what goes on is no letter and no digit. -/
def wrStop (s : ByteArray) (p n : Nat) : Bool := lettB (bat s p) && (!(lettB (lk s (p + n))) && !(digB (lk s (p + n))))
/-- How many bytes from p on some token of the kinds begins with. -/
def wrL (s : ByteArray) (p : Nat) (ks : List Int) : Nat → Nat → Nat
  | 0, n => n
  | f + 1, n => if p + n < s.size ∧ begunF ks (s.extract p (p + n + 1)) = true then (if wrStop s p (n + 1) = true then n + 1 else wrL s p ks f (n + 1)) else n
def wrongF (s : ByteArray) (p : Nat) (ks : List Int) : Nat := p + wrL s p ks (s.size + 1) 0
structure WrIs (s : ByteArray) (p : Nat) (ks : List Int) (f n R : Nat) : Prop where
  out : wrL s p ks f n = R

set_option maxRecDepth 100000 in
set_option maxHeartbeats 12800000 in
theorem l3wrong_any (w : World) (s : ByteArray) (p : Nat) (v : Value) (ks : List Int) (h : IntsAt w v ks) (hl : ks.length ≤ 1000) (hm : s.size ≤ 70000) (hp : p < s.size) :
    Calls Tryz.prog 19 #[.string s, .int .i64 p, v] w fun e w' => e = .returned (.int .i64 (wrongF s p ks)) ∧ Below w.heap.size w w' := by
  have i1 := fun w => idx_run hp w
  obtain ⟨a, c, rfl⟩ := h.form
  unfold wrongF
  obtain ⟨R, hR⟩ : ∃ R, wrL s p ks (s.size + 1) 0 = R := ⟨_, rfl⟩
  rw [hR]
  obtain ⟨n, hn⟩ : ∃ n, ks.length = n := ⟨_, rfl⟩
  have HA : Hid (IntsAt w (.slice a n c) ks ∧ ks.length ≤ 1000) := ⟨by rw [← hn]; exact h, hl⟩
  have HR0 : WrIs s p ks (s.size + 1) 0 R := ⟨hR⟩
  rw [hn]
  obtain ⟨cb, hcb⟩ : ∃ cb, bat s p = cb := ⟨_, rfl⟩
  have HC : Hid (bat s p = cb) := hcb
  rw [hcb] at i1
  have hpi : (p : Int) < (s.size : Int) := by omega
  clear h hl hR hcb hn
  go_enter Tryz.func19, Tryz.ntmps19
  go_wp2_with fail
  go_loopw [7] (fun vi wr => ∃ (k f : Nat), p + k ≤ s.size ∧ s.size < p + k + f ∧ vi = .int .i64 k ∧ WrIs s p ks f k R ∧ Below w.heap.size w wr) (fun vi _ => s.size + 1 - (intOf vi).toNat)
  case atStart => exact ⟨0, s.size + 1, by omega, by omega, rfl, HR0, Below.refl _ _⟩
  case round =>
    obtain ⟨k, f, hk, hf, rfl, HW, hb⟩ := hrel
    clear HR0
    obtain ⟨f, rfl⟩ : ∃ g, f = g + 1 := ⟨f - 1, by omega⟩
    have hst := HW.out
    rw [wrL] at hst
    by_cases hlt : p + k < s.size
    · have hki : (p : Int) + (k : Int) < (s.size : Int) := by omega
      have hk0 : (0 : Int) ≤ (p : Int) + (k : Int) := by omega
      have hxs : (s.extract p (p + k + 1)).size = k + 1 := by rw [ByteArray.size_extract]; omega
      have kb := fun (W : World) (hW : Below w.heap.size w W) => l3begun_any W (.slice a n c) ks (s.extract p (p + k + 1)) (HA.out.1.below hW) HA.out.2 (by omega) (by omega)
      have e1 : (p : Int) + (k : Int) + 1 ≤ (s.size : Int) := by omega
      have e2 : IntKind.i64.wrap ((p : Int) + (k : Int) + 1) = (p : Int) + (k : Int) + 1 := by rw [IntKind.wrap_i64]; omega
      have e3 : ((p : Int) + (k : Int) + 1).toNat = p + k + 1 := by omega
      have HB : Hid (Below w.heap.size w wr) := hb
      obtain ⟨B1, hB1⟩ : ∃ B1, begunF ks (s.extract p (p + k + 1)) = B1 := ⟨_, rfl⟩
      rw [hB1] at kb hst
      have hbk := HB.out
      cases B1 with
      | false =>
        rw [if_neg (fun h => by cases h.2)] at hst
        have HF : Hid (k = R) := hst
        clear hst HW hb hB1 hxs
        go_wp2_with (go_at_call 37; fail)
        refine (kb _ HB.out).mono ?_
        rintro e w2 ⟨rfl, hb2⟩
        clear kb
        go_wp2_with fail
        go_ret
        exact ⟨by first | (rw [← HF.out, Int.natCast_add]; rfl) | (rw [← HF.out]; rfl), HB.out.trans (hb2.mono HB.out.size)⟩
      | true =>
        rw [if_pos ⟨hlt, rfl⟩] at hst
        unfold wrStop at hst
        rw [HC.out] at hst
        have kk := fun w => l1look_q s (by omega) ((p : Int) + ((k : Int) + 1)) (p + (k + 1)) (by omega) w
        generalize lk s (p + (k + 1)) = cl at kk hst
        obtain ⟨b1, hb1⟩ : ∃ b, lettB cb = b := ⟨_, rfl⟩
        obtain ⟨b2, hb2'⟩ : ∃ b, lettB cl = b := ⟨_, rfl⟩
        obtain ⟨b3, hb3⟩ : ∃ b, digB cl = b := ⟨_, rfl⟩
        rw [hb1, hb2', hb3] at hst
        have kl1 := fun w => l1letter_q hb1 w
        have kl2 := fun w => l1letter_q hb2' w
        have kd := fun w => l1digit_q hb3 w
        have HB2 : Hid (Below w.heap.size w wr) := hb
        clear hb1 hb2' hb3 HW hb hB1 hxs hbk
        go_wp2_with (go_at_call 37; fail)
        refine (kb _ HB.out).mono ?_
        rintro e w2 ⟨rfl, hb2⟩
        clear kb e1 e2 e3
        cases b1 with
        | false =>
          have HW2 : WrIs s p ks f (k + 1) R := ⟨hst⟩
          clear hst kl2 kd kk
          go_wp2_with (first | (go_at_call 29; with_reducible refine (kl1 _).mono ?_; rintro e w' ⟨rfl, hw⟩; subst w'))
          exact ⟨⟨k + 1, f, by omega, by omega, by go_num, HW2, HB.out.trans (hb2.mono HB.out.size)⟩, by simp [intOf]; omega⟩
        | true =>
          cases b2 with
          | true =>
            have HW2 : WrIs s p ks f (k + 1) R := ⟨hst⟩
            clear hst kd
            go_wp2_with (first | (go_at_call 29; with_reducible refine (kl1 _).mono ?_; rintro e w' ⟨rfl, hw⟩; subst w') | (go_at_call 29; with_reducible refine (kl2 _).mono ?_; rintro e w' ⟨rfl, hw⟩; subst w') | (go_at_call 28; refine (kk _).mono ?_; rintro e w' ⟨rfl, hw⟩; subst w'))
            exact ⟨⟨k + 1, f, by omega, by omega, by go_num, HW2, HB.out.trans (hb2.mono HB.out.size)⟩, by simp [intOf]; omega⟩
          | false =>
            cases b3 with
            | true =>
              have HW2 : WrIs s p ks f (k + 1) R := ⟨hst⟩
              clear hst
              go_wp2_with (first | (go_at_call 29; with_reducible refine (kl1 _).mono ?_; rintro e w' ⟨rfl, hw⟩; subst w') | (go_at_call 29; with_reducible refine (kl2 _).mono ?_; rintro e w' ⟨rfl, hw⟩; subst w') | (go_at_call 31; refine (kd _).mono ?_; rintro e w' ⟨rfl, hw⟩; subst w') | (go_at_call 28; refine (kk _).mono ?_; rintro e w' ⟨rfl, hw⟩; subst w'))
              exact ⟨⟨k + 1, f, by omega, by omega, by go_num, HW2, HB.out.trans (hb2.mono HB.out.size)⟩, by simp [intOf]; omega⟩
            | false =>
              have HF : Hid (k + 1 = R) := hst
              clear hst
              go_wp2_with (first | (go_at_call 29; with_reducible refine (kl1 _).mono ?_; rintro e w' ⟨rfl, hw⟩; subst w') | (go_at_call 29; with_reducible refine (kl2 _).mono ?_; rintro e w' ⟨rfl, hw⟩; subst w') | (go_at_call 31; refine (kd _).mono ?_; rintro e w' ⟨rfl, hw⟩; subst w') | (go_at_call 28; refine (kk _).mono ?_; rintro e w' ⟨rfl, hw⟩; subst w'))
              go_ret
              exact ⟨by first | (rw [← HF.out, Int.natCast_add, Int.natCast_add]; rfl) | (rw [← HF.out, Int.natCast_add]; rfl) | (rw [← HF.out]; rfl), HB.out.trans (hb2.mono HB.out.size)⟩
    · rw [if_neg (fun h => hlt h.1)] at hst
      have HF : Hid (k = R) := hst
      have hki : ¬ (p : Int) + (k : Int) < (s.size : Int) := by omega
      clear hst HW
      go_wp2_with fail
      go_ret
      exact ⟨by first | (rw [← HF.out, Int.natCast_add]; rfl) | (rw [← HF.out]; rfl), hb⟩
end Go.Proofs.YtdlhfiheingibaaGreatDoor

namespace Go.Proofs.YtdlhfiheingibaaGreatDoor
open Go.RowKit Go.Maps Go.WideMaps
set_option linter.unusedVariables false

/-- Whether a text that begins with these three bytes begins with x, which has three at most. -/
def pB (b0 b1 b2 : Int) (x : ByteArray) : Bool := decide ((x.size = 0 ∨ b0 = bat x 0) ∧ (x.size ≤ 1 ∨ b1 = bat x 1) ∧ (x.size ≤ 2 ∨ b2 = bat x 2))
theorem pre_at (r x : ByteArray) (i : Nat) (hi : i < x.size) : r.data.toList[i]? = x.data.toList[i]? ↔ bat r i = bat x i := by
  have hx : x.data.toList[i]? = some x[i] := by rw [Array.getElem?_toList]; exact Array.getElem?_eq_getElem hi
  rw [hx, bat_list]
  have hb : bat x i = (x[i].toNat : Int) := by unfold bat; rw [dif_pos hi]
  rw [hb]
  constructor
  · exact fun h => h.2
  · intro h
    refine ⟨?_, h⟩
    rcases Nat.lt_or_ge i r.size with h1 | h1
    · exact h1
    · rw [bat_out (by omega)] at h; omega
theorem pre_pB (r x : ByteArray) (h : x.size ≤ 3) : Lib.hasPrefix r.data.toList x.data.toList = pB (bat r 0) (bat r 1) (bat r 2) x := by
  unfold Lib.hasPrefix pB
  rw [Bool.eq_iff_iff, List.isPrefixOf_iff_prefix, decide_eq_true_iff, List.prefix_iff_getElem?]
  have hl : x.data.toList.length = x.size := Array.length_toList
  have key : (∀ i (hi : i < x.data.toList.length), r.data.toList[i]? = some x.data.toList[i]) ↔ ∀ i, i < x.size → bat r i = bat x i := by
    constructor
    · intro g i hi
      rw [← pre_at r x i hi, g i (by omega)]
      exact (List.getElem?_eq_getElem (by omega)).symm
    · intro g i hi
      rw [(pre_at r x i (by omega)).2 (g i (by omega))]
      exact List.getElem?_eq_getElem hi
  rw [key]
  constructor
  · intro g
    refine ⟨?_, ?_, ?_⟩
    · rcases Nat.eq_zero_or_pos x.size with h0 | h0
      · exact .inl h0
      · exact .inr (g 0 h0)
    · rcases Nat.lt_or_ge 1 x.size with h0 | h0
      · exact .inr (g 1 h0)
      · exact .inl h0
    · rcases Nat.lt_or_ge 2 x.size with h0 | h0
      · exact .inr (g 2 h0)
      · exact .inl h0
  · rintro ⟨g0, g1, g2⟩ i hi
    rcases (show i = 0 ∨ i = 1 ∨ i = 2 by omega) with rfl | rfl | rfl
    · rcases g0 with g | g
      · omega
      · exact g
    · rcases g1 with g | g
      · omega
      · exact g
    · rcases g2 with g | g
      · omega
      · exact g

def sgLq (q : ByteArray → Bool) (V : Array Value) (base : Int) : Nat → Nat → Int × Nat → Int × Nat
  | 0, _, a => a
  | f + 1, i, a => sgLq q V base f (i + 1) (if a.2 < (strAt V i).size ∧ q (strAt V i) = true then (base + (i : Int), (strAt V i).size) else a)
def skq (b0 : Int) (q : ByteArray → Bool) : Int := if b0 = 59 then 5 else if b0 = 10 then 7 else (sgLq q binV 61 18 0 (sgLq q othV 40 11 0 (0, 0))).1
/-- The first of the signs that the text begins with, f of them looked at, from k on. -/
def sgFq (q : ByteArray → Bool) : Nat → Nat → Option Nat
  | 0, _ => none
  | f + 1, k => if q (strAt sgnV k) = true then some k else sgFq q f (k + 1)
theorem sgL_q (V : Array Value) (base : Int) (r : ByteArray) : ∀ (f i : Nat) (a : Int × Nat), sgL V base r f i a = sgLq (fun x => Lib.hasPrefix r.data.toList x.data.toList) V base f i a
  | 0, i, a => rfl
  | f + 1, i, a => by rw [sgL, sgLq]; exact sgL_q V base r f (i + 1) _
theorem sgLq_congr (q q' : ByteArray → Bool) (V : Array Value) (base : Int) (N : Nat) (h : ∀ i, i < N → q (strAt V i) = q' (strAt V i)) : ∀ (f i : Nat) (a : Int × Nat), i + f ≤ N → sgLq q V base f i a = sgLq q' V base f i a
  | 0, i, a, _ => rfl
  | f + 1, i, a, hi => by rw [sgLq, sgLq, h i (by omega)]; exact sgLq_congr q q' V base N h f (i + 1) _ (by omega)
theorem sgFq_congr (q q' : ByteArray → Bool) (h : ∀ i, i < 30 → q (strAt sgnV i) = q' (strAt sgnV i)) : ∀ (f i : Nat), i + f ≤ 30 → sgFq q f i = sgFq q' f i
  | 0, i, _ => rfl
  | f + 1, i, hi => by rw [sgFq, sgFq, h i (by omega), sgFq_congr q q' h f (i + 1) (by omega)]

def nrm (S : List Int) (b : Int) : Int := if b ∈ S then b else 0
theorem nrm_eq (S : List Int) (h0 : (0 : Int) ∉ S) (b a : Int) (ha : a ∈ S) : nrm S b = a ↔ b = a := by
  unfold nrm
  split
  · exact Iff.rfl
  · rename_i hb
    constructor
    · rintro rfl; exact absurd ha h0
    · rintro rfl; exact absurd ha hb
def fb0 : List Int := [46, 60, 62, 61, 126, 47, 40, 41, 123, 125, 91, 93, 44, 59, 35, 43, 45, 42, 37, 38, 124]
def fb1 : List Int := [46, 60, 61, 62, 47]
def fb2 : List Int := [46]
def inB (x : ByteArray) : Bool := decide (x.size ≤ 3 ∧ (x.size = 0 ∨ bat x 0 ∈ fb0) ∧ (x.size ≤ 1 ∨ bat x 1 ∈ fb1) ∧ (x.size ≤ 2 ∨ bat x 2 ∈ fb2))
theorem in_oth : ∀ i : Fin 11, inB (strAt othV i.val) = true := by decide +kernel
theorem in_bin : ∀ i : Fin 18, inB (strAt binV i.val) = true := by decide +kernel
theorem in_sgn : ∀ i : Fin 30, inB (strAt sgnV i.val) = true := by decide +kernel
theorem pB_nrm (b0 b1 b2 : Int) (x : ByteArray) (h : inB x = true) : pB b0 b1 b2 x = pB (nrm fb0 b0) (nrm fb1 b1) (nrm fb2 b2) x := by
  unfold inB at h
  rw [decide_eq_true_iff] at h
  obtain ⟨_, h0, h1, h2⟩ := h
  have e0 : (x.size = 0 ∨ b0 = bat x 0) ↔ (x.size = 0 ∨ nrm fb0 b0 = bat x 0) := by
    rcases h0 with h | h
    · simp [h]
    · rw [nrm_eq fb0 (by decide) b0 _ h]
  have e1 : (x.size ≤ 1 ∨ b1 = bat x 1) ↔ (x.size ≤ 1 ∨ nrm fb1 b1 = bat x 1) := by
    rcases h1 with h | h
    · simp [h]
    · rw [nrm_eq fb1 (by decide) b1 _ h]
  have e2 : (x.size ≤ 2 ∨ b2 = bat x 2) ↔ (x.size ≤ 2 ∨ nrm fb2 b2 = bat x 2) := by
    rcases h2 with h | h
    · simp [h]
    · rw [nrm_eq fb2 (by decide) b2 _ h]
  unfold pB
  rw [decide_eq_decide, e0, e1, e2]
/-- Both ways to look for a sign come to the same. -/
def goodB (b0 b1 b2 : Int) : Bool := match sgFq (pB b0 b1 b2) 30 0 with
  | some j => decide (skq b0 (pB b0 b1 b2) = sgnI (strAt sgnV j) ∧ (fixI (skq b0 (pB b0 b1 b2))).size = (strAt sgnV j).size ∧ skq b0 (pB b0 b1 b2) ≠ 0 ∧ skq b0 (pB b0 b1 b2) ≠ 7)
  | none => decide (skq b0 (pB b0 b1 b2) = 0)
theorem good_all : ∀ b0 ∈ 0 :: fb0, ∀ b1 ∈ 0 :: fb1, ∀ b2 ∈ 0 :: fb2, goodB b0 b1 b2 = true := by decide +kernel
theorem nrm_in (S : List Int) (b : Int) : nrm S b ∈ 0 :: S := by
  unfold nrm; split
  · exact List.mem_cons_of_mem _ (by assumption)
  · exact List.mem_cons_self
def SgSame (r : ByteArray) : Prop := match sgFq (fun x => Lib.hasPrefix r.data.toList x.data.toList) 30 0 with
  | some j => skI r = sgnI (strAt sgnV j) ∧ (fixI (skI r)).size = (strAt sgnV j).size ∧ skI r ≠ 0 ∧ skI r ≠ 7
  | none => skI r = 0
theorem sg_same (r : ByteArray) (h10 : bat r 0 ≠ 10) : SgSame r := by
  have hq : ∀ x, inB x = true → Lib.hasPrefix r.data.toList x.data.toList = pB (nrm fb0 (bat r 0)) (nrm fb1 (bat r 1)) (nrm fb2 (bat r 2)) x := fun x hx => by
    rw [← pB_nrm _ _ _ x hx]
    unfold inB at hx
    rw [decide_eq_true_iff] at hx
    exact pre_pB r x hx.1
  have hs : skI r = skq (nrm fb0 (bat r 0)) (pB (nrm fb0 (bat r 0)) (nrm fb1 (bat r 1)) (nrm fb2 (bat r 2))) := by
    unfold skI skq
    rw [sgL_q, sgL_q, sgLq_congr _ _ othV 40 11 (fun i hi => hq _ (in_oth ⟨i, hi⟩)) 11 0 _ (by omega), sgLq_congr _ _ binV 61 18 (fun i hi => hq _ (in_bin ⟨i, hi⟩)) 18 0 _ (by omega)]
    have h59 := nrm_eq fb0 (by decide) (bat r 0) 59 (by decide)
    have h10' : nrm fb0 (bat r 0) ≠ 10 := by
      unfold nrm; split
      · exact h10
      · decide
    rw [if_neg h10, if_neg h10']
    by_cases h : bat r 0 = 59
    · rw [if_pos h, if_pos (h59.2 h)]
    · rw [if_neg h, if_neg (fun g => h (h59.1 g))]
  have hg := good_all _ (nrm_in fb0 (bat r 0)) _ (nrm_in fb1 (bat r 1)) _ (nrm_in fb2 (bat r 2))
  unfold SgSame
  rw [sgFq_congr _ _ (fun i hi => hq _ (in_sgn ⟨i, hi⟩)) 30 0 (by omega), hs]
  unfold goodB at hg
  cases hf : sgFq (pB (nrm fb0 (bat r 0)) (nrm fb1 (bat r 1)) (nrm fb2 (bat r 2))) 30 0 with
  | some j => rw [hf] at hg; exact of_decide_eq_true hg
  | none => rw [hf] at hg; exact of_decide_eq_true hg
end Go.Proofs.YtdlhfiheingibaaGreatDoor
