import Derived.Test.YtdgbmihokecmhaaGreatDoorMM16
import Derived.Test.YtdgbmihokecmhaaGreatDoorMM07
import Derived.Maps.AppendAt
import Derived.Deep.AppendLies
namespace Go.Proofs.YtdgbmihokecmhaaGreatDoor
open Go.RowKit Go.Maps Go.WideMaps
set_option linter.unusedVariables false

/-- The boxes of TreeOk: its tree, its answer. -/
structure TkSt (w : World) (v : Value) (W : World) : Prop where
  tb : W.heap[w.heap.size]? = some (.cells #[v] 30 (0, 0))
  fb : FtBox (w.heap.size + 1) W 0 0
  bl : Below w.heap.size w W
theorem TkSt.below {w : World} {v : Value} {W W' : World} (h : TkSt w v W) (hb : Below W.heap.size W W') : TkSt w v W' :=
  ⟨(hb.block _ (lt_of_block h.tb)).trans h.tb, h.fb.below hb, h.bl.trans (hb.mono h.bl.size)⟩
/-- The depths, as far as they are reckoned. -/
structure DpSt (w : World) (v : Value) (gd n : Nat) (ns : List Nd) (t : Nat) (D : List Int) (W : World) : Prop where
  tk : TkSt w v W
  row : W.ownsRow w.heap.size 3 1 (.slice (some ⟨gd, 0, none⟩) n n) n (D.map (Value.int .i64))
  ok : DpOk n D
  rest : dpN ns t D = dps ns
structure DkSt (w : World) (v : Value) (gd n t : Nat) (ks D : List Int) (j : Nat) (E : List Int) (W : World) : Prop where
  tk : TkSt w v W
  row : W.ownsRow w.heap.size 3 1 (.slice (some ⟨gd, 0, none⟩) n n) n (E.map (Value.int .i64))
  ok : DpOk n E
  rest : dpK t (ks.drop j) E = dpK t ks D
theorem one_cell1 {b : Nat} {W : World} {v : Value} {t : TypeId} (h : W.heap[b]? = some (.cells #[v] t (0, 0))) : W.cell? ⟨b, 0, none⟩ = some v := by
  rw [cell_of_row _ _ _ _ _ _ h]; rfl

set_option maxRecDepth 100000 in
set_option maxHeartbeats 12800000 in
theorem treeok_main (w : World) (v : Value) (ns : List Nd) (h : NdsAt w v ns) (hl : ns.length ≤ 1048576) (sm : ∀ N ∈ ns, NdSmall N) (hb : badHead ns = false) :
    Calls Tryz.prog 14 #[.agg #[v]] w fun e w' => e = .returned (.agg #[.int .i64 (treeF ns).1, .int .i64 (treeF ns).2]) ∧ Below w.heap.size w w' := by
  obtain ⟨a, c, rfl⟩ := h.form
  have hb' := of_decide_eq_false hb
  have HH : Hid (NdsAt w (.slice a ns.length c) ns ∧ (∀ N ∈ ns, NdSmall N) ∧ badHead ns = false) := ⟨h, sm, hb⟩
  have g1 : ¬ ns.length = 0 := fun e => hb' (.inl e)
  have g2 : ¬ 3000 < ns.length := fun e => hb' (.inr (.inl e))
  have g3 : (ns.getD (ns.length - 1) zNd).k = 1 := by
    by_cases g : (ns.getD (ns.length - 1) zNd).k = 1
    · exact g
    · exact absurd (.inr (.inr g)) hb'
  obtain ⟨N, hN⟩ : ∃ N, ns[ns.length - 1]? = some N := ⟨_, List.getElem?_eq_getElem (by omega)⟩
  rw [List.getD_eq_getElem?_getD, hN, Option.getD_some] at g3
  obtain ⟨a', rfl, vn, vk, hd⟩ := h.get hN
  have c0 := hd.c0
  rw [g3] at c0
  have hbb : ∀ o1 o2, Below w.heap.size w ((w.alloc o1).alloc o2) := fun o1 o2 => ((Below.refl _ w).alloc (Nat.le_refl _) o1).alloc (by simp) o2
  obtain ⟨n, hn⟩ : ∃ n, ns.length = n := ⟨_, rfl⟩
  obtain ⟨F, hF⟩ : ∃ F, treeF ns = F := ⟨_, rfl⟩
  have HN : Hid (ns.length = n ∧ treeF ns = F) := ⟨hn, hF⟩
  rw [hF]
  rw [hn] at HH c0 g1 g2 ⊢
  obtain ⟨m, hm⟩ : ∃ m : Nat, n = m + 1 := ⟨n - 1, by omega⟩
  have hm1 : n - 1 = m := by omega
  rw [hm1] at c0
  have i0 : (0 : Int) ≤ (m : Int) := by omega
  have i1 : ¬ (n : Int) = 0 := by omega
  have i2 : ¬ (3000 : Int) < (n : Int) := by omega
  have i3 : (m : Int) < (n : Int) := by omega
  have i4 : (n : Int) - 1 = (m : Int) := by omega
  have d1 : (((m : Int) + 1) == 0) = false := by rw [beq_eq_false_iff_ne]; omega
  have d2 : decide ((3000 : Int) < (m : Int) + 1) = false := decide_eq_false (by omega)
  have i5 : (m : Int) < (m : Int) + 1 := by omega
  have hcl : ∀ o1 o2, ((w.alloc o1).alloc o2).cell? (a'.add (m * 9)) = some (.int .i64 1) := fun o1 o2 => cell_kept (hbb o1 o2) c0
  clear h hb hb' g1 g3 hN hd hn hl sm hF hm1 c0 i1 i2 i3 i4
  subst hm
  go_enter Tryz.func14, Tryz.ntmps14
  go_wp2_with fail
  have T0 : ((w.alloc (.cells #[.slice (some a') (m + 1) c] 30)).alloc (.cells #[.int .i64 0, .int .i64 0] 39)).heap[w.heap.size]? = some (.cells #[.slice (some a') (m + 1) c] 30 (0, 0)) := (Below.heap_alloc _ _ _ (by simp)).trans (heap_alloc_new w _)
  have F0 : FtBox (w.heap.size + 1) ((w.alloc (.cells #[.slice (some a') (m + 1) c] 30)).alloc (.cells #[.int .i64 0, .int .i64 0] 39)) 0 0 := by
    have := heap_alloc_new (w.alloc (.cells #[.slice (some a') (m + 1) c] 30)) (.cells #[.int .i64 0, .int .i64 0] 39)
    rw [World.size_alloc] at this
    exact this
  have B0 := hbb (.cells #[.slice (some a') (m + 1) c] 30) (.cells #[.int .i64 0, .int .i64 0] 39)
  have st0 : TkSt w (.slice (some a') (m + 1) c) ((w.alloc (.cells #[.slice (some a') (m + 1) c] 30)).alloc (.cells #[.int .i64 0, .int .i64 0] 39)) := ⟨T0, F0, B0⟩
  generalize (w.alloc (.cells #[.slice (some a') (m + 1) c] 30)).alloc (.cells #[.int .i64 0, .int .i64 0] 39) = W2 at st0 ⊢
  obtain ⟨R1, hR1⟩ : ∃ R1, fstI (badNode ns) (m + 1) 0 = R1 := ⟨_, rfl⟩
  have HR1 : Hid (fstI (badNode ns) (m + 1) 0 = R1) := hR1
  have HF1 : FsIs (badNode ns) (m + 1 - 0) 0 R1 := ⟨hR1⟩
  clear hR1 T0 F0 B0 hcl
  go_loopw [39] (fun vi wr => ∃ k : Nat, k ≤ m + 1 ∧ vi = .int .i64 k ∧ FsIs (badNode ns) (m + 1 - k) k R1 ∧ TkSt w (.slice (some a') (m + 1) c) wr) (fun vi _ => m + 1 - (intOf vi).toNat)
  case atStart => exact ⟨0, Nat.zero_le _, rfl, HF1, st0⟩
  case round =>
    obtain ⟨k, hk, rfl, HF, st⟩ := hrel
    clear st0 HF1
    have hf := HF.out
    by_cases hlt : k < m + 1
    · obtain ⟨N2, hN2⟩ := some_at HN.out.1 hlt
      have hki : (k : Int) < (m : Int) + 1 := by omega
      have hk0 : (0 : Int) ≤ (k : Int) := by omega
      have kn := l2nodeok_any wr (.slice (some a') (m + 1) c) ns k N2 (HH.out.1.below st.bl) (by rw [HN.out.1]; omega) hN2 (HH.out.2.1 N2 (List.mem_of_getElem? hN2))
      have c1 := one_cell1 st.tb
      obtain ⟨f0, f1, ff⟩ := ft_cells st.fb
      rw [show m + 1 - k = (m + 1 - (k + 1)) + 1 by omega, fstI] at hf
      have eb : badNode ns k = !(nodeB ns k N2) := by unfold badNode; rw [List.getD_eq_getElem?_getD, hN2]; rfl
      rw [eb] at hf
      have HST : Hid (TkSt w (.slice (some a') (m + 1) c) wr) := st
      cases hx : nodeB ns k N2 with
      | true =>
        rw [hx] at kn hf
        rw [if_neg (by decide)] at hf
        have HF2 : FsIs (badNode ns) (m + 1 - (k + 1)) (k + 1) R1 := ⟨hf⟩
        clear hf hx eb hN2 st HF f0 f1 ff
        go_wp2_with (go_at_call 27; refine kn.mono ?_; rintro e w3 ⟨rfl, hb3⟩)
        exact ⟨⟨k + 1, by omega, by go_num, HF2, HST.out.below hb3⟩, by simp [intOf]; omega⟩
      | false =>
        rw [hx] at kn hf
        rw [if_pos (by decide)] at hf
        have HFF : Hid (F = (2, (k : Int))) := by
          show F = (2, (k : Int))
          rw [← HN.out.2]
          unfold treeF
          rw [HH.out.2.2, if_neg (by decide), HN.out.1, HR1.out, ← hf]
          rfl
        clear hf hx eb hN2 st HF f0 f1 ff
        go_wp2_with (go_at_call 27; fail)
        refine kn.mono ?_
        rintro e w3 ⟨rfl, hb3⟩
        have s3 := HST.out.below hb3
        obtain ⟨f0, f1, ff⟩ := ft_cells s3.fb
        have HS3 : Hid (TkSt w (.slice (some a') (m + 1) c) w3) := s3
        clear s3 hb3
        go_wp2_with fail
        have s3 := HS3.out
        exact bodyPost_ret (results_cell_row rfl _ _ (w.heap.size + 1) _ _ _ _ rfl (ft_put s3.fb 2 k) Tryz.underlying39 rfl (by kernel_rfl)) rfl ⟨by rw [HFF.out], (s3.bl.setCell (by simp) _).setCell (by simp) _⟩
    · obtain rfl : k = m + 1 := by omega
      rw [Nat.sub_self, fstI] at hf
      have HR1n : Hid (R1 = none) := hf.symm
      have hall := fst_none (show fstI (badNode ns) (m + 1) 0 = none by rw [HR1.out]; exact hf.symm)
      have hkr : ∀ (i : Nat) N, ns[i]? = some N → ∀ z ∈ N.ks, 0 ≤ z ∧ z < (i : Int) := fun i N hN z hz => by
        have hi : i < m + 1 := by rw [← HN.out.1]; exact (List.getElem?_eq_some_iff.1 hN).1
        have h1 := hall i (Nat.zero_le _) (by omega)
        unfold badNode at h1
        rw [List.getD_eq_getElem?_getD, hN, Option.getD_some] at h1
        have h2 : nodeB ns i N = true := by simpa using h1
        unfold nodeB at h2
        have h3 : klB N.ks i N.ks.length 0 = true := by
          rw [Bool.and_eq_true, Bool.and_eq_true] at h2; exact h2.2.1
        obtain ⟨q, hq, rfl⟩ := List.getElem_of_mem hz
        have := klB_all N.ks i N.ks.length 0 h3 q (by omega) (by omega)
        rw [List.getD_eq_getElem?_getD, List.getElem?_eq_getElem hq] at this
        simpa using this
      have ks := l2sizes_any wr (.slice (some a') (m + 1) c) ns (HH.out.1.below st.bl) (by rw [HN.out.1]; omega) (fun N hN => (HH.out.2.1 N hN).l2) hkr
      rw [HN.out.1] at ks
      have HKR : Hid (∀ (i : Nat) N, ns[i]? = some N → ∀ z ∈ N.ks, 0 ≤ z ∧ z < (i : Int)) := hkr
      have c1 := one_cell1 st.tb
      have HST : Hid (TkSt w (.slice (some a') (m + 1) c) wr) := st
      have hwr := st.bl.size
      have hwr2 : w.heap.size + 1 < wr.heap.size := lt_of_block st.fb
      clear hf hall hkr st HF
      go_wp2_with (go_at_call 28; fail)
      refine ks.mono ?_
      rintro e w3 ⟨g, rfl, ho3, hb3⟩
      have s3 := HST.out.below hb3
      obtain ⟨S, hS⟩ : ∃ S, szs ns = S := ⟨_, rfl⟩
      have hSl : S.length = m + 1 := by rw [← hS, szs_len, HN.out.1]
      rw [hS] at ho3
      have HS : Hid (szs ns = S ∧ S.length = m + 1 ∧ SzOk S) := ⟨hS, hSl, by rw [← hS]; exact szs_ok ns (fun N hN z hz => by
        obtain ⟨i, hi, e⟩ := List.getElem_of_mem hN
        exact (HKR.out i N (by rw [List.getElem?_eq_getElem hi, e]) z hz).1)⟩
      have HS3 : Hid (TkSt w (.slice (some a') (m + 1) c) w3 ∧ w3.ownsRow wr.heap.size 3 1 (.slice (some ⟨g, 0, none⟩) (m + 1) (m + 1)) (m + 1) (S.map (Value.int .i64))) := ⟨s3, ho3⟩
      obtain ⟨R2, hR2⟩ : ∃ R2, fstI (badSize S) (m + 1) 0 = R2 := ⟨_, rfl⟩
      have HR2 : Hid (fstI (badSize S) (m + 1) 0 = R2) := hR2
      have HF2 : FsIs (badSize S) (m + 1 - 0) 0 R2 := ⟨hR2⟩
      have HTF : Hid (treeF ns = tf3 S (dps ns) (m + 1) R2) := by
        show treeF ns = _
        unfold treeF
        rw [HH.out.2.2, if_neg (by decide), HN.out.1, HR1.out, HR1n.out, hS]
        show tf3 S (dps ns) (m + 1) (fstI (badSize S) (m + 1) 0) = _
        rw [hR2]
      clear hS hSl hR2 s3 ho3 hb3 ks c1
      go_wp2_with fail
      go_loop [53] (fun vi => ∃ k : Nat, k ≤ m + 1 ∧ vi = .int .i64 k ∧ FsIs (badSize S) (m + 1 - k) k R2) (fun vi => m + 1 - (intOf vi).toNat)
      case atStart => exact ⟨0, Nat.zero_le _, rfl, HF2⟩
      case round =>
        obtain ⟨k, hk2, rfl, HF⟩ := hrel
        clear HF2
        have hf := HF.out
        by_cases hlt2 : k < m + 1
        · have hki : (k : Int) < (m : Int) + 1 := by omega
          have hk0 : (0 : Int) ≤ (k : Int) := by omega
          obtain ⟨z, hz⟩ := some_at HS.out.2.1 hlt2
          have cz : w3.cell? ⟨g, k, none⟩ = some (.int .i64 z) := by rw [HS3.out.2.cellAt k (by omega), List.getElem?_map, hz]; rfl
          rw [show m + 1 - k = (m + 1 - (k + 1)) + 1 by omega, fstI] at hf
          have eb : badSize S k = (z == 0) := by unfold badSize; rw [List.getD_eq_getElem?_getD, hz]; rfl
          rw [eb] at hf
          by_cases hz0 : z = 0
          · subst hz0
            rw [if_pos (by decide)] at hf
            have HFF : Hid (F = (3, (k : Int))) := by
              show F = (3, (k : Int))
              rw [← HN.out.2, HTF.out, ← hf]
              rfl
            obtain ⟨f0, f1, ff⟩ := ft_cells HS3.out.1.fb
            clear hf eb hz HF
            go_wp2_with fail
            have s3 := HS3.out.1
            exact bodyPost_ret (results_cell_row rfl _ _ (w.heap.size + 1) _ _ _ _ rfl (ft_put s3.fb 3 k) Tryz.underlying39 rfl (by kernel_rfl)) rfl ⟨by rw [HFF.out], (s3.bl.setCell (by simp) _).setCell (by simp) _⟩
          · rw [if_neg (by simpa using hz0)] at hf
            have HF3 : FsIs (badSize S) (m + 1 - (k + 1)) (k + 1) R2 := ⟨hf⟩
            clear hf eb hz HF
            go_wp2_with fail
            go_round
            case rel => exact ⟨k + 1, by omega, by go_num, HF3⟩
            case measure => simp [intOf]; omega
        · obtain rfl : k = m + 1 := by omega
          rw [Nat.sub_self, fstI] at hf
          have HR2n : Hid (R2 = none) := hf.symm
          obtain ⟨z, hz⟩ := some_at HS.out.2.1 (show m < m + 1 by omega)
          have cz : w3.cell? ⟨g, m, none⟩ = some (.int .i64 z) := by rw [HS3.out.2.cellAt m (by omega), List.getElem?_map, hz]; rfl
          have hgd : S.getD m 0 = z := by rw [List.getD_eq_getElem?_getD, hz]; rfl
          have htf := HTF.out
          rw [HR2n.out, tf3, Nat.add_sub_cancel, hgd] at htf
          by_cases hzm : z = (m : Int) + 1
          · rw [if_neg (by omega)] at htf
            have HTF2 : Hid (treeF ns = tf4 (fstI (badDeep (dps ns)) (m + 1) 0)) := htf
            subst hzm
            have c1 := one_cell1 HS3.out.1.tb
            clear hf htf hz hgd HF
            obtain ⟨i0, hi, hz0, hz1, hz2⟩ := info_parts infoInt
            have hw3 := HS3.out.1.bl.size
            go_wp2_with (at_make; refine wpList_make_full _ rfl _ _ 64 rfl w.heap.size 3 i0 (.int .i64 0) 1 Tryz.underlying64 hi hz0 hz1 .i64 .i64 _ _ (m + 1) rfl rfl rfl rfl (by rw [hz2]; omega) (by unfold maxLen; omega) hw3 ?_; intro w4 hown4 hgrow4; have hb4 : Below w3.heap.size w3 w4 := ⟨hgrow4.os, hgrow4.tape, hgrow4.output, hgrow4.size, fun k hk => hgrow4.block k hk (by simp)⟩; have c4 := cell_kept hb4 c1)
            rw [show (madeCells (Value.int .i64 0).cells ((m + 1) * 1)).toList = List.replicate (m + 1) (Value.int .i64 0) by rw [Nat.mul_one]; exact toList_madeCells_one _ _] at hown4
            have st4 : DpSt w (.slice (some a') (m + 1) c) w3.heap.size (m + 1) ns (m + 1) (List.replicate (m + 1) 0) w4 := by
              refine ⟨HS3.out.1.below hb4, ?_, ⟨by simp, fun j z hz => ?_⟩, ?_⟩
              · rw [List.map_replicate]; exact hown4
              · rw [List.getElem?_replicate] at hz
                split at hz
                · obtain rfl := Option.some.inj hz; omega
                · cases hz
              · unfold dps; rw [HN.out.1]
            have hw3' : w.heap.size + 1 < w3.heap.size := lt_of_block HS3.out.1.fb
            clear hown4 hgrow4 hb4 c4 c1 cz
            obtain ⟨gd, hgd⟩ : ∃ gd, w3.heap.size = gd := ⟨_, rfl⟩
            rw [hgd] at st4 hw3' ⊢
            have HS4 : Hid (DpSt w (.slice (some a') (m + 1) c) gd (m + 1) ns (m + 1) (List.replicate (m + 1) 0) w4) := st4
            clear st4 hgd HS3 HTF
            go_loopw [8] (fun vi wr => ∃ (t : Nat) (D : List Int), t ≤ m + 1 ∧ vi = .int .i64 ((t : Int) - 1) ∧ Hid (DpSt w (.slice (some a') (m + 1) c) gd (m + 1) ns t D wr)) (fun vi _ => (intOf vi + 1).toNat)
            case atStart => exact ⟨m + 1, _, Nat.le_refl _, by congr 1; omega, HS4⟩
            case round =>
              obtain ⟨t, D, ht, rfl, HD⟩ := hrel
              clear HS4
              cases t with
              | zero =>
                have hneg : ¬ (0 : Int) ≤ ((0 : Nat) : Int) - 1 := by omega
                have hDd : D = dps ns := HD.out.rest
                have HD2 : Hid (TkSt w (.slice (some a') (m + 1) c) wr ∧ wr.ownsRow w.heap.size 3 1 (.slice (some ⟨gd, 0, none⟩) (m + 1) (m + 1)) (m + 1) (D.map (Value.int .i64)) ∧ D.length = m + 1) := ⟨HD.out.tk, HD.out.row, HD.out.ok.1⟩
                have htf := HTF2.out
                rw [← hDd] at htf
                obtain ⟨R4, hR4⟩ : ∃ R4, fstI (badDeep D) (m + 1) 0 = R4 := ⟨_, rfl⟩
                rw [hR4, HN.out.2] at htf
                have HT4 : Hid (F = tf4 R4) := htf
                have HF4 : FsIs (badDeep D) (m + 1 - 0) 0 R4 := ⟨hR4⟩
                clear htf hR4 hDd HD
                go_wp2_with fail
                go_loop [110] (fun vi => ∃ k : Nat, k ≤ m + 1 ∧ vi = .int .i64 k ∧ FsIs (badDeep D) (m + 1 - k) k R4) (fun vi => m + 1 - (intOf vi).toNat)
                case atStart => exact ⟨0, Nat.zero_le _, rfl, HF4⟩
                case round =>
                  obtain ⟨k, hk4, rfl, HF⟩ := hrel
                  clear HF4
                  have hf := HF.out
                  by_cases hlt4 : k < m + 1
                  · have hki : (k : Int) < (m : Int) + 1 := by omega
                    have hk0 : (0 : Int) ≤ (k : Int) := by omega
                    obtain ⟨z, hz⟩ := some_at HD2.out.2.2 hlt4
                    have cz : wr.cell? ⟨gd, k, none⟩ = some (.int .i64 z) := by rw [HD2.out.2.1.cellAt k (by omega), List.getElem?_map, hz]; rfl
                    rw [show m + 1 - k = (m + 1 - (k + 1)) + 1 by omega, fstI] at hf
                    have eb : badDeep D k = decide (100 < z) := by unfold badDeep; rw [List.getD_eq_getElem?_getD, hz]; rfl
                    rw [eb] at hf
                    by_cases hzb : 100 < z
                    · rw [if_pos (decide_eq_true hzb)] at hf
                      have HFF : Hid (F = (4, (k : Int))) := by
                        show F = (4, (k : Int))
                        rw [HT4.out, ← hf]
                        rfl
                      obtain ⟨f0, f1, ff⟩ := ft_cells HD2.out.1.fb
                      clear hf eb hz HF
                      go_wp2_with fail
                      have s3 := HD2.out.1
                      exact bodyPost_ret (results_cell_row rfl _ _ (w.heap.size + 1) _ _ _ _ rfl (ft_put s3.fb 4 k) Tryz.underlying39 rfl (by kernel_rfl)) rfl ⟨by rw [HFF.out], (s3.bl.setCell (by simp) _).setCell (by simp) _⟩
                    · rw [if_neg (by simpa using hzb)] at hf
                      have HF3 : FsIs (badDeep D) (m + 1 - (k + 1)) (k + 1) R4 := ⟨hf⟩
                      clear hf eb hz HF
                      go_wp2_with fail
                      go_round
                      case rel => exact ⟨k + 1, by omega, by go_num, HF3⟩
                      case measure => simp [intOf]; omega
                  · obtain rfl : k = m + 1 := by omega
                    rw [Nat.sub_self, fstI] at hf
                    have HFF : Hid (F = (0, 0)) := by
                      show F = (0, 0)
                      rw [HT4.out, ← hf]
                      rfl
                    obtain ⟨f0, f1, ff⟩ := ft_cells HD2.out.1.fb
                    clear hf HF
                    go_wp2_with fail
                    have s3 := HD2.out.1
                    exact bodyPost_ret (results_cell_row rfl _ _ (w.heap.size + 1) _ _ _ _ rfl (ft_put s3.fb 0 0) Tryz.underlying39 rfl (by kernel_rfl)) rfl ⟨by rw [HFF.out], (s3.bl.setCell (by simp) _).setCell (by simp) _⟩
              | succ t =>
                have em : (((t + 1 : Nat)) : Int) - 1 = (t : Int) := by omega
                rw [em]
                have hti : (t : Int) < (m : Int) + 1 := by omega
                have ht0 : (0 : Int) ≤ (t : Int) := by omega
                obtain ⟨Nt, hNt⟩ := some_at HN.out.1 (show t < m + 1 by omega)
                obtain ⟨a2, ha2, vn2, vk2, hd2⟩ := HH.out.1.get hNt
                obtain rfl := Option.some.inj ha2
                have c8 := cell_kept HD.out.tk.bl hd2.c8
                have hkr := HKR.out t Nt hNt
                have hkk := hd2.hk
                obtain ⟨ak, ck, rfl⟩ := hkk.form
                obtain ⟨Lk2, hLk⟩ : ∃ l, Nt.ks.length = l := ⟨_, rfl⟩
                have hlk := (HH.out.2.1 Nt (List.mem_of_getElem? hNt)).l2
                rw [hLk] at c8 hlk
                have hk0' : HD.out.rest = HD.out.rest := rfl
                have hrest : dpN ns t (dpK t Nt.ks D) = dps ns := by
                  have := HD.out.rest
                  rw [dpN, List.getD_eq_getElem?_getD, hNt, Option.getD_some] at this
                  exact this
                have HQ : Hid (Nt.ks.length = Lk2 ∧ (∀ z ∈ Nt.ks, 0 ≤ z ∧ z < (t : Int)) ∧ dpN ns t (dpK t Nt.ks D) = dps ns ∧ ns[t]? = some Nt) := ⟨hLk, hkr, hrest, hNt⟩
                have c1 := one_cell1 HD.out.tk.tb
                have HKK : Hid (IntsAt w (.slice ak Lk2 ck) Nt.ks) := by rw [← hLk]; exact hkk
                have HD0 : Hid (DkSt w (.slice (some a') (m + 1) c) gd (m + 1) t Nt.ks D 0 D wr) := ⟨HD.out.tk, HD.out.row, HD.out.ok, rfl⟩
                have hwr := HD.out.tk.bl.size
                clear hkr hkk hrest hd2 hNt hLk HD hk0'
                go_wp2_with fail
                go_loopw [95] (fun vi w6 => ∃ (j : Nat) (E : List Int), j ≤ Lk2 ∧ vi = .int .i64 j ∧ Hid (DkSt w (.slice (some a') (m + 1) c) gd (m + 1) t Nt.ks D j E w6)) (fun vi _ => Lk2 - (intOf vi).toNat)
                case atStart => exact ⟨0, D, Nat.zero_le _, rfl, HD0⟩
                case round =>
                  obtain ⟨j, E, hj, rfl, HE⟩ := hrel
                  clear HD0
                  by_cases hjl : j < Lk2
                  · have hji : (j : Int) < (Lk2 : Int) := by omega
                    have hj0 : (0 : Int) ≤ (j : Int) := by omega
                    obtain ⟨z, hz⟩ := some_at HQ.out.1 hjl
                    obtain ⟨b', hak, hcz⟩ := (HKK.out.below HE.out.tk.bl).get hz
                    subst hak
                    obtain ⟨hz0', hz1'⟩ := HQ.out.2.1 z (List.mem_of_getElem? hz)
                    obtain ⟨q, rfl⟩ := Int.eq_ofNat_of_zero_le hz0'
                    have hq : q < t := by omega
                    obtain ⟨et, het⟩ := some_at HE.out.ok.1 (show t < m + 1 by omega)
                    obtain ⟨eq_, heq⟩ := some_at HE.out.ok.1 (show q < m + 1 by omega)
                    have hbd := HE.out.ok.2 t et het
                    have hrow := HE.out.row
                    have ct : wr.cell? ⟨gd, t, none⟩ = some (.int .i64 et) := by rw [hrow.cellAt t (by omega), List.getElem?_map, het]; rfl
                    have cq : wr.cell? ⟨gd, q, none⟩ = some (.int .i64 eq_) := by rw [hrow.cellAt q (by omega), List.getElem?_map, heq]; rfl
                    have fq := hrow.frozenAt q
                    have hgd0 := (hrow.lt gd rfl).1
                    have hgt : E.getD t 0 = et := by rw [List.getD_eq_getElem?_getD, het]; rfl
                    have o2 := (hrow.stored q (.int .i64 (et + 1))).1
                    rw [← List.map_set] at o2
                    have ok2 := HE.out.ok.set t q (by omega) hq
                    rw [hgt] at ok2
                    have hrest : dpK t (Nt.ks.drop (j + 1)) (E.set q (et + 1)) = dpK t Nt.ks D := by
                      have h1 := HE.out.rest
                      have hjk := (List.getElem?_eq_some_iff.1 hz)
                      rw [List.drop_eq_getElem_cons hjk.1, hjk.2, dpK, hgt] at h1
                      exact h1
                    have hneT : gd ≠ w.heap.size := by omega
                    have hneF : gd ≠ w.heap.size + 1 := by omega
                    have tk2 : TkSt w (.slice (some a') (m + 1) c) (wr.setCell ⟨gd, q, none⟩ (.int .i64 (et + 1))) :=
                      ⟨(heap_setCell_other _ _ _ _ (Ne.symm hneT)).trans HE.out.tk.tb, (heap_setCell_other _ _ _ _ (Ne.symm hneF)).trans HE.out.tk.fb, HE.out.tk.bl.setCell hgd0 _⟩
                    have HE2 : Hid (DkSt w (.slice (some a') (m + 1) c) gd (m + 1) t Nt.ks D (j + 1) (E.set q (et + 1)) (wr.setCell ⟨gd, q, none⟩ (.int .i64 (et + 1)))) := ⟨tk2, o2, ok2, hrest⟩
                    have hqm : (q : Int) < (m : Int) + 1 := by omega
                    have hq0 : (0 : Int) ≤ (q : Int) := by omega
                    clear hz HE o2 ok2 hrest tk2 hrow het heq hgt
                    go_wp2_with fail
                    exact ⟨⟨j + 1, _, by omega, by go_num, HE2⟩, by simp [intOf]; omega⟩
                  · obtain rfl : j = Lk2 := by omega
                    have hfin : Hid (DpSt w (.slice (some a') (m + 1) c) gd (m + 1) ns t E wr) := by
                      refine ⟨HE.out.tk, HE.out.row, HE.out.ok, ?_⟩
                      have h1 := HE.out.rest
                      rw [List.drop_of_length_le (by rw [HQ.out.1]; exact Nat.le_refl _), dpK] at h1
                      rw [h1]
                      exact HQ.out.2.2.1
                    clear HE
                    go_wp2_with fail
                    exact ⟨⟨t, E, by omega, rfl, hfin⟩, by simp [intOf]⟩
          · rw [if_pos (by omega)] at htf
            have HFF : Hid (F = (3, (m : Int))) := by
              show F = (3, (m : Int))
              rw [← HN.out.2, htf]
              congr 1
              omega
            obtain ⟨f0, f1, ff⟩ := ft_cells HS3.out.1.fb
            clear hf htf hz hgd HF
            go_wp2_with fail
            have s3 := HS3.out.1
            exact bodyPost_ret (results_cell_row rfl _ _ (w.heap.size + 1) _ _ _ _ rfl (ft_put s3.fb 3 m) Tryz.underlying39 rfl (by kernel_rfl)) rfl ⟨by rw [HFF.out], (s3.bl.setCell (by simp) _).setCell (by simp) _⟩

theorem treeok_any (w : World) (v : Value) (ns : List Nd) (h : NdsAt w v ns) (hl : ns.length ≤ 1048576) (sm : ∀ N ∈ ns, NdSmall N) :
    Calls Tryz.prog 14 #[.agg #[v]] w fun e w' => e = .returned (.agg #[.int .i64 (treeF ns).1, .int .i64 (treeF ns).2]) ∧ Below w.heap.size w w' := by
  cases hb : badHead ns with
  | true =>
    have e : treeF ns = (1, 0) := by unfold treeF; rw [if_pos hb]
    rw [e]
    exact treeok_head w v ns h hl hb
  | false => exact treeok_main w v ns h hl sm hb
end Go.Proofs.YtdgbmihokecmhaaGreatDoor

namespace Go.Proofs.YtdgbmihokecmhaaGreatDoor
open Go.RowKit Go.Maps Go.WideMaps
set_option linter.unusedVariables false

/-- A place lies within a node. -/
def hasAt (N : Nd) (at_ : Int) : Bool := decide (N.f ≤ at_ ∧ at_ < N.t)
/-- The first of some kids with a place, -1 for none. -/
def nextK (ns : List Nd) (at_ : Int) : List Int → Int
  | [] => -1
  | z :: r => if hasAt (ns.getD z.toNat zNd) at_ = true then z else nextK ns at_ r
/-- The nodes with a place, from one inwards. -/
def pathQ (ns : List Nd) (at_ : Int) : Nat → Int → List Int
  | 0, _ => []
  | f + 1, i => if i < 0 then [] else if hasAt (ns.getD i.toNat zNd) at_ = true then i :: pathQ ns at_ f (nextK ns at_ (ns.getD i.toNat zNd).ks) else []
def pathF (ns : List Nd) (at_ : Int) : List Int := if (treeF ns).1 = 0 then pathQ ns at_ ns.length ((ns.length : Int) - 1) else []
structure PqIs (ns : List Nd) (at_ : Int) (f : Nat) (i : Int) (R : List Int) : Prop where
  out : pathQ ns at_ f i = R
structure NkIs (ns : List Nd) (at_ : Int) (ks : List Int) (R : Int) : Prop where
  out : nextK ns at_ ks = R

theorem nextK_mem {ns : List Nd} {at_ : Int} : ∀ {ks : List Int}, nextK ns at_ ks = -1 ∨ nextK ns at_ ks ∈ ks ∧ hasAt (ns.getD (nextK ns at_ ks).toNat zNd) at_ = true
  | [] => .inl rfl
  | z :: r => by
    rw [nextK]
    split
    · rename_i h; exact .inr ⟨List.mem_cons_self .., h⟩
    · rcases nextK_mem (ns := ns) (at_ := at_) (ks := r) with h | ⟨h1, h2⟩
      · exact .inl h
      · exact .inr ⟨List.mem_cons_of_mem _ h1, h2⟩
theorem pathQ_neg {ns : List Nd} {at_ : Int} {f : Nat} : pathQ ns at_ f (-1) = [] := by
  cases f with
  | zero => rfl
  | succ f => rw [pathQ, if_pos (by omega)]
theorem pathQ_len {ns : List Nd} {at_ : Int} : ∀ {f : Nat} {i : Int}, (pathQ ns at_ f i).length ≤ f
  | 0, _ => Nat.le_refl _
  | f + 1, i => by
    rw [pathQ]
    split
    · exact Nat.zero_le _
    · split
      · have := pathQ_len (ns := ns) (at_ := at_) (f := f) (i := nextK ns at_ (ns.getD i.toNat zNd).ks); rw [List.length_cons]; omega
      · exact Nat.zero_le _
/-- In a sound tree: the list is short, kids stand ahead. -/
structure SoundT (ns : List Nd) : Prop where
  len : 1 ≤ ns.length ∧ ns.length ≤ 3000
  kid : ∀ (i : Nat) N, ns[i]? = some N → ∀ z ∈ N.ks, 0 ≤ z ∧ z < (i : Int)
  kn : ∀ N ∈ ns, N.ks.length ≤ 200
theorem tf4_zero {o : Option Nat} (h : (tf4 o).1 = 0) : o = none := by
  cases o with
  | none => rfl
  | some i => simp [tf4] at h
theorem sound_of {ns : List Nd} (h : (treeF ns).1 = 0) : SoundT ns := by
  unfold treeF at h
  by_cases hb : badHead ns = true
  · rw [if_pos hb] at h; exact absurd h (by decide)
  rw [if_neg hb] at h
  have hb' : badHead ns = false := by simpa using hb
  have hb2 := of_decide_eq_false hb'
  obtain ⟨R1, hR1⟩ : ∃ R1, fstI (badNode ns) ns.length 0 = R1 := ⟨_, rfl⟩
  rw [hR1] at h
  cases R1 with
  | some i => rw [tf2] at h; exact absurd h (by simp)
  | none =>
    have hall := fst_none hR1
    have hn : ∀ (i : Nat) N, ns[i]? = some N → nodeB ns i N = true := fun i N hN => by
      have hi : i < ns.length := (List.getElem?_eq_some_iff.1 hN).1
      have h1 := hall i (Nat.zero_le _) (by omega)
      unfold badNode at h1
      rw [List.getD_eq_getElem?_getD, hN, Option.getD_some] at h1
      simpa using h1
    refine ⟨⟨?_, ?_⟩, fun i N hN z hz => ?_, fun N hN => ?_⟩
    · rcases Nat.eq_zero_or_pos ns.length with g | g
      · exact absurd (.inl g) hb2
      · exact g
    · rcases Nat.lt_or_ge 3000 ns.length with g | g
      · exact absurd (.inr (.inl g)) hb2
      · exact g
    · have h2 := hn i N hN
      unfold nodeB at h2
      have h3 : klB N.ks i N.ks.length 0 = true := by
        rw [Bool.and_eq_true, Bool.and_eq_true] at h2; exact h2.2.1
      obtain ⟨q, hq, rfl⟩ := List.getElem_of_mem hz
      have := klB_all N.ks i N.ks.length 0 h3 q (by omega) (by omega)
      rw [List.getD_eq_getElem?_getD, List.getElem?_eq_getElem hq] at this
      simpa using this
    · obtain ⟨i, hi, e⟩ := List.getElem_of_mem hN
      have h2 := hn i N (by rw [List.getElem?_eq_getElem hi, e])
      unfold nodeB fldB at h2
      rw [Bool.and_eq_true] at h2
      exact (of_decide_eq_true h2.1).2.2.2
end Go.Proofs.YtdgbmihokecmhaaGreatDoor

namespace Go.Proofs.YtdgbmihokecmhaaGreatDoor
open Go.RowKit Go.Maps Go.WideMaps
set_option linter.unusedVariables false

/-- An entry of an outline. -/
structure En where
  nm : ByteArray
  ln : Int
  dp : Int
  nd : Int
def empB : ByteArray := { data := #[] }
/-- The name that a node's kid is told by. -/
def innB (N : Nd) : ByteArray := if N.k = 4 then N.nm.getD 0 empB else empB
def ownE (N : Nd) (i : Nat) (name : ByteArray) (dp : Int) : List En := if N.k = 36 then [⟨name, N.l, dp, (i : Int)⟩] else []
def dpB (N : Nd) (dp : Int) : Int := if N.k = 36 then dp + 1 else dp
/-- The outline from a node on. -/
def outN (ns : List Nd) : Nat → Nat → ByteArray → Int → List En
  | 0, _, _, _ => []
  | f + 1, i, name, dp => ownE (ns.getD i zNd) i name dp ++ (ns.getD i zNd).ks.flatMap fun k => outN ns f k.toNat (innB (ns.getD i zNd)) (dpB (ns.getD i zNd) dp)
def outF (ns : List Nd) : List En := if (treeF ns).1 = 0 then outN ns ns.length (ns.length - 1) empB 0 else []

theorem szO_pre (ns : List Nd) : ∀ i, szs (ns.take i) = (szs ns).take i := by
  refine rev_ind (p := fun ns => ∀ i, szs (ns.take i) = (szs ns).take i) ?_ ?_ ns
  · intro i; simp [szs]
  · intro a x ih i
    rcases Nat.lt_or_ge i (a ++ [x]).length with h | h
    · have h1 : i ≤ a.length := by rw [List.length_append] at h; simp at h; omega
      rw [List.take_append_of_le_length h1, ih, szs_app, List.take_append_of_le_length (by rw [szs_len]; exact h1)]
    · rw [List.take_of_length_le h, List.take_of_length_le (by rw [szs_len]; exact h)]
theorem szO_at {ns : List Nd} {i : Nat} {N : Nd} (h : ns[i]? = some N) : (szs ns).getD i 0 = szNd ((szs ns).take i) i N.ks := by
  have hi : i < ns.length := (List.getElem?_eq_some_iff.1 h).1
  have e1 : ns.take (i + 1) = ns.take i ++ [N] := by rw [List.take_add_one, h]; rfl
  have e2 := szO_pre ns (i + 1)
  rw [e1, szs_app, szO_pre, List.length_take, szs_len, Nat.min_eq_left (by omega), List.take_add_one] at e2
  have e3 : (szs ns)[i]? = some ((szs ns).getD i 0) := by
    rw [List.getD_eq_getElem?_getD, List.getElem?_eq_getElem (by rw [szs_len]; exact hi)]; rfl
  rw [e3] at e2
  have e4 := List.append_cancel_left e2
  simpa using e4.symm
def sumK (S : List Int) : List Int → Int
  | [] => 0
  | k :: l => S.getD k.toNat 0 + sumK S l
theorem sumK_app (S : List Int) (a b : List Int) : sumK S (a ++ b) = sumK S a + sumK S b := by
  induction a with
  | nil => simp [sumK]
  | cons k l ih => simp only [List.cons_append, sumK, ih]; omega
theorem sumK_rev (S : List Int) (l : List Int) : sumK S l.reverse = sumK S l := by
  induction l with
  | nil => rfl
  | cons k l ih => rw [List.reverse_cons, sumK_app, ih]; simp only [sumK]; omega
theorem wkB_sum {S : List Int} : ∀ (l : List Int) (a b : Int), wkB S l a = some b → b = a - sumK S l
  | [], a, b, h => by simp [wkB] at h; simp [sumK]; omega
  | k :: r, a, b, h => by
    rw [wkB] at h
    split at h
    · have := wkB_sum r _ _ h
      simp only [sumK]
      omega
    · cases h
theorem sumK_pre (S : List Int) (i : Nat) (l : List Int) (h : ∀ k ∈ l, 0 ≤ k ∧ k < (i : Int)) : sumK (S.take i) l = sumK S l := by
  induction l with
  | nil => rfl
  | cons k l ih =>
    have hk := h k List.mem_cons_self
    have e : (S.take i).getD k.toNat 0 = S.getD k.toNat 0 := by
      rw [List.getD_eq_getElem?_getD, List.getD_eq_getElem?_getD, List.getElem?_take_of_lt (by omega)]
    simp only [sumK, e, ih fun k hk => h k (List.mem_cons_of_mem _ hk)]
/-- In a sound tree a node's number of nodes is one and those of its kids. -/
structure SizeT (ns : List Nd) : Prop where
  at_ : ∀ (i : Nat) N, ns[i]? = some N → (szs ns).getD i 0 = 1 + sumK (szs ns) N.ks
  le : ∀ i, (szs ns).getD i 0 ≤ 3000
theorem size_of {ns : List Nd} (h : (treeF ns).1 = 0) : SizeT ns := by
  have sd := sound_of h
  unfold treeF at h
  by_cases hb : badHead ns = true
  · rw [if_pos hb] at h; exact absurd h (by decide)
  rw [if_neg hb] at h
  obtain ⟨R1, hR1⟩ : ∃ R1, fstI (badNode ns) ns.length 0 = R1 := ⟨_, rfl⟩
  rw [hR1] at h
  cases R1 with
  | some i => rw [tf2] at h; exact absurd h (by simp)
  | none =>
    rw [tf2] at h
    obtain ⟨R2, hR2⟩ : ∃ R2, fstI (badSize (szs ns)) ns.length 0 = R2 := ⟨_, rfl⟩
    rw [hR2] at h
    cases R2 with
    | some i => rw [tf3] at h; exact absurd h (by simp)
    | none =>
      have hall := fst_none hR2
      have hok : SzOk (szs ns) := szs_ok ns (fun N hN k hk => by
        obtain ⟨i, hi, e⟩ := List.getElem_of_mem hN
        exact (sd.kid i N (by rw [List.getElem?_eq_getElem hi, e]) k hk).1)
      refine ⟨fun i N hN => ?_, fun i => ?_⟩
      · have hi : i < ns.length := (List.getElem?_eq_some_iff.1 hN).1
        have h1 := hall i (Nat.zero_le _) (by omega)
        unfold badSize at h1
        rw [szO_at hN] at h1 ⊢
        unfold szNd at h1 ⊢
        cases hw : wkB ((szs ns).take i) N.ks.reverse i with
        | none => rw [hw] at h1; simp at h1
        | some a =>
          have e := wkB_sum _ _ _ hw
          rw [sumK_rev, sumK_pre _ _ _ (fun k hk => sd.kid i N hN k hk)] at e
          show (i : Int) - a + 1 = _
          omega
      · rcases Nat.lt_or_ge i ns.length with hi | hi
        · have e3 : (szs ns)[i]? = some ((szs ns).getD i 0) := by
            rw [List.getD_eq_getElem?_getD, List.getElem?_eq_getElem (by rw [szs_len]; exact hi)]; rfl
          have := hok i _ e3
          have := sd.len
          omega
        · rw [List.getD_eq_getElem?_getD, List.getElem?_eq_none (by rw [szs_len]; exact hi)]
          decide
theorem getD_at {ns : List Nd} {i : Nat} {N : Nd} (h : ns[i]? = some N) : ns.getD i zNd = N := by rw [List.getD_eq_getElem?_getD, h]; rfl
theorem ownE_le (N : Nd) (i : Nat) (name : ByteArray) (dp : Int) : (ownE N i name dp).length ≤ 1 := by
  unfold ownE
  split <;> simp
theorem out_len {ns : List Nd} (h : (treeF ns).1 = 0) : ∀ (f i : Nat) (name : ByteArray) (dp : Int), i < ns.length → ((outN ns f i name dp).length : Int) ≤ (szs ns).getD i 0 := by
  have sz := size_of h
  have sd := sound_of h
  intro f
  induction f with
  | zero =>
    intro i name dp hi
    obtain ⟨N, hN⟩ : ∃ N, ns[i]? = some N := ⟨_, List.getElem?_eq_getElem hi⟩
    have e := sz.at_ i N hN
    have key : ∀ l : List Int, (∀ k ∈ l, 0 ≤ k ∧ k < (i : Int)) → 0 ≤ sumK (szs ns) l := by
      have hok : SzOk (szs ns) := szs_ok ns (fun N hN k hk => by
        obtain ⟨i, hi, e⟩ := List.getElem_of_mem hN
        exact (sd.kid i N (by rw [List.getElem?_eq_getElem hi, e]) k hk).1)
      intro l
      induction l with
      | nil => intro _; simp [sumK]
      | cons k l ih =>
        intro hl
        have h1 := ih fun k hk => hl k (List.mem_cons_of_mem _ hk)
        have hk := hl k List.mem_cons_self
        have e3 : (szs ns)[k.toNat]? = some ((szs ns).getD k.toNat 0) := by
          rw [List.getD_eq_getElem?_getD, List.getElem?_eq_getElem (by rw [szs_len]; omega)]; rfl
        have := hok k.toNat _ e3
        simp only [sumK]
        omega
    have := key N.ks (fun k hk => sd.kid i N hN k hk)
    show (0 : Int) ≤ _
    omega
  | succ f ih =>
    intro i name dp hi
    obtain ⟨N, hN⟩ : ∃ N, ns[i]? = some N := ⟨_, List.getElem?_eq_getElem hi⟩
    rw [outN, getD_at hN, sz.at_ i N hN, List.length_append]
    have h1 := ownE_le N i name dp
    have key : ∀ l : List Int, (∀ k ∈ l, 0 ≤ k ∧ k < (i : Int)) → ((l.flatMap fun k => outN ns f k.toNat (innB N) (dpB N dp)).length : Int) ≤ sumK (szs ns) l := by
      intro l
      induction l with
      | nil => intro _; simp [sumK]
      | cons k l ih2 =>
        intro hl
        have h2 := ih2 fun k hk => hl k (List.mem_cons_of_mem _ hk)
        have hk := hl k List.mem_cons_self
        have h3 := ih k.toNat (innB N) (dpB N dp) (by omega)
        rw [List.flatMap_cons, List.length_append]
        simp only [sumK]
        omega
    have := key N.ks (fun k hk => sd.kid i N hN k hk)
    omega
end Go.Proofs.YtdgbmihokecmhaaGreatDoor

namespace Go.Proofs.YtdgbmihokecmhaaGreatDoor
open Go.RowKit Go.Maps Go.WideMaps
set_option linter.unusedVariables false

def cEn (e : En) : List Value := [.string e.nm, .int .i64 e.ln, .int .i64 e.dp, .int .i64 e.nd]
def cEns (l : List En) : List Value := l.flatMap cEn
theorem cEns_app (a b : List En) : cEns (a ++ b) = cEns a ++ cEns b := List.flatMap_append
theorem cEns_len (l : List En) : (cEns l).length = l.length * 4 := by
  induction l with
  | nil => rfl
  | cons e l ih => show (cEn e ++ cEns l).length = (l.length + 1) * 4; rw [List.length_append, ih]; show 4 + _ = _; omega
theorem cEns_at : ∀ (l : List En) (j : Nat) (e : En), l[j]? = some e → ∀ t, t < 4 → (cEns l)[j * 4 + t]? = (cEn e)[t]?
  | [], j, e, h, t, ht => by simp at h
  | x :: l, 0, e, h, t, ht => by
    simp at h
    subst h
    show (cEn x ++ cEns l)[0 * 4 + t]? = _
    rw [Nat.zero_mul, Nat.zero_add, List.getElem?_append_left (by show t < 4; exact ht)]
  | x :: l, j + 1, e, h, t, ht => by
    show (cEn x ++ cEns l)[(j + 1) * 4 + t]? = _
    rw [List.getElem?_append_right (by show 4 ≤ _; omega), show (j + 1) * 4 + t - (cEn x).length = j * 4 + t by show _ - 4 = _; omega]
    exact cEns_at l j e (by simpa using h) t ht
/-- A row of entries that a call has made. -/
def EnAt (base : Nat) (W : World) (v : Value) (l : List En) : Prop := W.ownsRow base 56 4 v l.length (cEns l)
theorem EnAt.form {base : Nat} {W : World} {v : Value} {l : List En} (h : EnAt base W v l) : ∃ a c, v = .slice a l.length c := own_form h
theorem EnAt.formn {base n : Nat} {W : World} {v : Value} {l : List En} (h : EnAt base W v l) (hn : l.length = n) : ∃ a c, v = .slice a n c := by subst hn; exact own_form h
theorem EnAt.below {base : Nat} {W W' : World} {v : Value} {l : List En} (h : EnAt base W v l) (hb : Below W.heap.size W W') : EnAt base W' v l := own_keep h hb
theorem EnAt.nil (base : Nat) (W : World) : EnAt base W (.slice none 0 0) [] := World.ownsRow_nil _ _ _ _
theorem EnAt.le {base base' : Nat} {W : World} {v : Value} {l : List En} (h : EnAt base W v l) (hb : base' ≤ base) : EnAt base' W v l := own_le h hb
/-- The cells of an entry. -/
theorem EnAt.get {base n c : Nat} {W : World} {a : Option Addr} {l : List En} (h : EnAt base W (.slice a n c) l) {j : Nat} {e : En} (hj : l[j]? = some e) :
    ∃ g, a = some ⟨g, 0, none⟩ ∧ n = l.length ∧ W.cell? ⟨g, j * 4, none⟩ = some (.string e.nm) ∧ W.cell? ⟨g, j * 4 + 1, none⟩ = some (.int .i64 e.ln) ∧ W.cell? ⟨g, j * 4 + 2, none⟩ = some (.int .i64 e.dp) ∧ W.cell? ⟨g, j * 4 + 3, none⟩ = some (.int .i64 e.nd) ∧ g < W.heap.size := by
  have hjl : j < l.length := (List.getElem?_eq_some_iff.1 hj).1
  have h' : W.ownsRow base 56 4 (.slice a n c) l.length (cEns l) := h
  rcases h'.2 with ⟨_, h0⟩ | ⟨g, cap, cur, ev, hg, hh, hnc, hmx, hsz, htk⟩
  · omega
  · cases ev
    have key : ∀ t, t < 4 → W.cell? ⟨g, j * 4 + t, none⟩ = (cEn e)[t]? := fun t ht => by
      rw [cell_of_row _ _ _ _ _ _ hh, ← cEns_at l j e hj t ht, ← htk, List.getElem?_take_of_lt (by omega)]
      simp
    exact ⟨g, rfl, rfl, key 0 (by omega), key 1 (by omega), key 2 (by omega), key 3 (by omega), lt_of_block hh⟩
theorem infoEn : (Tryz.prog.info? 56).map (fun i => (i.zero, i.size, i.bytes)) = some (some (.agg #[.string ⟨#[]⟩, .int .i64 0, .int .i64 0, .int .i64 0]), 4, 40) := by kernel_rfl
theorem one_cEn (e : En) : ∀ u ∈ cEn e, u.oneCell' = true := fun u hu => by
  unfold cEn at hu
  simp only [List.mem_cons, List.not_mem_nil, or_false] at hu
  rcases hu with rfl | rfl | rfl | rfl <;> rfl
theorem news_en (w : World) (nm : ByteArray) (a b c : Int) : ∀ j u, (cEn ⟨nm, a, b, c⟩)[j]? = some u → (w.alloc (.cells #[.string nm, .int .i64 a, .int .i64 b, .int .i64 c] 56)).cell? ((⟨w.heap.size, 0, none⟩ : Addr).add j) = some u :=
  World.news_of_block (cs := #[.string nm, .int .i64 a, .int .i64 b, .int .i64 c]) (fr := (0, 0)) (heap_alloc_new w _)
theorem news_enB (w : World) (B : Nat) (hB : w.heap.size = B) (e : En) : ∀ j u, (cEn e)[j]? = some u → (w.alloc (.cells #[.string e.nm, .int .i64 e.ln, .int .i64 e.dp, .int .i64 e.nd] 56)).cell? ((⟨B, 0, none⟩ : Addr).add j) = some u := by
  subst hB
  exact news_en w e.nm e.ln e.dp e.nd
/-- append of one entry. -/
theorem wpList_en {w : World} {ops : Array Oper} {rest : List Oper} {o : Oper} {a : Act} {Q : Exit → Act → World → Prop} (hgd : o.guard = none) (s x : Operand)
    (ho : o.op = .call { callee := .builtin .append, args := #[s, x], argTypes := #[26, 26] }) (base : Nat) (v : Value) (l : List En) (hs : a.eval s = v)
    (hown : EnAt base w v l) (hbase : base ≤ w.heap.size) (ad : Addr) (c : Nat) (e : En) (hx : a.eval x = .slice (some ad) 1 c) (hnews : ∀ j u, (cEn e)[j]? = some u → w.cell? (ad.add j) = some u) (hn : l.length ≤ 4194304) (r : Nat) (hr : l.length + 1 = r)
    (h : ∀ av cv w1, EnAt base w1 (.slice av r cv) (l ++ [e]) → w.grownBy w1 v.ownBlock → ((Value.slice av r cv).ownBlock = v.ownBlock ∨ (Value.slice av r cv).ownBlock = some w.heap.size) → wpList Tryz.prog ops Q rest (a.put o.dst (.slice av r cv)) w1) :
    wpList Tryz.prog ops Q (o :: rest) a w := by
  subst hr
  obtain ⟨i0, hi, hz0, hz1, hz2⟩ := info_parts infoEn
  have hown' : w.ownsRow base 56 4 v l.length (cEns l) := hown
  refine wpList_append_own_at _ hgd s x 26 ho base 56 i0 _ 4 40 Tryz.underlying26 hi hz0 hz1 hz2 rfl (by decide) v _ _ hs hown' ad 1 c (cEn e) hx rfl hnews (one_cEn e) (by unfold maxLen; omega) (by omega) hbase ?_
  intro v' w1 ho1 hg1 _ hat
  obtain ⟨av, cv, rfl⟩ := own_form ho1
  exact h av cv w1 (by unfold EnAt; rw [List.length_append, cEns_app]; show w1.ownsRow _ _ _ _ _ (cEns l ++ (cEn e ++ [])); rw [List.append_nil]; exact ho1) hg1 hat
theorem EnAt.grown {base : Nat} {w w1 : World} {v : Value} {l : List En} (h : EnAt base w v l) (hbase : base ≤ w.heap.size) (hg : w.grownBy w1 v.ownBlock) : Below base w w1 :=
  (Below.refl base w).grown hg hbase (fun k hk => (h.lt k hk).1)
end Go.Proofs.YtdgbmihokecmhaaGreatDoor
