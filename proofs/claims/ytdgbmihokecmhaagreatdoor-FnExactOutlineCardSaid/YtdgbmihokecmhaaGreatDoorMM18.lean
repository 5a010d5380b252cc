import Derived.Test.YtdgbmihokecmhaaGreatDoorMM17
import Derived.Test.YtdgbmihokecmhaaGreatDoorMM06
namespace Go.Proofs.YtdgbmihokecmhaaGreatDoor
open Go.RowKit Go.Maps Go.WideMaps
set_option linter.unusedVariables false

/-- What l5outline holds: its tree's box, its node's box. -/
structure OlSt (w : World) (v : Value) (N : Nd) (vn vk : Value) (W : World) : Prop where
  tb : W.cell? ⟨w.heap.size, 0, none⟩ = some v
  bx : NdBox (w.heap.size + 1) W 67 N vn vk
  bl : Below w.heap.size w W
theorem OlSt.below {w : World} {v : Value} {N : Nd} {vn vk : Value} {W W' : World} (h : OlSt w v N vn vk W) (hb : Below W.heap.size W W') : OlSt w v N vn vk W' :=
  ⟨cell_kept hb h.tb, h.bx.below hb, h.bl.trans (hb.mono h.bl.size)⟩
theorem OlSt.belowB {w : World} {v : Value} {N : Nd} {vn vk : Value} {W W' : World} (h : OlSt w v N vn vk W) (hb : Below (w.heap.size + 1 + 1) W W') : OlSt w v N vn vk W' :=
  ⟨(cell_below hb (show w.heap.size < _ by omega)).trans h.tb, (hb.block _ (by omega)).trans h.bx, h.bl.trans (hb.mono (by omega))⟩
/-- The model's outline at the nodes below B. -/
def OkO (ns : List Nd) (f : Nat) : Prop := ∀ (i : Nat) (W : World) (v : Value) (name : ByteArray) (dp : Int), i < f → i < ns.length → NdsAt W v ns → 0 ≤ dp → dp + f ≤ 100000 →
  Calls Tryz.prog 15 #[.agg #[v], .int .i64 (i : Int), .string name, .int .i64 dp] W fun e w' => ∃ vo, e = .returned vo ∧ EnAt W.heap.size w' vo (outN ns f i name dp) ∧ Below W.heap.size W w'

set_option maxRecDepth 100000 in
set_option maxHeartbeats 12800000 in
theorem outline_step (ns : List Nd) (hF : (treeF ns).1 = 0) (hnm : ∀ (i : Nat) N, ns[i]? = some N → N.k = 4 → 1 ≤ N.nm.length) (f : Nat) (ih : OkO ns f) : OkO ns (f + 1) := by
  intro i w v name dp hif hin h hd0 hd1
  obtain ⟨a, c, rfl⟩ := h.form
  obtain ⟨n, hn⟩ : ∃ n, ns.length = n := ⟨_, rfl⟩
  rw [hn] at h hin ⊢
  obtain ⟨N, hN⟩ := some_at hn hin
  have hlen := out_len hF
  have sd := sound_of hF
  have sz := size_of hF
  have hn3 := sd.len
  obtain ⟨a2, rfl, vn, vk, hd⟩ := h.get hN
  obtain ⟨d0, d1, d2, d3, d4, d5, d6, d7, d8, hn2, hk2⟩ := hd
  obtain ⟨an, cn, rfl⟩ := hn2.form
  obtain ⟨ak, ck, rfl⟩ := hk2.form
  have hkn := sd.kn N (List.mem_of_getElem? hN)
  have hkid := sd.kid i N hN
  have hn4 := hnm i N hN
  obtain ⟨RR, hRR⟩ : ∃ RR, outN ns (f + 1) i name dp = RR := ⟨_, rfl⟩
  have HO : Hid (RR = ownE N i name dp ++ N.ks.flatMap fun k => outN ns f k.toNat (innB N) (dpB N dp)) := by show _ = _; rw [← hRR, outN, getD_at hN]
  have HL : Hid (RR.length ≤ 3000) := by
    have := hlen (f + 1) i name dp (by omega)
    have := sz.le i
    show _ ≤ _
    rw [hRR] at *
    omega
  rw [hRR]
  clear hRR
  obtain ⟨L1, hL1⟩ : ∃ n, N.nm.length = n := ⟨_, rfl⟩
  obtain ⟨L2, hL2⟩ : ∃ n, N.ks.length = n := ⟨_, rfl⟩
  rw [hL1] at hn2 d7 hn4
  rw [hL2] at hk2 d8 hkn
  have HH : Hid (NdsAt w (.slice (some a2) n c) ns ∧ StrsAt w (.slice an L1 cn) N.nm ∧ IntsAt w (.slice ak L2 ck) N.ks ∧ N.nm.length = L1 ∧ N.ks.length = L2 ∧ (∀ z ∈ N.ks, 0 ≤ z ∧ z < (i : Int)) ∧ ns.length = n ∧ OkO ns f) := ⟨h, hn2, hk2, hL1, hL2, hkid, hn, ih⟩
  have hb0 : ∀ o, Below w.heap.size w (w.alloc o) := fun o => (Below.refl _ w).alloc (Nat.le_refl _) o
  have dd := fun o => (⟨cell_kept (hb0 o) d0, cell_kept (hb0 o) d1, cell_kept (hb0 o) d2, cell_kept (hb0 o) d3, cell_kept (hb0 o) d4, cell_kept (hb0 o) d5, cell_kept (hb0 o) d6, cell_kept (hb0 o) d7, cell_kept (hb0 o) d8⟩ : _ ∧ _ ∧ _ ∧ _ ∧ _ ∧ _ ∧ _ ∧ _ ∧ _)
  have hi0 : (0 : Int) ≤ (i : Int) := by omega
  have hi1 : (i : Int) < (n : Int) := by omega
  have E0_ := fun o => (dd o).1
  have E1_ := fun o => (dd o).2.1
  have E2_ := fun o => (dd o).2.2.1
  have E3_ := fun o => (dd o).2.2.2.1
  have E4_ := fun o => (dd o).2.2.2.2.1
  have E5_ := fun o => (dd o).2.2.2.2.2.1
  have E6_ := fun o => (dd o).2.2.2.2.2.2.1
  have E7_ := fun o => (dd o).2.2.2.2.2.2.2.1
  have E8_ := fun o => (dd o).2.2.2.2.2.2.2.2
  clear h hN hlen sd sz hn3 hn2 hk2 hnm hn ih d0 d1 d2 d3 d4 d5 d6 d7 d8 dd hL1 hL2 hkid hin
  by_cases h36 : N.k = 36
  · have k36 : (N.k == 36) = true := by rw [beq_iff_eq]; exact h36
    have k4 : (N.k == 4) = false := by rw [beq_eq_false_iff_ne]; omega
    obtain ⟨dq, hdq⟩ : ∃ dq, dpB N dp = dq := ⟨_, rfl⟩
    obtain ⟨nmI, hnmI⟩ : ∃ x, innB N = x := ⟨_, rfl⟩
    have hnmE : nmI = empB := by rw [← hnmI]; unfold innB; rw [if_neg (by omega)]
    obtain ⟨E0, hE0⟩ : ∃ E0, ownE N i name dp = E0 := ⟨_, rfl⟩
    have hE1 : E0 = [⟨name, N.l, dp, (i : Int)⟩] := by rw [← hE0]; unfold ownE; rw [if_pos h36]
    have hdq1 : dq = dp + 1 := by rw [← hdq]; unfold dpB; rw [if_pos h36]
    have HI : Hid (ownE N i name dp = E0 ∧ innB N = nmI ∧ dpB N dp = dq) := ⟨hE0, hnmI, hdq⟩
    have hq0 : 0 ≤ dq := by omega
    have hq1 : dq + f ≤ 100000 := by omega
    have HE : Hid (nmI = empB ∧ E0 = [⟨name, N.l, dp, (i : Int)⟩] ∧ dq = dp + 1) := ⟨hnmE, hE1, hdq1⟩
    clear h36 hdq hnmI hE0 hE1 hnmE
    have stO : ∀ o, OlSt w (.slice (some a2) n c) N (.slice an L1 cn) (.slice ak L2 ck) (((w.alloc (.cells #[.slice (some a2) n c] 30)).alloc (.cells #[.int .i64 N.k, .int .i64 N.f, .int .i64 N.t, .int .i64 N.l, .int .i64 N.op, .int .i64 N.n, .string N.x, .slice an L1 cn, .slice ak L2 ck] 67)).alloc o) := fun o => by
      have B0 := heap_alloc_new w (.cells #[.slice (some a2) n c] 30)
      have s1 : (w.alloc (.cells #[.slice (some a2) n c] 30)).heap.size = w.heap.size + 1 := World.size_alloc _ _
      have b1 := hb0 (.cells #[.slice (some a2) n c] 30)
      generalize w.alloc (.cells #[.slice (some a2) n c] 30) = W1 at B0 s1 b1 ⊢
      have B1 := heap_alloc_new W1 (.cells #[.int .i64 N.k, .int .i64 N.f, .int .i64 N.t, .int .i64 N.l, .int .i64 N.op, .int .i64 N.n, .string N.x, .slice an L1 cn, .slice ak L2 ck] 67)
      have b12 : Below W1.heap.size W1 (W1.alloc (.cells #[.int .i64 N.k, .int .i64 N.f, .int .i64 N.t, .int .i64 N.l, .int .i64 N.op, .int .i64 N.n, .string N.x, .slice an L1 cn, .slice ak L2 ck] 67)) := (Below.refl _ W1).alloc (Nat.le_refl _) _
      rw [s1] at B1
      generalize W1.alloc (.cells #[.int .i64 N.k, .int .i64 N.f, .int .i64 N.t, .int .i64 N.l, .int .i64 N.op, .int .i64 N.n, .string N.x, .slice an L1 cn, .slice ak L2 ck] 67) = W2 at B1 b12 ⊢
      exact OlSt.below ⟨one_cell1 ((b12.block _ (by omega)).trans B0), B1, b1.trans (b12.mono (by omega))⟩ ((Below.refl _ W2).alloc (Nat.le_refl _) o)
    go_enter Tryz.func15, Tryz.ntmps15
    go_wp2_with (at_builtin; refine wpList_en rfl _ _ rfl (w.heap.size + 1 + 1) (.slice none 0 0) [] rfl (EnAt.nil _ _) (by simp) ⟨_, 0, none⟩ 1 ⟨name, N.l, dp, (i : Int)⟩ rfl (news_enB _ _ (by simp) ⟨name, N.l, dp, (i : Int)⟩) (by simp) 1 rfl ?_; intro av0 cv0 w3 ho3 hg3 hat3; have st3 := (stO _).belowB (EnAt.grown (EnAt.nil _ _) (by simp) hg3); have y8 := (nd_cells st3.bx).2.2.2.2.2.2.2.2.1)
    have sz3 := (EnAt.grown (base := w.heap.size + 1 + 1) (EnAt.nil _ _) (by simp) hg3).size
    have HB : Hid (OlSt w (.slice (some a2) n c) N (.slice an L1 cn) (.slice ak L2 ck) w3 ∧ EnAt (w.heap.size + 1 + 1) w3 (.slice av0 1 cv0) E0 ∧ w.heap.size + 1 + 1 ≤ w3.heap.size) := ⟨st3, by rw [HE.out.2.1]; exact ho3, by simp at sz3; omega⟩
    rw [← hdq1]
    clear hdq1 stO st3 ho3 hg3 hat3 y8 sz3 E0_ E1_ E2_ E3_ E4_ E5_ E6_ E7_ E8_ hb0 k36
    go_loopw [10, 40] (fun vo vi wr => ∃ k : Nat, k ≤ L2 ∧ vi = .int .i64 k ∧ (∃ av cv, ∃ m : Nat, vo = .slice av m cv) ∧ Hid (OlSt w (.slice (some a2) n c) N (.slice an L1 cn) (.slice ak L2 ck) wr ∧ EnAt (w.heap.size + 1 + 1) wr vo (E0 ++ (N.ks.take k).flatMap fun k => outN ns f k.toNat nmI dq) ∧ w.heap.size + 1 + 1 ≤ wr.heap.size)) (fun _ vi _ => L2 - (intOf vi).toNat)
    case atStart => exact ⟨0, by omega, rfl, ⟨_, _, _, rfl⟩, HB.out.1, by rw [List.take_zero, List.flatMap_nil, List.append_nil]; exact HB.out.2.1, HB.out.2.2⟩
    case round =>
      obtain ⟨k, hk, rfl, ⟨av, cv, m, rfl⟩, HS⟩ := hrel
      by_cases hlt : k < L2
      · obtain ⟨z, hz⟩ := some_at HH.out.2.2.2.2.1 hlt
        have hzb := HH.out.2.2.2.2.2.1 z (List.mem_of_getElem? hz)
        obtain ⟨zk, rfl⟩ : ∃ zk : Nat, z = (zk : Int) := ⟨z.toNat, by omega⟩
        obtain ⟨a', rfl, cz⟩ := (HH.out.2.2.1.below HS.out.1.bl).get hz
        have HTK : Hid ((N.ks.take (k + 1)).flatMap (fun k => outN ns f k.toNat nmI dq) = ((N.ks.take k).flatMap fun k => outN ns f k.toNat nmI dq) ++ outN ns f zk nmI dq) := by
          show _ = _
          rw [List.take_add_one, hz, List.flatMap_append]
          simp
        have HLT : Hid ((E0 ++ (((N.ks.take k).flatMap fun k => outN ns f k.toNat nmI dq) ++ outN ns f zk nmI dq)).length ≤ 3000) := by
          have h1 := HL.out
          rw [HO.out, HI.out.1, HI.out.2.1, HI.out.2.2] at h1
          have h2 : N.ks.flatMap (fun k => outN ns f k.toNat nmI dq) = (N.ks.take (k + 1)).flatMap (fun k => outN ns f k.toNat nmI dq) ++ (N.ks.drop (k + 1)).flatMap (fun k => outN ns f k.toNat nmI dq) := by rw [← List.flatMap_append, List.take_append_drop]
          rw [h2, HTK.out] at h1
          show _ ≤ _
          simp only [List.length_append] at h1 ⊢
          omega
        have hki : (k : Int) < (L2 : Int) := by omega
        have hk0 : (0 : Int) ≤ (k : Int) := by omega
        have kc := HH.out.2.2.2.2.2.2.2 zk wr (.slice (some a2) n c) nmI dq (by omega) (by rw [HH.out.2.2.2.2.2.2.1]; omega) (HH.out.1.below HS.out.1.bl) hq0 hq1
        obtain ⟨y0, y1, y2, y3, y4, y5, y6, y7, y8, yz⟩ := nd_cells HS.out.1.bx
        have ytb := HS.out.1.tb
        clear hz hzb
        have hsn : nmI = empB := HE.out.1
        have kc2 := kc
        rw [hsn] at kc2
        unfold empB at kc2
        go_wp2_with (go_at_call 15; fail)
        refine kc2.mono ?_
        rintro e w5 ⟨vr, rfl, hro0, hb5⟩
        have hro : EnAt wr.heap.size w5 vr (outN ns f zk nmI dq) := by rw [hsn]; exact hro0
        clear hro0 kc2 kc y0 y1 y2 y3 y4 y5 y6 y7 y8 yz ytb cz
        obtain ⟨mr, hmr⟩ : ∃ mr, (outN ns f zk nmI dq).length = mr := ⟨_, rfl⟩
        obtain ⟨ar, cr, rfl⟩ := hro.formn hmr
        obtain ⟨wR, hwR⟩ : ∃ wR, wR = wr := ⟨wr, rfl⟩
        have HR : Hid (EnAt wR.heap.size w5 (.slice ar mr cr) (outN ns f zk nmI dq) ∧ (outN ns f zk nmI dq).length = mr ∧ OlSt w (.slice (some a2) n c) N (.slice an L1 cn) (.slice (some a') L2 ck) w5 ∧ EnAt (w.heap.size + 1 + 1) w5 (.slice av m cv) (E0 ++ (N.ks.take k).flatMap fun k => outN ns f k.toNat nmI dq) ∧ w.heap.size + 1 + 1 ≤ w5.heap.size ∧ (∀ g, (Value.slice av m cv).ownBlock = some g → g < wR.heap.size) ∧ wR.heap.size ≤ w5.heap.size ∧ (E0 ++ (N.ks.take (k + 1)).flatMap fun k => outN ns f k.toNat nmI dq).length ≤ 3000 ∧ (N.ks.take (k + 1)).flatMap (fun k => outN ns f k.toNat nmI dq) = ((N.ks.take k).flatMap fun k => outN ns f k.toNat nmI dq) ++ outN ns f zk nmI dq) := by
          rw [hwR]
          refine ⟨hro, hmr, HS.out.1.below hb5, HS.out.2.1.below hb5, Nat.le_trans HS.out.2.2 hb5.size, fun g hg => (HS.out.2.1.lt g hg).2, hb5.size, ?_, ?_⟩
          · rw [HTK.out]
            have := HLT.out
            exact this
          · exact HTK.out
        have hmb : mr ≤ 3000 := by
          have h8 := HR.out.2.2.2.2.2.2.2.1
          rw [HR.out.2.2.2.2.2.2.2.2] at h8
          simp only [List.length_append] at h8
          have := HR.out.2.1
          omega
        clear hro hmr hb5 HS hwR
        go_wp2_with fail
        go_loopw [10, 57] (fun vo vi wq => ∃ j : Nat, j ≤ mr ∧ vi = .int .i64 j ∧ (∃ av cv, ∃ m : Nat, vo = .slice av m cv) ∧ Hid (EnAt wR.heap.size wq (.slice ar mr cr) (outN ns f zk nmI dq) ∧ OlSt w (.slice (some a2) n c) N (.slice an L1 cn) (.slice (some a') L2 ck) wq ∧ EnAt (w.heap.size + 1 + 1) wq vo (E0 ++ ((N.ks.take k).flatMap fun k => outN ns f k.toNat nmI dq) ++ (outN ns f zk nmI dq).take j) ∧ w.heap.size + 1 + 1 ≤ wq.heap.size ∧ (∀ g, vo.ownBlock = some g → (Value.slice ar mr cr).ownBlock ≠ some g) ∧ (∀ g, (Value.slice ar mr cr).ownBlock = some g → g < wq.heap.size))) (fun _ vi _ => mr - (intOf vi).toNat)
        case atStart =>
          refine ⟨0, by omega, rfl, ⟨_, _, _, rfl⟩, HR.out.1, HR.out.2.2.1, by rw [List.take_zero, List.append_nil]; exact HR.out.2.2.2.1, HR.out.2.2.2.2.1, fun g hg hr => ?_, fun g hg => (HR.out.1.lt g hg).2⟩
          have h1 := HR.out.2.2.2.2.2.1 g hg
          have h2 := (HR.out.1.lt g hr).1
          omega
        case round =>
          obtain ⟨j, hj, rfl, ⟨av2, cv2, m2, rfl⟩, HQ⟩ := hrel
          by_cases hjl : j < mr
          · obtain ⟨e, he⟩ := some_at HR.out.2.1 hjl
            obtain ⟨g, rfl, -, q0, q1, q2, q3, hgl⟩ := HQ.out.1.get he
            have hji : (j : Int) < (mr : Int) := by omega
            have hj0 : (0 : Int) ≤ (j : Int) := by omega
            have HT : Hid ((outN ns f zk nmI dq).take (j + 1) = (outN ns f zk nmI dq).take j ++ [e]) := by show _ = _; rw [List.take_add_one, he]; rfl
            have hmlen := (HQ.out.2.2.1).form
            obtain ⟨A, hA⟩ : ∃ A, E0 ++ ((N.ks.take k).flatMap fun k => outN ns f k.toNat nmI dq) ++ (outN ns f zk nmI dq).take j = A := ⟨_, rfl⟩
            have hAl : A.length ≤ 3000 := by
              have h8 := HR.out.2.2.2.2.2.2.2.1
              rw [HR.out.2.2.2.2.2.2.2.2] at h8
              rw [← hA]
              simp only [List.length_append, List.length_take] at h8 ⊢
              omega
            rw [hA] at HQ hmlen
            have hm2 : m2 = A.length := by obtain ⟨_, _, e⟩ := hmlen; cases e; rfl
            have HA : Hid (E0 ++ ((N.ks.take k).flatMap fun k => outN ns f k.toNat nmI dq) ++ (outN ns f zk nmI dq).take j = A ∧ m2 = A.length) := ⟨hA, hm2⟩
            have bo : ∀ o1 o2, Below wr.heap.size wr ((wr.alloc o1).alloc o2) := fun o1 o2 => ((Below.refl _ wr).alloc (Nat.le_refl _) o1).alloc (by simp) o2
            clear he hA hmlen hm2
            go_wp2_with (at_builtin; refine wpList_en rfl _ _ rfl (w.heap.size + 1 + 1) (.slice av2 m2 cv2) A rfl (HQ.out.2.2.1.below (bo _ _)) (Nat.le_trans HQ.out.2.2.2.1 (bo _ _).size) ⟨_, 0, none⟩ 1 e rfl (news_enB _ _ (World.size_alloc _ _) e) (by omega) (m2 + 1) (by rw [HA.out.2]) ?_; intro av6 cv6 w6 ho6 hg6 hat6)
            have b6 := (HQ.out.2.2.1.below (bo (.cells #[.string e.nm, .int .i64 e.ln, .int .i64 e.dp, .int .i64 e.nd] 56) (.cells #[.string e.nm, .int .i64 e.ln, .int .i64 e.dp, .int .i64 e.nd] 56))).grown (Nat.le_trans HQ.out.2.2.2.1 (bo _ _).size) hg6
            have hsz : ((wr.alloc (.cells #[.string e.nm, .int .i64 e.ln, .int .i64 e.dp, .int .i64 e.nd] 56)).alloc (.cells #[.string e.nm, .int .i64 e.ln, .int .i64 e.dp, .int .i64 e.nd] 56)).heap.size = wr.heap.size + 1 + 1 := by simp
            have s6 := b6.size
            go_roundw
            case measure => simp [intOf]; omega
            case rel =>
              refine ⟨j + 1, by omega, by go_num, ⟨_, _, _, rfl⟩, ?_, (HQ.out.2.1.below (bo _ _)).belowB b6, by rw [HT.out, ← List.append_assoc, HA.out.1]; exact ho6, by have := HQ.out.2.2.2.1; omega, ?_, ?_⟩
              · have h1 := HQ.out.1.below (bo (.cells #[.string e.nm, .int .i64 e.ln, .int .i64 e.dp, .int .i64 e.nd] 56) (.cells #[.string e.nm, .int .i64 e.ln, .int .i64 e.dp, .int .i64 e.nd] 56))
                refine World.ownsRow.kept h1 hg6 (.inr fun e => ?_)
                cases hx : (Value.slice av2 m2 cv2).ownBlock with
                | none => rw [hx] at e; simp [Value.ownBlock] at e
                | some g2 => exact HQ.out.2.2.2.2.1 g2 hx (e.trans hx)
              · intro g2 hg2 hr2
                have h3 := HQ.out.2.2.2.2.2 g2 hr2
                rcases hat6 with e | e
                · exact HQ.out.2.2.2.2.1 g2 (e.symm.trans hg2) hr2
                · rw [e, hsz] at hg2; simp at hg2; omega
              · intro g2 hr2
                have h3 := HQ.out.2.2.2.2.2 g2 hr2
                omega
          · obtain rfl : j = mr := by omega
            have hT : (outN ns f zk nmI dq).take j = outN ns f zk nmI dq := List.take_of_length_le (by rw [HR.out.2.1]; exact Nat.le_refl _)
            rw [hT] at HQ
            have HF : Hid (OlSt w (.slice (some a2) n c) N (.slice an L1 cn) (.slice (some a') L2 ck) wr ∧ EnAt (w.heap.size + 1 + 1) wr (.slice av2 m2 cv2) (E0 ++ (N.ks.take (k + 1)).flatMap fun k => outN ns f k.toNat nmI dq) ∧ w.heap.size + 1 + 1 ≤ wr.heap.size) := ⟨HQ.out.2.1, by rw [HR.out.2.2.2.2.2.2.2.2, ← List.append_assoc]; exact HQ.out.2.2.1, HQ.out.2.2.2.1⟩
            clear hT HQ HR
            go_wp2_with fail
            go_roundw
            case measure => simp [intOf]; omega
            case rel => exact ⟨k + 1, by omega, by go_num, ⟨_, _, _, rfl⟩, HF⟩
      · obtain rfl : k = L2 := by omega
        rw [List.take_of_length_le (by rw [HH.out.2.2.2.2.1]; exact Nat.le_refl _)] at HS
        have hfin : EnAt w.heap.size wr (.slice av m cv) RR := by
          have h1 := HS.out.2.1
          rw [HO.out, HI.out.1, HI.out.2.1, HI.out.2.2]
          exact h1.le (by omega)
        have bw := HS.out.1.bl
        clear HS
        go_wp2_with fail
        go_ret
        exact ⟨_, rfl, hfin, bw⟩
  · have k36 : (N.k == 36) = false := by rw [beq_eq_false_iff_ne]; exact h36
    obtain ⟨dq, hdq⟩ : ∃ dq, dpB N dp = dq := ⟨_, rfl⟩
    obtain ⟨nmI, hnmI⟩ : ∃ x, innB N = x := ⟨_, rfl⟩
    obtain ⟨E0, hE0⟩ : ∃ E0, ownE N i name dp = E0 := ⟨_, rfl⟩
    have hE1 : E0 = [] := by rw [← hE0]; unfold ownE; rw [if_neg h36]
    have hdq1 : dq = dp := by rw [← hdq]; unfold dpB; rw [if_neg h36]
    have HI : Hid (ownE N i name dp = E0 ∧ innB N = nmI ∧ dpB N dp = dq) := ⟨hE0, hnmI, hdq⟩
    have hq0 : 0 ≤ dq := by omega
    have hq1 : dq + f ≤ 100000 := by omega
    have HE : Hid (E0 = []) := hE1
    clear h36 hdq hnmI hE0 hE1
    subst hdq1
    go_enter Tryz.func15, Tryz.ntmps15
    go_wp2_with fail
    have B0 := heap_alloc_new w (.cells #[.slice (some a2) n c] 30)
    have s1 : (w.alloc (.cells #[.slice (some a2) n c] 30)).heap.size = w.heap.size + 1 := World.size_alloc _ _
    have b1 := hb0 (.cells #[.slice (some a2) n c] 30)
    generalize w.alloc (.cells #[.slice (some a2) n c] 30) = W1 at B0 s1 b1 ⊢
    have B1 := heap_alloc_new W1 (.cells #[.int .i64 N.k, .int .i64 N.f, .int .i64 N.t, .int .i64 N.l, .int .i64 N.op, .int .i64 N.n, .string N.x, .slice an L1 cn, .slice ak L2 ck] 67)
    have b12 : Below W1.heap.size W1 (W1.alloc (.cells #[.int .i64 N.k, .int .i64 N.f, .int .i64 N.t, .int .i64 N.l, .int .i64 N.op, .int .i64 N.n, .string N.x, .slice an L1 cn, .slice ak L2 ck] 67)) := (Below.refl _ W1).alloc (Nat.le_refl _) _
    have s2 : (W1.alloc (.cells #[.int .i64 N.k, .int .i64 N.f, .int .i64 N.t, .int .i64 N.l, .int .i64 N.op, .int .i64 N.n, .string N.x, .slice an L1 cn, .slice ak L2 ck] 67)).heap.size = w.heap.size + 1 + 1 := by rw [World.size_alloc, s1]
    rw [s1] at B1
    generalize W1.alloc (.cells #[.int .i64 N.k, .int .i64 N.f, .int .i64 N.t, .int .i64 N.l, .int .i64 N.op, .int .i64 N.n, .string N.x, .slice an L1 cn, .slice ak L2 ck] 67) = W2 at B1 b12 s2 ⊢
    have HB : Hid (OlSt w (.slice (some a2) n c) N (.slice an L1 cn) (.slice ak L2 ck) W2 ∧ EnAt (w.heap.size + 1 + 1) W2 (.slice none 0 0) E0 ∧ w.heap.size + 1 + 1 ≤ W2.heap.size) := ⟨⟨one_cell1 ((b12.block _ (by omega)).trans B0), B1, b1.trans (b12.mono (by omega))⟩, by rw [HE.out]; exact EnAt.nil _ _, by omega⟩
    clear B0 s1 b1 B1 b12 s2 E0_ E1_ E2_ E3_ E4_ E5_ E6_ E7_ E8_ hb0 k36
    go_loopw [10, 40] (fun vo vi wr => ∃ k : Nat, k ≤ L2 ∧ vi = .int .i64 k ∧ (∃ av cv, ∃ m : Nat, vo = .slice av m cv) ∧ Hid (OlSt w (.slice (some a2) n c) N (.slice an L1 cn) (.slice ak L2 ck) wr ∧ EnAt (w.heap.size + 1 + 1) wr vo (E0 ++ (N.ks.take k).flatMap fun k => outN ns f k.toNat nmI dq) ∧ w.heap.size + 1 + 1 ≤ wr.heap.size)) (fun _ vi _ => L2 - (intOf vi).toNat)
    case atStart => exact ⟨0, by omega, rfl, ⟨_, _, _, rfl⟩, HB.out.1, by rw [List.take_zero, List.flatMap_nil, List.append_nil]; exact HB.out.2.1, HB.out.2.2⟩
    case round =>
      obtain ⟨k, hk, rfl, ⟨av, cv, m, rfl⟩, HS⟩ := hrel
      by_cases hlt : k < L2
      · obtain ⟨z, hz⟩ := some_at HH.out.2.2.2.2.1 hlt
        have hzb := HH.out.2.2.2.2.2.1 z (List.mem_of_getElem? hz)
        obtain ⟨zk, rfl⟩ : ∃ zk : Nat, z = (zk : Int) := ⟨z.toNat, by omega⟩
        obtain ⟨a', rfl, cz⟩ := (HH.out.2.2.1.below HS.out.1.bl).get hz
        have HTK : Hid ((N.ks.take (k + 1)).flatMap (fun k => outN ns f k.toNat nmI dq) = ((N.ks.take k).flatMap fun k => outN ns f k.toNat nmI dq) ++ outN ns f zk nmI dq) := by
          show _ = _
          rw [List.take_add_one, hz, List.flatMap_append]
          simp
        have HLT : Hid ((E0 ++ (((N.ks.take k).flatMap fun k => outN ns f k.toNat nmI dq) ++ outN ns f zk nmI dq)).length ≤ 3000) := by
          have h1 := HL.out
          rw [HO.out, HI.out.1, HI.out.2.1, HI.out.2.2] at h1
          have h2 : N.ks.flatMap (fun k => outN ns f k.toNat nmI dq) = (N.ks.take (k + 1)).flatMap (fun k => outN ns f k.toNat nmI dq) ++ (N.ks.drop (k + 1)).flatMap (fun k => outN ns f k.toNat nmI dq) := by rw [← List.flatMap_append, List.take_append_drop]
          rw [h2, HTK.out] at h1
          show _ ≤ _
          simp only [List.length_append] at h1 ⊢
          omega
        have hki : (k : Int) < (L2 : Int) := by omega
        have hk0 : (0 : Int) ≤ (k : Int) := by omega
        have kc := HH.out.2.2.2.2.2.2.2 zk wr (.slice (some a2) n c) nmI dq (by omega) (by rw [HH.out.2.2.2.2.2.2.1]; omega) (HH.out.1.below HS.out.1.bl) hq0 hq1
        obtain ⟨y0, y1, y2, y3, y4, y5, y6, y7, y8, yz⟩ := nd_cells HS.out.1.bx
        have ytb := HS.out.1.tb
        clear hz hzb
        by_cases h4 : N.k = 4
        · have k4 : (N.k == 4) = true := by rw [beq_iff_eq]; exact h4
          have hL1 := hn4 h4
          obtain ⟨s0, hs0⟩ := some_at HH.out.2.2.2.1 (show 0 < L1 by omega)
          obtain ⟨an', ean, cs0⟩ := (HH.out.2.1.below HS.out.1.bl).get hs0
          subst ean
          have cs1 : wr.cell? an' = some (.string s0) := by simpa [Addr.add] using cs0
          have hsn : nmI = s0 := by rw [← HI.out.2.1]; unfold innB; rw [if_pos h4, List.getD_eq_getElem?_getD, hs0]; rfl
          have hl0 : (0 : Int) < (L1 : Int) := by omega
          subst hsn
          clear h4 hs0 cs0
          go_wp2_with (go_at_call 15; fail)
          refine kc.mono ?_
          rintro e w5 ⟨vr, rfl, hro, hb5⟩
          clear kc y0 y1 y2 y3 y4 y5 y6 y7 y8 yz ytb cz
          obtain ⟨mr, hmr⟩ : ∃ mr, (outN ns f zk nmI dq).length = mr := ⟨_, rfl⟩
          obtain ⟨ar, cr, rfl⟩ := hro.formn hmr
          obtain ⟨wR, hwR⟩ : ∃ wR, wR = wr := ⟨wr, rfl⟩
          have HR : Hid (EnAt wR.heap.size w5 (.slice ar mr cr) (outN ns f zk nmI dq) ∧ (outN ns f zk nmI dq).length = mr ∧ OlSt w (.slice (some a2) n c) N (.slice (some an') L1 cn) (.slice (some a') L2 ck) w5 ∧ EnAt (w.heap.size + 1 + 1) w5 (.slice av m cv) (E0 ++ (N.ks.take k).flatMap fun k => outN ns f k.toNat nmI dq) ∧ w.heap.size + 1 + 1 ≤ w5.heap.size ∧ (∀ g, (Value.slice av m cv).ownBlock = some g → g < wR.heap.size) ∧ wR.heap.size ≤ w5.heap.size ∧ (E0 ++ (N.ks.take (k + 1)).flatMap fun k => outN ns f k.toNat nmI dq).length ≤ 3000 ∧ (N.ks.take (k + 1)).flatMap (fun k => outN ns f k.toNat nmI dq) = ((N.ks.take k).flatMap fun k => outN ns f k.toNat nmI dq) ++ outN ns f zk nmI dq) := by
            rw [hwR]
            refine ⟨hro, hmr, HS.out.1.below hb5, HS.out.2.1.below hb5, Nat.le_trans HS.out.2.2 hb5.size, fun g hg => (HS.out.2.1.lt g hg).2, hb5.size, ?_, ?_⟩
            · rw [HTK.out]
              have := HLT.out
              exact this
            · exact HTK.out
          have hmb : mr ≤ 3000 := by
            have h8 := HR.out.2.2.2.2.2.2.2.1
            rw [HR.out.2.2.2.2.2.2.2.2] at h8
            simp only [List.length_append] at h8
            have := HR.out.2.1
            omega
          clear hro hmr hb5 HS hwR
          go_wp2_with fail
          go_loopw [10, 57] (fun vo vi wq => ∃ j : Nat, j ≤ mr ∧ vi = .int .i64 j ∧ (∃ av cv, ∃ m : Nat, vo = .slice av m cv) ∧ Hid (EnAt wR.heap.size wq (.slice ar mr cr) (outN ns f zk nmI dq) ∧ OlSt w (.slice (some a2) n c) N (.slice (some an') L1 cn) (.slice (some a') L2 ck) wq ∧ EnAt (w.heap.size + 1 + 1) wq vo (E0 ++ ((N.ks.take k).flatMap fun k => outN ns f k.toNat nmI dq) ++ (outN ns f zk nmI dq).take j) ∧ w.heap.size + 1 + 1 ≤ wq.heap.size ∧ (∀ g, vo.ownBlock = some g → (Value.slice ar mr cr).ownBlock ≠ some g) ∧ (∀ g, (Value.slice ar mr cr).ownBlock = some g → g < wq.heap.size))) (fun _ vi _ => mr - (intOf vi).toNat)
          case atStart =>
            refine ⟨0, by omega, rfl, ⟨_, _, _, rfl⟩, HR.out.1, HR.out.2.2.1, by rw [List.take_zero, List.append_nil]; exact HR.out.2.2.2.1, HR.out.2.2.2.2.1, fun g hg hr => ?_, fun g hg => (HR.out.1.lt g hg).2⟩
            have h1 := HR.out.2.2.2.2.2.1 g hg
            have h2 := (HR.out.1.lt g hr).1
            omega
          case round =>
            obtain ⟨j, hj, rfl, ⟨av2, cv2, m2, rfl⟩, HQ⟩ := hrel
            by_cases hjl : j < mr
            · obtain ⟨e, he⟩ := some_at HR.out.2.1 hjl
              obtain ⟨g, rfl, -, q0, q1, q2, q3, hgl⟩ := HQ.out.1.get he
              have hji : (j : Int) < (mr : Int) := by omega
              have hj0 : (0 : Int) ≤ (j : Int) := by omega
              have HT : Hid ((outN ns f zk nmI dq).take (j + 1) = (outN ns f zk nmI dq).take j ++ [e]) := by show _ = _; rw [List.take_add_one, he]; rfl
              have hmlen := (HQ.out.2.2.1).form
              obtain ⟨A, hA⟩ : ∃ A, E0 ++ ((N.ks.take k).flatMap fun k => outN ns f k.toNat nmI dq) ++ (outN ns f zk nmI dq).take j = A := ⟨_, rfl⟩
              have hAl : A.length ≤ 3000 := by
                have h8 := HR.out.2.2.2.2.2.2.2.1
                rw [HR.out.2.2.2.2.2.2.2.2] at h8
                rw [← hA]
                simp only [List.length_append, List.length_take] at h8 ⊢
                omega
              rw [hA] at HQ hmlen
              have hm2 : m2 = A.length := by obtain ⟨_, _, e⟩ := hmlen; cases e; rfl
              have HA : Hid (E0 ++ ((N.ks.take k).flatMap fun k => outN ns f k.toNat nmI dq) ++ (outN ns f zk nmI dq).take j = A ∧ m2 = A.length) := ⟨hA, hm2⟩
              have bo : ∀ o1 o2, Below wr.heap.size wr ((wr.alloc o1).alloc o2) := fun o1 o2 => ((Below.refl _ wr).alloc (Nat.le_refl _) o1).alloc (by simp) o2
              clear he hA hmlen hm2
              go_wp2_with (at_builtin; refine wpList_en rfl _ _ rfl (w.heap.size + 1 + 1) (.slice av2 m2 cv2) A rfl (HQ.out.2.2.1.below (bo _ _)) (Nat.le_trans HQ.out.2.2.2.1 (bo _ _).size) ⟨_, 0, none⟩ 1 e rfl (news_enB _ _ (World.size_alloc _ _) e) (by omega) (m2 + 1) (by rw [HA.out.2]) ?_; intro av6 cv6 w6 ho6 hg6 hat6)
              have b6 := (HQ.out.2.2.1.below (bo (.cells #[.string e.nm, .int .i64 e.ln, .int .i64 e.dp, .int .i64 e.nd] 56) (.cells #[.string e.nm, .int .i64 e.ln, .int .i64 e.dp, .int .i64 e.nd] 56))).grown (Nat.le_trans HQ.out.2.2.2.1 (bo _ _).size) hg6
              have hsz : ((wr.alloc (.cells #[.string e.nm, .int .i64 e.ln, .int .i64 e.dp, .int .i64 e.nd] 56)).alloc (.cells #[.string e.nm, .int .i64 e.ln, .int .i64 e.dp, .int .i64 e.nd] 56)).heap.size = wr.heap.size + 1 + 1 := by simp
              have s6 := b6.size
              go_roundw
              case measure => simp [intOf]; omega
              case rel =>
                refine ⟨j + 1, by omega, by go_num, ⟨_, _, _, rfl⟩, ?_, (HQ.out.2.1.below (bo _ _)).belowB b6, by rw [HT.out, ← List.append_assoc, HA.out.1]; exact ho6, by have := HQ.out.2.2.2.1; omega, ?_, ?_⟩
                · have h1 := HQ.out.1.below (bo (.cells #[.string e.nm, .int .i64 e.ln, .int .i64 e.dp, .int .i64 e.nd] 56) (.cells #[.string e.nm, .int .i64 e.ln, .int .i64 e.dp, .int .i64 e.nd] 56))
                  refine World.ownsRow.kept h1 hg6 (.inr fun e => ?_)
                  cases hx : (Value.slice av2 m2 cv2).ownBlock with
                  | none => rw [hx] at e; simp [Value.ownBlock] at e
                  | some g2 => exact HQ.out.2.2.2.2.1 g2 hx (e.trans hx)
                · intro g2 hg2 hr2
                  have h3 := HQ.out.2.2.2.2.2 g2 hr2
                  rcases hat6 with e | e
                  · exact HQ.out.2.2.2.2.1 g2 (e.symm.trans hg2) hr2
                  · rw [e, hsz] at hg2; simp at hg2; omega
                · intro g2 hr2
                  have h3 := HQ.out.2.2.2.2.2 g2 hr2
                  omega
            · obtain rfl : j = mr := by omega
              have hT : (outN ns f zk nmI dq).take j = outN ns f zk nmI dq := List.take_of_length_le (by rw [HR.out.2.1]; exact Nat.le_refl _)
              rw [hT] at HQ
              have HF : Hid (OlSt w (.slice (some a2) n c) N (.slice (some an') L1 cn) (.slice (some a') L2 ck) wr ∧ EnAt (w.heap.size + 1 + 1) wr (.slice av2 m2 cv2) (E0 ++ (N.ks.take (k + 1)).flatMap fun k => outN ns f k.toNat nmI dq) ∧ w.heap.size + 1 + 1 ≤ wr.heap.size) := ⟨HQ.out.2.1, by rw [HR.out.2.2.2.2.2.2.2.2, ← List.append_assoc]; exact HQ.out.2.2.1, HQ.out.2.2.2.1⟩
              clear hT HQ HR
              go_wp2_with fail
              go_roundw
              case measure => simp [intOf]; omega
              case rel => exact ⟨k + 1, by omega, by go_num, ⟨_, _, _, rfl⟩, HF⟩
        · have k4 : (N.k == 4) = false := by rw [beq_eq_false_iff_ne]; exact h4
          have hsn : nmI = empB := by rw [← HI.out.2.1]; unfold innB; rw [if_neg h4]
          have kc2 := kc
          rw [hsn] at kc2
          clear h4
          unfold empB at kc2
          go_wp2_with (go_at_call 15; fail)
          refine kc2.mono ?_
          rintro e w5 ⟨vr, rfl, hro0, hb5⟩
          have hro : EnAt wr.heap.size w5 vr (outN ns f zk nmI dq) := by rw [hsn]; exact hro0
          clear hro0 kc2 kc y0 y1 y2 y3 y4 y5 y6 y7 y8 yz ytb cz
          obtain ⟨mr, hmr⟩ : ∃ mr, (outN ns f zk nmI dq).length = mr := ⟨_, rfl⟩
          obtain ⟨ar, cr, rfl⟩ := hro.formn hmr
          obtain ⟨wR, hwR⟩ : ∃ wR, wR = wr := ⟨wr, rfl⟩
          have HR : Hid (EnAt wR.heap.size w5 (.slice ar mr cr) (outN ns f zk nmI dq) ∧ (outN ns f zk nmI dq).length = mr ∧ OlSt w (.slice (some a2) n c) N (.slice an L1 cn) (.slice (some a') L2 ck) w5 ∧ EnAt (w.heap.size + 1 + 1) w5 (.slice av m cv) (E0 ++ (N.ks.take k).flatMap fun k => outN ns f k.toNat nmI dq) ∧ w.heap.size + 1 + 1 ≤ w5.heap.size ∧ (∀ g, (Value.slice av m cv).ownBlock = some g → g < wR.heap.size) ∧ wR.heap.size ≤ w5.heap.size ∧ (E0 ++ (N.ks.take (k + 1)).flatMap fun k => outN ns f k.toNat nmI dq).length ≤ 3000 ∧ (N.ks.take (k + 1)).flatMap (fun k => outN ns f k.toNat nmI dq) = ((N.ks.take k).flatMap fun k => outN ns f k.toNat nmI dq) ++ outN ns f zk nmI dq) := by
            rw [hwR]
            refine ⟨hro, hmr, HS.out.1.below hb5, HS.out.2.1.below hb5, Nat.le_trans HS.out.2.2 hb5.size, fun g hg => (HS.out.2.1.lt g hg).2, hb5.size, ?_, ?_⟩
            · rw [HTK.out]
              have := HLT.out
              exact this
            · exact HTK.out
          have hmb : mr ≤ 3000 := by
            have h8 := HR.out.2.2.2.2.2.2.2.1
            rw [HR.out.2.2.2.2.2.2.2.2] at h8
            simp only [List.length_append] at h8
            have := HR.out.2.1
            omega
          clear hro hmr hb5 HS hwR
          go_wp2_with fail
          go_loopw [10, 57] (fun vo vi wq => ∃ j : Nat, j ≤ mr ∧ vi = .int .i64 j ∧ (∃ av cv, ∃ m : Nat, vo = .slice av m cv) ∧ Hid (EnAt wR.heap.size wq (.slice ar mr cr) (outN ns f zk nmI dq) ∧ OlSt w (.slice (some a2) n c) N (.slice an L1 cn) (.slice (some a') L2 ck) wq ∧ EnAt (w.heap.size + 1 + 1) wq vo (E0 ++ ((N.ks.take k).flatMap fun k => outN ns f k.toNat nmI dq) ++ (outN ns f zk nmI dq).take j) ∧ w.heap.size + 1 + 1 ≤ wq.heap.size ∧ (∀ g, vo.ownBlock = some g → (Value.slice ar mr cr).ownBlock ≠ some g) ∧ (∀ g, (Value.slice ar mr cr).ownBlock = some g → g < wq.heap.size))) (fun _ vi _ => mr - (intOf vi).toNat)
          case atStart =>
            refine ⟨0, by omega, rfl, ⟨_, _, _, rfl⟩, HR.out.1, HR.out.2.2.1, by rw [List.take_zero, List.append_nil]; exact HR.out.2.2.2.1, HR.out.2.2.2.2.1, fun g hg hr => ?_, fun g hg => (HR.out.1.lt g hg).2⟩
            have h1 := HR.out.2.2.2.2.2.1 g hg
            have h2 := (HR.out.1.lt g hr).1
            omega
          case round =>
            obtain ⟨j, hj, rfl, ⟨av2, cv2, m2, rfl⟩, HQ⟩ := hrel
            by_cases hjl : j < mr
            · obtain ⟨e, he⟩ := some_at HR.out.2.1 hjl
              obtain ⟨g, rfl, -, q0, q1, q2, q3, hgl⟩ := HQ.out.1.get he
              have hji : (j : Int) < (mr : Int) := by omega
              have hj0 : (0 : Int) ≤ (j : Int) := by omega
              have HT : Hid ((outN ns f zk nmI dq).take (j + 1) = (outN ns f zk nmI dq).take j ++ [e]) := by show _ = _; rw [List.take_add_one, he]; rfl
              have hmlen := (HQ.out.2.2.1).form
              obtain ⟨A, hA⟩ : ∃ A, E0 ++ ((N.ks.take k).flatMap fun k => outN ns f k.toNat nmI dq) ++ (outN ns f zk nmI dq).take j = A := ⟨_, rfl⟩
              have hAl : A.length ≤ 3000 := by
                have h8 := HR.out.2.2.2.2.2.2.2.1
                rw [HR.out.2.2.2.2.2.2.2.2] at h8
                rw [← hA]
                simp only [List.length_append, List.length_take] at h8 ⊢
                omega
              rw [hA] at HQ hmlen
              have hm2 : m2 = A.length := by obtain ⟨_, _, e⟩ := hmlen; cases e; rfl
              have HA : Hid (E0 ++ ((N.ks.take k).flatMap fun k => outN ns f k.toNat nmI dq) ++ (outN ns f zk nmI dq).take j = A ∧ m2 = A.length) := ⟨hA, hm2⟩
              have bo : ∀ o1 o2, Below wr.heap.size wr ((wr.alloc o1).alloc o2) := fun o1 o2 => ((Below.refl _ wr).alloc (Nat.le_refl _) o1).alloc (by simp) o2
              clear he hA hmlen hm2
              go_wp2_with (at_builtin; refine wpList_en rfl _ _ rfl (w.heap.size + 1 + 1) (.slice av2 m2 cv2) A rfl (HQ.out.2.2.1.below (bo _ _)) (Nat.le_trans HQ.out.2.2.2.1 (bo _ _).size) ⟨_, 0, none⟩ 1 e rfl (news_enB _ _ (World.size_alloc _ _) e) (by omega) (m2 + 1) (by rw [HA.out.2]) ?_; intro av6 cv6 w6 ho6 hg6 hat6)
              have b6 := (HQ.out.2.2.1.below (bo (.cells #[.string e.nm, .int .i64 e.ln, .int .i64 e.dp, .int .i64 e.nd] 56) (.cells #[.string e.nm, .int .i64 e.ln, .int .i64 e.dp, .int .i64 e.nd] 56))).grown (Nat.le_trans HQ.out.2.2.2.1 (bo _ _).size) hg6
              have hsz : ((wr.alloc (.cells #[.string e.nm, .int .i64 e.ln, .int .i64 e.dp, .int .i64 e.nd] 56)).alloc (.cells #[.string e.nm, .int .i64 e.ln, .int .i64 e.dp, .int .i64 e.nd] 56)).heap.size = wr.heap.size + 1 + 1 := by simp
              have s6 := b6.size
              go_roundw
              case measure => simp [intOf]; omega
              case rel =>
                refine ⟨j + 1, by omega, by go_num, ⟨_, _, _, rfl⟩, ?_, (HQ.out.2.1.below (bo _ _)).belowB b6, by rw [HT.out, ← List.append_assoc, HA.out.1]; exact ho6, by have := HQ.out.2.2.2.1; omega, ?_, ?_⟩
                · have h1 := HQ.out.1.below (bo (.cells #[.string e.nm, .int .i64 e.ln, .int .i64 e.dp, .int .i64 e.nd] 56) (.cells #[.string e.nm, .int .i64 e.ln, .int .i64 e.dp, .int .i64 e.nd] 56))
                  refine World.ownsRow.kept h1 hg6 (.inr fun e => ?_)
                  cases hx : (Value.slice av2 m2 cv2).ownBlock with
                  | none => rw [hx] at e; simp [Value.ownBlock] at e
                  | some g2 => exact HQ.out.2.2.2.2.1 g2 hx (e.trans hx)
                · intro g2 hg2 hr2
                  have h3 := HQ.out.2.2.2.2.2 g2 hr2
                  rcases hat6 with e | e
                  · exact HQ.out.2.2.2.2.1 g2 (e.symm.trans hg2) hr2
                  · rw [e, hsz] at hg2; simp at hg2; omega
                · intro g2 hr2
                  have h3 := HQ.out.2.2.2.2.2 g2 hr2
                  omega
            · obtain rfl : j = mr := by omega
              have hT : (outN ns f zk nmI dq).take j = outN ns f zk nmI dq := List.take_of_length_le (by rw [HR.out.2.1]; exact Nat.le_refl _)
              rw [hT] at HQ
              have HF : Hid (OlSt w (.slice (some a2) n c) N (.slice an L1 cn) (.slice (some a') L2 ck) wr ∧ EnAt (w.heap.size + 1 + 1) wr (.slice av2 m2 cv2) (E0 ++ (N.ks.take (k + 1)).flatMap fun k => outN ns f k.toNat nmI dq) ∧ w.heap.size + 1 + 1 ≤ wr.heap.size) := ⟨HQ.out.2.1, by rw [HR.out.2.2.2.2.2.2.2.2, ← List.append_assoc]; exact HQ.out.2.2.1, HQ.out.2.2.2.1⟩
              clear hT HQ HR
              go_wp2_with fail
              go_roundw
              case measure => simp [intOf]; omega
              case rel => exact ⟨k + 1, by omega, by go_num, ⟨_, _, _, rfl⟩, HF⟩
      · obtain rfl : k = L2 := by omega
        rw [List.take_of_length_le (by rw [HH.out.2.2.2.2.1]; exact Nat.le_refl _)] at HS
        have hfin : EnAt w.heap.size wr (.slice av m cv) RR := by
          have h1 := HS.out.2.1
          rw [HO.out, HI.out.1, HI.out.2.1, HI.out.2.2]
          exact h1.le (by omega)
        have bw := HS.out.1.bl
        clear HS
        go_wp2_with fail
        go_ret
        exact ⟨_, rfl, hfin, bw⟩
end Go.Proofs.YtdgbmihokecmhaaGreatDoor

namespace Go.Proofs.YtdgbmihokecmhaaGreatDoor
open Go.RowKit Go.Maps Go.WideMaps
set_option linter.unusedVariables false

theorem nodeB_ofO {ns : List Nd} (h : (treeF ns).1 = 0) : ∀ (i : Nat) N, ns[i]? = some N → nodeB ns i N = true := by
  unfold treeF at h
  by_cases hb : badHead ns = true
  · rw [if_pos hb] at h; exact absurd h (by decide)
  rw [if_neg hb] at h
  obtain ⟨R1, hR1⟩ : ∃ R1, fstI (badNode ns) ns.length 0 = R1 := ⟨_, rfl⟩
  rw [hR1] at h
  cases R1 with
  | some i => rw [tf2] at h; exact absurd h (by simp)
  | none =>
    have hall := fst_none hR1
    intro i N hN
    have hi : i < ns.length := (List.getElem?_eq_some_iff.1 hN).1
    have h1 := hall i (Nat.zero_le _) (by omega)
    unfold badNode at h1
    rw [List.getD_eq_getElem?_getD, hN, Option.getD_some] at h1
    simpa using h1
/-- A SFn has a name, and one kid. -/
theorem name_of {ns : List Nd} (h : (treeF ns).1 = 0) : ∀ (i : Nat) N, ns[i]? = some N → N.k = 4 → 1 ≤ N.nm.length := fun i N hN h4 => by
  have h1 := nodeB_ofO h i N hN
  unfold nodeB at h1
  rw [Bool.and_eq_true, Bool.and_eq_true] at h1
  have h2 := h1.2.2
  unfold seB at h2
  have hs : statK N.k = true := by rw [h4]; decide
  rw [if_pos hs] at h2
  unfold stB at h2
  rw [if_neg (by omega), if_neg (by omega), if_neg (by omega), if_pos h4] at h2
  simp only [Bool.and_eq_true] at h2
  have h3 := h2.1.1.2
  unfold namedB at h3
  rw [Bool.and_eq_true] at h3
  have := of_decide_eq_true h3.1
  omega
theorem outline_ok {ns : List Nd} (h : (treeF ns).1 = 0) : ∀ f, OkO ns f
  | 0 => fun i W v name dp hi => by omega
  | f + 1 => outline_step ns h (name_of h) f (outline_ok h f)

set_option maxRecDepth 100000 in
set_option maxHeartbeats 6400000 in
theorem specOutline_any (w : World) (v : Value) (ns : List Nd) (h : NdsAt w v ns) (hl : ns.length ≤ 1048576) (sm : ∀ N ∈ ns, NdSmall N) :
    Calls Tryz.prog 5 #[.agg #[v]] w fun e w' => ∃ vo, e = .returned vo ∧ EnAt w.heap.size w' vo (outF ns) ∧ Below w.heap.size w w' := by
  obtain ⟨a, c, rfl⟩ := h.form
  obtain ⟨n, hn⟩ : ∃ n, ns.length = n := ⟨_, rfl⟩
  rw [hn] at h hl ⊢
  have hb0 : ∀ o, Below w.heap.size w (w.alloc o) := fun o => (Below.refl _ w).alloc (Nat.le_refl _) o
  have HH : Hid (NdsAt w (.slice a n c) ns ∧ ns.length = n) := ⟨h, hn⟩
  have kt := fun o => treeok_any (w.alloc o) (.slice a n c) ns (h.below (hb0 o)) (by omega) sm
  obtain ⟨F1, hF1⟩ : ∃ F1, (treeF ns).1 = F1 := ⟨_, rfl⟩
  obtain ⟨F2, hF2⟩ : ∃ F2, (treeF ns).2 = F2 := ⟨_, rfl⟩
  rw [hF1, hF2] at kt
  have HF : Hid ((treeF ns).1 = F1) := hF1
  clear h sm hn hF1 hF2
  go_enter Tryz.func5, Tryz.ntmps5
  go_wp2_with (go_at_call 14; fail)
  have B0 := heap_alloc_new w (.cells #[.slice a n c] 30)
  have hs0 : (w.alloc (.cells #[.slice a n c] 30)).heap.size = w.heap.size + 1 := World.size_alloc _ _
  refine (kt _).mono ?_
  rintro e w1 ⟨rfl, hb1⟩
  have B1 := (hb1.block _ (by omega)).trans B0
  have hbw1 : Below w.heap.size w w1 := (hb0 _).trans (hb1.mono (by omega))
  have hlt1 := lt_of_block B1
  clear B0 hb1 kt
  have b12 : ∀ o, Below w1.heap.size w1 (w1.alloc o) := fun o => (Below.refl _ w1).alloc (Nat.le_refl _) _
  by_cases h0 : F1 = 0
  · subst h0
    have c1 := one_cell1 B1
    have e1 : ((0 : Int) != 0) = false := rfl
    have sd := sound_of HF.out
    have hn1 := sd.len
    rw [HH.out.2] at hn1
    obtain ⟨m, hm⟩ : ∃ m, n = m + 1 := ⟨n - 1, by omega⟩
    have ko := fun o => outline_ok HF.out n m (w1.alloc o) (.slice a n c) empB 0 (by omega) (by rw [HH.out.2]; omega) ((HH.out.1.below hbw1).below (b12 o)) (by omega) (by omega)
    have HO : Hid (outF ns = outN ns n m empB 0) := by show _ = _; unfold outF; rw [if_pos HF.out, HH.out.2, hm]; rfl
    have em : ((m : Int) + 1) - 1 = (m : Int) := by omega
    have hm0 : (m : Int) ≤ 3000 := by omega
    have hm1 : (0 : Int) ≤ (m : Int) := by omega
    unfold empB at ko
    subst hm
    clear sd hn1
    go_wp2_with (go_at_call 15; refine (ko _).mono ?_; rintro e w5 ⟨vo, rfl, hro, hb5⟩)
    go_ret
    refine ⟨_, rfl, ?_, hbw1.trans (((b12 _).trans (hb5.mono (b12 _).size)).mono hbw1.size)⟩
    rw [HO.out]
    exact hro.le (by have := hbw1.size; simp; omega)
  · have e1 : (F1 != 0) = true := by rw [bne_iff_ne]; exact h0
    have c1 := one_cell1 B1
    have HE : Hid (outF ns = []) := by show _ = _; unfold outF; rw [if_neg (by rw [HF.out]; exact h0)]
    clear h0
    go_wp2_with fail
    go_ret
    exact ⟨_, rfl, by rw [HE.out]; exact EnAt.nil _ _, hbw1.trans ((b12 _).mono hbw1.size)⟩
end Go.Proofs.YtdgbmihokecmhaaGreatDoor
