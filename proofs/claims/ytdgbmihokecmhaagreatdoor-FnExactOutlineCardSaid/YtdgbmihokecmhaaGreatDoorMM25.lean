import Derived.Test.YtdgbmihokecmhaaGreatDoorMM20
import Derived.Test.YtdgbmihokecmhaaGreatDoorMM24
namespace Go.Proofs.YtdgbmihokecmhaaGreatDoor
open Go.RowKit
set_option linter.unusedVariables false
set_option linter.unusedSimpArgs false
attribute [local go_sem] Oper.semAt_some

def deepV : Option Nat → Value
  | some i => .tuple #[.int .i64 (i : Int), .bool true]
  | none => .tuple #[.int .i64 0, .bool false]
/-- The depths as they are reckoned. -/
structure FdSt (w : World) (B : Nat) (vs : Value) (n : Nat) (D : List Int) (W : World) : Prop where
  bl : Below w.heap.size w W
  row : W.ownsRow w.heap.size 3 1 (.slice (some ⟨w.heap.size, 0, none⟩) n n) n (D.map (Value.int .i64))
  bx : W.heap[B]? = some (.cells #[.slice (some ⟨w.heap.size, 0, none⟩) n n] 64 (0, 0))
  bs : W.heap[B + 1]? = some (.cells #[vs] 48 (0, 0))
  ok : DpOk n D
theorem FdSt.put {w : World} {B : Nat} {vs : Value} {n : Nat} {D : List Int} {W : World} (h : FdSt w B vs n D W) (hB : w.heap.size < B) {r : Loop} {k : Nat} (hk : B + 1 < k) (hl : W.heap[k]? = some (.loop r)) (o : Obj) : FdSt w B vs n D (W.putObj k o) :=
  ⟨h.bl.grown (grownBy_putObj' W k o) h.bl.size (fun j e => by cases e; omega), ownsRow_putObj h.row o hl rfl, (World.putObj_heap_other (by omega)).trans h.bx, (World.putObj_heap_other (by omega)).trans h.bs, h.ok⟩
/-- A round over the kids of node t. -/
structure FkSt (w : World) (B : Nat) (vs : Value) (n t : Nat) (ks D : List Int) (j : Nat) (E : List Int) (W0 W : World) : Prop where
  st : FdSt w B vs n E W
  rest : dpK t (ks.drop j) E = dpK t ks D
  kf : KeepsFrom (B + 2) W0 W

theorem own_shape {W : World} {base e size n : Nat} {v : Value} {xs : List Value} (h : W.ownsRow base e size v n xs) : ∃ a cap, v = .slice a n cap := by
  rcases h.2 with ⟨rfl, hn⟩ | ⟨g, cap, cur, rfl, _⟩
  · exact ⟨none, 0, by rw [hn]⟩
  · exact ⟨_, _, rfl⟩
theorem own_lenN {W : World} {base e size n m c : Nat} {a : Option Addr} {xs : List Value} (h : W.ownsRow base e size (.slice a n c) m xs) : n = m := by
  obtain ⟨a', c', e⟩ := own_shape h
  cases e; rfl
/-- The node at a place, and its kid. -/
theorem NsAt.at {W : World} {base g n c : Nat} {L : List Im} (h : NsAt W base (.slice (some ⟨g, 0, none⟩) n c) L) {i : Nat} {x : Im} (hx : L[i]? = some x) : W.cell? ⟨g, i, none⟩ = some (.iface (ptT (cls x.N.k)) (.pointer (some ⟨x.b, 0, none⟩))) := by
  have hl : i < L.length := (List.getElem?_eq_some_iff.1 hx).1
  have hn := own_lenN h.row
  subst hn
  rw [h.row.cellAt i (by omega), List.getElem?_map, hx]; rfl
theorem NsAt.kidAt {W : World} {base : Nat} {vs : Value} {L : List Im} (h : NsAt W base vs L) {i : Nat} {x : Im} (hx : L[i]? = some x) {g n c : Nat} (hv : x.kv = .slice (some ⟨g, 0, none⟩) n c) {j : Nat} {z : Int} (hz : x.N.ks[j]? = some z) :
    ∃ q y, z = ((q : Nat) : Int) ∧ q < i ∧ L[q]? = some y ∧ W.cell? ⟨g, j, none⟩ = some (.iface (ptT (cls y.N.k)) (.pointer (some ⟨y.b, 0, none⟩))) := by
  obtain ⟨z0, z1⟩ := h.rng i x z hx (List.mem_of_getElem? hz)
  obtain ⟨q, rfl⟩ := Int.eq_ofNat_of_zero_le z0
  have hil : i < L.length := (List.getElem?_eq_some_iff.1 hx).1
  have hjl : j < x.N.ks.length := (List.getElem?_eq_some_iff.1 hz).1
  have hq : q < i := by omega
  refine ⟨q, L[q]'(by omega), rfl, hq, List.getElem?_eq_getElem _, ?_⟩
  have hk := h.kid i x hx
  rw [hv] at hk
  have hn := own_lenN hk
  subst hn
  rw [hk.cellAt j (by omega)]
  unfold kidsIn
  rw [List.getElem?_map, hz]
  simp only [Option.map_some, Int.toNat_natCast]
  rw [List.getElem?_take, if_pos hq, List.getElem?_eq_getElem (by omega)]
  rfl

set_option maxRecDepth 100000 in
set_option maxHeartbeats 12800000 in
theorem firstDeep_any (w : World) (base : Nat) (vs : Value) (L : List Im) (hN : NsAt w base vs L) (ns : List Nd) (hns : L.map Im.N = ns) (n : Nat) (hLn : L.length = n) (h0 : 1 ≤ n) (h1 : n ≤ 3000) (hks : ∀ x ∈ L, x.N.ks.length ≤ 200) :
    Calls Tryz.prog 33 #[vs] w fun e w' => e = .returned (deepV (fstI (badDeep (dps ns)) n 0)) ∧ Below w.heap.size w w' := by
  obtain ⟨g, cap, rfl⟩ : ∃ g c, vs = .slice (some ⟨g, 0, none⟩) n c := by
    rcases own_zero_or hN.row with ⟨h, _⟩ | h
    · omega
    · rw [← hLn]; exact h
  have hcap : n ≤ cap := by
    rcases hN.row.2 with ⟨h1, _⟩ | ⟨g2, cap2, cur, h1, _, _, h4, _⟩
    · cases h1
    · cases h1; omega
  obtain ⟨i0, hi, hz0, hz1, hz2⟩ := info_parts infoInt
  obtain ⟨R, hR⟩ : ∃ R, fstI (badDeep (dps ns)) n 0 = R := ⟨_, rfl⟩
  rw [hR]
  have HN : Hid (NsAt w base (.slice (some ⟨g, 0, none⟩) n cap) L ∧ L.map Im.N = ns ∧ L.length = n ∧ fstI (badDeep (dps ns)) n 0 = R ∧ ∀ x ∈ L, x.N.ks.length ≤ 200) := ⟨hN, hns, hLn, hR, hks⟩
  clear hN hns hLn hR hks
  refine callsIn_wide (n := 5).1 ?_
  refine callsIn_of_wp_marks Tryz.func33 rfl trivial ?_ rfl
  simp only [Tryz.ntmps33, List.size_toArray, List.length_cons, List.length_nil, Nat.reduceAdd, Nat.reduceSub, Array.replicate_succ, Array.replicate_zero, List.push_toArray, List.append_toArray, List.nil_append, List.cons_append]
  refine wpIn_wide.2 ?_
  go_wp2_with (first | (at_make; refine wpList_make_full _ rfl _ _ 64 rfl w.heap.size 3 i0 (.int .i64 0) 1 Tryz.underlying64 hi hz0 hz1 .i64 .i64 _ _ n rfl rfl rfl rfl (by rw [hz2]; omega) (by unfold maxLen; omega) (Nat.le_refl _) ?_; intro w0 hown0 hgrow0) | (go_at_call 50; refine (backward_any (some ⟨g, 0, none⟩) n cap _).mono ?_; rintro e w2 ⟨rfl, rfl⟩))
  rename_i K hK
  have hb0 : Below w.heap.size w w0 := ⟨hgrow0.os, hgrow0.tape, hgrow0.output, hgrow0.size, fun k hk => hgrow0.block k hk (by simp)⟩
  rw [show (madeCells (Value.int .i64 0).cells (n * 1)).toList = List.replicate n (Value.int .i64 0) by rw [Nat.mul_one]; exact toList_madeCells_one _ n] at hown0
  have hs0 : w.heap.size < w0.heap.size := (hown0.lt w.heap.size rfl).2
  obtain ⟨B, hB⟩ : ∃ B, w0.heap.size = B := ⟨_, rfl⟩
  have hst0 : FdSt w B (.slice (some ⟨g, 0, none⟩) n cap) n (List.replicate n 0) ((w0.alloc (.cells #[.slice (some ⟨w.heap.size, 0, none⟩) n n] 64)).alloc (.cells #[.slice (some ⟨g, 0, none⟩) n cap] 48)) := by
    refine ⟨(hb0.alloc (by omega) _).alloc (by simp; omega) _, ?_, ?_, ?_, ?_⟩
    · rw [List.map_replicate]; exact (hown0.alloc _).alloc _
    · exact (Below.heap_alloc _ _ _ (by simp; omega)).trans (by rw [← hB]; exact heap_alloc_new w0 _)
    · have := heap_alloc_new (w0.alloc (.cells #[.slice (some ⟨w.heap.size, 0, none⟩) n n] 64)) (.cells #[.slice (some ⟨g, 0, none⟩) n cap] 48)
      rw [World.size_alloc, hB] at this; exact this
    · refine ⟨by simp, fun j z hj => ?_⟩
      obtain ⟨h1, h2⟩ := List.getElem?_eq_some_iff.1 hj
      simp at h1 h2
      omega
  have hsz : ((w0.alloc (.cells #[.slice (some ⟨w.heap.size, 0, none⟩) n n] 64)).alloc (.cells #[.slice (some ⟨g, 0, none⟩) n cap] 48)).heap.size = B + 2 := by simp; omega
  rw [hB] at hs0 ⊢
  generalize (w0.alloc (.cells #[.slice (some ⟨w.heap.size, 0, none⟩) n n] 64)).alloc (.cells #[.slice (some ⟨g, 0, none⟩) n cap] 48) = W0 at hst0 hsz ⊢
  clear hown0 hgrow0 hb0 hB
  refine (wpIn_wide (n := 5)).1 ?_
  refine rangeDown (P := Tryz.prog) (gf := 68) (lb := #[.pointer (some ⟨B + 1, 0, none⟩)]) rfl (enters_of Tryz.func68 (by kernel_rfl) rfl)
    (fun m => #[.int .i64 (m : Int), match L[m]? with | some x => .iface (ptT (cls x.N.k)) (.pointer (some ⟨x.b, 0, none⟩)) | none => .nilIface]) (fun _ => rfl) n
    (fun m W => ∃ D, FdSt w B (.slice (some ⟨g, 0, none⟩) n cap) n D W ∧ dpN ns m D = dps ns)
    (fun m a' W => (∃ D, FdSt w B (.slice (some ⟨g, 0, none⟩) n cap) n D W ∧ dpN ns (m + 1) D = dps ns) ∧ ∃ x, L[m]? = some x ∧
      a' = { tmps := #[.slice (some ⟨g, 0, none⟩) n cap, undef, .int .i64 0, .bool false, .pointer (some ⟨B, 0, none⟩), .int .i64 (m : Int), .iface (ptT (cls x.N.k)) (.pointer (some ⟨x.b, 0, none⟩)), undef, undef, undef, undef,
        .slice (some ⟨g, 0, none⟩) n cap, .int .i64 (n : Int), .slice (some ⟨w.heap.size, 0, none⟩) n n, .slice (some ⟨g, 0, none⟩) n cap, .func (.func 68) #[] #[.pointer (some ⟨B + 1, 0, none⟩)], .int .i64 (m : Int), .iface (ptT (cls x.N.k)) (.pointer (some ⟨x.b, 0, none⟩)),
        undef, undef, undef, undef, undef, undef, undef, undef, undef, undef, undef, undef, undef, undef, undef, undef, undef, undef, undef, undef, undef, undef, undef, undef, undef, undef, undef, undef, undef, undef, undef, undef, undef, undef], defers := [] })
    (fun _ => False)
    ?pZ ?pAx ?pX ?h0 ?assign ?body ?seq ?done ?ret
  case pZ =>
    rintro m W r o ⟨D, h, hd⟩ hl
    rw [hsz] at hl ⊢
    exact ⟨D, h.put hs0 (by omega) hl o, hd⟩
  case pAx =>
    rintro m a' W r o ⟨⟨D, h, hd⟩, x, hx, rfl⟩ hl
    rw [hsz] at hl ⊢
    exact ⟨⟨D, h.put hs0 (by omega) hl o, hd⟩, x, hx, rfl⟩
  case pX => intro W r o h; exact h.elim
  case h0 =>
    intro W1 hb hs
    have hb2 : Below w.heap.size w W1 := hst0.bl.trans (hb.mono (by omega))
    exact ⟨List.replicate n 0, ⟨hb2, own_keep hst0.row hb, (hb.block _ (by omega)).trans hst0.bx, (hb.block _ (by omega)).trans hst0.bs, hst0.ok⟩, by rw [dps, ← HN.out.2.1, List.length_map, HN.out.2.2.1]⟩
  case assign =>
    rintro l m W K2 hm ⟨D, h, hd⟩ hK2
    obtain ⟨x, hx⟩ := some_at HN.out.2.2.1 hm
    rw [hx] at ⊢
    have HK := fun a' => hK2 a' W
    have HD : Hid (FdSt w B (.slice (some ⟨g, 0, none⟩) n cap) n D W ∧ dpN ns (m + 1) D = dps ns ∧ L[m]? = some x) := ⟨h, hd, hx⟩
    clear h hd hx
    gi_wp2
    exact hK2 _ _ ⟨⟨D, HD.out.1, HD.out.2.1⟩, x, HD.out.2.2, rfl⟩ (KeepsFrom.refl _ _)
  case body =>
    rintro l m a' W hm ⟨⟨D, h, hd⟩, x, hx, rfl⟩
    rw [hsz]
    have hbx := cell_kept h.bl (HN.out.1.box m x hx).cells.2.2.2.2.1
    have hkd := HN.out.1.kid m x hx
    obtain ⟨av, cv, hkv⟩ := own_shape hkd
    rw [hkv] at hbx
    have hkl := HN.out.2.2.2.2 x (List.mem_of_getElem? hx)
    obtain ⟨ln, hln⟩ : ∃ ln, x.N.ks.length = ln := ⟨_, rfl⟩
    rw [hln] at hbx hkl hkv
    have hnx : ns[m]? = some x.N := by rw [← HN.out.2.1, List.getElem?_map, hx]; rfl
    have hd2 : dpN ns m (dpK m x.N.ks D) = dps ns := by
      rw [dpN, List.getD_eq_getElem?_getD, hnx, Option.getD_some] at hd
      exact hd
    have HD : Hid (L[m]? = some x ∧ dpN ns m (dpK m x.N.ks D) = dps ns ∧ x.N.ks.length = ln ∧ x.kv = .slice av ln cv) := ⟨hx, hd2, hln, hkv⟩
    have HK0 : Hid (FkSt w B (.slice (some ⟨g, 0, none⟩) n cap) n m x.N.ks D 0 D W W) := ⟨h, rfl, KeepsFrom.refl _ _⟩
    have hmt := fun w => methK x.N.k x.b w
    have hmi : (m : Int) < (n : Int) := by omega
    have hm0 : (0 : Int) ≤ (m : Int) := by omega
    have kh := fun (b : Nat) w => CallsIn.inRound l (callsIn_wide (n := 2).2 (head_any b w))
    generalize ptT (cls x.N.k) = tp at hmt ⊢
    clear hx hd hd2 hkd hnx hln hkv h
    gi_wp2_with (refine ⟨trivial, ?_⟩; gi_at_call 160; refine (kh _ _).mono ?_; rintro e w3 ⟨rfl, hw3⟩; subst w3)
    gi_loopw [24] (fun vi w6 => ∃ (j : Nat) (E : List Int), j ≤ ln ∧ vi = .int .i64 j ∧ Hid (FkSt w B (.slice (some ⟨g, 0, none⟩) n cap) n m x.N.ks D j E W w6)) (fun vi _ => ln - (intOf vi).toNat)
    case atStart => exact ⟨0, D, Nat.zero_le _, rfl, HK0⟩
    case round =>
      obtain ⟨j, E, hj, rfl, HE⟩ := hrel
      clear HK0 hbx hmt
      by_cases hjl : j < ln
      · have hji : (j : Int) < (ln : Int) := by omega
        have hj0 : (0 : Int) ≤ (j : Int) := by omega
        obtain ⟨z, hz⟩ := some_at HD.out.2.2.1 hjl
        have hkv := HD.out.2.2.2
        obtain ⟨gk, hgk⟩ : ∃ gk, av = some ⟨gk, 0, none⟩ := by
          have hkd := HN.out.1.kid m x HD.out.1
          rw [hkv] at hkd
          rcases own_zero_or hkd with ⟨h, _⟩ | ⟨gk, c, h⟩
          · rw [HD.out.2.2.1] at h; omega
          · cases h; exact ⟨_, rfl⟩
        subst hgk
        obtain ⟨q, y, rfl, hq, hy, hcy⟩ := (HN.out.1.below (HE.out.st.bl)).kidAt HD.out.1 hkv hz
        have hnum := cell_kept HE.out.st.bl (HN.out.1.box q y hy).cells.2.2.2.1
        obtain ⟨et, het⟩ := some_at HE.out.st.ok.1 hm
        obtain ⟨eq_, heq⟩ := some_at HE.out.st.ok.1 (show q < n by omega)
        have hbd := HE.out.st.ok.2 m et het
        have hed : FdSt w B (.slice (some ⟨g, 0, none⟩) n cap) n E wr.drew := ⟨HE.out.st.bl.drew, HE.out.st.row, HE.out.st.bx, HE.out.st.bs, HE.out.st.ok⟩
        have hrow := hed.row
        have ct : wr.drew.cell? ⟨w.heap.size, m, none⟩ = some (.int .i64 et) := by rw [hrow.cellAt m (by omega), List.getElem?_map, het]; rfl
        have cq : wr.drew.cell? ⟨w.heap.size, q, none⟩ = some (.int .i64 eq_) := by rw [hrow.cellAt q (by omega), List.getElem?_map, heq]; rfl
        have fq := hrow.frozenAt q
        have hgt : E.getD m 0 = et := by rw [List.getD_eq_getElem?_getD, het]; rfl
        have o2 := (hrow.stored q (.int .i64 (et + 1))).1
        rw [← List.map_set] at o2
        have ok2 := HE.out.st.ok.set m q hm hq
        rw [hgt] at ok2
        have hrest : dpK m (x.N.ks.drop (j + 1)) (E.set q (et + 1)) = dpK m x.N.ks D := by
          have h1 := HE.out.rest
          have hjk := (List.getElem?_eq_some_iff.1 hz)
          rw [List.drop_eq_getElem_cons hjk.1, hjk.2, dpK, hgt] at h1
          exact h1
        have cb : wr.drew.cell? ⟨B, 0, none⟩ = _ := one_cell1 hed.bx
        have st2 : FdSt w B (.slice (some ⟨g, 0, none⟩) n cap) n (E.set q (et + 1)) (wr.drew.setCell ⟨w.heap.size, q, none⟩ (.int .i64 (et + 1))) :=
          ⟨hed.bl.setCell (Nat.le_refl _) _, o2, (heap_setCell_other _ _ _ _ (by simp; omega)).trans hed.bx, (heap_setCell_other _ _ _ _ (by simp; omega)).trans hed.bs, ok2⟩
        have HE2 : Hid (FkSt w B (.slice (some ⟨g, 0, none⟩) n cap) n m x.N.ks D (j + 1) (E.set q (et + 1)) W (wr.drew.setCell ⟨w.heap.size, q, none⟩ (.int .i64 (et + 1)))) := ⟨st2, hrest, HE.out.kf.trans (((KeepsOthers.drew wr).from _).trans ((KeepsOthers.setCell _ _ _).from _))⟩
        have hnq : q ≠ m := by omega
        have hwrp : IntKind.i64.wrap (et + 1) = et + 1 := by rw [IntKind.wrap_i64]; omega
        have hyb0 := lt_of_block (HN.out.1.box q y hy)
        have hS2 : (wr.drew.setCell ⟨w.heap.size, q, none⟩ (.int .i64 (et + 1))).cell? ⟨B, 0, none⟩ = some (.slice (some ⟨w.heap.size, 0, none⟩) n n) ∧ (wr.drew.setCell ⟨w.heap.size, q, none⟩ (.int .i64 (et + 1))).cell? ⟨y.b, 4, none⟩ = some (.int .i64 (q : Int)) ∧ (wr.drew.setCell ⟨w.heap.size, q, none⟩ (.int .i64 (et + 1))).cell? ⟨w.heap.size, m, none⟩ = some (.int .i64 et) :=
          ⟨(World.cell?_setCell_far _ _ _ _ (by simp; omega)).trans cb, (World.cell?_setCell_far _ _ _ _ (by simp; omega)).trans hnum, (World.cell?_setCell_other _ _ _ _ (by simp; try omega)).trans ct⟩
        have hqm : (q : Int) < (n : Int) := by omega
        have hq0 : (0 : Int) ≤ (q : Int) := by omega
        have hmt := fun w => methK y.N.k y.b w
        generalize ptT (cls y.N.k) = tp2 at hmt hcy
        clear hz HE o2 ok2 hrest st2 hrow het heq hgt hkv hy hed
        gi_wp2_with (refine ⟨trivial, ?_⟩; gi_at_call 160; refine (kh _ _).mono ?_; rintro e w3 ⟨rfl, hw3⟩; subst w3)
        have hS0 : wr.drew.cell? ⟨B, 0, none⟩ = some (.slice (some ⟨w.heap.size, 0, none⟩) n n) ∧ wr.drew.cell? ⟨y.b, 4, none⟩ = some (.int .i64 (q : Int)) ∧ wr.drew.cell? ⟨w.heap.size, m, none⟩ = some (.int .i64 et) := ⟨cb, hnum, ct⟩
        refine region_round (S := fun w' => w'.cell? ⟨B, 0, none⟩ = some (.slice (some ⟨w.heap.size, 0, none⟩) n n) ∧ w'.cell? ⟨y.b, 4, none⟩ = some (.int .i64 (q : Int)) ∧ w'.cell? ⟨w.heap.size, m, none⟩ = some (.int .i64 et)) (by kernel_rfl) (by kernel_rfl) (fun ⟨_, _, h⟩ => h) hS0 (fun hS => ?_)
        refine takeAt 0 28 (.slice (some ⟨w.heap.size, 0, none⟩) n n) rfl rfl (by kernel_rfl) (by kernel_rfl) (by kernel_rfl) (fun _ _ _ h => h) (by rfl) hS (fun w' hw' => by obtain ⟨s1, s2, s3⟩ := hw'; go_simp) ?_
        simp only [Act.put, List.setIfInBounds_toArray, List.set_cons_zero, List.set_cons_succ]
        refine takeAt 1 29 (.iface tp2 (.pointer (some ⟨y.b, 0, none⟩))) rfl rfl (by kernel_rfl) (by kernel_rfl) (by kernel_rfl) (fun _ _ _ h => h) (by rfl) hS (fun w' hw' => by obtain ⟨s1, s2, s3⟩ := hw'; go_simp) ?_
        simp only [Act.put, List.setIfInBounds_toArray, List.set_cons_zero, List.set_cons_succ]
        refine takeAt 6 34 (.slice (some ⟨w.heap.size, 0, none⟩) n n) rfl rfl (by kernel_rfl) (by kernel_rfl) (by kernel_rfl) (fun _ _ _ h => h) (by rfl) hS (fun w' hw' => by obtain ⟨s1, s2, s3⟩ := hw'; go_simp) ?_
        simp only [Act.put, List.setIfInBounds_toArray, List.set_cons_zero, List.set_cons_succ]
        refine takeAt 7 35 (.int .i64 (m : Int)) rfl rfl (by kernel_rfl) (by kernel_rfl) (by kernel_rfl) (fun _ _ _ h => h) (by rfl) hS (fun w' hw' => by obtain ⟨s1, s2, s3⟩ := hw'; go_simp) ?_
        simp only [Act.put, List.setIfInBounds_toArray, List.set_cons_zero, List.set_cons_succ]
        refine takeAt 8 36 (.pointer (some ⟨w.heap.size, m, none⟩)) rfl rfl (by kernel_rfl) (by kernel_rfl) (by kernel_rfl) (fun _ _ _ h => h) (by rfl) hS (fun w' hw' => by obtain ⟨s1, s2, s3⟩ := hw'; go_simp) ?_
        simp only [Act.put, List.setIfInBounds_toArray, List.set_cons_zero, List.set_cons_succ]
        refine takeAt 9 37 (.int .i64 et) rfl rfl (by kernel_rfl) (by kernel_rfl) (by kernel_rfl) (fun _ _ _ h => h) (by rfl) hS (fun w' hw' => by obtain ⟨s1, s2, s3⟩ := hw'; go_simp) ?_
        simp only [Act.put, List.setIfInBounds_toArray, List.set_cons_zero, List.set_cons_succ]
        refine takeAt 10 38 (.int .i64 (et + 1)) rfl rfl (by kernel_rfl) (by kernel_rfl) (by kernel_rfl) (fun _ _ _ h => h) (by rfl) hS (fun w' hw' => by obtain ⟨s1, s2, s3⟩ := hw'; go_simp) ?_
        simp only [Act.put, List.setIfInBounds_toArray, List.set_cons_zero, List.set_cons_succ]
        refine wpAnyH_ready (rs := [2]) (by kernel_rfl) (by simp) (AllReadyH.cons rfl (fun K3 hK3 => ?_) AllReadyH.nil)
        go_simp
        refine (head_any _ _).mono ?_
        rintro e w3 ⟨rfl, hw3⟩
        subst w3
        refine hK3.out _ _ hS (fun hS => ?_)
        clear hK3 K3
        try simp only [Act.put, List.setIfInBounds_toArray, List.set_cons_zero, List.set_cons_succ]
        refine takeAt 3 31 (.pointer (some ⟨y.b, 0, none⟩)) rfl rfl (by kernel_rfl) (by kernel_rfl) (by kernel_rfl) (fun _ _ _ h => h) (by rfl) hS (fun w' hw' => by obtain ⟨s1, s2, s3⟩ := hw'; go_simp) ?_
        simp only [Act.put, List.setIfInBounds_toArray, List.set_cons_zero, List.set_cons_succ]
        refine takeAt 4 32 (.pointer (some ⟨y.b, 4, none⟩)) rfl rfl (by kernel_rfl) (by kernel_rfl) (by kernel_rfl) (fun _ _ _ h => h) (by rfl) hS (fun w' hw' => by obtain ⟨s1, s2, s3⟩ := hw'; go_simp) ?_
        simp only [Act.put, List.setIfInBounds_toArray, List.set_cons_zero, List.set_cons_succ]
        refine takeAt 5 33 (.int .i64 (q : Int)) rfl rfl (by kernel_rfl) (by kernel_rfl) (by kernel_rfl) (fun _ _ _ h => h) (by rfl) hS (fun w' hw' => by obtain ⟨s1, s2, s3⟩ := hw'; go_simp) ?_
        simp only [Act.put, List.setIfInBounds_toArray, List.set_cons_zero, List.set_cons_succ]
        refine takeAt 11 39 (.pointer (some ⟨w.heap.size, q, none⟩)) rfl rfl (by kernel_rfl) (by kernel_rfl) (by kernel_rfl) (fun _ _ _ h => h) (by rfl) hS (fun w' hw' => by obtain ⟨s1, s2, s3⟩ := hw'; go_simp) ?_
        simp only [Act.put, List.setIfInBounds_toArray, List.set_cons_zero, List.set_cons_succ]
        refine wpAnyH_ready (rs := [12]) (by kernel_rfl) (by simp) (AllReadyH.cons rfl (fun K3 hK3 => ?_) AllReadyH.nil)
        go_simp
        refine hK3.out _ _ hS2 (fun hS => ?_)
        clear hK3 K3
        refine wpAnyH_done (by kernel_rfl) ?_ _
        gi_wp2
        exact ⟨⟨j + 1, _, by omega, by go_num, HE2⟩, by simp [intOf]; omega⟩
      · obtain rfl : j = ln := by omega
        have hfin : Hid (FdSt w B (.slice (some ⟨g, 0, none⟩) n cap) n E wr ∧ dpN ns m E = dps ns ∧ KeepsFrom (B + 2) W wr) := by
          refine ⟨HE.out.st, ?_, HE.out.kf⟩
          have h1 := HE.out.rest
          rw [List.drop_of_length_le (by rw [HD.out.2.2.1]; exact Nat.le_refl _), dpK] at h1
          rw [h1]
          exact HD.out.2.1
        clear HE
        gi_wp2
        exact ⟨hfin.out.2.2, E, hfin.out.1, hfin.out.2.1⟩
  case seq =>
    intro l J Jx hJ hY W hW
    refine back1_in 4 l (B + 1) n cap (some ⟨g, 0, none⟩) _ h1 hcap J Jx (fun m W h => ?_) (fun m W h j hj => ?_) hY W hW
    · obtain ⟨D, hd, _⟩ := hJ m W h
      exact one_cell1 hd.bs
    · obtain ⟨D, hd, _⟩ := hJ m W h
      obtain ⟨x, hx⟩ := some_at HN.out.2.2.1 hj
      refine ⟨_, rfl, ?_⟩
      rw [add_zero_at, hx]
      exact cell_kept hd.bl (HN.out.1.at hx)
  case ret => intro W h; exact h.elim
  case done =>
    rintro W ⟨D, h, hd⟩ hD
    have hDd : D = dps ns := hd
    refine hK _ _ ?_
    have cb := one_cell1 h.bx
    have HD : Hid (FdSt w B (.slice (some ⟨g, 0, none⟩) n cap) n D W ∧ W.heap[B + 2]? = some (.deferred (some []))) := ⟨h, by rw [← hsz]; exact hD⟩
    have HF0 : FsIs (badDeep D) (n - 0) 0 R := ⟨by rw [hDd]; exact HN.out.2.2.2.1⟩
    have hBW : w.heap.size < B + 2 := by omega
    rw [hsz]
    clear h hd hD hDd hK
    go_wp2_with fail
    go_loop [43] (fun vi => ∃ k : Nat, k ≤ n ∧ vi = .int .i64 k ∧ FsIs (badDeep D) (n - k) k R) (fun vi => n - (intOf vi).toNat)
    case atStart => exact ⟨0, Nat.zero_le _, rfl, HF0⟩
    case round =>
      obtain ⟨k, hk4, rfl, HF⟩ := hrel
      clear HF0
      have hf := HF.out
      by_cases hlt4 : k < n
      · have hki : (k : Int) < (n : Int) := by omega
        have hk0 : (0 : Int) ≤ (k : Int) := by omega
        obtain ⟨z, hz⟩ := some_at HD.out.1.ok.1 hlt4
        have cz : W.cell? ⟨w.heap.size, k, none⟩ = some (.int .i64 z) := by rw [HD.out.1.row.cellAt k (by omega), List.getElem?_map, hz]; rfl
        rw [show n - k = (n - (k + 1)) + 1 by omega, fstI] at hf
        have eb : badDeep D k = decide (100 < z) := by unfold badDeep; rw [List.getD_eq_getElem?_getD, hz]; rfl
        rw [eb] at hf
        by_cases hzb : 100 < z
        · rw [if_pos (decide_eq_true hzb)] at hf
          have HFF : Hid (R = some k) := hf.symm
          clear hf eb hz HF
          go_wp2_with fail
          refine ⟨by simp, .inl ⟨_, _, rfl, run_takeDeferred HD.out.2, ?_⟩⟩
          refine ⟨_, results_tmp2 rfl _ _ _, by rw [HFF.out]; rfl, ?_⟩
          exact HD.out.1.bl.grown (grownBy_putObj' W (B + 2) (.deferred none)) HD.out.1.bl.size (fun k e => by cases e; omega)
        · rw [if_neg (by simpa using hzb)] at hf
          have HF3 : FsIs (badDeep D) (n - (k + 1)) (k + 1) R := ⟨hf⟩
          clear hf eb hz HF
          go_wp2_with fail
          go_round
          case rel => exact ⟨k + 1, by omega, by go_num, HF3⟩
          case measure => simp [intOf]; omega
      · obtain rfl : k = n := by omega
        rw [Nat.sub_self, fstI] at hf
        have HFF : Hid (R = none) := hf.symm
        clear hf HF
        go_wp2_with fail
        refine ⟨by simp, .inl ⟨_, _, rfl, run_takeDeferred HD.out.2, ?_⟩⟩
        refine ⟨_, results_tmp2 rfl _ _ _, by rw [HFF.out]; rfl, ?_⟩
        exact HD.out.1.bl.grown (grownBy_putObj' W (B + 2) (.deferred none)) HD.out.1.bl.size (fun k e => by cases e; omega)
end Go.Proofs.YtdgbmihokecmhaaGreatDoor

namespace Go.Proofs.YtdgbmihokecmhaaGreatDoor
open Go.RowKit
set_option linter.unusedVariables false

def markOf (b : Nat) : Deferred := { target := .collected b, args := #[] }
/-- The blocks of the marks that a frame has gathered. -/
structure Marks (B : Nat) (c : List Nat) (W : World) : Prop where
  nd : c.Nodup
  lo : ∀ b ∈ c, B ≤ b
  at_ : ∀ b ∈ c, W.heap[b]? = some (.deferred (some []))
/-- The blocks of the marks have been shut, and nothing else. -/
structure ShutAll (c : List Nat) (W W' : World) : Prop where
  os : W'.os = W.os
  tape : W'.tape = W.tape
  output : W'.output = W.output
  size : W'.heap.size = W.heap.size
  same : ∀ k, k ∉ c → W'.heap[k]? = W.heap[k]?
theorem leaves_marks {F : Fence} {n : Nat} {P : Program} {fn : Func} {tmps : Array Value} {R : Ending → World → Prop} (B : Nat) : ∀ (c : List Nat) (W : World), Marks B c W → (∀ W', ShutAll c W W' → LeavesInM F n P fn tmps R [] .returning W') → LeavesInM F n P fn tmps R (c.map markOf) .returning W
  | [], W, _, h => h W ⟨rfl, rfl, rfl, rfl, fun _ _ => rfl⟩
  | b :: c, W, hm, h => by
    have hb := hm.at_ b (by simp)
    have hnd := List.nodup_cons.1 hm.nd
    have hlt : b < W.heap.size := (Array.getElem?_eq_some_iff.1 hb).1
    refine ⟨by simp, .inl ⟨b, _, rfl, run_takeDeferred hb, ?_⟩⟩
    refine leaves_marks B c _ ⟨hnd.2, fun k hk => hm.lo k (by simp [hk]), fun k hk => ?_⟩ (fun W' hw => ?_)
    · exact (World.putObj_heap_other (by rintro rfl; exact hnd.1 hk)).trans (hm.at_ k (by simp [hk]))
    · refine h W' ⟨hw.os, hw.tape, hw.output, hw.size.trans (by simp), fun k hk => ?_⟩
      simp at hk
      exact (hw.same k hk.2).trans (World.putObj_heap_other hk.1)
theorem ShutAll.below {c : List Nat} {w W W' : World} {B : Nat} (h : ShutAll c W W') (hb : Below B w W) (hc : ∀ b ∈ c, B ≤ b) (hB : B ≤ w.heap.size) : Below B w W' :=
  ⟨h.os.trans hb.os, h.tape.trans hb.tape, h.output.trans hb.output, by rw [h.size]; exact hb.size, fun k hk => (h.same k (fun hm => by have := hc k hm; omega)).trans (hb.block k hk)⟩
theorem Marks.below {B : Nat} {c : List Nat} {W W' : World} (h : Marks B c W) (hb : Below W.heap.size W W') : Marks B c W' :=
  ⟨h.nd, h.lo, fun b hm => (hb.block b (Array.getElem?_eq_some_iff.1 (h.at_ b hm)).1).trans (h.at_ b hm)⟩
theorem Marks.set {B : Nat} {c : List Nat} {W : World} (h : Marks B c W) (a : Addr) (v : Value) {cs : Array Value} {t : TypeId} {fr : Nat × Nat} (ha : W.heap[a.block]? = some (.cells cs t fr)) : Marks B c (W.setCell a v) :=
  ⟨h.nd, h.lo, fun b hm => (heap_setCell_other _ _ _ _ (fun e => by
    have := h.at_ b hm
    rw [e, ha] at this
    cases this)).trans (h.at_ b hm)⟩
theorem Marks.keeps {B : Nat} {c : List Nat} {W W' : World} (h : Marks B c W) (hb : KeepsOthers W W') : Marks B c W' :=
  ⟨h.nd, h.lo, fun b hm => hb.same b _ (h.at_ b hm) rfl⟩
end Go.Proofs.YtdgbmihokecmhaaGreatDoor
