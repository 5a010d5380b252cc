import Derived.Test.YtdgbmihokecmhaaGreatDoorProg
import Derived.OrdersHeld
import Derived.Deep.RegionHeld3
import Derived.Test.YtdgbmihokecmhaaGreatDoorMM29
import Derived.Test.YtdgbmihokecmhaaGreatDoorMM20
import Derived.Maps.AppendAt
namespace Go.Proofs.YtdgbmihokecmhaaGreatDoor
set_option linter.unusedVariables false

/-- Whatever order is picked: S2 holds behind every operation, S behind those that C names. -/
def wpU (P : Program) (md : Region.Mode) (ops : Array Oper) (Q : Exit → Act → World → Prop) (S S2 : World → Prop) (C : Nat → Bool) : Nat → Array Bool → Act → World → Prop
  | 0, listed, a, w => Region.ready md ops listed = [] ∧ Q .normal a w
  | fuel + 1, listed, a, w =>
    (Region.ready md ops listed = [] → Q .normal a w) ∧
    ∀ i ∈ Region.ready md ops listed, wpOp P ops Q i (fun a' w' => (S2 w' ∧ (C i = true → S w')) ∧ wpU P md ops Q S S2 C fuel (listed.setIfInBounds i true) a' w') a w

theorem wpU_held {P : Program} {ops : Array Oper} {Q : Exit → Act → World → Prop} {md : Region.Mode} {S S2 : World → Prop} {C : Nat → Bool} : ∀ (fuel : Nat) (listed : Array Bool) (a : Act) (w : World), wpU P md ops Q S S2 C fuel listed a w → wpAnyH P md ops Q S2 fuel listed a w
  | 0, _, _, _, h => h
  | fuel + 1, _, _, _, h => ⟨h.1, fun i hi => wpOp_mono (fun a' w' h' => ⟨h'.1.1, wpU_held fuel _ a' w' h'.2⟩) (h.2 i hi)⟩

/-- An operation that yields its value in every world that meets S may be taken first, if S holds behind all that need not wait for it. -/
theorem wpU_entry {P : Program} {ops : Array Oper} {Q : Exit → Act → World → Prop} {md : Region.Mode} {S S2 : World → Prop} {C : Nat → Bool} {i : Nat} {oi : Oper} {v : Value} (hi : ops[i]? = some oi) (hsel : ∀ (j : Nat) (o : Oper) cs b, ops[j]? = some o → o.op ≠ .select cs b)
    (hQ : ∀ c a w, Q (.panic c) (a.put oi.dst v) w → Q (.panic c) a w) (hC : ∀ (j : Nat) oj, ops[j]? = some oj → C j = false → ∃ e ∈ oj.after, Region.binds md e = true ∧ e.on = i) :
    ∀ (fuel : Nat) (listed : Array Bool) (a : Act) (w : World),
      (∀ j oj, ops[j]? = some oj → j ≠ i → listed.getD j true = false → (∀ e ∈ oj.after, Region.binds md e = true → e.on ≠ i) → oi.apart ops oj = true) →
      i ∈ Region.ready md ops listed → YieldsIf P ops S oi v a → S2 w → S w →
      wpU P md ops Q S S2 C fuel (listed.setIfInBounds i true) (a.put oi.dst v) w → wpAnyH P md ops Q S2 (fuel + 1) listed a w := by
  intro fuel
  induction fuel with
  | zero =>
    intro listed a w _ hr hy hS2 hS H
    refine ⟨fun h => (by rw [h] at hr; cases hr), fun j hj => ?_⟩
    by_cases hji : j = i
    · subst hji; exact hy.wpOp hi hS ⟨hS2, wpU_held _ _ _ _ H⟩
    · have := ready_mono hj hji
      rw [H.1] at this
      cases this
  | succ fuel ih =>
    intro listed a w hfree hr hy hS2 hS H
    refine ⟨fun h => (by rw [h] at hr; cases hr), fun j hj => ?_⟩
    by_cases hji : j = i
    · subst hji; exact hy.wpOp hi hS ⟨hS2, wpU_held _ _ _ _ H⟩
    · have h1 := H.2 j (ready_mono hj hji)
      obtain ⟨hjun, oj, hoj, hall⟩ := mem_ready.1 hj
      have hnot : ∀ e ∈ oj.after, Region.binds md e = true → e.on ≠ i := fun e he hb heq => by
        have h1 := hall e he hb
        have h0 := (mem_ready.1 hr).1
        rw [heq] at h1
        rcases Nat.lt_or_ge i listed.size with h' | h'
        · simp [h'] at h0 h1; rw [h0] at h1; cases h1
        · simp [Array.getElem?_eq_none h'] at h1
      have hCj : C j = true := by
        cases hc : C j with
        | true => rfl
        | false =>
          obtain ⟨e, he, hb, heq⟩ := hC j oj hoj hc
          exact absurd heq (hnot e he hb)
      have h2 := wpOp_putIf hoj (hfree j oj hoj hji hjun hnot) (fun cs b => hsel i oi cs b hi) (fun cs b => hsel j oj cs b hoj) hQ hy h1
      have hfree' : ∀ k ok, ops[k]? = some ok → k ≠ i → (listed.setIfInBounds j true).getD k true = false →
          (∀ e ∈ ok.after, Region.binds md e = true → e.on ≠ i) → oi.apart ops ok = true := fun k ok hk hki hun hno => by
        refine hfree k ok hk hki ?_ hno
        by_cases hjk : j = k
        · subst hjk; exact hjun
        · rw [getD_set_ne true hjk] at hun; exact hun
      refine wpOp_mono (fun a' w' h3 => ⟨h3.2.1.1, ih (listed.setIfInBounds j true) a' w' hfree' (ready_mono hr (Ne.symm hji)) h3.1 h3.2.1.1 (h3.2.1.2 hCj) ?_⟩) h2
      rw [Array.setIfInBounds_comm _ _ hji]
      exact h3.2.2
/-- One operation alone may come up. -/
theorem wpU_one {P : Program} {ops : Array Oper} {Q : Exit → Act → World → Prop} {md : Region.Mode} {S S2 : World → Prop} {C : Nat → Bool} {i : Nat} {o : Oper} {fuel : Nat} {listed : Array Bool} {a : Act} {w : World} (hr : Region.ready md ops listed = [i]) (ho : ops[i]? = some o)
    (h : ∀ K' : Act → World → Prop, Shut (∀ a w, S2 w → (C i = true → S w) → wpU P md ops Q S S2 C fuel (listed.setIfInBounds i true) a w → K' a w) → if Region.wanted o (yielded ops a.tmps) = true then Oper.wp P o a w K' Q else K' (a.put o.dst undef) w) : wpU P md ops Q S S2 C (fuel + 1) listed a w := by
  refine ⟨fun h0 => (by rw [hr] at h0; cases h0), fun j hj => ?_⟩
  rw [hr] at hj
  obtain rfl : j = i := by simpa using hj
  have h1 := h (fun a' w' => (S2 w' ∧ (C j = true → S w')) ∧ wpU P md ops Q S S2 C fuel (listed.setIfInBounds j true) a' w') (fun a w h2 h3 h4 => ⟨⟨h2, h3⟩, h4⟩)
  unfold wpOp
  simp only [ho]
  split
  · rename_i hw
    rw [if_pos hw] at h1
    exact .inl h1
  · rename_i hw
    rw [if_neg hw] at h1
    exact h1
theorem wpU_done {P : Program} {ops : Array Oper} {Q : Exit → Act → World → Prop} {md : Region.Mode} {S S2 : World → Prop} {C : Nat → Bool} {listed : Array Bool} {a : Act} {w : World} (hr : Region.ready md ops listed = []) (h : Q .normal a w) :
    ∀ fuel, wpU P md ops Q S S2 C fuel listed a w
  | 0 => ⟨hr, h⟩
  | _ + 1 => ⟨fun _ => h, by rw [hr]; simp⟩
end Go.Proofs.YtdgbmihokecmhaaGreatDoor

namespace Go.Proofs.YtdgbmihokecmhaaGreatDoor
open Go.RowKit Go.Maps Go.WideMaps
set_option linter.unusedVariables false

/-- append of one entry, in a region that draws its order. -/
theorem en_step {w : World} {ops : Array Oper} {o : Oper} {a : Act} {K : Act → World → Prop} {Q : Exit → Act → World → Prop} {E : Prop} (hgd : o.guard = none) (s x : Operand)
    (ho : o.op = .call { callee := .builtin .append, args := #[s, x], argTypes := #[26, 26] }) (base : Nat) (v : Value) (l : List En) (hs : a.eval s = v)
    (hown : EnAt base w v l) (hbase : base ≤ w.heap.size) (ad : Addr) (c : Nat) (e : En) (hx : a.eval x = .slice (some ad) 1 c) (hnews : ∀ j u, (cEn e)[j]? = some u → w.cell? (ad.add j) = some u) (hn : l.length ≤ 4194304) (r : Nat) (hr : l.length + 1 = r)
    (h : ∀ g cap w1, EnAt base w1 (.slice (some ⟨g, 0, none⟩) r cap) (l ++ [e]) → w.grownBy w1 v.ownBlock → K (a.put o.dst (.slice (some ⟨g, 0, none⟩) r cap)) w1) :
    if Region.wanted o (yielded ops a.tmps) = true then Oper.wp Tryz.prog o a w K Q else E := by
  subst hr
  obtain ⟨i0, hi, hz0, hz1, hz2⟩ := info_parts infoEn
  have hown' : w.ownsRow base 56 4 v l.length (cEns l) := hown
  refine step_append_lies _ hgd s x 26 ho base 56 i0 _ 4 40 Tryz.underlying26 hi hz0 hz1 hz2 rfl (by decide) v _ _ hs hown' ad 1 c (cEn e) hx rfl hnews (one_cEn e) (by decide) (by unfold maxLen; omega) (by omega) hbase w.heap.size rfl ?_
  intro g cap w1 ho1 hg1 _ _
  exact h g cap w1 (by unfold EnAt; rw [List.length_append, cEns_app]; show w1.ownsRow _ _ _ _ _ (cEns l ++ (cEn e ++ [])); rw [List.append_nil]; exact ho1) hg1

set_option maxRecDepth 100000 in
set_option maxHeartbeats 6400000 in
theorem visit_any (B eb i : Nat) (heb : eb < B) (w : World) (hBw : B ≤ w.heap.size) (x : Im) (v : Value) (ps : List Im) (L : List En) (hbx : InBox w x.b x.N x.vn (i : Int) x.kv) (hxb : x.b < B) (hxe : x.b ≠ eb) (har : ArAt B w v ps) (hbs : BxAt w ps) (he : EnB B eb w L) (hL : L.length ≤ 3000) (hps : ps.length ≤ 3000)
    (h36 : x.N.k = 36 → ∃ p, ps.getLast? = some p ∧ StrsAt w p.vn p.N.nm ∧ (p.N.k = 4 → 1 ≤ p.N.nm.length) ∧ ∀ s ∈ p.N.nm, s.size ≤ 1100000) :
    Calls Tryz.prog 19 #[nV x, v, .pointer (some ⟨eb, 0, none⟩)] w fun e w' => e = .returned (.tuple #[]) ∧ EnB B eb w' (L ++ ownE x.N i (nmP ps) (cntP ps)) ∧ Kw B eb none w w' := by
  obtain ⟨n, hn⟩ : ∃ n, ps.length = n := ⟨_, rfl⟩
  obtain ⟨a, c, rfl⟩ := har.form hn
  obtain ⟨vo, hvo, hen⟩ := he
  obtain ⟨m, hm⟩ : ∃ m, L.length = m := ⟨_, rfl⟩
  obtain ⟨ao, co, rfl⟩ := hen.formn hm
  have cs := hbx.cells
  have c0 := cs.1
  have c3 : w.cell? ⟨x.b, 3, none⟩ = some (.int .i64 x.N.l) := by unfold InBox at hbx; rw [cell_of_row _ _ _ _ _ _ hbx]; simp
  have c4 : w.cell? ⟨x.b, 4, none⟩ = some (.int .i64 (i : Int)) := by unfold InBox at hbx; rw [cell_of_row _ _ _ _ _ _ hbx]; simp
  have ce : w.cell? ⟨eb, 0, none⟩ = some (.slice ao m co) := one_cell1 hvo
  have fe : w.frozen? ⟨eb, 0, none⟩ = false := frozen_of_row _ _ _ _ _ hvo
  have hmt := fun w => methK x.N.k x.b w
  have kh := fun w => head_any x.b w
  obtain ⟨tp, htp⟩ : ∃ tp, ptT (cls x.N.k) = tp := ⟨_, rfl⟩
  have hmt2 : ∀ w, (method 338 tp (.pointer (some ⟨x.b, 0, none⟩)) "loop.example/warp/impl.head").run Tryz.prog w = .ok (160, .pointer (some ⟨x.b, 0, none⟩)) w := by rw [← htp]; exact hmt
  have hnv : nV x = .iface tp (.pointer (some ⟨x.b, 0, none⟩)) := by unfold nV nodeV; rw [htp]
  rw [hnv]
  obtain ⟨xb, hxb2⟩ : ∃ xb, x.b = xb := ⟨_, rfl⟩
  rw [hxb2] at c0 c3 c4 kh hmt2 hxb hxe ⊢
  by_cases g36 : x.N.k = 36
  · have k36 : (x.N.k == 36) = true := by rw [beq_iff_eq]; exact g36
    obtain ⟨p, hp1, hp2, hp3, hp4⟩ := h36 g36
    have kn := fnName_any B w.drew (.slice a n c) ps p har hbs hps hp1 hp2 hp3 hp4
    have HO : Hid (ownE x.N i (nmP ps) (cntP ps) = [⟨innB p.N, x.N.l, cntP ps, (i : Int)⟩]) := by
      show _ = _
      unfold ownE nmP
      rw [if_pos g36, hp1]
    have ka := fun W (hW : Below w.heap.size w W) => fnsAmong_any B W (.slice a n c) ps (own_keep har hW) (fun y hy => by obtain ⟨q, hq⟩ := hbs y hy; exact ⟨q, hq.below hW⟩) hps
    have bD : Below w.heap.size w w.drew := bel_drew1 (Below.refl _ _)
    have HH : Hid (EnAt B w (.slice ao m co) L ∧ w.heap[eb]? = some (.cells #[.slice ao m co] 26 (0, 0)) ∧ L.length = m) := ⟨hen, hvo, hm⟩
    generalize innB p.N = nmx at kn HO
    generalize cntP ps = cnt at ka HO
    obtain ⟨ll, hll⟩ : ∃ ll, x.N.l = ll := ⟨_, rfl⟩
    rw [hll] at c3 HO
    have sX : ∀ W, Below B w W → W.cell? ⟨eb, 0, none⟩ = some (.slice ao m co) ∧ W.frozen? ⟨eb, 0, none⟩ = false ∧ W.cell? ⟨xb, 3, none⟩ = some (.int .i64 ll) ∧ W.cell? ⟨xb, 4, none⟩ = some (.int .i64 (i : Int)) := fun W hW => ⟨(cell_below hW heb).trans ce, frozen_of_row _ _ _ _ _ ((hW.block _ heb).trans hvo), (cell_below hW hxb).trans c3, (cell_below hW hxb).trans c4⟩
    have hm3 : m ≤ 3000 := by omega
    have hmt3 := hmt2
    clear hmt htp hnv h36 g36 hp1 hp2 hp3 hp4 hbx cs hen hvo har hbs hm hn hll hxb2 hL
    go_enter Tryz.func19, Tryz.ntmps19
    go_wp2_with (go_at_call 160; refine (kh _).mono ?_; rintro e w' ⟨rfl, rfl⟩)
    obtain ⟨w0, rfl⟩ : ∃ w0, w0 = w' := ⟨_, rfl⟩
    have bo : ∀ (W : World) (hW : Below w0.heap.size w0 W) (o : Obj), Below w0.heap.size w0 (W.alloc o) := fun W hW o => hW.alloc hW.size o
    have kE := fun (W : World) (hW : Below w0.heap.size w0 W) => HH.out.1.below hW
    refine wp_region_held_drew (S := fun W' => W'.cell? ⟨xb, 3, none⟩ = some (.int .i64 ll) ∧ W'.cell? ⟨xb, 4, none⟩ = some (.int .i64 (i : Int))) (by kernel_rfl) (sX _ (bD.mono hBw)).2.2 (fun hS => ?_)
    simp only [List.size_toArray, List.length_cons, List.length_nil, Nat.reduceAdd, Array.replicate_succ, Array.replicate_zero, List.push_toArray, List.nil_append, List.cons_append]
    refine takeAt 1 14 (.slice a n c) rfl rfl (by kernel_rfl) (by kernel_rfl) (by kernel_rfl) (fun _ _ _ h => h) (by rfl) hS (fun w' hw' => by obtain ⟨s1, s2⟩ := hw'; go_simp) ?_
    simp only [Act.put, List.setIfInBounds_toArray, List.set_cons_zero, List.set_cons_succ]
    refine takeAt 3 16 (.pointer (some ⟨xb, 0, none⟩)) rfl rfl (by kernel_rfl) (by kernel_rfl) (by kernel_rfl) (fun _ _ _ h => h) (by rfl) hS (fun w' hw' => by obtain ⟨s1, s2⟩ := hw'; go_simp) ?_
    simp only [Act.put, List.setIfInBounds_toArray, List.set_cons_zero, List.set_cons_succ]
    refine takeAt 4 17 (.pointer (some ⟨xb, 0, none⟩)) rfl rfl (by kernel_rfl) (by kernel_rfl) (by kernel_rfl) (fun _ _ _ h => h) (by rfl) hS (fun w' hw' => by obtain ⟨s1, s2⟩ := hw'; go_simp) ?_
    simp only [Act.put, List.setIfInBounds_toArray, List.set_cons_zero, List.set_cons_succ]
    refine takeAt 5 18 (.pointer (some ⟨xb, 3, none⟩)) rfl rfl (by kernel_rfl) (by kernel_rfl) (by kernel_rfl) (fun _ _ _ h => h) (by rfl) hS (fun w' hw' => by obtain ⟨s1, s2⟩ := hw'; go_simp) ?_
    simp only [Act.put, List.setIfInBounds_toArray, List.set_cons_zero, List.set_cons_succ]
    refine takeAt 6 19 (.int .i64 ll) rfl rfl (by kernel_rfl) (by kernel_rfl) (by kernel_rfl) (fun _ _ _ h => h) (by rfl) hS (fun w' hw' => by obtain ⟨s1, s2⟩ := hw'; go_simp) ?_
    simp only [Act.put, List.setIfInBounds_toArray, List.set_cons_zero, List.set_cons_succ]
    refine takeAt 7 20 (.slice a n c) rfl rfl (by kernel_rfl) (by kernel_rfl) (by kernel_rfl) (fun _ _ _ h => h) (by rfl) hS (fun w' hw' => by obtain ⟨s1, s2⟩ := hw'; go_simp) ?_
    simp only [Act.put, List.setIfInBounds_toArray, List.set_cons_zero, List.set_cons_succ]
    refine takeAt 9 22 (.pointer (some ⟨xb, 0, none⟩)) rfl rfl (by kernel_rfl) (by kernel_rfl) (by kernel_rfl) (fun _ _ _ h => h) (by rfl) hS (fun w' hw' => by obtain ⟨s1, s2⟩ := hw'; go_simp) ?_
    simp only [Act.put, List.setIfInBounds_toArray, List.set_cons_zero, List.set_cons_succ]
    refine takeAt 10 23 (.pointer (some ⟨xb, 0, none⟩)) rfl rfl (by kernel_rfl) (by kernel_rfl) (by kernel_rfl) (fun _ _ _ h => h) (by rfl) hS (fun w' hw' => by obtain ⟨s1, s2⟩ := hw'; go_simp) ?_
    simp only [Act.put, List.setIfInBounds_toArray, List.set_cons_zero, List.set_cons_succ]
    refine takeAt 11 24 (.pointer (some ⟨xb, 4, none⟩)) rfl rfl (by kernel_rfl) (by kernel_rfl) (by kernel_rfl) (fun _ _ _ h => h) (by rfl) hS (fun w' hw' => by obtain ⟨s1, s2⟩ := hw'; go_simp) ?_
    simp only [Act.put, List.setIfInBounds_toArray, List.set_cons_zero, List.set_cons_succ]
    refine takeAt 12 25 (.int .i64 (i : Int)) rfl rfl (by kernel_rfl) (by kernel_rfl) (by kernel_rfl) (fun _ _ _ h => h) (by rfl) hS (fun w' hw' => by obtain ⟨s1, s2⟩ := hw'; go_simp) ?_
    simp only [Act.put, List.setIfInBounds_toArray, List.set_cons_zero, List.set_cons_succ]
    refine wpU_entry (S := fun W' => W'.cell? ⟨eb, 0, none⟩ = some (.slice ao m co)) (C := fun j => !(j == 15 || j == 16)) (i := 0) (v := .slice ao m co) rfl (Region.noSelect_spec (by kernel_rfl)) (fun _ _ _ h => h) ?hC _ _ _ _ (Region.free_spec rfl (by kernel_rfl)) (List.contains_iff_mem.1 (by kernel_rfl)) (Or.inl ⟨by rfl, fun w' hw' => by go_simp⟩) hS (sX _ (bD.mono hBw)).1 ?_
    case hC =>
      intro j oj hj hc
      have h1 : j = 15 ∨ j = 16 := by
        simp only [Bool.not_eq_false', Bool.or_eq_true, beq_iff_eq] at hc
        exact hc
      rcases h1 with rfl | rfl
      · obtain rfl := Option.some.inj hj
        exact ⟨{ on := 0, ground := Ground.data }, by simp, rfl, rfl⟩
      · obtain rfl := Option.some.inj hj
        exact ⟨{ on := 0, ground := Ground.phase }, by simp, rfl, rfl⟩
    simp only [Act.put, List.setIfInBounds_toArray, List.set_cons_zero]
    refine wpU_one (i := 2) (by kernel_rfl) rfl (fun K3 hK3 => ?_)
    go_simp
    refine kn.mono ?_
    rintro e wn ⟨rfl, hbn⟩
    have hN := sX wn ((bD.trans hbn).mono hBw)
    refine hK3.out _ _ hN.2.2 (fun _ => hN.1) ?_
    clear hK3 K3
    try simp only [List.setIfInBounds_toArray, List.set_cons_zero, List.set_cons_succ]
    refine wpU_one (i := 8) (by kernel_rfl) rfl (fun K3 hK3 => ?_)
    go_simp
    refine (ka _ (bD.trans hbn)).mono ?_
    rintro e wa ⟨rfl, rfl⟩
    refine hK3.out _ _ hN.2.2 (fun _ => hN.1) ?_
    clear hK3 K3
    try simp only [List.setIfInBounds_toArray, List.set_cons_zero, List.set_cons_succ]
    refine wpU_one (i := 13) (by kernel_rfl) rfl (fun K3 hK3 => ?_)
    go_simp
    refine hK3.out _ _ hN.2.2 (fun _ => hN.1) ?_
    clear hK3 K3
    try simp only [List.setIfInBounds_toArray, List.set_cons_zero, List.set_cons_succ]
    refine wpU_one (i := 14) (by kernel_rfl) rfl (fun K3 hK3 => ?_)
    go_simp
    have b4 := bo wa (bD.trans hbn) (.cells #[.string nmx, .int .i64 ll, .int .i64 cnt, .int .i64 (i : Int)] 56)
    have h4 := sX _ (b4.mono hBw)
    refine hK3.out _ _ h4.2.2 (fun _ => h4.1) ?_
    clear hK3 K3
    try simp only [List.setIfInBounds_toArray, List.set_cons_zero, List.set_cons_succ]
    refine wpU_one (i := 15) (by kernel_rfl) rfl (fun K3 hK3 => ?_)
    refine en_step (by rfl) _ _ (by rfl) B (.slice ao m co) L (by rfl) (kE _ b4) (Nat.le_trans hBw b4.size) ⟨_, 0, none⟩ 1 ⟨nmx, ll, cnt, (i : Int)⟩ (by rfl) (news_en wa nmx ll cnt (i : Int)) (by rw [HH.out.2.2]; omega) (m + 1) (by rw [HH.out.2.2]) ?_
    intro g5 cap5 w5 ho5 hg5
    have hb5 := (kE _ b4).grown (Nat.le_trans hBw b4.size) hg5
    have b5 : Below B w0 w5 := (b4.mono hBw).trans hb5
    have h5 := sX _ b5
    refine hK3.out _ _ h5.2.2 (fun hc => by cases hc) ?_
    clear hK3 K3
    simp only [Act.put, List.setIfInBounds_toArray, List.set_cons_zero, List.set_cons_succ]
    refine wpU_one (i := 16) (by kernel_rfl) rfl (fun K3 hK3 => ?_)
    have e5 := h5.1
    have f5 := h5.2.1
    go_simp
    have hv5 := (b5.block _ heb).trans HH.out.2.1
    have hc6 : (w5.setCell ⟨eb, 0, none⟩ (.slice (some ⟨g5, 0, none⟩) (m + 1) cap5)).cell? ⟨xb, 3, none⟩ = some (.int .i64 ll) ∧ (w5.setCell ⟨eb, 0, none⟩ (.slice (some ⟨g5, 0, none⟩) (m + 1) cap5)).cell? ⟨xb, 4, none⟩ = some (.int .i64 (i : Int)) :=
      ⟨(World.cell?_setCell_far _ _ _ _ (by simp; omega)).trans h5.2.2.1, (World.cell?_setCell_far _ _ _ _ (by simp; omega)).trans h5.2.2.2⟩
    refine hK3.out _ _ hc6 (fun hc => by cases hc) ?_
    clear hK3 K3
    refine wpU_done (by kernel_rfl) ?_ _
    have hEn : EnB B eb (w5.setCell ⟨eb, 0, none⟩ (.slice (some ⟨g5, 0, none⟩) (m + 1) cap5)) (L ++ [⟨nmx, ll, cnt, (i : Int)⟩]) := ⟨_, heap_setCell_same _ eb 0 _ _ _ hv5, ownsRow_setCell_below ho5 heb _⟩
    have hKw : Kw B eb none w0 (w5.setCell ⟨eb, 0, none⟩ (.slice (some ⟨g5, 0, none⟩) (m + 1) cap5)) := by
      refine ⟨b5.os, b5.tape, b5.output, by simp [World.setCell]; exact b5.size, fun k hk hne hc => ?_⟩
      rw [heap_setCell_other _ _ _ _ hne, ← b4.block k hk]
      refine hg5.block k (Nat.lt_of_lt_of_le hk b4.size) fun e => ?_
      have hr : w0.ownsRow B 56 4 (.slice ao m co) L.length (cEns L) := HH.out.1
      rcases hr.2 with ⟨h1, _⟩ | ⟨g2, cap2, cur, h1, hg2, h3, _⟩
      · rw [h1] at e; simp [Value.ownBlock] at e
      · rw [h1] at e
        obtain rfl : k = g2 := by simpa [Value.ownBlock] using e
        exact (hc hg2).2 _ _ h3
    go_end0
    exact ⟨rfl, by rw [HO.out]; exact hEn, hKw⟩
  · have k36 : (x.N.k == 36) = false := by rw [beq_eq_false_iff_ne]; exact g36
    have HO : Hid (L ++ ownE x.N i (nmP ps) (cntP ps) = L) := by show _ = _; unfold ownE; rw [if_neg g36, List.append_nil]
    have HE : Hid (EnB B eb w L) := ⟨_, hvo, hen⟩
    obtain ⟨kk, hkk⟩ : ∃ kk, x.N.k = kk := ⟨_, rfl⟩
    rw [hkk] at c0 k36
    clear hmt htp hnv h36 g36 hbx cs hen hvo har hbs hm hn hkk
    go_enter Tryz.func19, Tryz.ntmps19
    go_wp2_with (go_at_call 160; refine (kh _).mono ?_; rintro e w' ⟨rfl, rfl⟩)
    go_end0
    exact ⟨rfl, by rw [HO.out]; exact HE.out, Kw.refl _ _ _ _⟩
end Go.Proofs.YtdgbmihokecmhaaGreatDoor

namespace Go.Proofs.YtdgbmihokecmhaaGreatDoor
open Go.RowKit Go.Maps Go.WideMaps
set_option linter.unusedVariables false

theorem infoNdI : (Tryz.prog.info? 44).map (fun i => (i.zero, i.size, i.bytes)) = some (some .nilIface, 1, 16) := by kernel_rfl
theorem nV_one (x : Im) : (nV x).oneCell' = true := rfl
theorem run_append_nd {w : World} {B : Nat} {v : Value} {ps : List Im} (x : Im) (ty : TypeId) (hown : ArAt B w v ps) (hB : B ≤ w.heap.size) (ad : Addr) (c : Nat) (hnews : ∀ j u, [nV x][j]? = some u → w.cell? (ad.add j) = some u) (hl : ps.length ≤ 100000) :
    ∃ v' w', (Builtin.append_ #[48, 48] ty #[v, .slice (some ad) 1 c]).run Tryz.prog w = .ok v' w' ∧ ArAt B w' v' (ps ++ [x]) ∧ w.grownBy w' v.ownBlock ∧ (v'.ownBlock = v.ownBlock ∨ v'.ownBlock = some w.heap.size) ∧
      (v'.ownBlock = v.ownBlock → ∃ g cap, v = .slice (some ⟨g, 0, none⟩) ps.length cap ∧ v' = .slice (some ⟨g, 0, none⟩) (ps.length + 1) cap) ∧ (v'.ownBlock ≠ v.ownBlock → Below w.heap.size w w') := by
  obtain ⟨i0, hi, hz0, hz1, hz2⟩ := info_parts infoNdI
  have hown' : w.ownsRow B 44 1 v ps.length (ps.map nV) := hown
  have h1 : ∀ u ∈ [nV x], u.oneCell' = true := fun u hu => by obtain rfl := List.mem_singleton.1 hu; exact nV_one x
  obtain ⟨v', w', hr, ho, hg, hz, hat⟩ := run_append_own_at (P := Tryz.prog) w B 48 ty 44 i0 _ 1 16 Tryz.underlying48 hi hz0 hz1 hz2 rfl (by decide) v _ _ hown' ad 1 c [nV x] rfl hnews h1 (by unfold maxLen; omega) (by omega) hB
  refine ⟨v', w', hr, by unfold ArAt; rw [List.length_append, List.map_append]; exact ho, hg, hat, ?_⟩
  rcases hown'.2 with ⟨rfl, h0⟩ | ⟨g, cap, cur, rfl, hbg, hh, hnc, hcm, hcs, htake⟩
  · refine ⟨fun he => ?_, fun _ => ⟨hg.os, hg.tape, hg.output, hg.size, fun k hk => hg.block k hk (by simp [Value.ownBlock])⟩⟩
    obtain ⟨a', c', e⟩ := own_form ho
    subst e
    rcases own_zero_or ho with ⟨hz0', _⟩ | ⟨g, cap, e⟩
    · omega
    · cases e
      simp [Value.ownBlock] at he
  · by_cases hroom : ps.length + 1 ≤ cap
    · have hfit : ps.length * i0.size + [nV x].length ≤ cur.size := by rw [hz1, hcs]; show ps.length * 1 + 1 ≤ cap * 1; omega
      have hr2 := run_append_room (P := Tryz.prog) w 48 ty 44 i0 Tryz.underlying48 hi g ps.length cap cur hh ad 1 c [nV x] (by rw [hz1]; rfl) hnews h1 hroom hfit
      rw [hr2] at hr
      cases hr
      exact ⟨fun _ => ⟨g, cap, rfl, rfl⟩, fun h => absurd rfl h⟩
    · have holds : ∀ j u, (ps.map nV)[j]? = some u → w.cell? ((⟨g, 0, none⟩ : Addr).add j) = some u := hown'.cells (g := g) rfl
      have hr2 := run_append_grow (P := Tryz.prog) w 48 ty 44 i0 _ Tryz.underlying48 hi hz0 ⟨g, 0, none⟩ ps.length cap (ps.map nV) (by rw [hz1]; simp) holds ad 1 c [nV x] (by rw [hz1]; rfl) hnews (by omega) (by omega) (growslice_fits (by omega) (by rw [hz2]; omega))
      rw [hr2] at hr
      cases hr
      have hgl := lt_of_block hh
      refine ⟨fun he => ?_, fun _ => ((Below.refl _ w).drew).alloc (Nat.le_refl _) _⟩
      simp [Value.ownBlock] at he
      omega
/-- append of one node to the nodes around. -/
theorem wpList_nd {w : World} {ops : Array Oper} {rest : List Oper} {o : Oper} {a : Act} {Q : Exit → Act → World → Prop} (hgd : o.guard = none) (s y : Operand)
    (ho : o.op = .call { callee := .builtin .append, args := #[s, y], argTypes := #[48, 48] }) (B : Nat) (v : Value) (ps : List Im) (x : Im) (hs : a.eval s = v)
    (hown : ArAt B w v ps) (hB : B ≤ w.heap.size) (ad : Addr) (c : Nat) (hx : a.eval y = .slice (some ad) 1 c) (hnews : ∀ j u, [nV x][j]? = some u → w.cell? (ad.add j) = some u) (hl : ps.length ≤ 100000) (r : Nat) (hr : ps.length + 1 = r)
    (h : ∀ av cv w1, ArAt B w1 (.slice av r cv) (ps ++ [x]) → w.grownBy w1 v.ownBlock → ((Value.slice av r cv).ownBlock = v.ownBlock ∨ (Value.slice av r cv).ownBlock = some w.heap.size) →
      ((Value.slice av r cv).ownBlock = v.ownBlock → ∃ g cap, v = .slice (some ⟨g, 0, none⟩) ps.length cap ∧ Value.slice av r cv = .slice (some ⟨g, 0, none⟩) (ps.length + 1) cap) → ((Value.slice av r cv).ownBlock ≠ v.ownBlock → Below w.heap.size w w1) → wpList Tryz.prog ops Q rest (a.put o.dst (.slice av r cv)) w1) :
    wpList Tryz.prog ops Q (o :: rest) a w := by
  subst hr
  refine wpList_plain hgd fun K hK => ?_
  obtain ⟨v', w', hr, h2, h3, h4, h5, h6⟩ := run_append_nd x o.type hown hB ad c hnews hl
  obtain ⟨av, cv, rfl⟩ := h2.form (n := ps.length + 1) (by simp)
  unfold Oper.wp execOp
  simp only [ho, resolve, invoke, builtin, Sem.run_bind, Sem.run_pure, Result.andThen_ok, List.map_toArray, List.map_cons, List.map_nil, hs, hx, hr]
  exact hK _ _ (h av cv w' h2 h3 h4 h5 h6)
/-- What is in the longer row is in the shorter. -/
theorem ArAt.pre {B : Nat} {W : World} {ps : List Im} {x : Im} {g cap : Nat} (h : ArAt B W (.slice (some ⟨g, 0, none⟩) (ps.length + 1) cap) (ps ++ [x])) : ArAt B W (.slice (some ⟨g, 0, none⟩) ps.length cap) ps := by
  have h' : W.ownsRow B 44 1 (.slice (some ⟨g, 0, none⟩) (ps.length + 1) cap) (ps ++ [x]).length ((ps ++ [x]).map nV) := h
  rw [show (ps ++ [x]).length = ps.length + 1 by simp] at h'
  rcases h'.2 with ⟨e, _⟩ | ⟨g2, cap2, cur, e, hbg, hh, hnc, hcm, hcs, htake⟩
  · cases e
  · cases e
    refine ⟨by simp, .inr ⟨g, cap, cur, rfl, hbg, hh, by omega, hcm, hcs, ?_⟩⟩
    have e2 := congrArg (List.take ps.length) htake
    rw [List.take_take] at e2
    simp at e2
    simpa using e2
end Go.Proofs.YtdgbmihokecmhaaGreatDoor

namespace Go.Proofs.YtdgbmihokecmhaaGreatDoor
open Go.RowKit Go.Maps Go.WideMaps
set_option linter.unusedVariables false

/-- The visitor, as a value. -/
def cloV (eb : Nat) : Value := .func (.func 19) #[] #[.pointer (some ⟨eb, 0, none⟩)]
/-- What walk reads: the tree as linked has left it, at w0. -/
structure Tr (w0 : World) (ns : List Nd) (L : List Im) (base : Nat) (vs : Value) : Prop where
  at_ : NsAt w0 base vs L
  map : L.map Im.N = ns
  nms : ∀ x ∈ L, StrsAt w0 x.vn x.N.nm
  ok : (treeF ns).1 = 0
  sm : ∀ N ∈ ns, NdSmall N
theorem Kw.bel {w0 W W' : World} {vex : Option Nat} (h : Kw (w0.heap.size + 1) w0.heap.size vex W W') (hb : Below w0.heap.size w0 W) : Below w0.heap.size w0 W' :=
  ⟨h.os.trans hb.os, h.tape.trans hb.tape, h.output.trans hb.output, Nat.le_trans hb.size h.size, fun k hk => (h.low (by omega) (Nat.lt_of_lt_of_le hk hb.size) (by omega)).trans (hb.block k hk)⟩
theorem kw_grown {B eb : Nat} {W W' : World} {v : Value} {ps : List Im} (ha : ArAt B W v ps) (h : W.grownBy W' v.ownBlock) : Kw B eb v.ownBlock W W' :=
  ⟨h.os, h.tape, h.output, h.size, fun k hk _ hc => h.block k hk fun e => by
    have h1 := (ha.lt k e.symm).1
    exact (hc h1).1 e.symm⟩
theorem EnB.below {B eb : Nat} {W W' : World} {L : List En} (h : EnB B eb W L) (hb : Below W.heap.size W W') : EnB B eb W' L := by
  obtain ⟨vo, h1, h2⟩ := h
  exact ⟨vo, (hb.block _ (lt_of_block h1)).trans h1, h2.below hb⟩
theorem EnB.grownNd {B eb : Nat} {W W' : World} {L : List En} {v : Value} {ps : List Im} (h : EnB B eb W L) (heb : eb < B) (ha : ArAt B W v ps) (hg : W.grownBy W' v.ownBlock) : EnB B eb W' L := by
  obtain ⟨vo, h1, h2⟩ := h
  refine ⟨vo, (hg.block _ (lt_of_block h1) fun e => ?_).trans h1, World.ownsRow.kept h2 hg ?_⟩
  · have := (ha.lt eb e.symm).1
    omega
  · have h2' : W.ownsRow B 56 4 vo L.length (cEns L) := h2
    have ha' : W.ownsRow B 44 1 v ps.length (ps.map nV) := ha
    rcases h2'.2 with ⟨rfl, _⟩ | ⟨g, cap, cur, rfl, _, hh, _⟩
    · exact .inl rfl
    · refine .inr fun e => ?_
      rcases ha'.2 with ⟨rfl, _⟩ | ⟨g2, cap2, cur2, rfl, _, hh2, _⟩
      · simp [Value.ownBlock] at e
      · obtain rfl : g = g2 := by simpa [Value.ownBlock] using e
        rw [hh] at hh2
        simp at hh2
theorem Kw.weak {B eb : Nat} {vex : Option Nat} {W W' : World} (h : Kw B eb none W W') : Kw B eb vex W W' :=
  ⟨h.os, h.tape, h.output, h.size, fun k hk hne hc => h.block k hk hne fun hB => ⟨by simp, (hc hB).2⟩⟩
def WkOk (w0 : World) (ns : List Nd) (L : List Im) (f : Nat) : Prop := ∀ (i : Nat) (x : Im) (W : World) (v : Value) (ps : List Im) (E : List En), i < f → L[i]? = some x → Below w0.heap.size w0 W → w0.heap.size + 1 ≤ W.heap.size → ArAt (w0.heap.size + 1) W v ps → (∀ p ∈ ps, p ∈ L) → EnB (w0.heap.size + 1) w0.heap.size W E →
  E.length + (outN ns f i (nmP ps) (cntP ps)).length ≤ 3000 → ps.length + f ≤ 3000 → (x.N.k = 36 → ps ≠ []) →
  Calls Tryz.prog 18 #[nV x, v, cloV w0.heap.size] W fun e w' => e = .returned (.tuple #[]) ∧ EnB (w0.heap.size + 1) w0.heap.size w' (E ++ outN ns f i (nmP ps) (cntP ps)) ∧ ArAt (w0.heap.size + 1) w' v ps ∧ Kw (w0.heap.size + 1) w0.heap.size v.ownBlock W w'

set_option maxRecDepth 100000 in
set_option maxHeartbeats 12800000 in
theorem walk_step (w0 : World) (ns : List Nd) (L : List Im) (base : Nat) (vs : Value) (T : Tr w0 ns L base vs) (f : Nat) (ih : WkOk w0 ns L f) : WkOk w0 ns L (f + 1) := by
  intro i x w v ps E hif hx hbel hBw har hps hen hlen hpf h36
  have hbx0 := T.at_.box i x hx
  have hbx := hbx0.below hbel
  have hxb := lt_of_block hbx0
  obtain ⟨n, hn⟩ : ∃ n, ps.length = n := ⟨_, rfl⟩
  have hN : ns[i]? = some x.N := by rw [← T.map, List.getElem?_map, hx]; rfl
  have eo : outN ns (f + 1) i (nmP ps) (cntP ps) = ownE x.N i (nmP ps) (cntP ps) ++ x.N.ks.flatMap fun k => outN ns f k.toNat (innB x.N) (dpB x.N (cntP ps)) := by rw [outN, getD_at hN]
  have hbs : BxAt w ps := fun p hp => by
    obtain ⟨j, hj, e⟩ := List.getElem_of_mem (hps p hp)
    exact ⟨j, (T.at_.box j p (by rw [List.getElem?_eq_getElem hj, e])).below hbel⟩
  have hown1 := ownE_le x.N i (nmP ps) (cntP ps)
  have kv := visit_any (w0.heap.size + 1) w0.heap.size i (by omega) w hBw x v ps E hbx (by omega) (by omega) har hbs hen (by omega) (by omega) (fun g => by
    have hne := h36 g
    obtain ⟨p, hp⟩ : ∃ p, ps.getLast? = some p := ⟨_, List.getLast?_eq_some_getLast hne⟩
    have hpL := hps p (List.mem_of_getLast? hp)
    obtain ⟨j, hj, e⟩ := List.getElem_of_mem hpL
    have hpj : L[j]? = some p := by rw [List.getElem?_eq_getElem hj, e]
    have hpN : ns[j]? = some p.N := by rw [← T.map, List.getElem?_map, hpj]; rfl
    exact ⟨p, hp, (T.nms p hpL).below hbel, name_of T.ok j p.N hpN, fun s hs => by have := (T.sm p.N (List.mem_of_getElem? hpN)).ls s hs; omega⟩)
  obtain ⟨tp, htp⟩ : ∃ tp, ptT (cls x.N.k) = tp := ⟨_, rfl⟩
  have hmt2 : ∀ w, (method 338 tp (.pointer (some ⟨x.b, 0, none⟩)) "loop.example/warp/impl.head").run Tryz.prog w = .ok (160, .pointer (some ⟨x.b, 0, none⟩)) w := by rw [← htp]; exact fun w => methK x.N.k x.b w
  have hnv : nV x = .iface tp (.pointer (some ⟨x.b, 0, none⟩)) := by unfold nV nodeV; rw [htp]
  have kh := fun w => head_any x.b w
  obtain ⟨xk, hxk⟩ : ∃ l, x.N.ks.length = l := ⟨_, rfl⟩
  have hkid0 := T.at_.kid i x hx
  rw [hxk] at hkid0
  obtain ⟨ak, ck, ekv⟩ := own_form hkid0
  have c5 : w0.cell? ⟨x.b, 5, none⟩ = some (.slice ak xk ck) := by rw [← ekv]; unfold InBox at hbx0; rw [cell_of_row _ _ _ _ _ _ hbx0]; simp
  have hkn : xk ≤ 200 := by rw [← hxk]; exact (sound_of T.ok).kn x.N (List.mem_of_getElem? hN)
  obtain ⟨a, c, rfl⟩ := har.form hn
  have HH : Hid (Tr w0 ns L base vs ∧ WkOk w0 ns L f ∧ L[i]? = some x ∧ x.N.ks.length = xk ∧ x.kv = .slice ak xk ck ∧ ps.length = n ∧ (∀ p ∈ ps, p ∈ L) ∧ nV x = .iface tp (.pointer (some ⟨x.b, 0, none⟩)) ∧ ns[i]? = some x.N) := ⟨T, ih, hx, hxk, ekv, hn, hps, hnv, hN⟩
  obtain ⟨RR, hRR⟩ : ∃ RR, outN ns (f + 1) i (nmP ps) (cntP ps) = RR := ⟨_, rfl⟩
  rw [hRR] at eo hlen ⊢
  have HO : Hid (RR = ownE x.N i (nmP ps) (cntP ps) ++ (x.N.ks.flatMap fun k => outN ns f k.toNat (innB x.N) (dpB x.N (cntP ps))) ∧ E.length + RR.length ≤ 3000) := ⟨eo, hlen⟩
  have HA : Hid (ArAt (w0.heap.size + 1) w (.slice a n c) ps ∧ Below w0.heap.size w0 w ∧ w0.heap.size + 1 ≤ w.heap.size) := ⟨har, hbel, hBw⟩
  have hpf2 : n + (f + 1) ≤ 3000 := by omega
  rw [hnv] at kv ⊢
  unfold cloV
  clear hbx0 hbx hN eo hbs hown1 hkid0 ekv har hen hlen hpf h36 hps hx htp hnv hxk hRR ih hbel hn
  go_enter Tryz.func18, Tryz.ntmps18
  go_wp2_with (go_at_call 19; fail)
  refine kv.mono ?_
  rintro e w1 ⟨rfl, en1, kw1⟩
  have ar1 : ArAt (w0.heap.size + 1) w1 (.slice a n c) ps := kw1.ar (by omega) HA.out.1 (fun g _ => by simp)
  have bel1 := kw1.bel HA.out.2.1
  have s1 := kw1.size
  have b12 : Below w1.heap.size w1 (w1.alloc (.cells #[.iface tp (.pointer (some ⟨x.b, 0, none⟩))] 44)) := (Below.refl _ w1).alloc (Nat.le_refl _) _
  have ar2 : ArAt (w0.heap.size + 1) (w1.alloc (.cells #[.iface tp (.pointer (some ⟨x.b, 0, none⟩))] 44)) (.slice a n c) ps := own_keep ar1 b12
  have hsz2 : w0.heap.size + 1 ≤ (w1.alloc (.cells #[.iface tp (.pointer (some ⟨x.b, 0, none⟩))] 44)).heap.size := by have := HA.out.2.2; simp; omega
  have hnews : ∀ j u, [nV x][j]? = some u → (w1.alloc (.cells #[.iface tp (.pointer (some ⟨x.b, 0, none⟩))] 44)).cell? ((⟨w1.heap.size, 0, none⟩ : Addr).add j) = some u := by
    rw [HH.out.2.2.2.2.2.2.2.1]
    exact World.news_of_block (cs := #[.iface tp (.pointer (some ⟨x.b, 0, none⟩))]) (fr := (0, 0)) (heap_alloc_new w1 _)
  have H1 : Hid (EnB (w0.heap.size + 1) w0.heap.size w1 (E ++ ownE x.N i (nmP ps) (cntP ps)) ∧ Kw (w0.heap.size + 1) w0.heap.size none w w1 ∧ Below w0.heap.size w0 w1) := ⟨en1, kw1, bel1⟩
  have hnl : ps.length ≤ 100000 := by rw [HH.out.2.2.2.2.2.1]; omega
  have hn1 : ps.length + 1 = n + 1 := by rw [HH.out.2.2.2.2.2.1]
  have c5k : ∀ W, Below w0.heap.size w0 W → W.cell? ⟨x.b, 5, none⟩ = some (.slice ak xk ck) := fun W hW => cell_kept hW c5
  clear kv en1 kw1 ar1 c5
  go_wp2_with (first | (at_builtin; refine wpList_nd rfl _ _ rfl (w0.heap.size + 1) (.slice a n c) ps x rfl ar2 hsz2 ⟨_, 0, none⟩ 1 rfl hnews hnl (n + 1) hn1 ?_; intro av3 cv3 w3 ar3 hg3 hat3 hsame3 hnew3; have kw3 := kw_grown (eb := w0.heap.size) ar2 hg3; have bel3 := kw3.bel (bel1.trans (b12.mono bel1.size)); have c53 := c5k _ bel3) | (go_at_call 160; refine (kh _).mono ?_; rintro e w' ⟨rfl, rfl⟩))
  obtain ⟨wI, rfl⟩ : ∃ wI, wI = w' := ⟨_, rfl⟩
  have hs12 : (w1.alloc (.cells #[.iface tp (.pointer (some ⟨x.b, 0, none⟩))] 44)).heap.size = w1.heap.size + 1 := World.size_alloc _ _
  have kwA : Kw (w0.heap.size + 1) w0.heap.size (Value.slice a n c).ownBlock w wI := (H1.out.2.1.weak.trans (Kw.of_below b12) (.inl rfl)).trans kw3 (.inl rfl)
  have arV : (Value.slice av3 (n + 1) cv3).ownBlock ≠ (Value.slice a n c).ownBlock → ArAt (w0.heap.size + 1) wI (.slice a n c) ps := fun h => own_keep ar2 (hnew3 h)
  have HL : Hid (EnB (w0.heap.size + 1) w0.heap.size wI (E ++ ownE x.N i (nmP ps) (cntP ps)) ∧ ArAt (w0.heap.size + 1) wI (.slice av3 (n + 1) cv3) (ps ++ [x]) ∧ Kw (w0.heap.size + 1) w0.heap.size (Value.slice a n c).ownBlock w wI ∧ w0.heap.size + 1 ≤ wI.heap.size ∧ Below w0.heap.size w0 wI ∧
      ((Value.slice av3 (n + 1) cv3).ownBlock = (Value.slice a n c).ownBlock ∨ (Value.slice av3 (n + 1) cv3).ownBlock = some (w1.heap.size + 1)) ∧ w.heap.size ≤ w1.heap.size ∧
      ((Value.slice av3 (n + 1) cv3).ownBlock = (Value.slice a n c).ownBlock → ∃ g cap, (Value.slice a n c) = .slice (some ⟨g, 0, none⟩) ps.length cap ∧ (Value.slice av3 (n + 1) cv3) = .slice (some ⟨g, 0, none⟩) (ps.length + 1) cap) ∧
      ((Value.slice av3 (n + 1) cv3).ownBlock ≠ (Value.slice a n c).ownBlock → ArAt (w0.heap.size + 1) wI (.slice a n c) ps) ∧ (∀ g, (Value.slice a n c).ownBlock = some g → g < w1.heap.size + 1)) :=
    ⟨(H1.out.1.below b12).grownNd (by omega) ar2 hg3, ar3, kwA, Nat.le_trans hsz2 hg3.size, bel3, by rw [← hs12]; exact hat3, s1, hsame3, arV, fun g hg => by have := (ar2.lt g hg).2; omega⟩
  clear arV kwA kw3 hat3 hsame3 hnew3 hg3 ar3 ar2 b12 hsz2 hnews bel3 c53 hs12 s1 bel1 H1
  go_loopw [23] (fun vi wr => ∃ k : Nat, k ≤ xk ∧ vi = .int .i64 k ∧ Hid (EnB (w0.heap.size + 1) w0.heap.size wr (E ++ ownE x.N i (nmP ps) (cntP ps) ++ (x.N.ks.take k).flatMap fun k => outN ns f k.toNat (innB x.N) (dpB x.N (cntP ps))) ∧ ArAt (w0.heap.size + 1) wr (.slice av3 (n + 1) cv3) (ps ++ [x]) ∧ Kw (w0.heap.size + 1) w0.heap.size (Value.slice av3 (n + 1) cv3).ownBlock wI wr)) (fun vi _ => xk - (intOf vi).toNat)
  case atStart => exact ⟨0, by omega, rfl, by rw [List.take_zero, List.flatMap_nil, List.append_nil]; exact HL.out.1, HL.out.2.1, Kw.refl _ _ _ _⟩
  case round =>
    obtain ⟨k, hk, rfl, HS⟩ := hrel
    have belR := HS.out.2.2.bel HL.out.2.2.2.2.1
    have szR := HS.out.2.2.size
    by_cases hlt : k < xk
    · obtain ⟨z, hz⟩ := some_at HH.out.2.2.2.1 hlt
      have hkr := HH.out.1.at_.kid i x HH.out.2.2.1
      rw [HH.out.2.2.2.1] at hkr
      obtain ⟨gk, capk, ekv⟩ : ∃ g c, x.kv = .slice (some ⟨g, 0, none⟩) xk c := by
        rcases own_zero_or hkr with ⟨h0, _⟩ | h
        · omega
        · exact h
      have eak := HH.out.2.2.2.2.1.symm.trans ekv
      cases eak
      obtain ⟨q, y, rfl, hq, hy, cy⟩ := HH.out.1.at_.kidAt HH.out.2.2.1 ekv hz
      have cyr := cell_kept belR cy
      have e1 : (x.N.ks.take (k + 1)).flatMap (fun k => outN ns f k.toNat (innB x.N) (dpB x.N (cntP ps))) = ((x.N.ks.take k).flatMap fun k => outN ns f k.toNat (innB x.N) (dpB x.N (cntP ps))) ++ outN ns f q (innB x.N) (dpB x.N (cntP ps)) := by
        rw [List.take_add_one, hz, List.flatMap_append]
        simp
      have e2 := nmP_snoc ps x
      have e3 := cntP_snoc ps x
      have hln := HO.out.2
      rw [HO.out.1, show x.N.ks.flatMap (fun k => outN ns f k.toNat (innB x.N) (dpB x.N (cntP ps))) = (x.N.ks.take (k + 1)).flatMap (fun k => outN ns f k.toNat (innB x.N) (dpB x.N (cntP ps))) ++ (x.N.ks.drop (k + 1)).flatMap (fun k => outN ns f k.toNat (innB x.N) (dpB x.N (cntP ps))) by rw [← List.flatMap_append, List.take_append_drop], e1] at hln
      simp only [List.length_append] at hln
      have kc := HH.out.2.1 q y wr (.slice av3 (n + 1) cv3) (ps ++ [x]) _ (by omega) hy belR (Nat.le_trans HL.out.2.2.2.1 szR) HS.out.2.1 (fun p hp => by
        rcases List.mem_append.1 hp with h | h
        · exact HH.out.2.2.2.2.2.2.1 p h
        · obtain rfl := List.mem_singleton.1 h
          exact List.mem_of_getElem? HH.out.2.2.1) HS.out.1 (by rw [e2, e3]; simp only [List.length_append]; omega) (by rw [List.length_append, HH.out.2.2.2.2.2.1]; show n + 1 + f ≤ 3000; omega) (fun _ => by simp)
      rw [e2, e3] at kc
      obtain ⟨ty, hty⟩ : ∃ ty, ptT (cls y.N.k) = ty := ⟨_, rfl⟩
      have hyv : nV y = .iface ty (.pointer (some ⟨y.b, 0, none⟩)) := by unfold nV nodeV; rw [hty]
      rw [hyv] at kc
      rw [hty] at cyr
      unfold cloV at kc
      have HE : Hid ((x.N.ks.take (k + 1)).flatMap (fun k => outN ns f k.toNat (innB x.N) (dpB x.N (cntP ps))) = ((x.N.ks.take k).flatMap fun k => outN ns f k.toNat (innB x.N) (dpB x.N (cntP ps))) ++ outN ns f q (innB x.N) (dpB x.N (cntP ps))) := e1
      have hki : (k : Int) < (xk : Int) := by omega
      have hk0 : (0 : Int) ≤ (k : Int) := by omega
      clear e1 e2 e3 hln hz hkr cy hy hty hyv
      go_wp2_with (go_at_call 18; refine kc.mono ?_; rintro e w5 ⟨rfl, en5, ar5, kw5⟩)
      go_roundw
      case measure => simp [intOf]; omega
      case rel => exact ⟨k + 1, by omega, by go_num, by rw [HE.out, ← List.append_assoc]; exact en5, ar5, HS.out.2.2.trans kw5 (.inl rfl)⟩
    · obtain rfl : k = xk := by omega
      have hT : x.N.ks.take k = x.N.ks := List.take_of_length_le (by rw [HH.out.2.2.2.1]; exact Nat.le_refl _)
      rw [hT] at HS
      have hfin : EnB (w0.heap.size + 1) w0.heap.size wr (E ++ RR) := by rw [HO.out.1, ← List.append_assoc]; exact HS.out.1
      have hkw : Kw (w0.heap.size + 1) w0.heap.size (Value.slice a n c).ownBlock w wr := by
        refine HL.out.2.2.1.trans HS.out.2.2 ?_
        rcases HL.out.2.2.2.2.2.1 with h | h
        · exact .inl h
        · refine .inr (.inr fun g hg => ?_)
          rw [h] at hg
          have := HL.out.2.2.2.2.2.2.1
          simp at hg
          omega
      have har : ArAt (w0.heap.size + 1) wr (.slice a n c) ps := by
        by_cases hs : (Value.slice av3 (n + 1) cv3).ownBlock = (Value.slice a n c).ownBlock
        · obtain ⟨g, cap, h1, h2⟩ := HL.out.2.2.2.2.2.2.2.1 hs
          rw [h1]
          have := HS.out.2.1
          rw [h2] at this
          exact this.pre
        · refine HS.out.2.2.ar (by omega) (HL.out.2.2.2.2.2.2.2.2.1 hs) fun g hg e => ?_
          rcases HL.out.2.2.2.2.2.1 with h | h
          · exact hs h
          · have h3 := HL.out.2.2.2.2.2.2.2.2.2 g hg
            rw [h] at e
            simp at e
            omega
      clear hT
      go_wp2_with fail
      go_end0
      exact ⟨rfl, hfin, har, hkw⟩
end Go.Proofs.YtdgbmihokecmhaaGreatDoor
