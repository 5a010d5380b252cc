import Derived.Test.YtdaaiekepmlpoaaUMk
import Derived.Test.YtdaaiekepmlpoaaShelf
import Derived.Lib.Walk
namespace Go.Proofs.Ytdaaiekepmlpoaa
open Go.RowKit
set_option linter.unusedVariables false

theorem clone_any (s : ByteArray) (hm : s.size ≤ 1100000) (w : World) : Calls Try.prog 20 #[.string s] w fun e w' => e = .returned (.string s) ∧ Below w.heap.size w w' := by
  have kc := fun w => Try.stringslite_Clone s w (by omega)
  go_enter Try.func20, Try.ntmps20
  go_wp2_with (go_at_call 28; refine (kc _).mono ?_; rintro e w' ⟨rfl, hb⟩)
  go_ret
  exact ⟨rfl, hb⟩
theorem StrsAt.noaddr {W : World} {n c : Nat} {l : List ByteArray} (h : StrsAt W (.slice none n c) l) : l = [] := by
  rcases h with ⟨h, _⟩ | ⟨a, c, h1, _⟩
  · exact h
  · cases h1
theorem IntsAt.noaddr {W : World} {n c : Nat} {l : List Int} (h : IntsAt W (.slice none n c) l) : l = [] := by
  rcases h with ⟨h, _⟩ | ⟨a, c, h1, _⟩
  · exact h
  · cases h1
theorem NdsAt.noaddr {W : World} {n c : Nat} {l : List Nd} (h : NdsAt W (.slice none n c) l) : l = [] := by
  rcases h with ⟨h, _⟩ | ⟨a, c, h1, _⟩
  · exact h
  · cases h1

set_option maxRecDepth 100000 in
set_option maxHeartbeats 1600000 in
theorem cloneStrs_any (w : World) (v : Value) (l : List ByteArray) (h : StrsAt w v l) (hl : l.length ≤ 1048576) :
    Calls Try.prog 29 #[v] w fun e w' => ∃ v', e = .returned v' ∧ w'.ownsRow w.heap.size 9 1 v' l.length (l.map Value.string) ∧ Below w.heap.size w w' := by
  obtain ⟨a, c, rfl⟩ := h.form
  have q : ∀ (w : World) (a : Option Addr) (n c n' c' : Nat), (binOp .eql 39 (.slice a n c) (.slice none n' c')).run Try.prog w = .ok (.bool a.isNone) w := fun w a n c n' c' => Lib.run_eql_slice_nil w _ _ a n c n' c' Try.underlying39
  cases a with
  | none =>
    obtain rfl := h.noaddr
    go_enter Try.func29, Try.ntmps29
    go_wp2
    go_ret
    exact ⟨_, rfl, World.ownsRow_nil _ _ _ _, Below.refl _ _⟩
  | some ad =>
    obtain ⟨i0, hi, hz0, hz1, hz2⟩ := info_parts infoStr
    have hcl : ∀ j u, (l.map Value.string)[j]? = some u → w.cell? (ad.add j) = some u := fun j u hu => by
      rw [List.getElem?_map] at hu
      cases hs : l[j]? with
      | none => rw [hs] at hu; cases hu
      | some s =>
        rw [hs] at hu
        obtain rfl := Option.some.inj hu
        obtain ⟨a', e, hc⟩ := h.get hs
        cases e; exact hc
    have HC : Hid (∀ j u, (l.map Value.string)[j]? = some u → w.cell? (ad.add j) = some u) := hcl
    have hlen : (l.map Value.string).length = l.length * 1 := by simp
    have HL : Hid ((l.map Value.string).length = l.length * 1) := hlen
    clear h hcl hlen
    generalize l.length = n at hl HL ⊢
    go_enter Try.func29, Try.ntmps29
    go_wp2_with (at_builtin; refine wpList_append_own _ rfl _ _ 39 rfl w.heap.size 9 i0 _ 1 16 Try.underlying39 hi hz0 hz1 hz2 rfl (by decide) _ _ _ rfl (World.ownsRow_made w #[] 0 (Nat.le_refl _) (Nat.zero_le _) rfl) ad n c (l.map Value.string) rfl HL.out ?qc2 ?qc3 ?qc4 ?qc5 ?qc6 ?_)
    case qc2 => intro j u hj; exact cell_kept ((Below.refl _ w).alloc (Nat.le_refl _) _) (HC.out j u hj)
    case qc3 => intro u hu; obtain ⟨x, _, rfl⟩ := List.mem_map.1 hu; rfl
    case qc4 => unfold maxLen; omega
    case qc5 => omega
    case qc6 => simp
    intro v' w1 hown hgrow hnil
    go_wp2
    go_ret
    refine ⟨v', rfl, by simpa using hown, ?_⟩
    exact ((Below.refl _ w).alloc (Nat.le_refl _) _).grown hgrow (by simp) (by intro k hk; simp [Value.ownBlock] at hk; omega)

set_option maxRecDepth 100000 in
set_option maxHeartbeats 1600000 in
theorem cloneInts_any (w : World) (v : Value) (l : List Int) (h : IntsAt w v l) (hl : l.length ≤ 1048576) :
    Calls Try.prog 22 #[v] w fun e w' => ∃ v', e = .returned v' ∧ w'.ownsRow w.heap.size 3 1 v' l.length (l.map (Value.int .i64)) ∧ Below w.heap.size w w' := by
  obtain ⟨a, c, rfl⟩ := h.form
  have q : ∀ (w : World) (a : Option Addr) (n c n' c' : Nat), (binOp .eql 40 (.slice a n c) (.slice none n' c')).run Try.prog w = .ok (.bool a.isNone) w := fun w a n c n' c' => Lib.run_eql_slice_nil w _ _ a n c n' c' Try.underlying40
  cases a with
  | none =>
    obtain rfl := h.noaddr
    go_enter Try.func22, Try.ntmps22
    go_wp2
    go_ret
    exact ⟨_, rfl, World.ownsRow_nil _ _ _ _, Below.refl _ _⟩
  | some ad =>
    obtain ⟨i0, hi, hz0, hz1, hz2⟩ := info_parts infoInt
    have hcl : ∀ j u, (l.map (Value.int .i64))[j]? = some u → w.cell? (ad.add j) = some u := fun j u hu => by
      rw [List.getElem?_map] at hu
      cases hs : l[j]? with
      | none => rw [hs] at hu; cases hu
      | some s =>
        rw [hs] at hu
        obtain rfl := Option.some.inj hu
        obtain ⟨a', e, hc⟩ := h.get hs
        cases e; exact hc
    have HC : Hid (∀ j u, (l.map (Value.int .i64))[j]? = some u → w.cell? (ad.add j) = some u) := hcl
    have hlen : (l.map (Value.int .i64)).length = l.length * 1 := by simp
    have HL : Hid ((l.map (Value.int .i64)).length = l.length * 1) := hlen
    clear h hcl hlen
    generalize l.length = n at hl HL ⊢
    go_enter Try.func22, Try.ntmps22
    go_wp2_with (at_builtin; refine wpList_append_own _ rfl _ _ 40 rfl w.heap.size 3 i0 _ 1 8 Try.underlying40 hi hz0 hz1 hz2 rfl (by decide) _ _ _ rfl (World.ownsRow_made w #[] 0 (Nat.le_refl _) (Nat.zero_le _) rfl) ad n c (l.map (Value.int .i64)) rfl HL.out ?qc2 ?qc3 ?qc4 ?qc5 ?qc6 ?_)
    case qc2 => intro j u hj; exact cell_kept ((Below.refl _ w).alloc (Nat.le_refl _) _) (HC.out j u hj)
    case qc3 => intro u hu; obtain ⟨x, _, rfl⟩ := List.mem_map.1 hu; rfl
    case qc4 => unfold maxLen; omega
    case qc5 => omega
    case qc6 => simp
    intro v' w1 hown hgrow hnil
    go_wp2
    go_ret
    refine ⟨v', rfl, by simpa using hown, ?_⟩
    exact ((Below.refl _ w).alloc (Nat.le_refl _) _).grown hgrow (by simp) (by intro k hk; simp [Value.ownBlock] at hk; omega)

/-- The nodes that a slice holds, with the lists they hold there. -/
theorem NdsAt.mbs {W : World} {ad : Addr} {n c : Nat} {ns : List Nd} (h : NdsAt W (.slice (some ad) n c) ns) : ∃ L : List Mb, L.map Mb.N = ns ∧ ∀ i x, L[i]? = some x → NdAt W (ad.add (i * 9)) x.N x.vn x.vk := by
  have hx : ∀ m, m ≤ ns.length → ∃ L : List Mb, L.map Mb.N = ns.take m ∧ ∀ i x, L[i]? = some x → NdAt W (ad.add (i * 9)) x.N x.vn x.vk := by
    intro m
    induction m with
    | zero => intro _; exact ⟨[], by simp, fun i x hx => by simp at hx⟩
    | succ m ih =>
      intro hm
      obtain ⟨L, h1, h2⟩ := ih (by omega)
      have hl : L.length = m := by have := congrArg List.length h1; rw [List.length_map, List.length_take] at this; omega
      obtain ⟨N, hN⟩ : ∃ N, ns[m]? = some N := ⟨ns[m], List.getElem?_eq_getElem _⟩
      obtain ⟨a', e, vn, vk, hd⟩ := h.get hN
      cases e
      refine ⟨L ++ [⟨N, vn, vk⟩], by rw [List.map_append, h1, List.take_add_one, hN]; rfl, fun i x hx => ?_⟩
      rcases Nat.lt_or_ge i m with g | g
      · rw [List.getElem?_append_left (by omega)] at hx; exact h2 i x hx
      · rw [List.getElem?_append_right (by omega), hl] at hx
        rcases Nat.eq_or_lt_of_le g with rfl | g
        · simp at hx; subst hx; exact hd
        · rw [List.getElem?_eq_none (by simp; omega)] at hx; cases hx
  obtain ⟨L, h1, h2⟩ := hx ns.length (Nat.le_refl _)
  exact ⟨L, by rw [h1, List.take_length], h2⟩
theorem NdAt.cell {W : World} {ad : Addr} {i : Nat} {x : Mb} (h : NdAt W (ad.add (i * 9)) x.N x.vn x.vk) (j : Nat) (u : Value) (hu : (cMb x)[j]? = some u) : W.cell? (ad.add (i * 9 + j)) = some u := by
  have hj : j < 9 := (List.getElem?_eq_some_iff.1 hu).1
  have e : ∀ j, j ≠ 0 → ad.add (i * 9 + j) = ⟨(ad.add (i * 9)).block, (ad.add (i * 9)).off + j, none⟩ := fun j hj => by
    unfold Addr.add
    rw [if_neg (by omega)]
    split
    · simp
    · simp; omega
  obtain ⟨c0, c1, c2, c3, c4, c5, c6, c7, c8, _, _⟩ := h
  rcases (show j = 0 ∨ j = 1 ∨ j = 2 ∨ j = 3 ∨ j = 4 ∨ j = 5 ∨ j = 6 ∨ j = 7 ∨ j = 8 by omega) with rfl | rfl | rfl | rfl | rfl | rfl | rfl | rfl | rfl
  · rw [Nat.add_zero]; exact c0.trans hu
  · rw [e 1 (by omega)]; exact c1.trans hu
  · rw [e 2 (by omega)]; exact c2.trans hu
  · rw [e 3 (by omega)]; exact c3.trans hu
  · rw [e 4 (by omega)]; exact c4.trans hu
  · rw [e 5 (by omega)]; exact c5.trans hu
  · rw [e 6 (by omega)]; exact c6.trans hu
  · rw [e 7 (by omega)]; exact c7.trans hu
  · rw [e 8 (by omega)]; exact c8.trans hu

set_option maxRecDepth 100000 in
set_option maxHeartbeats 1600000 in
theorem cloneNds_any (w : World) (v : Value) (ns : List Nd) (h : NdsAt w v ns) (hl : ns.length ≤ 1048576) :
    Calls Try.prog 19 #[v] w fun e w' => ∃ v' L, e = .returned v' ∧ L.map Mb.N = ns ∧ w'.ownsRow w.heap.size 42 9 v' ns.length (cMbs L) ∧ (∀ x ∈ L, StrsAt w x.vn x.N.nm ∧ IntsAt w x.vk x.N.ks) ∧ Below w.heap.size w w' := by
  obtain ⟨a, c, rfl⟩ := h.form
  have q : ∀ (w : World) (a : Option Addr) (n c n' c' : Nat), (binOp .eql 28 (.slice a n c) (.slice none n' c')).run Try.prog w = .ok (.bool a.isNone) w := fun w a n c n' c' => Lib.run_eql_slice_nil w _ _ a n c n' c' Try.underlying28
  cases a with
  | none =>
    obtain rfl := h.noaddr
    go_enter Try.func19, Try.ntmps19
    go_wp2
    go_ret
    exact ⟨_, [], rfl, rfl, World.ownsRow_nil _ _ _ _, fun x hx => (by simp at hx), Below.refl _ _⟩
  | some ad =>
    obtain ⟨i0, hi, hz0, hz1, hz2⟩ := info_parts infoNode
    obtain ⟨L, hLn, hLc⟩ := h.mbs
    have hLl : L.length = ns.length := by rw [← hLn, List.length_map]
    have hat : ∀ x ∈ L, StrsAt w x.vn x.N.nm ∧ IntsAt w x.vk x.N.ks := fun x hx => by
      obtain ⟨i, hi, e⟩ := List.getElem_of_mem hx
      have := hLc i x (by rw [List.getElem?_eq_getElem hi, e])
      exact ⟨this.hn, this.hk⟩
    have hcl : ∀ j u, (cMbs L)[j]? = some u → w.cell? (ad.add j) = some u := fun j u hu => by
      have hj : j < L.length * 9 := by rw [← cMbs_len]; exact (List.getElem?_eq_some_iff.1 hu).1
      have hd : j / 9 < L.length := by omega
      have ej : j / 9 * 9 + j % 9 = j := by omega
      have hx : L[j / 9]? = some L[j / 9] := List.getElem?_eq_getElem hd
      have h1 := cMbs_at L (j / 9) (j % 9) _ hx (Nat.mod_lt _ (by omega))
      rw [ej, hu] at h1
      have := (hLc _ _ hx).cell (j % 9) u h1.symm
      rw [ej] at this
      exact this
    have hone : ∀ u ∈ cMbs L, u.oneCell' = true := fun u hu => by
      obtain ⟨x, hx, hu⟩ := List.mem_flatMap.1 hu
      obtain ⟨a1, c1, e1⟩ := (hat x hx).1.form
      obtain ⟨a2, c2, e2⟩ := (hat x hx).2.form
      simp only [cMb, e1, e2, List.mem_cons, List.not_mem_nil, or_false] at hu
      rcases hu with rfl | rfl | rfl | rfl | rfl | rfl | rfl | rfl | rfl <;> rfl
    have HC : Hid ((∀ j u, (cMbs L)[j]? = some u → w.cell? (ad.add j) = some u) ∧ (∀ u ∈ cMbs L, u.oneCell' = true) ∧ (cMbs L).length = ns.length * 9 ∧ L.map Mb.N = ns ∧ (∀ x ∈ L, StrsAt w x.vn x.N.nm ∧ IntsAt w x.vk x.N.ks)) := ⟨hcl, hone, by rw [cMbs_len, hLl], hLn, hat⟩
    clear h hcl hone hLn hLc hLl hat
    generalize ns.length = n at hl HC ⊢
    go_enter Try.func19, Try.ntmps19
    go_wp2_with (at_builtin; refine wpList_append_own _ rfl _ _ 28 rfl w.heap.size 42 i0 _ 9 112 Try.underlying28 hi hz0 hz1 hz2 rfl (by decide) _ _ _ rfl (World.ownsRow_made w #[] 0 (Nat.le_refl _) (Nat.zero_le _) rfl) ad n c (cMbs L) rfl HC.out.2.2.1 ?qc2 HC.out.2.1 ?qc4 ?qc5 ?qc6 ?_)
    case qc2 => intro j u hj; exact cell_kept ((Below.refl _ w).alloc (Nat.le_refl _) _) (HC.out.1 j u hj)
    case qc4 => unfold maxLen; omega
    case qc5 => omega
    case qc6 => simp
    intro v' w1 hown hgrow hnil
    go_wp2
    go_ret
    refine ⟨v', L, rfl, HC.out.2.2.2.1, by simpa using hown, HC.out.2.2.2.2, ?_⟩
    exact ((Below.refl _ w).alloc (Nat.le_refl _) _).grown hgrow (by simp) (by intro k hk; simp [Value.ownBlock] at hk; omega)

set_option maxRecDepth 100000 in
set_option maxHeartbeats 1600000 in
theorem clonedNames_any (w : World) (v : Value) (l : List ByteArray) (h : StrsAt w v l) (hl : l.length ≤ 1048576) (hs : ∀ s ∈ l, s.size ≤ 1100000) :
    Calls Try.prog 21 #[v] w fun e w' => ∃ v', e = .returned v' ∧ w'.ownsRow w.heap.size 9 1 v' l.length (l.map Value.string) ∧ Below w.heap.size w w' := by
  have kc := cloneStrs_any w v l h hl
  obtain ⟨a, c, rfl⟩ := h.form
  have HS : Hid (∀ s ∈ l, s.size ≤ 1100000) := hs
  obtain ⟨n, hn⟩ : ∃ n, l.length = n := ⟨_, rfl⟩
  have HN : Hid (l.length = n) := hn
  rw [hn] at kc hl ⊢
  clear hs h hn
  go_enter Try.func21, Try.ntmps21
  go_wp2_with (go_at_call 29; fail)
  refine kc.mono ?_
  rintro e w1 ⟨v', rfl, o1, hb1⟩
  rcases own_zero_or o1 with ⟨hz, rfl⟩ | ⟨g, cap, rfl⟩
  · subst hz
    go_wp2_with fail
    refine wp_loop_rounds 1 ?_
    rw [rounds_succ]
    go_wp2
    go_ret
    exact ⟨_, rfl, o1, hb1⟩
  · go_wp2_with fail
    have hgw := (o1.lt g rfl).1
    go_loopw [10] (fun vi wr => ∃ k : Nat, k ≤ n ∧ vi = .int .i64 k ∧ wr.ownsRow w.heap.size 9 1 (.slice (some ⟨g, 0, none⟩) n cap) n (l.map Value.string) ∧ Below w.heap.size w wr) (fun vi _ => n - (intOf vi).toNat)
    case atStart => exact ⟨0, Nat.zero_le _, rfl, o1, hb1⟩
    case round =>
      obtain ⟨k, hk, rfl, ho, hb⟩ := hrel
      clear o1 hb1
      by_cases hlt : k < n
      · have hki : (k : Int) < (n : Int) := by omega
        have hk0 : (0 : Int) ≤ (k : Int) := by omega
        obtain ⟨s, hsk⟩ := some_at HN.out hlt
        have km := fun w => clone_any s (HS.out s (List.mem_of_getElem? hsk)) w
        have hcl : (l.map Value.string)[k]? = some (.string s) := by rw [List.getElem?_map, hsk]; rfl
        have c0 : wr.cell? ⟨g, k, none⟩ = some (.string s) := (ho.cellAt k (by omega)).trans hcl
        have hset : (l.map Value.string).set k (.string s) = l.map Value.string := by
          apply List.ext_getElem?
          intro j
          rcases Nat.decEq k j with hne | rfl
          · rw [List.getElem?_set_ne hne]
          · rw [List.getElem?_set_self (by rw [List.length_map, HN.out]; exact hlt), hcl]
        have HT : Hid ((l.map Value.string).set k (.string s) = l.map Value.string ∧ (l.map Value.string)[k]? = some (.string s)) := ⟨hset, hcl⟩
        clear hsk hset hcl
        go_wp2_with (go_at_call 20; refine (km _).mono ?_; rintro e w4 ⟨rfl, hb4⟩; have o6 := own_keep ho hb4; have f6 := o6.frozenAt k; have c6 : w4.cell? ⟨g, k, none⟩ = some (.string s) := (o6.cellAt k (by omega)).trans HT.out.2)
        have o7 := (o6.stored k (.string s)).1
        rw [HT.out.1] at o7
        exact ⟨⟨k + 1, by omega, by go_num, o7, (hb.trans (hb4.mono hb.size)).setCell hgw _⟩, by simp [intOf]; omega⟩
      · obtain rfl : k = n := by omega
        go_wp2_with fail
        go_ret
        exact ⟨_, rfl, ho, hb⟩
end Go.Proofs.Ytdaaiekepmlpoaa
