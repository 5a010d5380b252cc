import Derived.Test.YtcnhhhfedakepaaGreatDoorMM06
namespace Go.Proofs.YtcnhhhfedakepaaGreatDoor
open Go.RowKit
set_option linter.unusedVariables false

theorem infoNode : (Tryz.prog.info? 67).map (fun i => (i.zero, i.size, i.bytes)) = some (some (.agg #[.int .i64 0, .int .i64 0, .int .i64 0, .int .i64 0, .int .i64 0, .int .i64 0, .string ⟨#[]⟩, .slice none 0 0, .slice none 0 0]), 9, 112) := by kernel_rfl
/-- A node that the law has made: the blocks of its names and of its kids beside it. -/
structure Nb where
  N : Nd
  g : Nat
  h : Nat
def Nb.vn (x : Nb) : Value := .slice (some ⟨x.g, 0, none⟩) x.N.nm.length x.N.nm.length
def Nb.vk (x : Nb) : Value := .slice (some ⟨x.h, 0, none⟩) x.N.ks.length x.N.ks.length
def cNb (x : Nb) : List Value := [.int .i64 x.N.k, .int .i64 x.N.f, .int .i64 x.N.t, .int .i64 x.N.l, .int .i64 x.N.op, .int .i64 x.N.n, .string x.N.x, x.vn, x.vk]
def cNbs (l : List Nb) : List Value := l.flatMap cNb
def zc : List Value := [.int .i64 0, .int .i64 0, .int .i64 0, .int .i64 0, .int .i64 0, .int .i64 0, .string ⟨#[]⟩, .slice none 0 0, .slice none 0 0]
def zcs : Nat → List Value
  | 0 => []
  | n + 1 => zc ++ zcs n
theorem cNbs_app (a : List Nb) (x : Nb) : cNbs (a ++ [x]) = cNbs a ++ cNb x := by simp [cNbs]
theorem cNbs_len (l : List Nb) : (cNbs l).length = l.length * 9 := by
  induction l with
  | nil => rfl
  | cons a r ih =>
    have e : cNbs (a :: r) = cNb a ++ cNbs r := by simp [cNbs]
    have la : (cNb a).length = 9 := rfl
    rw [e, List.length_append, ih, la, List.length_cons]; omega
theorem zcs_len (n : Nat) : (zcs n).length = n * 9 := by
  induction n with
  | zero => rfl
  | succ n ih => rw [zcs, List.length_append, ih]; show 9 + n * 9 = _; omega
theorem zcs_at : ∀ (n j : Nat), j < n * 9 → (zcs n)[j]? = zc[j % 9]?
  | 0, j, h => by omega
  | n + 1, j, h => by
    have lz : zc.length = 9 := rfl
    rw [zcs]
    rcases Nat.lt_or_ge j 9 with g | g
    · rw [List.getElem?_append_left (by omega), Nat.mod_eq_of_lt g]
    · rw [List.getElem?_append_right (by omega), lz, zcs_at n (j - 9) (by omega)]
      congr 1
      omega
theorem made9 (n : Nat) : (madeCells (Value.agg #[.int .i64 0, .int .i64 0, .int .i64 0, .int .i64 0, .int .i64 0, .int .i64 0, .string ⟨#[]⟩, .slice none 0 0, .slice none 0 0]).cells (n * 9)).toList = zcs n := by
  apply List.ext_getElem?
  intro j
  by_cases hj : j < n * 9
  · rw [zcs_at n j hj]
    have hr : j % 9 < 9 := Nat.mod_lt _ (by omega)
    have e : (madeCells (Value.agg #[.int .i64 0, .int .i64 0, .int .i64 0, .int .i64 0, .int .i64 0, .int .i64 0, .string ⟨#[]⟩, .slice none 0 0, .slice none 0 0]).cells (n * 9)).toList[j]? = some ((#[.int .i64 0, .int .i64 0, .int .i64 0, .int .i64 0, .int .i64 0, .int .i64 0, .string ⟨#[]⟩, .slice none 0 0, .slice none 0 0] : Array Value)[j % 9]!) := by
      unfold madeCells
      rw [Array.getElem?_toList, Array.getElem?_map, Array.getElem?_range, if_pos hj]
      rfl
    rw [e]
    generalize j % 9 = r at hr
    rcases (show r = 0 ∨ r = 1 ∨ r = 2 ∨ r = 3 ∨ r = 4 ∨ r = 5 ∨ r = 6 ∨ r = 7 ∨ r = 8 by omega) with rfl | rfl | rfl | rfl | rfl | rfl | rfl | rfl | rfl
    all_goals rfl
  · rw [List.getElem?_eq_none (l := zcs n) (by rw [zcs_len]; omega), List.getElem?_eq_none]
    rw [Array.length_toList, size_madeCells]
    omega
theorem set_fill (A R : List Value) (m : Nat) (hA : A.length = m) (a0 a1 a2 a3 a4 a5 a6 a7 a8 : Value) :
    (((((((((A ++ (zc ++ R)).set m a0).set (m + 1) a1).set (m + 2) a2).set (m + 3) a3).set (m + 4) a4).set (m + 5) a5).set (m + 6) a6).set (m + 7) a7).set (m + 8) a8 = A ++ ([a0, a1, a2, a3, a4, a5, a6, a7, a8] ++ R) := by
  subst hA
  have st : ∀ (xs : List Value) (j : Nat) (u : Value), (A ++ xs).set (A.length + j) u = A ++ xs.set j u := fun xs j u => by
    rw [List.set_append_right _ _ (by omega)]; congr 2; omega
  have s0 := fun xs u => st xs 0 u
  simp only [Nat.add_zero] at s0
  rw [s0, st, st, st, st, st, st, st, st]
  rfl

/-- The names and the kids of a made node are its own. -/
structure NbOwn (W : World) (base : Nat) (x : Nb) : Prop where
  on : W.ownsRow base 9 1 x.vn x.N.nm.length (x.N.nm.map Value.string)
  ok : W.ownsRow base 3 1 x.vk x.N.ks.length (x.N.ks.map (Value.int .i64))
theorem NbOwn.below {W W' : World} {base : Nat} {x : Nb} (h : NbOwn W base x) (hb : Below W.heap.size W W') : NbOwn W' base x := ⟨own_keep h.on hb, own_keep h.ok hb⟩
theorem own_apart {W : World} {b1 b2 e1 e2 s1 s2 g1 g2 n1 n2 c1 c2 : Nat} {x1 x2 : List Value} (h1 : W.ownsRow b1 e1 s1 (.slice (some ⟨g1, 0, none⟩) n1 c1) n1 x1) (h2 : W.ownsRow b2 e2 s2 (.slice (some ⟨g2, 0, none⟩) n2 c2) n2 x2) (he : e1 ≠ e2) : g1 ≠ g2 := by
  rintro rfl
  rcases h1.2 with ⟨h, _⟩ | ⟨g, cap, cur, h, _, hg, _⟩
  · cases h
  · cases h
    rcases h2.2 with ⟨h, _⟩ | ⟨g', cap', cur', h', _, hg', _⟩
    · cases h
    · cases h'
      have e := hg.symm.trans hg'
      simp only [Option.some.injEq, Obj.cells.injEq] at e
      exact he e.2.1
theorem NbOwn.set {W : World} {base : Nat} {x : Nb} (h : NbOwn W base x) {a : Addr} (h1 : x.g ≠ a.block) (h2 : x.h ≠ a.block) (u : Value) : NbOwn (W.setCell a u) base x :=
  ⟨ownsRow_setCell_other h.on (by unfold Nb.vn Value.ownBlock; simp; exact h1) u, ownsRow_setCell_other h.ok (by unfold Nb.vk Value.ownBlock; simp; exact h2) u⟩
/-- A list of nodes that the law has made, in the block g; the block of each list is its own. -/
structure NbsOwn (W : World) (base g n : Nat) (L : List Nb) (rest : List Value) : Prop where
  row : W.ownsRow base 67 9 (.slice (some ⟨g, 0, none⟩) n n) n (cNbs L ++ rest)
  each : ∀ x ∈ L, NbOwn W base x
  dn : (L.map Nb.g).Nodup
  dk : (L.map Nb.h).Nodup
theorem NbsOwn.below {W W' : World} {base g n : Nat} {L : List Nb} {rest : List Value} (h : NbsOwn W base g n L rest) (hb : Below W.heap.size W W') : NbsOwn W' base g n L rest :=
  ⟨own_keep h.row hb, fun x hx => (h.each x hx).below hb, h.dn, h.dk⟩

set_option maxRecDepth 100000 in
set_option maxHeartbeats 3200000 in
theorem toNodeS_any (w : World) (v : Value) (l : List Nd) (h : NdsAt w v l) (hl : l.length ≤ 1048576) (hN : ∀ N ∈ l, N.nm.length ≤ 1048576 ∧ N.ks.length ≤ 1048576) :
    Calls Tryz.prog 19 #[v] w fun e w' => e = .returned (.slice (some ⟨w.heap.size, 0, none⟩) l.length l.length) ∧ (∃ L, L.map Nb.N = l ∧ NbsOwn w' w.heap.size w.heap.size l.length L []) ∧ Below w.heap.size w w' := by
  obtain ⟨a, c, rfl⟩ := h.form
  obtain ⟨n, hn⟩ : ∃ n, l.length = n := ⟨_, rfl⟩
  have HN : Hid (l.length = n) := hn
  have HA : Hid (NdsAt w (.slice a n c) l) := by rw [← hn]; exact h
  have HS : Hid (∀ N ∈ l, N.nm.length ≤ 1048576 ∧ N.ks.length ≤ 1048576) := hN
  rw [hn] at hl ⊢
  clear h hn hN
  obtain ⟨i0, hi, hz0, hz1, hz2⟩ := info_parts infoNode
  go_enter Tryz.func19, Tryz.ntmps19
  go_wp2_with (at_make; refine wpList_make_full _ rfl _ _ 28 rfl w.heap.size 67 i0 (.agg #[.int .i64 0, .int .i64 0, .int .i64 0, .int .i64 0, .int .i64 0, .int .i64 0, .string ⟨#[]⟩, .slice none 0 0, .slice none 0 0]) 9 Tryz.underlying28 hi hz0 hz1 .i64 .i64 _ _ n rfl rfl rfl rfl (by rw [hz2]; omega) (by unfold maxLen; omega) (Nat.le_refl _) ?_; intro w0 hown0 hgrow0)
  have hb0 : Below w.heap.size w w0 := ⟨hgrow0.os, hgrow0.tape, hgrow0.output, hgrow0.size, fun k hk => hgrow0.block k hk (by simp)⟩
  go_loopw [4] (fun vi wr => ∃ (k : Nat) (L : List Nb), k ≤ n ∧ vi = .int .i64 k ∧ L.map Nb.N = l.take k ∧ NbsOwn wr w.heap.size w.heap.size n L (zcs (n - k)) ∧ Below w.heap.size w wr) (fun vi _ => n - (intOf vi).toNat)
  case atStart =>
    refine ⟨0, [], by omega, rfl, rfl, ⟨?_, fun x hx => by simp at hx, List.nodup_nil, List.nodup_nil⟩, hb0⟩
    rw [made9] at hown0
    exact hown0
  case round =>
    obtain ⟨k, L, hk, rfl, hL, ho, hb⟩ := hrel
    clear hown0 hgrow0 hb0
    have hLl : L.length = k := by have := congrArg List.length hL; rw [List.length_map, List.length_take, HN.out] at this; omega
    by_cases hlt : k < n
    · obtain ⟨N, hsk⟩ := some_at HN.out hlt
      obtain ⟨hs1, hs2⟩ := HS.out N (List.mem_of_getElem? hsk)
      obtain ⟨a', rfl, vn, vk, hNd⟩ := (HA.out.below hb).get hsk
      have hki : (k : Int) < (n : Int) := by omega
      have hk0 : (0 : Int) ≤ (k : Int) := by omega
      obtain ⟨c0, c1, c2, c3, c4, c5, c6, c7, c8, hn, hkk⟩ := hNd
      have kt := toNode_any wr N vn vk hn hkk hs1 hs2
      obtain ⟨av, cv, rfl⟩ := hn.form
      obtain ⟨ak, ck, rfl⟩ := hkk.form
      unfold vNd at kt
      have HSK : Hid (l[k]? = some N) := hsk
      clear hn hkk hsk hs1 hs2
      go_wp2_with (go_at_call 37; fail)
      refine kt.mono ?_
      rintro e w3 ⟨g1, g2, rfl, own1, own2, hb3⟩
      have ho3 := ho.below hb3
      have hlen := cNbs_len L
      rw [hLl] at hlen
      have hrow := ho3.row
      rw [show n - k = (n - (k + 1)) + 1 by omega, zcs] at hrow
      have dc : ∀ j, j < 9 → w3.cell? ⟨w.heap.size, k * 9 + j, none⟩ = zc[j]? := fun j hj => by
        rw [hrow.cellAt (k * 9 + j) (by omega), List.getElem?_append_right (by omega), hlen, Nat.add_sub_cancel_left, List.getElem?_append_left (by show j < 9; exact hj)]
      have d0 := dc 0 (by omega)
      have d1 := dc 1 (by omega)
      have d2 := dc 2 (by omega)
      have d3 := dc 3 (by omega)
      have d4 := dc 4 (by omega)
      have d5 := dc 5 (by omega)
      have d6 := dc 6 (by omega)
      have d7 := dc 7 (by omega)
      have d8 := dc 8 (by omega)
      simp only [zc, Nat.add_zero, List.getElem?_cons_zero, List.getElem?_cons_succ] at d0 d1 d2 d3 d4 d5 d6 d7 d8
      have fz := fun j => hrow.frozenAt j
      clear dc c0 c1 c2 c3 c4 c5 c6 c7 c8 kt
      go_wp2_with fail
      have o9 := (((((((((hrow.stored (k * 9) (.int .i64 N.k)).1.stored (k * 9 + 1) (.int .i64 N.f)).1.stored (k * 9 + 2) (.int .i64 N.t)).1.stored (k * 9 + 3) (.int .i64 N.l)).1.stored (k * 9 + 4) (.int .i64 N.op)).1.stored (k * 9 + 5) (.int .i64 N.n)).1.stored (k * 9 + 6) (.string N.x)).1.stored (k * 9 + 7) (.slice (some ⟨g1, 0, none⟩) N.nm.length N.nm.length)).1.stored (k * 9 + 8) (.slice (some ⟨g2, 0, none⟩) N.ks.length N.ks.length)).1
      rw [set_fill (cNbs L) (zcs (n - (k + 1))) (k * 9) hlen] at o9
      have hng : ∀ x ∈ L, x.g ≠ w.heap.size ∧ x.h ≠ w.heap.size := fun x hx => ⟨own_apart (ho3.each x hx).on hrow (by decide), own_apart (ho3.each x hx).ok hrow (by decide)⟩
      have hn1 : g1 ≠ w.heap.size := own_apart own1 hrow (by decide)
      have hn2 : g2 ≠ w.heap.size := own_apart own2 hrow (by decide)
      have hold : ∀ x ∈ L, x.g < wr.heap.size ∧ x.h < wr.heap.size := fun x hx => ⟨((ho.each x hx).on.lt x.g rfl).2, ((ho.each x hx).ok.lt x.h rfl).2⟩
      have hw1 := (own1.lt g1 rfl).1
      have hw2 := (own2.lt g2 rfl).1
      have hnew : NbOwn w3 w.heap.size ⟨N, g1, g2⟩ := ⟨own_le own1 hb.size, own_le own2 hb.size⟩
      refine ⟨⟨k + 1, L ++ [⟨N, g1, g2⟩], by omega, by go_num, ?_, ⟨?_, ?_, ?_, ?_⟩, ?_⟩, by simp [intOf]; omega⟩
      · rw [List.map_append, hL, List.take_add_one, HSK.out]; rfl
      · rw [cNbs_app, List.append_assoc]; exact o9
      · intro x hx
        rcases List.mem_append.1 hx with hx | hx
        · obtain ⟨e1, e2⟩ := hng x hx
          exact (((((((((ho3.each x hx).set e1 e2 _).set e1 e2 _).set e1 e2 _).set e1 e2 _).set e1 e2 _).set e1 e2 _).set e1 e2 _).set e1 e2 _).set e1 e2 _
        · obtain rfl := List.mem_singleton.1 hx
          exact ((((((((hnew.set hn1 hn2 _).set hn1 hn2 _).set hn1 hn2 _).set hn1 hn2 _).set hn1 hn2 _).set hn1 hn2 _).set hn1 hn2 _).set hn1 hn2 _).set hn1 hn2 _
      · rw [List.map_append, List.nodup_append]
        refine ⟨ho.dn, by simp, fun a ha b hb' => ?_⟩
        obtain ⟨x, hx, rfl⟩ := List.mem_map.1 ha
        simp at hb'
        have := (hold x hx).1
        omega
      · rw [List.map_append, List.nodup_append]
        refine ⟨ho.dk, by simp, fun a ha b hb' => ?_⟩
        obtain ⟨x, hx, rfl⟩ := List.mem_map.1 ha
        simp at hb'
        have := (hold x hx).2
        omega
      · have hbb := hb.trans (hb3.mono hb.size)
        iterate 9 refine Below.setCell ?_ (by simp) _
        exact hbb
    · obtain rfl : k = n := by omega
      go_wp2_with fail
      go_ret
      refine ⟨rfl, ⟨L, ?_, ?_⟩, hb⟩
      · rw [hL, List.take_of_length_le (by have := HN.out; omega)]
      · rw [Nat.sub_self] at ho; exact ho

theorem NbsOwn.setb {W : World} {base g n : Nat} {L : List Nb} {rest : List Value} (h : NbsOwn W base g n L rest) {a : Addr} (ha : a.block < base) (u : Value) : NbsOwn (W.setCell a u) base g n L rest :=
  ⟨ownsRow_setCell_below h.row ha u, fun x hx => ⟨ownsRow_setCell_below (h.each x hx).on ha u, ownsRow_setCell_below (h.each x hx).ok ha u⟩, h.dn, h.dk⟩
theorem NbsOwn.le {W : World} {base base' g n : Nat} {L : List Nb} {rest : List Value} (h : NbsOwn W base g n L rest) (hb : base' ≤ base) : NbsOwn W base' g n L rest :=
  ⟨own_le h.row hb, fun x hx => ⟨own_le (h.each x hx).on hb, own_le (h.each x hx).ok hb⟩, h.dn, h.dk⟩
theorem cNbs_at (ts : List Nb) (i j : Nat) (T : Nb) (hT : ts[i]? = some T) (hj : j < 9) : (cNbs ts)[i * 9 + j]? = (cNb T)[j]? := by
  induction ts generalizing i with
  | nil => simp at hT
  | cons a r ih =>
    have e : cNbs (a :: r) = cNb a ++ cNbs r := by simp [cNbs]
    have la : (cNb a).length = 9 := rfl
    rw [e]
    cases i with
    | zero => simp at hT; subst hT; rw [List.getElem?_append_left (by omega)]; congr 1; omega
    | succ i =>
      rw [List.getElem?_append_right (by omega), la, show (i + 1) * 9 + j - 9 = i * 9 + j by omega]
      exact ih i (by simpa using hT)
theorem add_zero9 (g m : Nat) : (⟨g, 0, none⟩ : Addr).add m = ⟨g, m, none⟩ := by unfold Addr.add; split <;> simp_all
theorem NbsOwn.nd {W : World} {base g n : Nat} {L : List Nb} (h : NbsOwn W base g n L []) {i : Nat} {x : Nb} (hx : L[i]? = some x) : NdAt W ⟨g, i * 9, none⟩ x.N x.vn x.vk := by
  have hlen : n * 9 = L.length * 9 := by have := h.row.1; rw [List.append_nil, cNbs_len] at this; omega
  have hi : i < L.length := by rcases Nat.lt_or_ge i L.length with g | g; exact g; rw [List.getElem?_eq_none g] at hx; cases hx
  have c : ∀ j, j < 9 → W.cell? ⟨g, i * 9 + j, none⟩ = (cNb x)[j]? := fun j hj => by
    rw [h.row.cellAt (i * 9 + j) (by omega), List.append_nil, cNbs_at L i j x hx hj]
  have hm := List.mem_of_getElem? hx
  exact ⟨c 0 (by omega), c 1 (by omega), c 2 (by omega), c 3 (by omega), c 4 (by omega), c 5 (by omega), c 6 (by omega), c 7 (by omega), c 8 (by omega), own_strs (h.each x hm).on rfl, own_ints (h.each x hm).ok rfl⟩
theorem NbsOwn.nds {W : World} {base g n : Nat} {L : List Nb} (h : NbsOwn W base g n L []) : NdsAt W (.slice (some ⟨g, 0, none⟩) n n) (L.map Nb.N) := by
  have hlen : n = (L.map Nb.N).length := by have := h.row.1; rw [List.append_nil, cNbs_len] at this; rw [List.length_map]; omega
  refine .inr ⟨⟨g, 0, none⟩, n, by rw [← hlen], fun i N hN => ?_⟩
  rw [List.getElem?_map] at hN
  cases hx : L[i]? with
  | none => rw [hx] at hN; cases hN
  | some x =>
    rw [hx] at hN
    obtain rfl := Option.some.inj hN
    rw [add_zero9]
    exact ⟨_, _, h.nd hx⟩

set_option maxHeartbeats 1600000 in
theorem toTree_any (w : World) (v : Value) (l : List Nd) (h : NdsAt w v l) (hl : l.length ≤ 1048576) (hN : ∀ N ∈ l, N.nm.length ≤ 1048576 ∧ N.ks.length ≤ 1048576) :
    Calls Tryz.prog 7 #[.agg #[v]] w fun e w' => ∃ g, e = .returned (.agg #[.slice (some ⟨g, 0, none⟩) l.length l.length]) ∧ (∃ L, L.map Nb.N = l ∧ NbsOwn w' w.heap.size g l.length L []) ∧ Below w.heap.size w w' := by
  obtain ⟨a, c, rfl⟩ := h.form
  have kt := fun W hb => toNodeS_any W (.slice a l.length c) l (h.below hb) hl hN
  have HKT : Hid (∀ W (hb : Below w.heap.size w W), Calls Tryz.prog 19 #[.slice a l.length c] W fun e w' => e = .returned (.slice (some ⟨W.heap.size, 0, none⟩) l.length l.length) ∧ (∃ L, L.map Nb.N = l ∧ NbsOwn w' W.heap.size W.heap.size l.length L []) ∧ Below W.heap.size W w') := kt
  clear kt h hN
  generalize l.length = n at HKT hl ⊢
  go_enter Tryz.func7, Tryz.ntmps7
  go_wp2_with (go_at_call 19; fail)
  obtain ⟨W9, hW9⟩ : ∃ W9, ((w.alloc (.cells #[.slice a n c] 24)).alloc (.cells #[.slice none 0 0] 30)).alloc (.cells #[.slice none 0 0] 30) = W9 := ⟨_, rfl⟩
  have hs9 : W9.heap.size = w.heap.size + 1 + 1 + 1 := by rw [← hW9]; simp
  have hZ : W9.heap[w.heap.size + 1]? = some (.cells #[.slice none 0 0] 30 (0, 0)) := by
    rw [← hW9]
    have := heap_alloc_new (w.alloc (.cells #[.slice a n c] 24)) (.cells #[.slice none 0 0] 30)
    rw [World.size_alloc] at this
    exact (Below.heap_alloc _ _ _ (by simp)).trans this
  have hO : W9.heap[w.heap.size + 1 + 1]? = some (.cells #[.slice none 0 0] 30 (0, 0)) := by
    rw [← hW9]
    have := heap_alloc_new ((w.alloc (.cells #[.slice a n c] 24)).alloc (.cells #[.slice none 0 0] 30)) (.cells #[.slice none 0 0] 30)
    rw [World.size_alloc, World.size_alloc] at this
    exact this
  have hB : Below w.heap.size w W9 := by rw [← hW9]; exact (((Below.refl _ w).alloc (Nat.le_refl _) _).alloc (by simp) _).alloc (by simp; omega) _
  rw [hW9]
  clear hW9
  refine (HKT.out W9 hB).mono ?_
  rintro e w1 ⟨rfl, ⟨L, hL, hown⟩, hb1⟩
  obtain ⟨g, hg⟩ : ∃ g, W9.heap.size = g := ⟨_, rfl⟩
  have hBB := hB.trans (hb1.mono hB.size)
  have hZ1 := (hb1.block _ (lt_of_block hZ)).trans hZ
  have hO1 := (hb1.block _ (lt_of_block hO)).trans hO
  rw [hg] at hown hs9 ⊢
  clear hb1 hB hg hZ hO HKT
  have z0 : w1.cell? ⟨w.heap.size + 1, 0, none⟩ = some (.slice none 0 0) := by rw [cell_of_row _ _ _ _ _ _ hZ1]; rfl
  have zf : w1.frozen? ⟨w.heap.size + 1, 0, none⟩ = false := frozen_of_row _ _ _ _ _ hZ1
  have o0 : w1.cell? ⟨w.heap.size + 1 + 1, 0, none⟩ = some (.slice none 0 0) := by rw [cell_of_row _ _ _ _ _ _ hO1]; rfl
  have of : w1.frozen? ⟨w.heap.size + 1 + 1, 0, none⟩ = false := frozen_of_row _ _ _ _ _ hO1
  have HG : Hid (g = w.heap.size + 1 + 1 + 1) := hs9
  clear hs9
  go_wp2_with fail
  have hs9 := HG.out
  refine bodyPost_ret (results_cell_row rfl _ _ (w.heap.size + 1) _ _ _ _ rfl (heap_setCell_same _ _ 0 _ _ _ ((heap_setCell_other _ _ _ _ (by simp)).trans hZ1)) Tryz.underlying30 rfl (by kernel_rfl)) rfl ⟨g, rfl, ⟨L, hL, ((hown.setb (by simp; omega) _).setb (by simp; omega) _).le (by omega)⟩, (hBB.setCell (by simp; omega) _).setCell (by simp) _⟩
end Go.Proofs.YtcnhhhfedakepaaGreatDoor

namespace Go.Proofs.YtcnhhhfedakepaaGreatDoor
open Go.RowKit
set_option linter.unusedVariables false

/-- From the last kid on: where the nodes below a node begin. -/
def wkB (S : List Int) : List Int → Int → Option Int
  | [], a => some a
  | k :: r, a => if k = a - 1 ∧ S.getD k.toNat 0 ≠ 0 then wkB S r (a - S.getD k.toNat 0) else none
def szNd (S : List Int) (i : Nat) (ks : List Int) : Int := match wkB S ks.reverse i with | some a => (i : Int) - a + 1 | none => 0
def szs (ns : List Nd) : List Int := ns.foldl (fun S N => S ++ [szNd S S.length N.ks]) []
theorem szs_app (ns : List Nd) (N : Nd) : szs (ns ++ [N]) = szs ns ++ [szNd (szs ns) (szs ns).length N.ks] := by simp [szs]
theorem rev_ind {α : Type} {p : List α → Prop} (h0 : p []) (h1 : ∀ a x, p a → p (a ++ [x])) (l : List α) : p l := by
  rw [← List.reverse_reverse l]
  induction l.reverse with
  | nil => exact h0
  | cons x r ih => rw [List.reverse_cons]; exact h1 _ x ih
theorem szs_len : ∀ (ns : List Nd), (szs ns).length = ns.length := by
  intro ns
  refine rev_ind (p := fun ns => (szs ns).length = ns.length) rfl (fun a N ih => ?_) ns
  rw [szs_app]; simp [ih]
structure WkIs (S : List Int) (l : List Int) (a : Int) (R : Option Int) : Prop where
  out : wkB S l a = R
/-- All sizes are between 0 and one more than the place. -/
def SzOk (S : List Int) : Prop := ∀ (j : Nat) z, S[j]? = some z → 0 ≤ z ∧ z ≤ (j : Int) + 1
theorem wkB_bd {S : List Int} (hS : SzOk S) : ∀ (l : List Int) (a b : Int), (∀ k ∈ l, 0 ≤ k) → 0 ≤ a → wkB S l a = some b → 0 ≤ b ∧ b ≤ a
  | [], a, b, _, h0, h => by simp [wkB] at h; omega
  | k :: r, a, b, hk, h0, h => by
    rw [wkB] at h
    split at h
    · rename_i hc
      have hk0 := hk k (by simp)
      have hz : 0 ≤ S.getD k.toNat 0 ∧ S.getD k.toNat 0 ≤ k + 1 := by
        rw [List.getD_eq_getElem?_getD]
        cases hs : S[k.toNat]? with
        | none => simp; omega
        | some z => have := hS _ z hs; simp; omega
      have := wkB_bd hS r _ b (fun z hz => hk z (by simp [hz])) (by omega) h
      omega
    · cases h
theorem szNd_bd {S : List Int} (hS : SzOk S) (i : Nat) (ks : List Int) (hk : ∀ k ∈ ks, 0 ≤ k) : 0 ≤ szNd S i ks ∧ szNd S i ks ≤ (i : Int) + 1 := by
  unfold szNd
  cases h : wkB S ks.reverse i with
  | none => simp; omega
  | some b =>
    have := wkB_bd hS ks.reverse i b (fun k hk' => hk k (by simpa using hk')) (by omega) h
    simp; omega
theorem szs_ok (ns : List Nd) : (∀ N ∈ ns, ∀ k ∈ N.ks, 0 ≤ k) → SzOk (szs ns) := by
  refine rev_ind (p := fun ns => (∀ N ∈ ns, ∀ k ∈ N.ks, 0 ≤ k) → SzOk (szs ns)) (fun _ j z h => by simp [szs] at h) (fun a N ih hk => ?_) ns
  have iha := ih (fun M hM => hk M (by simp [hM]))
  intro j z h
  rw [szs_app] at h
  rcases Nat.lt_or_ge j (szs a).length with g | g
  · rw [List.getElem?_append_left g] at h; exact iha j z h
  · rw [List.getElem?_append_right g] at h
    obtain ⟨h1, h2⟩ := List.getElem?_eq_some_iff.1 h
    simp at h1 h2
    subst h2
    obtain rfl : j = (szs a).length := by omega
    exact szNd_bd iha _ _ (fun k hk' => hk N (by simp) k hk')
theorem set_fill1 (A : List Int) (n k : Nat) (z : Int) (hA : A.length = k) (hk : k < n) : (A.map (Value.int .i64) ++ List.replicate (n - k) (Value.int .i64 0)).set k (.int .i64 z) = (A ++ [z]).map (Value.int .i64) ++ List.replicate (n - (k + 1)) (Value.int .i64 0) := by
  have hl : (A.map (Value.int .i64)).length = k := by rw [List.length_map, hA]
  rw [List.set_append_right _ _ (by omega), hl, Nat.sub_self, show n - k = (n - (k + 1)) + 1 by omega, List.replicate_succ, List.set_cons_zero]
  simp

set_option maxRecDepth 100000 in
set_option maxHeartbeats 6400000 in
theorem l2sizes_any (w : World) (v : Value) (ns : List Nd) (h : NdsAt w v ns) (hl : ns.length ≤ 3000) (hN : ∀ N ∈ ns, N.ks.length ≤ 1048576) (hk : ∀ (i : Nat) N, ns[i]? = some N → ∀ k ∈ N.ks, 0 ≤ k ∧ k < (i : Int)) :
    Calls Tryz.prog 36 #[.agg #[v]] w fun e w' => ∃ g, e = .returned (.slice (some ⟨g, 0, none⟩) ns.length ns.length) ∧ w'.ownsRow w.heap.size 3 1 (.slice (some ⟨g, 0, none⟩) ns.length ns.length) ns.length ((szs ns).map (Value.int .i64)) ∧ Below w.heap.size w w' := by
  obtain ⟨a, c, rfl⟩ := h.form
  obtain ⟨n, hn⟩ : ∃ n, ns.length = n := ⟨_, rfl⟩
  have HN : Hid (ns.length = n) := hn
  have HA : Hid (NdsAt w (.slice a n c) ns) := by rw [← hn]; exact h
  have HS : Hid ((∀ N ∈ ns, N.ks.length ≤ 1048576) ∧ (∀ (i : Nat) N, ns[i]? = some N → ∀ k ∈ N.ks, 0 ≤ k ∧ k < (i : Int)) ∧ ∀ k, SzOk (szs (ns.take k))) := ⟨hN, hk, fun k => szs_ok _ (fun N hN z hz => by
    obtain ⟨i, hi, e⟩ := List.getElem_of_mem (List.mem_of_mem_take hN)
    exact (hk i N (by rw [List.getElem?_eq_getElem hi, e]) z hz).1)⟩
  rw [hn] at hl ⊢
  clear h hn hN hk
  obtain ⟨i0, hi, hz0, hz1, hz2⟩ := info_parts infoInt
  go_enter Tryz.func36, Tryz.ntmps36
  go_wp2_with (at_make; refine wpList_make_full _ rfl _ _ 65 rfl w.heap.size 3 i0 (.int .i64 0) 1 Tryz.underlying65 hi hz0 hz1 .i64 .i64 _ _ n rfl rfl rfl rfl (by rw [hz2]; omega) (by unfold maxLen; omega) (by simp) ?_; intro w0 hown0 hgrow0; have hb0 : Below (w.alloc (.cells #[.slice a n c] 30)).heap.size (w.alloc (.cells #[.slice a n c] 30)) w0 := ⟨hgrow0.os, hgrow0.tape, hgrow0.output, hgrow0.size, fun k hk => hgrow0.block k hk (by simp)⟩; have zc : w0.cell? ⟨w.heap.size, 0, none⟩ = some (.slice a n c) := by { rw [cell_of_row _ _ _ _ _ _ ((hb0.block _ (by simp)).trans (heap_alloc_new w _))]; rfl })
  have bw0 : Below w.heap.size w w0 := ((Below.refl _ w).alloc (Nat.le_refl _) _).trans (hb0.mono (by simp))
  rw [World.size_alloc, show (madeCells (Value.int .i64 0).cells (n * 1)).toList = List.replicate n (Value.int .i64 0) by rw [Nat.mul_one]; exact toList_madeCells_one _ n] at hown0
  have hs0 : w.heap.size + 1 < w0.heap.size := (hown0.lt (w.heap.size + 1) rfl).2
  clear zc hb0 hgrow0
  go_loopw [17] (fun vi wr => ∃ k : Nat, k ≤ n ∧ vi = .int .i64 k ∧ Hid (wr.ownsRow w.heap.size 3 1 (.slice (some ⟨w.heap.size + 1, 0, none⟩) n n) n ((szs (ns.take k)).map (Value.int .i64) ++ List.replicate (n - k) (.int .i64 0))) ∧ Below w.heap.size w wr) (fun vi _ => n - (intOf vi).toNat)
  case atStart => exact ⟨0, Nat.zero_le _, rfl, hown0, bw0⟩
  case round =>
    obtain ⟨k, hk, rfl, HO, hb⟩ := hrel
    clear hown0 bw0 hs0
    by_cases hlt : k < n
    · obtain ⟨N, hsk⟩ := some_at HN.out hlt
      have hkl := HS.out.1 N (List.mem_of_getElem? hsk)
      have hkr := HS.out.2.1 k N hsk
      have hok := HS.out.2.2 k
      obtain ⟨a', rfl, vn, vk, hNd⟩ := (HA.out.below hb).get hsk
      have hki : (k : Int) < (n : Int) := by omega
      have hk0 : (0 : Int) ≤ (k : Int) := by omega
      obtain ⟨c0, c1, c2, c3, c4, c5, c6, c7, c8, hnn, hkk⟩ := hNd
      obtain ⟨av, cv, rfl⟩ := hnn.form
      obtain ⟨ak, ck, rfl⟩ := hkk.form
      obtain ⟨S, hSd⟩ : ∃ S, szs (ns.take k) = S := ⟨_, rfl⟩
      have hSl : S.length = k := by rw [← hSd, szs_len, List.length_take, HN.out]; omega
      have hnx : szs (ns.take (k + 1)) = S ++ [szNd S k N.ks] := by
        rw [List.take_add_one, hsk]
        show szs (ns.take k ++ [N]) = _
        rw [szs_app, hSd, hSl]
      rw [hSd] at HO hok
      obtain ⟨L, hL⟩ : ∃ L, N.ks.length = L := ⟨_, rfl⟩
      rw [hL] at c8 hkl
      have hkk' : IntsAt wr (.slice ak L ck) N.ks := by rw [← hL]; exact hkk
      have HF : Hid (N.ks.length = L ∧ IntsAt wr (.slice ak L ck) N.ks ∧ (∀ z ∈ N.ks, 0 ≤ z ∧ z < (k : Int)) ∧ SzOk S ∧ S.length = k ∧ szs (ns.take (k + 1)) = S ++ [szNd S k N.ks]) := ⟨hL, hkk', hkr, hok, hSl, hnx⟩
      have HW0 : WkIs S (N.ks.take L).reverse k (wkB S N.ks.reverse k) := ⟨by rw [← hL, List.take_length]⟩
      obtain ⟨RR, hRR⟩ : ∃ RR, wkB S N.ks.reverse k = RR := ⟨_, rfl⟩
      rw [hRR] at HW0
      have HRR : Hid (wkB S N.ks.reverse k = RR) := hRR
      generalize N.nm.length = L1 at c7
      clear hsk hnn hkk hkk' hkr hok hSl hnx hSd hL hRR
      go_wp2_with fail
      have hbA : Below wr.heap.size wr (wr.alloc (.cells #[.int .i64 N.k, .int .i64 N.f, .int .i64 N.t, .int .i64 N.l, .int .i64 N.op, .int .i64 N.n, .string N.x, .slice av L1 cv, .slice ak L ck] 67)) := (Below.refl _ wr).alloc (Nat.le_refl _) _
      have d8 : (wr.alloc (.cells #[.int .i64 N.k, .int .i64 N.f, .int .i64 N.t, .int .i64 N.l, .int .i64 N.op, .int .i64 N.n, .string N.x, .slice av L1 cv, .slice ak L ck] 67)).cell? ⟨wr.heap.size, 8, none⟩ = some (.slice ak L ck) := by rw [cell_of_row _ _ _ _ _ _ (heap_alloc_new wr _)]; rfl
      have o1 := own_keep HO.out hbA
      generalize wr.alloc (.cells #[.int .i64 N.k, .int .i64 N.f, .int .i64 N.t, .int .i64 N.l, .int .i64 N.op, .int .i64 N.n, .string N.x, .slice av L1 cv, .slice ak L ck] 67) = W1 at hbA d8 o1 ⊢
      have HI : Hid (IntsAt W1 (.slice ak L ck) N.ks) := HF.out.2.1.below hbA
      have HO1 : Hid (W1.ownsRow w.heap.size 3 1 (.slice (some ⟨w.heap.size + 1, 0, none⟩) n n) n (S.map (Value.int .i64) ++ List.replicate (n - k) (.int .i64 0))) := o1
      have hbW : Below w.heap.size w W1 := hb.trans (hbA.mono hb.size)
      have hfz := o1.frozenAt k
      have hck : W1.cell? ⟨w.heap.size + 1, k, none⟩ = some (.int .i64 0) := by
        rw [o1.cellAt k (by omega), List.getElem?_append_right (by rw [List.length_map, HF.out.2.2.2.2.1]; exact Nat.le_refl _), List.length_map, HF.out.2.2.2.2.1, Nat.sub_self, List.getElem?_replicate, if_pos (by omega)]
      clear HO o1 c0 c1 c2 c3 c4 c5 c6 c7 c8 hb hbA
      go_loop [6, 7, 8] (fun va vo vj => ∃ (m : Nat) (A : Int), va = .int .i64 A ∧ vo = .bool true ∧ vj = .int .i64 ((m : Int) - 1) ∧ m ≤ L ∧ 0 ≤ A ∧ A ≤ (k : Int) ∧ WkIs S (N.ks.take m).reverse A RR) (fun _ _ vj => (intOf vj + 1).toNat)
      case atStart => exact ⟨L, k, rfl, rfl, rfl, Nat.le_refl _, by omega, by omega, HW0⟩
      case round =>
        obtain ⟨m, A, rfl, rfl, rfl, hm, hA0, hA1, HW⟩ := hrel
        clear HW0
        have hw := HW.out
        cases m with
        | zero =>
          have hz : szNd S k N.ks = (k : Int) - A + 1 := by
            unfold szNd
            rw [HRR.out]
            rw [List.take_zero, List.reverse_nil, wkB] at hw
            rw [← hw]
          have HZ : Hid (szNd S k N.ks = (k : Int) - A + 1) := hz
          have hneg : ¬ (0 : Int) ≤ ((0 : Nat) : Int) - 1 := by omega
          have o2 := (HO1.out.stored k (.int .i64 ((k : Int) - A + 1))).1
          rw [set_fill1 S n k _ HF.out.2.2.2.2.1 hlt] at o2
          have HO2 : Hid ((W1.setCell ⟨w.heap.size + 1, k, none⟩ (.int .i64 ((k : Int) - A + 1))).ownsRow w.heap.size 3 1 (.slice (some ⟨w.heap.size + 1, 0, none⟩) n n) n ((S ++ [(k : Int) - A + 1]).map (Value.int .i64) ++ List.replicate (n - (k + 1)) (.int .i64 0))) := o2
          clear hw HW hz o2
          go_wp2_with fail
          refine ⟨⟨k + 1, by omega, by go_num, ?_, hbW.setCell (by simp) _⟩, by simp [intOf]; omega⟩
          show World.ownsRow _ _ _ _ _ _ _
          rw [HF.out.2.2.2.2.2, HZ.out]
          exact HO2.out
        | succ m =>
          obtain ⟨z, hz⟩ := some_at HF.out.1 (show m < L by omega)
          obtain ⟨b', hak, hcz⟩ := HI.out.get hz
          subst hak
          obtain ⟨hz0', hz1'⟩ := HF.out.2.2.1 z (List.mem_of_getElem? hz)
          rw [List.take_add_one, hz] at hw
          simp only [Option.toList_some, List.reverse_append, List.reverse_cons, List.reverse_nil, List.nil_append, List.singleton_append] at hw
          rw [wkB] at hw
          obtain ⟨q, rfl⟩ := Int.eq_ofNat_of_zero_le hz0'
          have hq : q < k := by omega
          obtain ⟨sz, hsz⟩ := some_at HF.out.2.2.2.2.1 hq
          have hbd := HF.out.2.2.2.1 q sz hsz
          have hcq : W1.cell? ⟨w.heap.size + 1, q, none⟩ = some (.int .i64 sz) := by
            rw [HO1.out.cellAt q (by omega), List.getElem?_append_left (by rw [List.length_map, HF.out.2.2.2.2.1]; exact hq), List.getElem?_map, hsz]; rfl
          have hgd : S.getD q 0 = sz := by rw [List.getD_eq_getElem?_getD, hsz]; rfl
          simp only [Int.toNat_natCast, hgd] at hw
          have em : (((m + 1 : Nat)) : Int) - 1 = (m : Int) := by omega
          rw [em]
          have hm0 : (0 : Int) ≤ (m : Int) := by omega
          have hmL : (m : Int) < (L : Int) := by omega
          have hqn : (q : Int) < (n : Int) := by omega
          have hq0 : (0 : Int) ≤ (q : Int) := by omega
          by_cases hc : (q : Int) = A - 1 ∧ sz ≠ 0
          · rw [if_pos hc] at hw
            have HW2 : WkIs S (N.ks.take m).reverse (A - sz) RR := ⟨hw⟩
            have hc2 : ¬ sz = 0 := hc.2
            have hc1 := hc.1
            clear hw HW hz hsz hgd hc
            obtain rfl : A = (q : Int) + 1 := by omega
            clear hc1
            go_wp2_with fail
            go_round
            case rel => exact ⟨m, (q : Int) + 1 - sz, by go_num, rfl, by go_num, by omega, by omega, by omega, HW2⟩
            case measure => simp [intOf]
          · rw [if_neg hc] at hw
            have HZ : Hid (szNd S k N.ks = 0) := by
              show szNd S k N.ks = 0
              unfold szNd
              rw [HRR.out, ← hw]
            have HO2 : Hid (W1.ownsRow w.heap.size 3 1 (.slice (some ⟨w.heap.size + 1, 0, none⟩) n n) n ((szs (ns.take (k + 1))).map (Value.int .i64) ++ List.replicate (n - (k + 1)) (.int .i64 0))) := by
              have h1 := HO1.out
              show World.ownsRow _ _ _ _ _ _ _
              rw [HF.out.2.2.2.2.2, HZ.out, List.map_append]
              rw [show n - k = (n - (k + 1)) + 1 by omega, List.replicate_succ] at h1
              rw [List.append_assoc]
              exact h1
            by_cases hc1 : (q : Int) = A - 1
            · have hc2 : sz = 0 := by
                rcases Int.lt_trichotomy sz 0 with g | g | g
                · omega
                · exact g
                · exact absurd ⟨hc1, by omega⟩ hc
              subst hc2
              clear hw HW hz hsz hgd hc
              obtain rfl : A = (q : Int) + 1 := by omega
              clear hc1
              go_wp2_with fail
              exact ⟨⟨k + 1, by omega, by go_num, HO2, hbW⟩, by simp [intOf]; omega⟩
            · clear hw HW hz hsz hgd hc
              go_wp2_with fail
              exact ⟨⟨k + 1, by omega, by go_num, HO2, hbW⟩, by simp [intOf]; omega⟩
    · obtain rfl : k = n := by omega
      go_wp2_with fail
      go_ret
      refine ⟨_, rfl, ?_, hb⟩
      have h1 := HO.out
      rw [List.take_of_length_le (by rw [HN.out]; exact Nat.le_refl _), Nat.sub_self, List.replicate_zero, List.append_nil] at h1
      exact h1
end Go.Proofs.YtcnhhhfedakepaaGreatDoor

namespace Go.Proofs.YtcnhhhfedakepaaGreatDoor
open Go.RowKit
set_option linter.unusedVariables false

def exprK (k : Int) : Bool := decide (20 ≤ k ∧ k ≤ 37)
def statK (k : Int) : Bool := decide (1 ≤ k ∧ k ≤ 16)
def targK (k : Int) : Bool := decide (k = 26 ∨ k = 32 ∨ k = 33)
theorem l2expr_any (k : Int) (w : World) : Calls Tryz.prog 94 #[.int .i64 k] w fun e w' => e = .returned (.bool (exprK k)) ∧ w' = w := by
  unfold exprK
  rcases (show (20 ≤ k ∧ k ≤ 37) ∨ (20 ≤ k ∧ ¬ k ≤ 37) ∨ ¬ 20 ≤ k by omega) with ⟨h1, h2⟩ | ⟨h1, h2⟩ | h1
  · rw [decide_eq_true ⟨h1, h2⟩]
    go_enter Tryz.func94, Tryz.ntmps94
    go_wp2
    go_ret
    exact ⟨rfl, rfl⟩
  · rw [decide_eq_false (fun h => h2 h.2)]
    go_enter Tryz.func94, Tryz.ntmps94
    go_wp2
    go_ret
    exact ⟨rfl, rfl⟩
  · rw [decide_eq_false (fun h => h1 h.1)]
    go_enter Tryz.func94, Tryz.ntmps94
    go_wp2
    go_ret
    exact ⟨rfl, rfl⟩
theorem l2stat_any (k : Int) (w : World) : Calls Tryz.prog 55 #[.int .i64 k] w fun e w' => e = .returned (.bool (statK k)) ∧ w' = w := by
  unfold statK
  rcases (show (1 ≤ k ∧ k ≤ 16) ∨ (1 ≤ k ∧ ¬ k ≤ 16) ∨ ¬ 1 ≤ k by omega) with ⟨h1, h2⟩ | ⟨h1, h2⟩ | h1
  · rw [decide_eq_true ⟨h1, h2⟩]
    go_enter Tryz.func55, Tryz.ntmps55
    go_wp2
    go_ret
    exact ⟨rfl, rfl⟩
  · rw [decide_eq_false (fun h => h2 h.2)]
    go_enter Tryz.func55, Tryz.ntmps55
    go_wp2
    go_ret
    exact ⟨rfl, rfl⟩
  · rw [decide_eq_false (fun h => h1 h.1)]
    go_enter Tryz.func55, Tryz.ntmps55
    go_wp2
    go_ret
    exact ⟨rfl, rfl⟩
theorem l2target_any (k : Int) (w : World) : Calls Tryz.prog 78 #[.int .i64 k] w fun e w' => e = .returned (.bool (targK k)) ∧ w' = w := by
  unfold targK
  by_cases h1 : k = 26
  · subst h1
    go_enter Tryz.func78, Tryz.ntmps78
    go_wp2
    go_ret
    exact ⟨rfl, rfl⟩
  have g1 : (k == 26) = false := by rw [beq_eq_false_iff_ne]; exact h1
  by_cases h2 : k = 32
  · subst h2
    go_enter Tryz.func78, Tryz.ntmps78
    go_wp2
    go_ret
    exact ⟨rfl, rfl⟩
  have g2 : (k == 32) = false := by rw [beq_eq_false_iff_ne]; exact h2
  by_cases h3 : k = 33
  · subst h3
    go_enter Tryz.func78, Tryz.ntmps78
    go_wp2
    go_ret
    exact ⟨rfl, rfl⟩
  have g3 : (k == 33) = false := by rw [beq_eq_false_iff_ne]; exact h3
  rw [decide_eq_false (by omega)]
  go_enter Tryz.func78, Tryz.ntmps78
  go_wp2
  go_ret
  exact ⟨rfl, rfl⟩

set_option maxRecDepth 100000 in
set_option maxHeartbeats 1600000 in
theorem l2kid_any (w : World) (vt : Value) (ns : List Nd) (N M : Nd) (vn vk : Value) (i : Nat) (z : Nat) (ht : NdsAt w vt ns) (hn : StrsAt w vn N.nm) (hk : IntsAt w vk N.ks) (hi : N.ks[i]? = some (z : Int)) (hM : ns[z]? = some M) (hb1 : ns.length ≤ 1048576) (hb2 : N.ks.length ≤ 1048576) :
    Calls Tryz.prog 74 #[.agg #[vt], vNd N vn vk, .int .i64 i] w fun e w' => e = .returned (.int .i64 M.k) ∧ Below w.heap.size w w' := by
  have hb0 : ∀ o1 o2, Below w.heap.size w ((w.alloc o1).alloc o2) := fun o1 o2 => ((Below.refl _ w).alloc (Nat.le_refl _) o1).alloc (by simp) o2
  obtain ⟨a1, c1, rfl⟩ := ht.form
  obtain ⟨a2, c2, rfl⟩ := hn.form
  obtain ⟨a3, c3, rfl⟩ := hk.form
  obtain ⟨p1, rfl, vn1, vk1, g1⟩ := ht.get hM
  obtain ⟨p3, rfl, g3⟩ := hk.get hi
  have hz : z < ns.length := by rcases Nat.lt_or_ge z ns.length with h | h; exact h; rw [List.getElem?_eq_none h] at hM; cases hM
  have hil : i < N.ks.length := by rcases Nat.lt_or_ge i N.ks.length with h | h; exact h; rw [List.getElem?_eq_none h] at hi; cases hi
  have e1 := g1.c0
  have l1 := cell_lt g3
  have l2 := cell_lt e1
  unfold vNd
  generalize ns.length = n at hb1 hz
  generalize N.ks.length = L2 at hb2 hil
  generalize N.nm.length = L1
  generalize M.k = R at e1
  have hzi : (z : Int) < (n : Int) := by omega
  have hii : (i : Int) < (L2 : Int) := by omega
  have hz0 : (0 : Int) ≤ (z : Int) := by omega
  have hi0 : (0 : Int) ≤ (i : Int) := by omega
  clear ht hn hk hi hM g1
  obtain ⟨nk, nf, nt, nl, nop, nn, nx, nnm, nks⟩ := N
  simp only
  go_enter Tryz.func74, Tryz.ntmps74
  go_wp2_with fail
  go_quiet (fail)
  go_wp2_with fail
  go_ret
  exact ⟨rfl, bel_drew (hb0 _ _) _⟩

/-- The kind of a node's kid j. -/
def kidK (ns : List Nd) (N : Nd) (j : Nat) : Int := (ns.getD ((N.ks.getD j 0).toNat) zNd).k
/-- f kids from j on are expressions. -/
def exB (ns : List Nd) (N : Nd) : Nat → Nat → Bool
  | 0, _ => true
  | f + 1, j => exprK (kidK ns N j) && exB ns N f (j + 1)
structure ExIs (ns : List Nd) (N : Nd) (f j : Nat) (R : Bool) : Prop where
  out : exB ns N f j = R
/-- A node's kids are nodes. -/
structure KidsOk (ns : List Nd) (N : Nd) : Prop where
  ok : ∀ z ∈ N.ks, 0 ≤ z ∧ z < (ns.length : Int)
theorem KidsOk.get {ns : List Nd} {N : Nd} (h : KidsOk ns N) {j : Nat} (hj : j < N.ks.length) : ∃ (z : Nat) (M : Nd), N.ks[j]? = some (z : Int) ∧ ns[z]? = some M ∧ kidK ns N j = M.k ∧ z < ns.length := by
  have e1 : N.ks[j]? = some N.ks[j] := List.getElem?_eq_getElem hj
  obtain ⟨h0, h1⟩ := h.ok N.ks[j] (List.getElem_mem hj)
  obtain ⟨z, hz⟩ : ∃ z : Nat, N.ks[j] = (z : Int) := ⟨N.ks[j].toNat, by omega⟩
  have hzl : z < ns.length := by omega
  refine ⟨z, ns[z], by rw [e1, hz], List.getElem?_eq_getElem hzl, ?_, hzl⟩
  unfold kidK
  rw [List.getD_eq_getElem?_getD, List.getD_eq_getElem?_getD, e1, hz]
  simp [hzl]

set_option maxRecDepth 100000 in
set_option maxHeartbeats 1600000 in
theorem l2exprs_any (w : World) (vt : Value) (ns : List Nd) (N : Nd) (vn vk : Value) (i k : Nat) (ht : NdsAt w vt ns) (hn : StrsAt w vn N.nm) (hk : IntsAt w vk N.ks) (hK : KidsOk ns N) (hkl : k ≤ N.ks.length) (hb1 : ns.length ≤ 1048576) (hb2 : N.ks.length ≤ 1048576) :
    Calls Tryz.prog 77 #[.agg #[vt], vNd N vn vk, .int .i64 i, .int .i64 k] w fun e w' => e = .returned (.bool (exB ns N (k - i) i)) ∧ Below w.heap.size w w' := by
  obtain ⟨R, hR⟩ : ∃ R, exB ns N (k - i) i = R := ⟨_, rfl⟩
  rw [hR]
  have HR : ExIs ns N (k - i) i R := ⟨hR⟩
  clear hR
  have hb0 : ∀ o1 o2, Below w.heap.size w ((w.alloc o1).alloc o2) := fun o1 o2 => ((Below.refl _ w).alloc (Nat.le_refl _) o1).alloc (by simp) o2
  have HT : Hid (NdsAt w vt ns ∧ IntsAt w vk N.ks) := ⟨ht, hk⟩
  obtain ⟨a1, c1, rfl⟩ := ht.form
  obtain ⟨a2, c2, rfl⟩ := hn.form
  obtain ⟨a3, c3, rfl⟩ := hk.form
  clear ht hn hk
  unfold vNd
  obtain ⟨n, hn⟩ : ∃ n, ns.length = n := ⟨_, rfl⟩
  obtain ⟨L2, hL2⟩ : ∃ n, N.ks.length = n := ⟨_, rfl⟩
  have HL : Hid (ns.length = n ∧ N.ks.length = L2) := ⟨hn, hL2⟩
  rw [hn] at HT hb1 ⊢
  rw [hL2] at HT hb2 hkl ⊢
  clear hn hL2
  generalize N.nm.length = L1
  go_enter Tryz.func77, Tryz.ntmps77
  go_wp2_with fail
  obtain ⟨W2, hW2⟩ : ∃ W2, (w.alloc (.cells #[.slice a1 n c1] 30)).alloc (.cells #[.int .i64 N.k, .int .i64 N.f, .int .i64 N.t, .int .i64 N.l, .int .i64 N.op, .int .i64 N.n, .string N.x, .slice a2 L1 c2, .slice a3 L2 c3] 67) = W2 := ⟨_, rfl⟩
  have d1 : W2.cell? ⟨w.heap.size, 0, none⟩ = some (.slice a1 n c1) := by
    rw [← hW2, cell_of_row _ _ _ _ _ _ ((Below.heap_alloc _ _ _ (by simp)).trans (heap_alloc_new w _))]; rfl
  have d2 : W2.cell? ⟨w.heap.size + 1, 8, none⟩ = some (.slice a3 L2 c3) := by
    have := heap_alloc_new (w.alloc (.cells #[.slice a1 n c1] 30)) (.cells #[.int .i64 N.k, .int .i64 N.f, .int .i64 N.t, .int .i64 N.l, .int .i64 N.op, .int .i64 N.n, .string N.x, .slice a2 L1 c2, .slice a3 L2 c3] 67)
    rw [World.size_alloc] at this
    rw [← hW2, cell_of_row _ _ _ _ _ _ this]; rfl
  have hB2 : Below w.heap.size w W2 := by rw [← hW2]; exact hb0 _ _
  rw [hW2]
  clear hW2 hb0
  go_loopw [9] (fun vj wr => ∃ (j : Nat), vj = .int .i64 j ∧ i ≤ j ∧ (i ≤ k → j ≤ k) ∧ ExIs ns N (k - j) j R ∧ Below W2.heap.size W2 wr) (fun vj _ => k - (intOf vj).toNat)
  case atStart => exact ⟨i, rfl, Nat.le_refl _, fun h => h, HR, Below.refl _ _⟩
  case round =>
    obtain ⟨j, rfl, hij, hjk, HJ, hb⟩ := hrel
    have hbw := hB2.trans (hb.mono hB2.size)
    by_cases hlt : j < k
    · obtain ⟨z, M, e1, e2, e3, e4⟩ := hK.get (j := j) (by rw [HL.out.2]; omega)
      rw [HL.out.1] at e4
      obtain ⟨p1, rfl, vn1, vk1, g1⟩ := (HT.out.1.below hbw).get e2
      obtain ⟨p3, rfl, g3⟩ := (HT.out.2.below hbw).get e1
      have f1 := cell_kept hb d1
      have f2 := cell_kept hb d2
      have f3 := g1.c0
      have hst := HJ.out
      rw [show k - j = (k - (j + 1)) + 1 by omega, exB, e3] at hst
      have hji : (j : Int) < (k : Int) := by omega
      have hjl : (j : Int) < (L2 : Int) := by omega
      have hzi : (z : Int) < (n : Int) := by omega
      have hz0 : (0 : Int) ≤ (z : Int) := by omega
      have hj0 : (0 : Int) ≤ (j : Int) := by omega
      have ke := fun w => l2expr_any M.k w
      generalize M.k = m at f3 hst ke
      clear e1 e2 e3 g1
      cases hx : exprK m with
      | true =>
        rw [hx, Bool.true_and] at hst
        rw [hx] at ke
        have HS : ExIs ns N (k - (j + 1)) (j + 1) R := ⟨hst⟩
        clear hst hx
        go_wp2_with fail
        go_quiet ((go_at_call 94; exact Calls.quiet_of_same (ke _)))
        go_wp2_with fail
        exact ⟨⟨j + 1, by go_num, by omega, fun _ => by omega, HS, bel_drew hb _⟩, by simp [intOf]; omega⟩
      | false =>
        rw [hx, Bool.false_and] at hst
        rw [hx] at ke
        have HS : Hid (false = R) := hst
        clear hst hx
        go_wp2_with fail
        go_quiet ((go_at_call 94; exact Calls.quiet_of_same (ke _)))
        go_wp2_with fail
        go_ret
        exact ⟨by rw [← HS.out]; rfl, bel_drew hbw _⟩
    · have hst := HJ.out
      rw [show k - j = 0 by omega, exB] at hst
      have HS : Hid (true = R) := hst
      have hji : ¬ (j : Int) < (k : Int) := by omega
      clear hst
      go_wp2_with fail
      go_ret
      exact ⟨by rw [← HS.out]; rfl, hbw⟩
end Go.Proofs.YtcnhhhfedakepaaGreatDoor
