import Derived.Test.YtgjlnimnnllejaaGreatDoorPP07
import Derived.Test.YtgjlnimnnllejaaGreatDoorPP06
import Derived.Test.YtgjlnimnnllejaaGreatDoorPP17
import Derived.Test.YtgjlnimnnllejaaGreatDoorPP27
namespace Go.Proofs.YtgjlnimnnllejaaGreatDoor
open Go.RowKit
set_option linter.unusedVariables false

/-- A node with the slices that it holds. -/
structure Mb where
  N : Nd
  vn : Value
  vk : Value
def cMb (x : Mb) : List Value := [.int .i64 x.N.k, .int .i64 x.N.f, .int .i64 x.N.t, .int .i64 x.N.l, .int .i64 x.N.op, .int .i64 x.N.n, .string x.N.x, x.vn, x.vk]
def cMbs (l : List Mb) : List Value := l.flatMap cMb
theorem cMbs_cons (a : Mb) (r : List Mb) : cMbs (a :: r) = cMb a ++ cMbs r := by simp [cMbs]
theorem cMbs_app (a b : List Mb) : cMbs (a ++ b) = cMbs a ++ cMbs b := by simp [cMbs]
theorem cMbs_len (l : List Mb) : (cMbs l).length = l.length * 9 := by
  induction l with
  | nil => rfl
  | cons a r ih =>
    have la : (cMb a).length = 9 := rfl
    rw [cMbs_cons, List.length_append, ih, la, List.length_cons]; omega
theorem cMbs_at (ts : List Mb) (i j : Nat) (T : Mb) (hT : ts[i]? = some T) (hj : j < 9) : (cMbs ts)[i * 9 + j]? = (cMb T)[j]? := by
  induction ts generalizing i with
  | nil => simp at hT
  | cons a r ih =>
    have la : (cMb a).length = 9 := rfl
    rw [cMbs_cons]
    cases i with
    | zero => simp at hT; subst hT; rw [List.getElem?_append_left (by omega)]; congr 1; omega
    | succ i =>
      rw [List.getElem?_append_right (by omega), la, show (i + 1) * 9 + j - 9 = i * 9 + j by omega]
      exact ih i (by simpa using hT)
/-- The blocks of the lists part from one another. -/
def Apart (vs : List Value) : Prop := ∀ (i j : Nat) (a b : Value), i ≠ j → vs[i]? = some a → vs[j]? = some b → a.ownBlock = none ∨ a.ownBlock ≠ b.ownBlock
structure MbOwn (W : World) (lo hi : Nat) (x : Mb) : Prop where
  on : W.ownsRow lo 9 1 x.vn x.N.nm.length (x.N.nm.map Value.string)
  ok : W.ownsRow lo 3 1 x.vk x.N.ks.length (x.N.ks.map (Value.int .i64))
  hn : ∀ g, x.vn.ownBlock = some g → g < hi
  hk : ∀ g, x.vk.ownBlock = some g → g < hi
/-- A tree whose blocks are all its own, and lie from lo up to below hi. -/
structure MbsOwn (W : World) (lo hi : Nat) (v : Value) (L : List Mb) : Prop where
  row : W.ownsRow lo 45 9 v L.length (cMbs L)
  hh : ∀ g, v.ownBlock = some g → g < hi
  each : ∀ x ∈ L, MbOwn W lo hi x
  dn : Apart (L.map Mb.vn)
  dk : Apart (L.map Mb.vk)
theorem MbOwn.below {W W' : World} {lo hi : Nat} {x : Mb} (h : MbOwn W lo hi x) (hb : Below W.heap.size W W') : MbOwn W' lo hi x := ⟨own_keep h.on hb, own_keep h.ok hb, h.hn, h.hk⟩
theorem MbsOwn.below {W W' : World} {lo hi : Nat} {v : Value} {L : List Mb} (h : MbsOwn W lo hi v L) (hb : Below W.heap.size W W') : MbsOwn W' lo hi v L :=
  ⟨own_keep h.row hb, h.hh, fun x hx => (h.each x hx).below hb, h.dn, h.dk⟩
/-- Only blocks from lo up to below hi have turned. -/
structure Mid (lo hi : Nat) (w w' : World) : Prop where
  os : w'.os = w.os
  tape : w'.tape = w.tape
  output : w'.output = w.output
  size : w.heap.size ≤ w'.heap.size
  block : ∀ k, k < w.heap.size → (k < lo ∨ hi ≤ k) → w'.heap[k]? = w.heap[k]?
theorem Mid.refl (lo hi : Nat) (w : World) : Mid lo hi w w := ⟨rfl, rfl, rfl, Nat.le_refl _, fun _ _ _ => rfl⟩
theorem Mid.trans {lo hi : Nat} {x y z : World} (h : Mid lo hi x y) (k : Mid lo hi y z) : Mid lo hi x z :=
  ⟨k.os.trans h.os, k.tape.trans h.tape, k.output.trans h.output, Nat.le_trans h.size k.size, fun i hi hne => (k.block i (Nat.lt_of_lt_of_le hi h.size) hne).trans (h.block i hi hne)⟩
theorem Mid.of_grown {lo hi : Nat} {w w' : World} {row : Option Nat} (h : w.grownBy w' row) (hr : ∀ g, row = some g → lo ≤ g ∧ g < hi) : Mid lo hi w w' :=
  ⟨h.os, h.tape, h.output, h.size, fun k hk ho => h.block k hk (fun e => by have := hr k e.symm; omega)⟩
theorem Mid.kept {lo hi : Nat} {w w' : World} (h : Mid lo hi w w') {base e size n : Nat} {v : Value} {xs : List Value} (o : w.ownsRow base e size v n xs) (hb : hi ≤ base) : w'.ownsRow base e size v n xs := by
  obtain ⟨h1, h2⟩ := o
  refine ⟨h1, ?_⟩
  rcases h2 with h2 | ⟨g, cap, cur, hv, hg, hc, rest⟩
  · exact .inl h2
  · exact .inr ⟨g, cap, cur, hv, hg, (h.block g (lt_of_block hc) (.inr (by omega))).trans hc, rest⟩
theorem Mid.tree {lo hi : Nat} {w w' : World} (h : Mid lo hi w w') {lo2 hi2 : Nat} {v : Value} {L : List Mb} (o : MbsOwn w lo2 hi2 v L) (hb : hi ≤ lo2) : MbsOwn w' lo2 hi2 v L :=
  ⟨h.kept o.row hb, o.hh, fun x hx => ⟨h.kept (o.each x hx).on hb, h.kept (o.each x hx).ok hb, (o.each x hx).hn, (o.each x hx).hk⟩, o.dn, o.dk⟩
theorem Mid.bel {lo hi base : Nat} {w0 w w' : World} (h : Mid lo hi w w') (hb : Below base w0 w) (hs : base ≤ lo) (hw : base ≤ w.heap.size) : Below base w0 w' :=
  ⟨h.os.trans hb.os, h.tape.trans hb.tape, h.output.trans hb.output, Nat.le_trans hb.size h.size, fun k hk => (h.block k (by omega) (.inl (by omega))).trans (hb.block k hk)⟩

theorem own_strs2 {W : World} {base : Nat} {v : Value} {l : List ByteArray} (h : W.ownsRow base 9 1 v l.length (l.map Value.string)) : StrsAt W v l := by
  rcases own_zero_or h with ⟨hn, rfl⟩ | ⟨g, cap, rfl⟩
  · exact .inl ⟨List.eq_nil_of_length_eq_zero hn, _, _, rfl⟩
  · exact own_strs h rfl
theorem own_ints2 {W : World} {base : Nat} {v : Value} {l : List Int} (h : W.ownsRow base 3 1 v l.length (l.map (Value.int .i64))) : IntsAt W v l := by
  rcases own_zero_or h with ⟨hn, rfl⟩ | ⟨g, cap, rfl⟩
  · exact .inl ⟨List.eq_nil_of_length_eq_zero hn, _, _, rfl⟩
  · exact own_ints h rfl
theorem row_cells {W : World} {lo g n cap : Nat} {L : List Mb} (h : W.ownsRow lo 45 9 (.slice (some ⟨g, 0, none⟩) n cap) n (cMbs L)) {i : Nat} {x : Mb} (hx : L[i]? = some x) :
    W.cell? ⟨g, i * 9, none⟩ = some (.int .i64 x.N.k) ∧ W.cell? ⟨g, i * 9 + 1, none⟩ = some (.int .i64 x.N.f) ∧ W.cell? ⟨g, i * 9 + 2, none⟩ = some (.int .i64 x.N.t) ∧ W.cell? ⟨g, i * 9 + 3, none⟩ = some (.int .i64 x.N.l) ∧ W.cell? ⟨g, i * 9 + 4, none⟩ = some (.int .i64 x.N.op) ∧ W.cell? ⟨g, i * 9 + 5, none⟩ = some (.int .i64 x.N.n) ∧ W.cell? ⟨g, i * 9 + 6, none⟩ = some (.string x.N.x) ∧ W.cell? ⟨g, i * 9 + 7, none⟩ = some x.vn ∧ W.cell? ⟨g, i * 9 + 8, none⟩ = some x.vk := by
  have hlen : n * 9 = L.length * 9 := by have := h.1; rw [cMbs_len] at this; omega
  have hi : i < L.length := by rcases Nat.lt_or_ge i L.length with g | g; exact g; rw [List.getElem?_eq_none g] at hx; cases hx
  have c : ∀ j, j < 9 → W.cell? ⟨g, i * 9 + j, none⟩ = (cMb x)[j]? := fun j hj => by
    rw [h.cellAt (i * 9 + j) (by omega), cMbs_at L i j x hx hj]
  exact ⟨c 0 (by omega), c 1 (by omega), c 2 (by omega), c 3 (by omega), c 4 (by omega), c 5 (by omega), c 6 (by omega), c 7 (by omega), c 8 (by omega)⟩
theorem MbsOwn.nds {W : World} {lo hi : Nat} {v : Value} {L : List Mb} (h : MbsOwn W lo hi v L) : NdsAt W v (L.map Mb.N) := by
  rcases own_zero_or h.row with ⟨hn, rfl⟩ | ⟨g, cap, rfl⟩
  · exact .inl ⟨by rw [List.eq_nil_of_length_eq_zero hn]; rfl, _, _, rfl⟩
  · refine .inr ⟨⟨g, 0, none⟩, cap, by rw [List.length_map], fun i N hN => ?_⟩
    rw [List.getElem?_map] at hN
    cases hx : L[i]? with
    | none => rw [hx] at hN; cases hN
    | some x =>
      rw [hx] at hN
      obtain rfl := Option.some.inj hN
      rw [add_zero9]
      obtain ⟨c0, c1, c2, c3, c4, c5, c6, c7, c8⟩ := row_cells h.row hx
      have hm := h.each x (List.mem_of_getElem? hx)
      exact ⟨x.vn, x.vk, c0, c1, c2, c3, c4, c5, c6, c7, c8, own_strs2 hm.on, own_ints2 hm.ok⟩
theorem apart_of {α : Type} {L : List α} (f : α → Value) (q : α → Nat) (hf : ∀ x, (f x).ownBlock = some (q x)) (hd : (L.map q).Nodup) : Apart (L.map f) := by
  intro i j a b hij ha hb
  rw [List.getElem?_map] at ha hb
  cases hx : L[i]? with
  | none => rw [hx] at ha; cases ha
  | some x =>
    cases hy : L[j]? with
    | none => rw [hy] at hb; cases hb
    | some y =>
      rw [hx] at ha; rw [hy] at hb
      obtain rfl := Option.some.inj ha
      obtain rfl := Option.some.inj hb
      rw [hf, hf]
      refine .inr fun e => ?_
      have e2 := Option.some.inj e
      have li : i < L.length := (List.getElem?_eq_some_iff.1 hx).1
      have lj : j < L.length := (List.getElem?_eq_some_iff.1 hy).1
      have h1 : (L.map q)[i]'(by simpa using li) = q x := by simp [(List.getElem?_eq_some_iff.1 hx).2]
      have h2 : (L.map q)[j]'(by simpa using lj) = q y := by simp [(List.getElem?_eq_some_iff.1 hy).2]
      have hp := List.pairwise_iff_getElem.1 hd
      rcases Nat.lt_or_gt_of_ne hij with g | g
      · exact hp i j (by simpa using li) (by simpa using lj) g (by rw [h1, h2, e2])
      · exact hp j i (by simpa using lj) (by simpa using li) g (by rw [h1, h2, e2])
theorem NbsOwn.mbs {W : World} {base g n : Nat} {L : List Nb} (h : NbsOwn W base g n L []) : MbsOwn W base W.heap.size (.slice (some ⟨g, 0, none⟩) n n) (L.map fun x => ⟨x.N, x.vn, x.vk⟩) := by
  have hlen : n = L.length := by have := h.row.1; rw [List.append_nil, cNbs_len] at this; omega
  have hc : cMbs (L.map fun x => ⟨x.N, x.vn, x.vk⟩) = cNbs L := by
    clear h hlen
    induction L with
    | nil => rfl
    | cons a r ih => rw [List.map_cons, cMbs_cons, ih]; simp [cNbs, cMb, cNb]
  refine ⟨?_, fun k hk => (h.row.lt k hk).2, ?_, ?_, ?_⟩
  · rw [hc, List.length_map, ← hlen]; have := h.row; rw [List.append_nil] at this; exact this
  · intro y hy
    obtain ⟨x, hx, rfl⟩ := List.mem_map.1 hy
    exact ⟨(h.each x hx).on, (h.each x hx).ok, fun k hk => ((h.each x hx).on.lt k hk).2, fun k hk => ((h.each x hx).ok.lt k hk).2⟩
  · rw [List.map_map]; exact apart_of Nb.vn Nb.g (fun _ => rfl) h.dn
  · rw [List.map_map]; exact apart_of Nb.vk Nb.h (fun _ => rfl) h.dk

/-- What the law writes into a node, from K on; how far it has counted behind it. -/
def mkNd (K : Nat) (N : Nd) : Nd := ⟨(K : Nat), (K + 1 : Nat), (K + 2 : Nat), (K + 3 : Nat), (K + 4 : Nat), (K + 5 : Nat), mtI (K + 6), mks (K + 7) N.nm.length, mki (K + 7 + N.nm.length) N.ks.length⟩
def nxt (K : Nat) (N : Nd) : Nat := K + 7 + N.nm.length + N.ks.length
def cnt : Nat → List Nd → Nat
  | K, [] => K
  | K, N :: r => cnt (nxt K N) r
def mkNs : Nat → List Nd → List Nd
  | _, [] => []
  | K, N :: r => mkNd K N :: mkNs (nxt K N) r
def mkMs : Nat → List Mb → List Mb
  | _, [] => []
  | K, x :: r => ⟨mkNd K x.N, x.vn, x.vk⟩ :: mkMs (nxt K x.N) r
theorem mkMs_N (L : List Mb) : ∀ K, (mkMs K L).map Mb.N = mkNs K (L.map Mb.N) := by
  induction L with
  | nil => intro K; rfl
  | cons x r ih => intro K; simp [mkMs, mkNs, ih]
theorem mkMs_vn (L : List Mb) : ∀ K, (mkMs K L).map Mb.vn = L.map Mb.vn := by
  induction L with
  | nil => intro K; rfl
  | cons x r ih => intro K; simp [mkMs, ih]
theorem mkMs_vk (L : List Mb) : ∀ K, (mkMs K L).map Mb.vk = L.map Mb.vk := by
  induction L with
  | nil => intro K; rfl
  | cons x r ih => intro K; simp [mkMs, ih]
theorem mkMs_len (L : List Mb) (K : Nat) : (mkMs K L).length = L.length := by have := congrArg List.length (mkMs_vn L K); simpa using this
theorem mkMs_app (x : Mb) (L : List Mb) : ∀ K, mkMs K (L ++ [x]) = mkMs K L ++ [⟨mkNd (cnt K (L.map Mb.N)) x.N, x.vn, x.vk⟩] := by
  induction L with
  | nil => intro K; rfl
  | cons y r ih => intro K; simp [mkMs, cnt, ih]
theorem cnt_app (N : Nd) (L : List Nd) : ∀ K, cnt K (L ++ [N]) = nxt (cnt K L) N := by
  induction L with
  | nil => intro K; rfl
  | cons y r ih => intro K; simp [cnt, ih]
theorem cnt_ge (L : List Nd) : ∀ K, K ≤ cnt K L := by
  induction L with
  | nil => intro K; exact Nat.le_refl _
  | cons y r ih => intro K; exact Nat.le_trans (by unfold nxt; omega) (ih (nxt K y))
theorem cnt_app2 (A B : List Nd) : ∀ K, cnt K (A ++ B) = cnt (cnt K A) B := by
  induction A with
  | nil => intro K; rfl
  | cons y r ih => intro K; simp [cnt, ih]
theorem cnt_take (L : List Nd) (K k : Nat) : cnt K (L.take k) ≤ cnt K L := by
  have h := cnt_app2 (L.take k) (L.drop k) K
  rw [List.take_append_drop] at h
  rw [h]; exact cnt_ge _ _
theorem mkNs_len (L : List Nd) : ∀ K, (mkNs K L).length = L.length := by
  induction L with
  | nil => intro K; rfl
  | cons y r ih => intro K; simp [mkNs, ih]
theorem mkNs_at (L : List Nd) : ∀ (K i : Nat) (N : Nd), L[i]? = some N → (mkNs K L)[i]? = some (mkNd (cnt K (L.take i)) N) := by
  induction L with
  | nil => intro K i N h; simp at h
  | cons y r ih =>
    intro K i N h
    cases i with
    | zero => simp at h; subst h; rfl
    | succ i => simp at h; simpa [mkNs, cnt] using ih (nxt K y) i N h
theorem set7 (A R : List Value) (m : Nat) (hA : A.length = m) (c0 c1 c2 c3 c4 c5 c6 a0 a1 a2 a3 a4 a5 a6 a7 a8 : Value) :
    (((((((A ++ ([c0, c1, c2, c3, c4, c5, c6, a7, a8] ++ R)).set m a0).set (m + 1) a1).set (m + 2) a2).set (m + 3) a3).set (m + 4) a4).set (m + 5) a5).set (m + 6) a6 = A ++ ([a0, a1, a2, a3, a4, a5, a6, a7, a8] ++ R) := by
  subst hA
  have st : ∀ (xs : List Value) (j : Nat) (u : Value), (A ++ xs).set (A.length + j) u = A ++ xs.set j u := fun xs j u => by
    rw [List.set_append_right _ _ (by omega)]; congr 2; omega
  have s0 := fun xs u => st xs 0 u
  simp only [Nat.add_zero] at s0
  rw [s0, st, st, st, st, st, st]
  rfl
theorem own_apart2 {W : World} {b1 b2 e1 e2 s1 s2 n1 n2 : Nat} {v1 v2 : Value} {x1 x2 : List Value} (h1 : W.ownsRow b1 e1 s1 v1 n1 x1) (h2 : W.ownsRow b2 e2 s2 v2 n2 x2) (he : e1 ≠ e2) : v1.ownBlock = none ∨ v1.ownBlock ≠ v2.ownBlock := by
  rcases own_zero_or h1 with ⟨hn, rfl⟩ | ⟨g1, c1, rfl⟩
  · exact .inl rfl
  · rcases own_zero_or h2 with ⟨hn, rfl⟩ | ⟨g2, c2, rfl⟩
    · exact .inr (by simp [Value.ownBlock])
    · exact .inr fun e => own_apart h1 h2 he (by simpa [Value.ownBlock] using e)
end Go.Proofs.YtgjlnimnnllejaaGreatDoor

namespace Go.Proofs.YtgjlnimnnllejaaGreatDoor
open Go.RowKit Go.Maps Go.WideMaps
set_option linter.unusedVariables false

/-- Between two nodes of a path. -/
structure PaSt (W1 : World) (ns : List Nd) (at_ : Int) (n : Nat) (R : List Int) (i : Int) (vo : Value) (W : World) : Prop where
  bl : Below W1.heap.size W1 W
  ex : ∃ (out : List Int) (f : Nat), W.ownsRow W1.heap.size 3 1 vo out.length (out.map (Value.int .i64)) ∧ out ++ pathQ ns at_ f i = R ∧ out.length + f ≤ n ∧ i < (f : Int)

set_option maxRecDepth 100000 in
set_option maxHeartbeats 3200000 in
theorem specPath_bad (w : World) (v : Value) (ns : List Nd) (at_ : Int) (h : NdsAt w v ns) (hl : ns.length ≤ 1048576) (sm : ∀ N ∈ ns, NdSmall N) (h0 : ¬ (treeF ns).1 = 0) :
    Calls Tryz.prog 11 #[.agg #[v], .int .i64 at_] w fun e w' => e = .returned (.slice none 0 0) ∧ Below w.heap.size w w' := by
  have hb0 : ∀ o, Below w.heap.size w (w.alloc o) := fun o => (Below.refl _ w).alloc (Nat.le_refl _) o
  have kt := fun o => treeok_any (w.alloc o) v ns (h.below (hb0 o)) hl sm
  obtain ⟨a, c, rfl⟩ := h.form
  obtain ⟨n, hn⟩ : ∃ n, ns.length = n := ⟨_, rfl⟩
  rw [hn] at kt ⊢
  obtain ⟨F1, hF1⟩ : ∃ F1, (treeF ns).1 = F1 := ⟨_, rfl⟩
  obtain ⟨F2, hF2⟩ : ∃ F2, (treeF ns).2 = F2 := ⟨_, rfl⟩
  rw [hF1, hF2] at kt
  rw [hF1] at h0
  have h1 : (F1 == 0) = false := by rw [beq_eq_false_iff_ne]; exact h0
  clear h hl sm hn hF1 hF2
  go_enter Tryz.func11, Tryz.ntmps11
  go_wp2_with (go_at_call 6; fail)
  have bo := hb0 (.cells #[.slice a n c] 31)
  refine (kt _).mono ?_
  rintro e w2 ⟨rfl, hb2⟩
  have b2 : Below w.heap.size w w2 := bo.trans (hb2.mono bo.size)
  clear kt hb2 bo
  go_wp2_with fail
  go_ret
  exact ⟨rfl, b2.alloc b2.size _⟩

set_option maxRecDepth 100000 in
set_option maxHeartbeats 12800000 in
theorem specPath_ok (w : World) (v : Value) (ns : List Nd) (at_ : Int) (h : NdsAt w v ns) (hl : ns.length ≤ 1048576) (sm : ∀ N ∈ ns, NdSmall N) (h0 : (treeF ns).1 = 0) :
    Calls Tryz.prog 11 #[.agg #[v], .int .i64 at_] w fun e w' => ∃ v', e = .returned v' ∧ w'.ownsRow w.heap.size 3 1 v' (pathF ns at_).length ((pathF ns at_).map (Value.int .i64)) ∧ Below w.heap.size w w' := by
  have sd := sound_of h0
  have hp : pathF ns at_ = pathQ ns at_ ns.length ((ns.length : Int) - 1) := if_pos h0
  obtain ⟨R, hR⟩ : ∃ R, pathF ns at_ = R := ⟨_, rfl⟩
  rw [hR] at hp ⊢
  have hb0 : ∀ o, Below w.heap.size w (w.alloc o) := fun o => (Below.refl _ w).alloc (Nat.le_refl _) o
  have kt := fun o => treeok_any (w.alloc o) v ns (h.below (hb0 o)) hl sm
  obtain ⟨a, c, rfl⟩ := h.form
  obtain ⟨n, hn⟩ : ∃ n, ns.length = n := ⟨_, rfl⟩
  have HA : Hid (NdsAt w (.slice a n c) ns ∧ ns.length = n ∧ SoundT ns) := ⟨by rw [← hn]; exact h, hn, sd⟩
  rw [hn] at kt hp ⊢
  obtain ⟨F2, hF2⟩ : ∃ F2, (treeF ns).2 = F2 := ⟨_, rfl⟩
  rw [h0, hF2] at kt
  have hn1 : 1 ≤ n := by have := sd.len.1; omega
  have hn3 : n ≤ 3000 := by have := sd.len.2; omega
  have HP : Hid (R = pathQ ns at_ n ((n : Int) - 1)) := hp
  clear h hl sm hn hF2 h0 sd hp hR
  obtain ⟨j0, ji, jz0, jz1, jz2⟩ := info_parts infoInt
  go_enter Tryz.func11, Tryz.ntmps11
  go_wp2_with (go_at_call 6; fail)
  have hs1 : (w.alloc (.cells #[.slice a n c] 31)).heap.size = w.heap.size + 1 := World.size_alloc _ _
  have H1 : Hid (Below w.heap.size w (w.alloc (.cells #[.slice a n c] 31)) ∧ (w.alloc (.cells #[.slice a n c] 31)).cell? ⟨w.heap.size, 0, none⟩ = some (.slice a n c)) := ⟨hb0 _, one_cell1 (heap_alloc_new w _)⟩
  refine (kt _).mono ?_
  rintro e w2 ⟨rfl, hb2⟩
  clear kt
  generalize w.alloc (.cells #[.slice a n c] 31) = W1 at hs1 H1 hb2 ⊢
  have c2 := cell_kept hb2 H1.out.2
  have hlt2 : w.heap.size < w2.heap.size := by have := hb2.size; omega
  have hne2 : w.heap.size ≠ w2.heap.size := by omega
  have HB2 : Hid (Below W1.heap.size W1 w2) := hb2
  clear hb2
  go_wp2_with fail
  have st0 : PaSt W1 ns at_ n R ((n : Int) - 1) (.slice none 0 0) (w2.alloc (.cells #[.int .i64 0, .int .i64 F2] 27)) :=
    ⟨HB2.out.alloc HB2.out.size _, [], n, World.ownsRow_nil _ _ _ _, HP.out.symm, by simp, by omega⟩
  generalize w2.alloc (.cells #[.int .i64 0, .int .i64 F2] 27) = W3 at st0 ⊢
  clear c2 hlt2 hne2 HB2
  go_loopw [6, 7] (fun vo vi wr => ∃ (i : Int), vi = .int .i64 i ∧ (∃ a c, ∃ m : Nat, vo = .slice a m c) ∧ -1 ≤ i ∧ i < (n : Int) ∧ Hid (PaSt W1 ns at_ n R i vo wr)) (fun _ vi _ => (intOf vi + 1).toNat)
  case atStart => exact ⟨(n : Int) - 1, rfl, ⟨_, _, _, rfl⟩, by omega, by omega, st0⟩
  case round =>
    obtain ⟨i, rfl, ⟨av, cv, mv, rfl⟩, hi1, hin, HS⟩ := hrel
    clear st0
    obtain ⟨out, f, ho, hq, hof, hif⟩ := HS.out.ex
    obtain ⟨a9, c9, e9⟩ := own_form ho
    cases e9
    obtain ⟨m, hm⟩ : ∃ m, out.length = m := ⟨_, rfl⟩
    rw [hm] at ho hof ⊢
    by_cases hi0 : i < 0
    · have hi2 : i = -1 := by omega
      subst hi2
      have hro : out = R := by rw [pathQ_neg, List.append_nil] at hq; exact hq
      have HO : Hid (wr.ownsRow W1.heap.size 3 1 (.slice av m cv) m (out.map (Value.int .i64)) ∧ Below W1.heap.size W1 wr ∧ out = R) := ⟨ho, HS.out.bl, hro⟩
      clear ho hq HS
      go_wp2_with fail
      go_ret
      refine ⟨_, rfl, ?_, H1.out.1.trans (HO.out.2.1.mono H1.out.1.size)⟩
      rw [← HO.out.2.2, hm]
      exact own_le HO.out.1 H1.out.1.size
    · obtain ⟨q, rfl⟩ := Int.eq_ofNat_of_zero_le (show 0 ≤ i by omega)
      obtain ⟨f, rfl⟩ : ∃ g, f = g + 1 := ⟨f - 1, by omega⟩
      have hqn : q < n := by omega
      obtain ⟨N, hN⟩ := some_at HA.out.2.1 hqn
      have hgN : ns.getD q zNd = N := by rw [List.getD_eq_getElem?_getD, hN]; rfl
      obtain ⟨a', ha', vn, vk, hd⟩ := (HA.out.1.below H1.out.1).get hN
      subst ha'
      obtain ⟨d0, d1, d2, d3, d4, d5, d6, d7, d8, hn', hk'⟩ := hd
      replace d0 := cell_kept HS.out.bl d0
      replace d1 := cell_kept HS.out.bl d1
      replace d2 := cell_kept HS.out.bl d2
      replace d3 := cell_kept HS.out.bl d3
      replace d4 := cell_kept HS.out.bl d4
      replace d5 := cell_kept HS.out.bl d5
      replace d6 := cell_kept HS.out.bl d6
      replace d7 := cell_kept HS.out.bl d7
      replace d8 := cell_kept HS.out.bl d8
      obtain ⟨an, cn, rfl⟩ := hn'.form
      obtain ⟨ak, ck, rfl⟩ := hk'.form
      have hnl : ∃ l1, N.nm.length = l1 := ⟨_, rfl⟩
      obtain ⟨L1, hL1⟩ := hnl
      obtain ⟨L2, hL2⟩ : ∃ l2, N.ks.length = l2 := ⟨_, rfl⟩
      have hk200 := HA.out.2.2.kn N (List.mem_of_getElem? hN)
      rw [hL1] at d7
      rw [hL2] at d8 hk' hk200
      have ct := cell_kept HS.out.bl H1.out.2
      have htl : w.heap.size < wr.heap.size := cell_lt ct
      have htn : w.heap.size ≠ wr.heap.size := by omega
      rw [pathQ, if_neg hi0, Int.toNat_natCast, hgN] at hq
      have HK : Hid (IntsAt W1 (.slice ak L2 ck) N.ks ∧ N.ks.length = L2 ∧ ns[q]? = some N ∧ Below W1.heap.size W1 wr) := ⟨hk', hL2, hN, HS.out.bl⟩
      have hq0 : (0 : Int) ≤ (q : Int) := by omega
      have HO : Hid (wr.ownsRow W1.heap.size 3 1 (.slice av m cv) m (out.map (Value.int .i64)) ∧ out.length = m) := ⟨ho, hm⟩
      have hm3 : m ≤ 3000 := by omega
      unfold hasAt at hq
      clear hn' hk' hL1 hL2 hN hgN HS ho
      by_cases g1 : N.f ≤ at_
      · by_cases g2 : at_ < N.t
        · rw [if_pos (decide_eq_true ⟨g1, g2⟩)] at hq
          have HQ : Hid (out ++ (q : Int) :: pathQ ns at_ f (nextK ns at_ N.ks) = R) := hq
          have hg1 : ¬ at_ < N.f := by omega
          have hg2 : ¬ N.t ≤ at_ := by omega
          clear hq
          have hnw : ∀ o1 (cs : Array Value) (t : TypeId), ((wr.alloc o1).alloc (.cells cs t)).heap[wr.heap.size + 1]? = some (.cells cs t (0, 0)) := fun o1 cs t => by
            have := heap_alloc_new (wr.alloc o1) (.cells cs t)
            rw [World.size_alloc] at this
            exact this
          have h8 : ∀ (cs : Array Value) (t : TypeId) o2, ((wr.alloc (.cells cs t)).alloc o2).heap[wr.heap.size]? = some (.cells cs t (0, 0)) := fun cs t o2 => (Below.heap_alloc _ _ _ (by simp)).trans (heap_alloc_new wr _)
          have hov : ∀ g, (Value.slice av m cv).ownBlock = some g → W1.heap.size ≤ g ∧ g < wr.heap.size := fun g hg => HO.out.1.lt g hg
          have hw1 := HK.out.2.2.2.size
          go_wp2_with (at_builtin; refine wpList_append_own _ rfl _ _ 36 rfl W1.heap.size 3 j0 _ 1 8 Tryz.underlying36 ji jz0 jz1 jz2 rfl (by decide) _ _ _ rfl ((HO.out.1.alloc _).alloc _) ⟨wr.heap.size + 1, 0, none⟩ 1 1 [.int .i64 (q : Int)] rfl rfl (World.news_of_block (cs := #[.int .i64 (q : Int)]) (fr := (0, 0)) (hnw _ _ _)) (by intro u hu; simp at hu; subst hu; rfl) (by unfold maxLen; omega) (by omega) (by simp; omega) ?_; intro v' w5 ho5 hg5 hn5; obtain ⟨g', cap', rfl⟩ := ownsRow_succ ho5; have z8 : w5.cell? ⟨wr.heap.size, 8, none⟩ = some (.slice ak L2 ck) := (hg5.cell_far ⟨wr.heap.size, 8, none⟩ (by simp; omega) (fun e => by have := hov _ e.symm; simp at this)).trans (by rw [cell_of_row _ _ _ _ _ _ (h8 _ _ _)]; rfl))
          have hb5 : Below W1.heap.size W1 w5 := ((HK.out.2.2.2.alloc hw1 _).alloc (by simp; omega) _).grown hg5 (by simp; omega) (fun g hg => (hov g hg).1)
          obtain ⟨Rn, hRn⟩ : ∃ Rn, nextK ns at_ N.ks = Rn := ⟨_, rfl⟩
          have hRm := nextK_mem (ns := ns) (at_ := at_) (ks := N.ks)
          rw [hRn] at hRm
          have hRb : -1 ≤ Rn ∧ Rn < (q : Int) := by
            rcases hRm with e | ⟨e, _⟩
            · omega
            · have := HA.out.2.2.kid q N HK.out.2.2.1 Rn e; omega
          have st5 : PaSt W1 ns at_ n R Rn (.slice (some ⟨g', 0, none⟩) (m + 1) cap') w5 := by
            refine ⟨hb5, out ++ [(q : Int)], f, ?_, ?_, ?_, ?_⟩
            · rw [List.length_append, HO.out.2, List.map_append]; exact ho5
            · rw [List.append_assoc, ← hRn]; exact HQ.out
            · rw [List.length_append, HO.out.2]; simp; omega
            · omega
          have HS5 : Hid (PaSt W1 ns at_ n R Rn (.slice (some ⟨g', 0, none⟩) (m + 1) cap') w5) := st5
          have HB5 : Hid (Below W1.heap.size W1 w5) := hb5
          have HN0 : NkIs ns at_ (N.ks.drop 0) Rn := ⟨hRn⟩
          have ct5 := cell_kept hb5 H1.out.2
          clear st5 hb5 hRn hRm ho5 hg5 hn5 HQ HO hov hnw h8 z8 ct htl htn d0 d1 d2 d3 d4 d5 d6 d7 d8 hg1 hg2 g1 g2
          go_loop [7, 45] (fun vi vj => ∃ (j : Nat) (cur : Int), j ≤ L2 ∧ vj = .int .i64 j ∧ vi = .int .i64 cur ∧ (cur = -1 ∧ NkIs ns at_ (N.ks.drop j) Rn ∨ 0 ≤ cur ∧ cur = Rn)) (fun _ vj => L2 - (intOf vj).toNat)
          case atStart => exact ⟨0, -1, Nat.zero_le _, rfl, rfl, .inl ⟨rfl, HN0⟩⟩
          case round =>
            obtain ⟨j, cur, hj, rfl, rfl, hcur⟩ := hrel
            clear HN0
            by_cases hjl : j < L2
            · have hji : (j : Int) < (L2 : Int) := by omega
              have hj0 : (0 : Int) ≤ (j : Int) := by omega
              obtain ⟨z, hz⟩ := some_at HK.out.2.1 hjl
              obtain ⟨b', hak, hcz⟩ := (HK.out.1.below HB5.out).get hz
              subst hak
              obtain ⟨hz0, hz1⟩ := HA.out.2.2.kid q N HK.out.2.2.1 z (List.mem_of_getElem? hz)
              obtain ⟨k, rfl⟩ := Int.eq_ofNat_of_zero_le hz0
              have hkn : k < n := by omega
              rcases hcur with ⟨rfl, HC⟩ | ⟨hc0, hcR⟩
              · have hr := HC.out
                have hjk := List.getElem?_eq_some_iff.1 hz
                rw [List.drop_eq_getElem_cons hjk.1, hjk.2, nextK, Int.toNat_natCast] at hr
                obtain ⟨M, hM⟩ := some_at HA.out.2.1 hkn
                obtain ⟨a2, ha2, vn2, vk2, hd2⟩ := (HA.out.1.below (H1.out.1.trans (HB5.out.mono H1.out.1.size))).get hM
                obtain rfl := Option.some.inj ha2
                have c1 := hd2.c1
                have c2 := hd2.c2
                have hgM : ns.getD k zNd = M := by rw [List.getD_eq_getElem?_getD, hM]; rfl
                rw [hgM] at hr
                unfold hasAt at hr
                have hki : (k : Int) < (n : Int) := by omega
                have hk0 : (0 : Int) ≤ (k : Int) := by omega
                clear hd2 hM hgM hz hjk HC
                by_cases g1 : M.f ≤ at_
                · by_cases g2 : at_ < M.t
                  · rw [if_pos (decide_eq_true ⟨g1, g2⟩)] at hr
                    have HR2 : Hid ((k : Int) = Rn) := hr
                    clear hz0 hz1 hr
                    go_wp2_with fail
                    go_round
                    case rel => exact ⟨j + 1, k, by omega, by go_num, rfl, .inr ⟨by omega, HR2.out⟩⟩
                    case measure => simp [intOf]; omega
                  · rw [if_neg (fun h => g2 (of_decide_eq_true h).2)] at hr
                    have HC2 : NkIs ns at_ (N.ks.drop (j + 1)) Rn := ⟨hr⟩
                    clear hr hz0 hz1
                    go_wp2_with fail
                    go_round
                    case rel => exact ⟨j + 1, -1, by omega, by go_num, rfl, .inl ⟨rfl, HC2⟩⟩
                    case measure => simp [intOf]; omega
                · rw [if_neg (fun h => g1 (of_decide_eq_true h).1)] at hr
                  have HC2 : NkIs ns at_ (N.ks.drop (j + 1)) Rn := ⟨hr⟩
                  clear hr hz0 hz1
                  go_wp2_with fail
                  go_round
                  case rel => exact ⟨j + 1, -1, by omega, by go_num, rfl, .inl ⟨rfl, HC2⟩⟩
                  case measure => simp [intOf]; omega
              · have hc1 : ¬ cur < 0 := by omega
                have HCR : Hid (cur = Rn) := hcR
                clear hz hz0 hz1 hcR
                go_wp2_with fail
                go_round
                case rel => exact ⟨j + 1, cur, by omega, by go_num, rfl, .inr ⟨by omega, HCR.out⟩⟩
                case measure => simp [intOf]; omega
            · obtain rfl : j = L2 := by omega
              have hcR : cur = Rn := by
                rcases hcur with ⟨rfl, HC⟩ | ⟨_, e⟩
                · have := HC.out
                  rw [List.drop_of_length_le (by rw [HK.out.2.1]; exact Nat.le_refl _), nextK] at this
                  exact this
                · exact e
              subst hcR
              clear hcur
              go_wp2_with fail
              exact ⟨⟨cur, rfl, ⟨_, _, _, rfl⟩, by omega, by omega, HS5⟩, by simp [intOf]; omega⟩
        · rw [if_neg (fun h => g2 (of_decide_eq_true h).2), List.append_nil] at hq
          have hg1 : ¬ at_ < N.f := by omega
          have hg2 : N.t ≤ at_ := by omega
          have HQ : Hid (out = R ∧ Below W1.heap.size W1 wr) := ⟨hq, HK.out.2.2.2⟩
          clear hq g2
          go_wp2_with fail
          go_ret
          refine ⟨_, rfl, ?_, (H1.out.1.trans (HQ.out.2.mono H1.out.1.size)).alloc (Nat.le_trans H1.out.1.size HQ.out.2.size) _⟩
          rw [← HQ.out.1, HO.out.2]
          exact (own_le HO.out.1 H1.out.1.size).alloc _
      · rw [if_neg (fun h => g1 (of_decide_eq_true h).1), List.append_nil] at hq
        have hg1 : at_ < N.f := by omega
        have HQ : Hid (out = R ∧ Below W1.heap.size W1 wr) := ⟨hq, HK.out.2.2.2⟩
        clear hq g1
        go_wp2_with fail
        go_ret
        refine ⟨_, rfl, ?_, (H1.out.1.trans (HQ.out.2.mono H1.out.1.size)).alloc (Nat.le_trans H1.out.1.size HQ.out.2.size) _⟩
        rw [← HQ.out.1, HO.out.2]
        exact (own_le HO.out.1 H1.out.1.size).alloc _
end Go.Proofs.YtgjlnimnnllejaaGreatDoor

namespace Go.Proofs.YtgjlnimnnllejaaGreatDoor
open Go.RowKit Go.Maps Go.WideMaps
set_option linter.unusedVariables false

def lenOf : Value → Nat
  | .slice _ m _ => m
  | _ => 0

set_option maxRecDepth 100000 in
set_option maxHeartbeats 12800000 in
theorem implPath_any (w : World) (v : Value) (ns : List Nd) (at_ : Int) (h : NdsAt w v ns) (hl : ns.length ≤ 1048576) (sm : ∀ N ∈ ns, NdSmall N) (he : Errs w) (tt : TypeId) (fr : Nat × Nat) (hG : w.heap[0]? = some (.cells wordV tt fr))
    (htab : ∀ W, Below w.heap.size w W → Lib.TabIs Tryz.prog W "strings.asciiSpace" .u8 Lib.asciiSpaceTab) :
    Calls Tryz.prog 12 #[.agg #[v], .int .i64 at_] w fun e w' => ∃ v', e = .returned v' ∧ w'.ownsRow w.heap.size 3 1 v' (pathF ns at_).length ((pathF ns at_).map (Value.int .i64)) ∧ Below w.heap.size w w' := by
  have hb0 : ∀ o, Below w.heap.size w (w.alloc o) := fun o => (Below.refl _ w).alloc (Nat.le_refl _) o
  have HK : Hid (∀ W, Below w.heap.size w W → Calls Tryz.prog 21 #[.agg #[v]] W (LinkPost W ns)) := fun W hW =>
    linked_any W v ns (h.below hW) hl sm (he.below hW (Nat.le_refl _)) tt fr ((hW.block _ (lt_of_block hG)).trans hG) (fun W2 h2 => htab W2 (hW.trans (h2.mono hW.size)))
  obtain ⟨a, c, rfl⟩ := h.form
  obtain ⟨n, hn⟩ : ∃ n, ns.length = n := ⟨_, rfl⟩
  have HN : Hid (ns.length = n) := hn
  rw [hn] at HK ⊢
  obtain ⟨R, hR⟩ : ∃ R, pathF ns at_ = R := ⟨_, rfl⟩
  have HR : Hid (pathF ns at_ = R) := hR
  rw [hR]
  clear h hl sm he hG htab hn hR
  obtain ⟨j0, ji, jz0, jz1, jz2⟩ := info_parts infoInt
  go_enter Tryz.func12, Tryz.ntmps12
  go_wp2_with (go_at_call 21; fail)
  have HB1 : Hid (Below w.heap.size w (w.alloc (.cells #[.slice a n c] 31))) := hb0 _
  generalize w.alloc (.cells #[.slice a n c] 31) = W1 at HB1 ⊢
  refine (HK.out W1 HB1.out).mono ?_
  rintro e w3 ⟨hb3, hc⟩
  have HB3 : Hid (Below w.heap.size w w3) := HB1.out.trans (hb3.mono HB1.out.size)
  rcases hc with ⟨h0, rfl⟩ | ⟨h0, base, vs, L, x, rfl, hx, hLn, hns⟩
  · have hp : R = [] := by rw [← HR.out]; exact if_neg h0
    subst hp
    obtain ⟨F1, hF1⟩ : ∃ F1, (treeF ns).1 = F1 := ⟨_, rfl⟩
    obtain ⟨F2, hF2⟩ : ∃ F2, (treeF ns).2 = F2 := ⟨_, rfl⟩
    rw [hF1] at h0
    rw [hF1, hF2]
    have h1 : (F1 == 0) = false := by rw [beq_eq_false_iff_ne]; exact h0
    clear hF1 hF2 HR hb3 HK
    go_wp2_with fail
    go_ret
    exact ⟨_, rfl, World.ownsRow_nil _ _ _ _, HB3.out.alloc HB3.out.size _⟩
  · have h00 : (treeF ns).1 = 0 := by rw [h0]
    have sd := sound_of h00
    have hn1 : 1 ≤ n := by have := sd.len.1; have := HN.out; omega
    have hn3 : n ≤ 3000 := by have := sd.len.2; have := HN.out; omega
    have hp : R = pathQ ns at_ n ((n : Int) - 1) := by rw [← HR.out, ← HN.out]; exact if_pos h00
    rw [HN.out] at hx
    have HS : Hid (SoundT ns ∧ L.map Im.N = ns ∧ L.length = n) := ⟨sd, hLn, by rw [← HN.out, ← hLn, List.length_map]⟩
    have hbx := hns.box (n - 1) x hx
    have hnx : ns.getD (n - 1) zNd = x.N := by rw [List.getD_eq_getElem?_getD, ← hLn, List.getElem?_map, hx]; rfl
    have HP : Hid (R = pathQ ns at_ n ((n : Int) - 1)) := hp
    have HX : Hid (NsAt w3 base vs L ∧ L[n - 1]? = some x ∧ InBox w3 x.b x.N x.vn ((n - 1 : Nat) : Int) x.kv ∧ ns.getD (n - 1) zNd = x.N) := ⟨hns, hx, hbx, hnx⟩
    have hxv : nV x = .iface (ptT (cls x.N.k)) (.pointer (some ⟨x.b, 0, none⟩)) := rfl
    obtain ⟨tp, htp⟩ : ∃ tp, ptT (cls x.N.k) = tp := ⟨_, rfl⟩
    rw [hxv, htp]
    have HT : Hid (ptT (cls x.N.k) = tp) := htp
    obtain ⟨xb, hxb⟩ : ∃ xb, x.b = xb := ⟨_, rfl⟩
    rw [hxb]
    have HXB : Hid (x.b = xb) := hxb
    clear hb3 HK h0 h00 sd hLn hbx hnx hp hxv htp hxb hx hns HR
    go_wp2_with (go_at_call 23; fail)
    have B4 : ((w3.alloc (.cells #[.int .i64 0, .int .i64 0] 27)).alloc (.cells #[.iface tp (.pointer (some ⟨xb, 0, none⟩))] 50)).cell? ⟨w3.heap.size + 1, 0, none⟩ = some (.iface tp (.pointer (some ⟨xb, 0, none⟩))) := by
      have := heap_alloc_new (w3.alloc (.cells #[.int .i64 0, .int .i64 0] 27)) (.cells #[.iface tp (.pointer (some ⟨xb, 0, none⟩))] 50)
      rw [World.size_alloc] at this
      exact one_cell1 this
    have hb34 : Below w3.heap.size w3 ((w3.alloc (.cells #[.int .i64 0, .int .i64 0] 27)).alloc (.cells #[.iface tp (.pointer (some ⟨xb, 0, none⟩))] 50)) := ((Below.refl _ w3).alloc (Nat.le_refl _) _).alloc (by simp) _
    generalize (w3.alloc (.cells #[.int .i64 0, .int .i64 0] 27)).alloc (.cells #[.iface tp (.pointer (some ⟨xb, 0, none⟩))] 50) = W4 at B4 hb34 ⊢
    have HW4 : Hid (Below w.heap.size w W4 ∧ NsAt W4 base vs L) := ⟨HB3.out.trans (hb34.mono HB3.out.size), HX.out.1.below hb34⟩
    have nd4 : NodesAt W4 (.slice (some ⟨w3.heap.size + 1, 0, none⟩) 1 1) L ns [(n : Int) - 1] := by
      refine .inr ⟨⟨w3.heap.size + 1, 0, none⟩, 1, rfl, fun j z hz => ?_⟩
      cases j with
      | succ j => simp at hz
      | zero =>
        obtain rfl : (n : Int) - 1 = z := by simpa using hz
        have e1 : ((n : Int) - 1).toNat = n - 1 := by omega
        rw [e1, HX.out.2.2.2]
        obtain ⟨_, d1, d2, _⟩ := (HX.out.2.2.1.below hb34).cells
        refine ⟨by omega, x, HX.out.2.1, ?_, d1, d2⟩
        rw [HT.out, HXB.out]
        exact B4
    refine (firstWith_any W4 L ns at_ _ _ nd4 (by simp)).mono ?_
    rintro e w5 ⟨rfl, hb5⟩
    have st0 : PaSt W4 ns at_ n R (nextK ns at_ [(n : Int) - 1]) (.slice none 0 0) w5 := by
      refine ⟨hb5, [], n, World.ownsRow_nil _ _ _ _, ?_, by simp, ?_⟩
      · rw [HP.out, nextK, List.nil_append]
        obtain ⟨n', hn'⟩ : ∃ n', n = n' + 1 := ⟨n - 1, by omega⟩
        split
        · rfl
        · rename_i hh
          rw [nextK, pathQ_neg, hn', pathQ, if_neg (by omega), if_neg (by rw [← hn']; exact hh)]
      · rw [nextK]
        split
        · omega
        · rw [nextK]; omega
    have hi0 : nextK ns at_ [(n : Int) - 1] = -1 ∨ 0 ≤ nextK ns at_ [(n : Int) - 1] ∧ nextK ns at_ [(n : Int) - 1] < (n : Int) ∧ hasAt (ns.getD (nextK ns at_ [(n : Int) - 1]).toNat zNd) at_ = true := by
      rcases nextK_mem (ns := ns) (at_ := at_) (ks := [(n : Int) - 1]) with e | ⟨e1, e2⟩
      · exact .inl e
      · have := List.mem_singleton.1 e1
        exact .inr ⟨by omega, by omega, e2⟩
    generalize nextK ns at_ [(n : Int) - 1] = I0 at st0 hi0 ⊢
    obtain ⟨V0, hV0⟩ : ∃ V0, fwV L I0 = V0 := ⟨_, rfl⟩
    rw [hV0]
    have HI0 : Hid (PaSt W4 ns at_ n R I0 (.slice none 0 0) w5 ∧ fwV L I0 = V0 ∧ (I0 = -1 ∨ 0 ≤ I0 ∧ I0 < (n : Int) ∧ hasAt (ns.getD I0.toNat zNd) at_ = true)) := ⟨st0, hV0, hi0⟩
    clear st0 hi0 hV0 nd4 B4 hb34 hb5
    go_wp2_with fail
    go_loopw [7, 8] (fun vo vi wr => ∃ (i : Int), (∃ a c, ∃ m : Nat, vo = .slice a m c) ∧ Hid (PaSt W4 ns at_ n R i vo wr ∧ fwV L i = vi ∧ (i = -1 ∨ 0 ≤ i ∧ i < (n : Int) ∧ hasAt (ns.getD i.toNat zNd) at_ = true))) (fun vo _ _ => n - lenOf vo)
    case atStart => exact ⟨I0, ⟨_, _, _, rfl⟩, HI0⟩
    case round =>
      obtain ⟨i, ⟨av, cv, mv, rfl⟩, HI⟩ := hrel
      clear HI0
      have hfv := HI.out.2.1
      obtain ⟨out, f, ho, hq, hof, hif⟩ := HI.out.1.ex
      obtain ⟨a9, c9, e9⟩ := own_form ho
      cases e9
      obtain ⟨m, hm⟩ : ∃ m, out.length = m := ⟨_, rfl⟩
      rw [hm] at ho hof ⊢
      rcases HI.out.2.2 with hi | ⟨hi0, hin, hha⟩
      · subst hi
        rw [fwV_neg] at hfv
        subst hfv
        rw [pathQ_neg, List.append_nil] at hq
        have HO : Hid (wr.ownsRow W4.heap.size 3 1 (.slice av m cv) m (out.map (Value.int .i64)) ∧ Below W4.heap.size W4 wr ∧ out = R) := ⟨ho, HI.out.1.bl, hq⟩
        clear ho hq HI
        go_wp2_with fail
        go_ret
        refine ⟨_, rfl, ?_, HW4.out.1.trans (HO.out.2.1.mono HW4.out.1.size)⟩
        rw [← HO.out.2.2, hm]
        exact own_le HO.out.1 HW4.out.1.size
      · obtain ⟨q, rfl⟩ := Int.eq_ofNat_of_zero_le hi0
        obtain ⟨f, rfl⟩ : ∃ g, f = g + 1 := ⟨f - 1, by omega⟩
        have hqn : q < n := by omega
        obtain ⟨y, hy⟩ := some_at HS.out.2.2 hqn
        rw [fwV_at hi0 (by rw [Int.toNat_natCast]; exact hy)] at hfv
        subst hfv
        have hgN : ns.getD q zNd = y.N := by rw [List.getD_eq_getElem?_getD, ← HS.out.2.1, List.getElem?_map, hy]; rfl
        rw [Int.toNat_natCast, hgN] at hha
        rw [pathQ, if_neg (by omega), Int.toNat_natCast, hgN, if_pos hha] at hq
        obtain ⟨_, _, _, d4, d5, _⟩ := (HW4.out.2.box q y hy).cells
        have hkd := HW4.out.2.nodes HS.out.2.1 hy
        have hkn := HS.out.1.kn y.N (by rw [← hgN]; exact List.mem_of_getElem? (show ns[q]? = some (ns.getD q zNd) by rw [hgN, ← HS.out.2.1, List.getElem?_map, hy]; rfl))
        have hkr : ∀ z ∈ y.N.ks, 0 ≤ z ∧ z < (q : Int) := fun z hz => HW4.out.2.rng q y z hy hz
        obtain ⟨ak, ck, hkf⟩ := hkd.form
        obtain ⟨L2, hL2⟩ : ∃ l2, y.N.ks.length = l2 := ⟨_, rfl⟩
        rw [hL2] at hkf
        rw [hkf] at d5 hkd
        have c4 := cell_kept HI.out.1.bl d4
        have HD : Hid (W4.cell? ⟨y.b, 5, none⟩ = some (.slice ak L2 ck) ∧ NodesAt W4 (.slice ak L2 ck) L ns y.N.ks ∧ y.N.ks.length ≤ 3000 ∧ (∀ z ∈ y.N.ks, 0 ≤ z ∧ z < (q : Int))) := ⟨d5, hkd, by omega, hkr⟩
        have HQ : Hid (out ++ (q : Int) :: pathQ ns at_ f (nextK ns at_ y.N.ks) = R ∧ out.length = m ∧ m + (f + 1) ≤ n ∧ q < f + 1) := ⟨hq, hm, hof, by omega⟩
        have HO : Hid (wr.ownsRow W4.heap.size 3 1 (.slice av m cv) m (out.map (Value.int .i64)) ∧ Below W4.heap.size W4 wr) := ⟨ho, HI.out.1.bl⟩
        have hm3 : m ≤ 3000 := by omega
        have hmt := fun w => methK y.N.k y.b w
        have kh := fun w => head_any y.b w
        obtain ⟨tq, htq⟩ : ∃ tp, ptT (cls y.N.k) = tp := ⟨_, rfl⟩
        rw [htq] at hmt ⊢
        obtain ⟨yb, hyb⟩ : ∃ yb, y.b = yb := ⟨_, rfl⟩
        rw [hyb] at hmt kh c4 HD ⊢
        have hov : ∀ g, (Value.slice av m cv).ownBlock = some g → W4.heap.size ≤ g := fun g hg => (HO.out.1.lt g hg).1
        have hw4 := HO.out.2.size
        clear hkd hkn hkr hkf hL2 d4 d5 hha hgN hq hm ho HI htq hyb hy
        go_wp2_with (first | (go_at_call 155; refine (kh _).mono ?_; rintro e w' ⟨rfl, hw'⟩; subst w') | (at_builtin; refine wpList_append_own _ rfl _ _ 36 rfl W4.heap.size 3 j0 _ 1 8 Tryz.underlying36 ji jz0 jz1 jz2 rfl (by decide) _ _ _ rfl (HO.out.1.alloc _) ⟨wr.heap.size, 0, none⟩ 1 1 [.int .i64 (q : Int)] rfl rfl (World.news_of_block (cs := #[.int .i64 (q : Int)]) (fr := (0, 0)) (heap_alloc_new wr _)) (by intro u hu; simp at hu; subst hu; rfl) (by unfold maxLen; omega) (by omega) (by simp; omega) ?_; intro v' w6 ho6 hg6 hn6; obtain ⟨g', cap', rfl⟩ := ownsRow_succ ho6; have hb6 : Below W4.heap.size W4 w6 := (HO.out.2.alloc hw4 _).grown hg6 (by simp; omega) hov; have z5 := cell_kept hb6 HD.out.1) | (go_at_call 23; fail))
        obtain ⟨I1, hI1⟩ : ∃ I1, nextK ns at_ y.N.ks = I1 := ⟨_, rfl⟩
        have hRm := nextK_mem (ns := ns) (at_ := at_) (ks := y.N.ks)
        rw [hI1] at hRm
        have hq := HQ.out.1
        rw [hI1] at hq
        have st6 : PaSt W4 ns at_ n R I1 (.slice (some ⟨g', 0, none⟩) (m + 1) cap') w6 := by
          refine ⟨hb6, out ++ [(q : Int)], f, ?_, ?_, ?_, ?_⟩
          · rw [List.length_append, HQ.out.2.1, List.map_append]; exact ho6
          · rw [List.append_assoc]; exact hq
          · rw [List.length_append, HQ.out.2.1]; simp; omega
          · rcases hRm with e | ⟨e, _⟩
            · omega
            · have := HD.out.2.2.2 I1 e; omega
        have hI2 : I1 = -1 ∨ 0 ≤ I1 ∧ I1 < (n : Int) ∧ hasAt (ns.getD I1.toNat zNd) at_ = true := by
          rcases hRm with e | ⟨e, h2⟩
          · exact .inl e
          · have := HD.out.2.2.2 I1 e; exact .inr ⟨by omega, by omega, h2⟩
        refine (firstWith_any w6 L ns at_ _ _ (HD.out.2.1.below hb6) HD.out.2.2.1).mono ?_
        rintro e w7 ⟨rfl, hb7⟩
        rw [hI1]
        obtain ⟨V1, hV1⟩ : ∃ V1, fwV L I1 = V1 := ⟨_, rfl⟩
        rw [hV1]
        have HI1 : Hid (PaSt W4 ns at_ n R I1 (.slice (some ⟨g', 0, none⟩) (m + 1) cap') w7 ∧ fwV L I1 = V1 ∧ (I1 = -1 ∨ 0 ≤ I1 ∧ I1 < (n : Int) ∧ hasAt (ns.getD I1.toNat zNd) at_ = true)) := by
          refine ⟨⟨hb6.trans (hb7.mono hb6.size), ?_⟩, hV1, hI2⟩
          obtain ⟨o2, f2, h1, h2⟩ := st6.ex
          exact ⟨o2, f2, own_keep h1 hb7, h2⟩
        clear st6 hI2 hV1 hI1 hRm hq hb7 hb6 ho6 hg6 hn6 z5
        go_wp2_with fail
        exact ⟨⟨I1, ⟨_, _, _, rfl⟩, HI1⟩, by simp [lenOf]; omega⟩
end Go.Proofs.YtgjlnimnnllejaaGreatDoor
