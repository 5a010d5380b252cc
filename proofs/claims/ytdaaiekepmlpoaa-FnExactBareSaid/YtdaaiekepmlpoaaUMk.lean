import Derived.Test.YtdaaiekepmlpoaaUMt
import Derived.Test.YtdaaiekepmlpoaaUNds
namespace Go.Proofs.Ytdaaiekepmlpoaa
open Go.RowKit
set_option linter.unusedVariables false

/-- A node with the slices that it holds. -/
structure Mb where
  N : Nd
  vn : Value
  vk : Value
def cMb (x : Mb) : List Value := [.int .i64 x.N.k, .int .i64 x.N.f, .int .i64 x.N.t, .int .i64 x.N.l, .int .i64 x.N.op, .int .i64 x.N.n, .string x.N.x, x.vn, x.vk]
def cMbs (l : List Mb) : List Value := l.flatMap cMb
theorem cMbs_cons (a : Mb) (r : List Mb) : cMbs (a :: r) = cMb a ++ cMbs r := by simp [cMbs]
theorem cMbs_app (a b : List Mb) : cMbs (a ++ b) = cMbs a ++ cMbs b := by simp [cMbs]
theorem cMbs_len (l : List Mb) : (cMbs l).length = l.length * 9 := by
  induction l with
  | nil => rfl
  | cons a r ih =>
    have la : (cMb a).length = 9 := rfl
    rw [cMbs_cons, List.length_append, ih, la, List.length_cons]; omega
theorem cMbs_at (ts : List Mb) (i j : Nat) (T : Mb) (hT : ts[i]? = some T) (hj : j < 9) : (cMbs ts)[i * 9 + j]? = (cMb T)[j]? := by
  induction ts generalizing i with
  | nil => simp at hT
  | cons a r ih =>
    have la : (cMb a).length = 9 := rfl
    rw [cMbs_cons]
    cases i with
    | zero => simp at hT; subst hT; rw [List.getElem?_append_left (by omega)]; congr 1; omega
    | succ i =>
      rw [List.getElem?_append_right (by omega), la, show (i + 1) * 9 + j - 9 = i * 9 + j by omega]
      exact ih i (by simpa using hT)
/-- The blocks of the lists part from one another. -/
def Apart (vs : List Value) : Prop := ∀ (i j : Nat) (a b : Value), i ≠ j → vs[i]? = some a → vs[j]? = some b → a.ownBlock = none ∨ a.ownBlock ≠ b.ownBlock
structure MbOwn (W : World) (lo hi : Nat) (x : Mb) : Prop where
  on : W.ownsRow lo 9 1 x.vn x.N.nm.length (x.N.nm.map Value.string)
  ok : W.ownsRow lo 3 1 x.vk x.N.ks.length (x.N.ks.map (Value.int .i64))
  hn : ∀ g, x.vn.ownBlock = some g → g < hi
  hk : ∀ g, x.vk.ownBlock = some g → g < hi
/-- A tree whose blocks are all its own, and lie from lo up to below hi. -/
structure MbsOwn (W : World) (lo hi : Nat) (v : Value) (L : List Mb) : Prop where
  row : W.ownsRow lo 42 9 v L.length (cMbs L)
  hh : ∀ g, v.ownBlock = some g → g < hi
  each : ∀ x ∈ L, MbOwn W lo hi x
  dn : Apart (L.map Mb.vn)
  dk : Apart (L.map Mb.vk)
theorem MbOwn.below {W W' : World} {lo hi : Nat} {x : Mb} (h : MbOwn W lo hi x) (hb : Below W.heap.size W W') : MbOwn W' lo hi x := ⟨own_keep h.on hb, own_keep h.ok hb, h.hn, h.hk⟩
theorem MbsOwn.below {W W' : World} {lo hi : Nat} {v : Value} {L : List Mb} (h : MbsOwn W lo hi v L) (hb : Below W.heap.size W W') : MbsOwn W' lo hi v L :=
  ⟨own_keep h.row hb, h.hh, fun x hx => (h.each x hx).below hb, h.dn, h.dk⟩
/-- Only blocks from lo up to below hi have turned. -/
structure Mid (lo hi : Nat) (w w' : World) : Prop where
  os : w'.os = w.os
  tape : w'.tape = w.tape
  output : w'.output = w.output
  size : w.heap.size ≤ w'.heap.size
  block : ∀ k, k < w.heap.size → (k < lo ∨ hi ≤ k) → w'.heap[k]? = w.heap[k]?
theorem Mid.refl (lo hi : Nat) (w : World) : Mid lo hi w w := ⟨rfl, rfl, rfl, Nat.le_refl _, fun _ _ _ => rfl⟩
theorem Mid.trans {lo hi : Nat} {x y z : World} (h : Mid lo hi x y) (k : Mid lo hi y z) : Mid lo hi x z :=
  ⟨k.os.trans h.os, k.tape.trans h.tape, k.output.trans h.output, Nat.le_trans h.size k.size, fun i hi hne => (k.block i (Nat.lt_of_lt_of_le hi h.size) hne).trans (h.block i hi hne)⟩
theorem Mid.of_grown {lo hi : Nat} {w w' : World} {row : Option Nat} (h : w.grownBy w' row) (hr : ∀ g, row = some g → lo ≤ g ∧ g < hi) : Mid lo hi w w' :=
  ⟨h.os, h.tape, h.output, h.size, fun k hk ho => h.block k hk (fun e => by have := hr k e.symm; omega)⟩
theorem Mid.kept {lo hi : Nat} {w w' : World} (h : Mid lo hi w w') {base e size n : Nat} {v : Value} {xs : List Value} (o : w.ownsRow base e size v n xs) (hb : hi ≤ base) : w'.ownsRow base e size v n xs := by
  obtain ⟨h1, h2⟩ := o
  refine ⟨h1, ?_⟩
  rcases h2 with h2 | ⟨g, cap, cur, hv, hg, hc, rest⟩
  · exact .inl h2
  · exact .inr ⟨g, cap, cur, hv, hg, (h.block g (lt_of_block hc) (.inr (by omega))).trans hc, rest⟩
theorem Mid.tree {lo hi : Nat} {w w' : World} (h : Mid lo hi w w') {lo2 hi2 : Nat} {v : Value} {L : List Mb} (o : MbsOwn w lo2 hi2 v L) (hb : hi ≤ lo2) : MbsOwn w' lo2 hi2 v L :=
  ⟨h.kept o.row hb, o.hh, fun x hx => ⟨h.kept (o.each x hx).on hb, h.kept (o.each x hx).ok hb, (o.each x hx).hn, (o.each x hx).hk⟩, o.dn, o.dk⟩
theorem Mid.bel {lo hi base : Nat} {w0 w w' : World} (h : Mid lo hi w w') (hb : Below base w0 w) (hs : base ≤ lo) (hw : base ≤ w.heap.size) : Below base w0 w' :=
  ⟨h.os.trans hb.os, h.tape.trans hb.tape, h.output.trans hb.output, Nat.le_trans hb.size h.size, fun k hk => (h.block k (by omega) (.inl (by omega))).trans (hb.block k hk)⟩

theorem own_strs2 {W : World} {base : Nat} {v : Value} {l : List ByteArray} (h : W.ownsRow base 9 1 v l.length (l.map Value.string)) : StrsAt W v l := by
  rcases own_zero_or h with ⟨hn, rfl⟩ | ⟨g, cap, rfl⟩
  · exact .inl ⟨List.eq_nil_of_length_eq_zero hn, _, _, rfl⟩
  · exact own_strs h rfl
theorem own_ints2 {W : World} {base : Nat} {v : Value} {l : List Int} (h : W.ownsRow base 3 1 v l.length (l.map (Value.int .i64))) : IntsAt W v l := by
  rcases own_zero_or h with ⟨hn, rfl⟩ | ⟨g, cap, rfl⟩
  · exact .inl ⟨List.eq_nil_of_length_eq_zero hn, _, _, rfl⟩
  · exact own_ints h rfl
theorem row_cells {W : World} {lo g n cap : Nat} {L : List Mb} (h : W.ownsRow lo 42 9 (.slice (some ⟨g, 0, none⟩) n cap) n (cMbs L)) {i : Nat} {x : Mb} (hx : L[i]? = some x) :
    W.cell? ⟨g, i * 9, none⟩ = some (.int .i64 x.N.k) ∧ W.cell? ⟨g, i * 9 + 1, none⟩ = some (.int .i64 x.N.f) ∧ W.cell? ⟨g, i * 9 + 2, none⟩ = some (.int .i64 x.N.t) ∧ W.cell? ⟨g, i * 9 + 3, none⟩ = some (.int .i64 x.N.l) ∧ W.cell? ⟨g, i * 9 + 4, none⟩ = some (.int .i64 x.N.op) ∧ W.cell? ⟨g, i * 9 + 5, none⟩ = some (.int .i64 x.N.n) ∧ W.cell? ⟨g, i * 9 + 6, none⟩ = some (.string x.N.x) ∧ W.cell? ⟨g, i * 9 + 7, none⟩ = some x.vn ∧ W.cell? ⟨g, i * 9 + 8, none⟩ = some x.vk := by
  have hlen : n * 9 = L.length * 9 := by have := h.1; rw [cMbs_len] at this; omega
  have hi : i < L.length := by rcases Nat.lt_or_ge i L.length with g | g; exact g; rw [List.getElem?_eq_none g] at hx; cases hx
  have c : ∀ j, j < 9 → W.cell? ⟨g, i * 9 + j, none⟩ = (cMb x)[j]? := fun j hj => by
    rw [h.cellAt (i * 9 + j) (by omega), cMbs_at L i j x hx hj]
  exact ⟨c 0 (by omega), c 1 (by omega), c 2 (by omega), c 3 (by omega), c 4 (by omega), c 5 (by omega), c 6 (by omega), c 7 (by omega), c 8 (by omega)⟩
theorem MbsOwn.nds {W : World} {lo hi : Nat} {v : Value} {L : List Mb} (h : MbsOwn W lo hi v L) : NdsAt W v (L.map Mb.N) := by
  rcases own_zero_or h.row with ⟨hn, rfl⟩ | ⟨g, cap, rfl⟩
  · exact .inl ⟨by rw [List.eq_nil_of_length_eq_zero hn]; rfl, _, _, rfl⟩
  · refine .inr ⟨⟨g, 0, none⟩, cap, by rw [List.length_map], fun i N hN => ?_⟩
    rw [List.getElem?_map] at hN
    cases hx : L[i]? with
    | none => rw [hx] at hN; cases hN
    | some x =>
      rw [hx] at hN
      obtain rfl := Option.some.inj hN
      rw [add_zero9]
      obtain ⟨c0, c1, c2, c3, c4, c5, c6, c7, c8⟩ := row_cells h.row hx
      have hm := h.each x (List.mem_of_getElem? hx)
      exact ⟨x.vn, x.vk, c0, c1, c2, c3, c4, c5, c6, c7, c8, own_strs2 hm.on, own_ints2 hm.ok⟩
theorem apart_of {α : Type} {L : List α} (f : α → Value) (q : α → Nat) (hf : ∀ x, (f x).ownBlock = some (q x)) (hd : (L.map q).Nodup) : Apart (L.map f) := by
  intro i j a b hij ha hb
  rw [List.getElem?_map] at ha hb
  cases hx : L[i]? with
  | none => rw [hx] at ha; cases ha
  | some x =>
    cases hy : L[j]? with
    | none => rw [hy] at hb; cases hb
    | some y =>
      rw [hx] at ha; rw [hy] at hb
      obtain rfl := Option.some.inj ha
      obtain rfl := Option.some.inj hb
      rw [hf, hf]
      refine .inr fun e => ?_
      have e2 := Option.some.inj e
      have li : i < L.length := (List.getElem?_eq_some_iff.1 hx).1
      have lj : j < L.length := (List.getElem?_eq_some_iff.1 hy).1
      have h1 : (L.map q)[i]'(by simpa using li) = q x := by simp [(List.getElem?_eq_some_iff.1 hx).2]
      have h2 : (L.map q)[j]'(by simpa using lj) = q y := by simp [(List.getElem?_eq_some_iff.1 hy).2]
      have hp := List.pairwise_iff_getElem.1 hd
      rcases Nat.lt_or_gt_of_ne hij with g | g
      · exact hp i j (by simpa using li) (by simpa using lj) g (by rw [h1, h2, e2])
      · exact hp j i (by simpa using lj) (by simpa using li) g (by rw [h1, h2, e2])
theorem NbsOwn.mbs {W : World} {base g n : Nat} {L : List Nb} (h : NbsOwn W base g n L []) : MbsOwn W base W.heap.size (.slice (some ⟨g, 0, none⟩) n n) (L.map fun x => ⟨x.N, x.vn, x.vk⟩) := by
  have hlen : n = L.length := by have := h.row.1; rw [List.append_nil, cNbs_len] at this; omega
  have hc : cMbs (L.map fun x => ⟨x.N, x.vn, x.vk⟩) = cNbs L := by
    clear h hlen
    induction L with
    | nil => rfl
    | cons a r ih => rw [List.map_cons, cMbs_cons, ih]; simp [cNbs, cMb, cNb]
  refine ⟨?_, fun k hk => (h.row.lt k hk).2, ?_, ?_, ?_⟩
  · rw [hc, List.length_map, ← hlen]; have := h.row; rw [List.append_nil] at this; exact this
  · intro y hy
    obtain ⟨x, hx, rfl⟩ := List.mem_map.1 hy
    exact ⟨(h.each x hx).on, (h.each x hx).ok, fun k hk => ((h.each x hx).on.lt k hk).2, fun k hk => ((h.each x hx).ok.lt k hk).2⟩
  · rw [List.map_map]; exact apart_of Nb.vn Nb.g (fun _ => rfl) h.dn
  · rw [List.map_map]; exact apart_of Nb.vk Nb.h (fun _ => rfl) h.dk

/-- What the law writes into a node, from K on; how far it has counted behind it. -/
def mkNd (K : Nat) (N : Nd) : Nd := ⟨(K : Nat), (K + 1 : Nat), (K + 2 : Nat), (K + 3 : Nat), (K + 4 : Nat), (K + 5 : Nat), mtI (K + 6), mks (K + 7) N.nm.length, mki (K + 7 + N.nm.length) N.ks.length⟩
def nxt (K : Nat) (N : Nd) : Nat := K + 7 + N.nm.length + N.ks.length
def cnt : Nat → List Nd → Nat
  | K, [] => K
  | K, N :: r => cnt (nxt K N) r
def mkNs : Nat → List Nd → List Nd
  | _, [] => []
  | K, N :: r => mkNd K N :: mkNs (nxt K N) r
def mkMs : Nat → List Mb → List Mb
  | _, [] => []
  | K, x :: r => ⟨mkNd K x.N, x.vn, x.vk⟩ :: mkMs (nxt K x.N) r
theorem mkMs_N (L : List Mb) : ∀ K, (mkMs K L).map Mb.N = mkNs K (L.map Mb.N) := by
  induction L with
  | nil => intro K; rfl
  | cons x r ih => intro K; simp [mkMs, mkNs, ih]
theorem mkMs_vn (L : List Mb) : ∀ K, (mkMs K L).map Mb.vn = L.map Mb.vn := by
  induction L with
  | nil => intro K; rfl
  | cons x r ih => intro K; simp [mkMs, ih]
theorem mkMs_vk (L : List Mb) : ∀ K, (mkMs K L).map Mb.vk = L.map Mb.vk := by
  induction L with
  | nil => intro K; rfl
  | cons x r ih => intro K; simp [mkMs, ih]
theorem mkMs_len (L : List Mb) (K : Nat) : (mkMs K L).length = L.length := by have := congrArg List.length (mkMs_vn L K); simpa using this
theorem mkMs_app (x : Mb) (L : List Mb) : ∀ K, mkMs K (L ++ [x]) = mkMs K L ++ [⟨mkNd (cnt K (L.map Mb.N)) x.N, x.vn, x.vk⟩] := by
  induction L with
  | nil => intro K; rfl
  | cons y r ih => intro K; simp [mkMs, cnt, ih]
theorem cnt_app (N : Nd) (L : List Nd) : ∀ K, cnt K (L ++ [N]) = nxt (cnt K L) N := by
  induction L with
  | nil => intro K; rfl
  | cons y r ih => intro K; simp [cnt, ih]
theorem cnt_ge (L : List Nd) : ∀ K, K ≤ cnt K L := by
  induction L with
  | nil => intro K; exact Nat.le_refl _
  | cons y r ih => intro K; exact Nat.le_trans (by unfold nxt; omega) (ih (nxt K y))
theorem cnt_app2 (A B : List Nd) : ∀ K, cnt K (A ++ B) = cnt (cnt K A) B := by
  induction A with
  | nil => intro K; rfl
  | cons y r ih => intro K; simp [cnt, ih]
theorem cnt_take (L : List Nd) (K k : Nat) : cnt K (L.take k) ≤ cnt K L := by
  have h := cnt_app2 (L.take k) (L.drop k) K
  rw [List.take_append_drop] at h
  rw [h]; exact cnt_ge _ _
theorem mkNs_len (L : List Nd) : ∀ K, (mkNs K L).length = L.length := by
  induction L with
  | nil => intro K; rfl
  | cons y r ih => intro K; simp [mkNs, ih]
theorem mkNs_at (L : List Nd) : ∀ (K i : Nat) (N : Nd), L[i]? = some N → (mkNs K L)[i]? = some (mkNd (cnt K (L.take i)) N) := by
  induction L with
  | nil => intro K i N h; simp at h
  | cons y r ih =>
    intro K i N h
    cases i with
    | zero => simp at h; subst h; rfl
    | succ i => simp at h; simpa [mkNs, cnt] using ih (nxt K y) i N h
theorem set7 (A R : List Value) (m : Nat) (hA : A.length = m) (c0 c1 c2 c3 c4 c5 c6 a0 a1 a2 a3 a4 a5 a6 a7 a8 : Value) :
    (((((((A ++ ([c0, c1, c2, c3, c4, c5, c6, a7, a8] ++ R)).set m a0).set (m + 1) a1).set (m + 2) a2).set (m + 3) a3).set (m + 4) a4).set (m + 5) a5).set (m + 6) a6 = A ++ ([a0, a1, a2, a3, a4, a5, a6, a7, a8] ++ R) := by
  subst hA
  have st : ∀ (xs : List Value) (j : Nat) (u : Value), (A ++ xs).set (A.length + j) u = A ++ xs.set j u := fun xs j u => by
    rw [List.set_append_right _ _ (by omega)]; congr 2; omega
  have s0 := fun xs u => st xs 0 u
  simp only [Nat.add_zero] at s0
  rw [s0, st, st, st, st, st, st]
  rfl
theorem own_apart2 {W : World} {b1 b2 e1 e2 s1 s2 n1 n2 : Nat} {v1 v2 : Value} {x1 x2 : List Value} (h1 : W.ownsRow b1 e1 s1 v1 n1 x1) (h2 : W.ownsRow b2 e2 s2 v2 n2 x2) (he : e1 ≠ e2) : v1.ownBlock = none ∨ v1.ownBlock ≠ v2.ownBlock := by
  rcases own_zero_or h1 with ⟨hn, rfl⟩ | ⟨g1, c1, rfl⟩
  · exact .inl rfl
  · rcases own_zero_or h2 with ⟨hn, rfl⟩ | ⟨g2, c2, rfl⟩
    · exact .inr (by simp [Value.ownBlock])
    · exact .inr fun e => own_apart h1 h2 he (by simpa [Value.ownBlock] using e)
end Go.Proofs.Ytdaaiekepmlpoaa
