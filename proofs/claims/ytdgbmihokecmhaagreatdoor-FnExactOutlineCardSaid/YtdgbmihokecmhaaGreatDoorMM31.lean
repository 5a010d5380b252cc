import Derived.Test.YtdgbmihokecmhaaGreatDoorMM30
import Derived.Test.YtdgbmihokecmhaaGreatDoorMM07
import Derived.Test.YtdgbmihokecmhaaGreatDoorMM06
import Derived.Test.YtdgbmihokecmhaaGreatDoorMM17
namespace Go.Proofs.YtdgbmihokecmhaaGreatDoor
open Go.RowKit Go.Maps Go.WideMaps
set_option linter.unusedVariables false

theorem walk_ok (w0 : World) (ns : List Nd) (L : List Im) (base : Nat) (vs : Value) (T : Tr w0 ns L base vs) : ∀ f, WkOk w0 ns L f
  | 0 => fun i x W v ps E hi => by omega
  | f + 1 => walk_step w0 ns L base vs T f (walk_ok w0 ns L base vs T f)
theorem root_of {ns : List Nd} (h : (treeF ns).1 = 0) : (ns.getD (ns.length - 1) zNd).k = 1 := by
  unfold treeF at h
  by_cases hb : badHead ns = true
  · rw [if_pos hb] at h; exact absurd h (by decide)
  · have hb' : badHead ns = false := by simpa using hb
    have hb2 := of_decide_eq_false hb'
    by_cases g : (ns.getD (ns.length - 1) zNd).k = 1
    · exact g
    · exact absurd (.inr (.inr g)) hb2

set_option maxRecDepth 100000 in
set_option maxHeartbeats 6400000 in
theorem implOutline_any (w : World) (v : Value) (ns : List Nd) (h : NdsAt w v ns) (hl : ns.length ≤ 1048576) (sm : ∀ N ∈ ns, NdSmall N) (he : Errs w) (tt : TypeId) (fr : Nat × Nat) (hG : w.heap[0]? = some (.cells wordV tt fr))
    (htab : ∀ W, Below w.heap.size w W → Lib.TabIs Tryz.prog W "strings.asciiSpace" .u8 Lib.asciiSpaceTab) :
    Calls Tryz.prog 7 #[.agg #[v]] w fun e w' => ∃ vo, e = .returned vo ∧ EnAt w.heap.size w' vo (outF ns) ∧ Below w.heap.size w w' := by
  have hb0 : ∀ o, Below w.heap.size w (w.alloc o) := fun o => (Below.refl _ w).alloc (Nat.le_refl _) o
  have HK : Hid (∀ W, Below w.heap.size w W → Calls Tryz.prog 17 #[.agg #[v]] W (LinkPost W ns)) := fun W hW =>
    linked_any W v ns (h.below hW) hl sm (he.below hW (Nat.le_refl _)) tt fr ((hW.block _ (lt_of_block hG)).trans hG) (fun W2 h2 => htab W2 (hW.trans (h2.mono hW.size)))
  obtain ⟨a, c, rfl⟩ := h.form
  obtain ⟨n, hn⟩ : ∃ n, ns.length = n := ⟨_, rfl⟩
  rw [hn] at HK ⊢
  have HN : Hid (ns.length = n ∧ ∀ N ∈ ns, NdSmall N) := ⟨hn, sm⟩
  have kl := HK.out _ (hb0 (.cells #[.slice a n c] 30))
  clear h hl sm he hG htab hn HK
  go_enter Tryz.func7, Tryz.ntmps7
  go_wp2_with (go_at_call 17; fail)
  refine kl.mono ?_
  rintro e w1 ⟨hb1, hc⟩
  have hs1 : (w.alloc (.cells #[.slice a n c] 30)).heap.size = w.heap.size + 1 := World.size_alloc _ _
  have hbw1 : Below w.heap.size w w1 := (hb0 _).trans (hb1.mono (by omega))
  have bF : ∀ o, Below w1.heap.size w1 (w1.alloc o) := fun o => (Below.refl _ w1).alloc (Nat.le_refl _) o
  rcases hc with ⟨h0, rfl⟩ | ⟨h0, base, vs, L, x, rfl, hx, hLn, hns, hnm⟩
  · have e1 : ((treeF ns).1 != 0) = true := by rw [bne_iff_ne]; exact h0
    have HE : Hid (outF ns = []) := by show _ = _; unfold outF; rw [if_neg h0]
    generalize (treeF ns).1 = F1 at e1
    generalize (treeF ns).2 = F2
    clear kl h0
    go_wp2_with fail
    go_ret
    exact ⟨_, rfl, by rw [HE.out]; exact EnAt.nil _ _, hbw1.trans ((bF _).mono hbw1.size)⟩
  · have ok : (treeF ns).1 = 0 := by rw [h0]
    have T : Tr (w1.alloc (.cells #[.int .i64 0, .int .i64 0] 39)) ns L base vs := ⟨hns.below (bF _), hLn, fun y hy => (hnm y hy).below (hb1.trans ((bF _).mono hb1.size)), ok, HN.out.2⟩
    have e1 : ((0 : Int) != 0) = false := rfl
    have sd := sound_of ok
    have hn1 := sd.len
    rw [HN.out.1] at hn1 hx
    have hs2 : (w1.alloc (.cells #[.int .i64 0, .int .i64 0] 39)).heap.size = w1.heap.size + 1 := World.size_alloc _ _
    have hbw2 : Below w.heap.size w (w1.alloc (.cells #[.int .i64 0, .int .i64 0] 39)) := hbw1.trans ((bF _).mono hbw1.size)
    have hxn : x.N.k ≠ 36 := by
      have h1 := root_of ok
      rw [HN.out.1, List.getD_eq_getElem?_getD, ← hLn, List.getElem?_map, hx] at h1
      have h2 : x.N.k = 1 := h1
      omega
    have hol := out_len ok n (n - 1) empB 0 (by rw [HN.out.1]; omega)
    have hsl := (size_of ok).le (n - 1)
    have HO : Hid (outF ns = outN ns n (n - 1) empB 0) := by show _ = _; unfold outF; rw [if_pos ok, HN.out.1]
    have HT : Hid (Tr (w1.alloc (.cells #[.int .i64 0, .int .i64 0] 39)) ns L base vs) := T
    clear kl sd T hns hnm h0 ok hb1
    go_wp2_with (go_at_call 18; fail)
    generalize w1.alloc (.cells #[.int .i64 0, .int .i64 0] 39) = W0 at HT hs2 hbw2 ⊢
    rw [← hs2]
    have kw := walk_ok W0 ns L base vs HT.out n (n - 1) x (W0.alloc (.cells #[.slice none 0 0] 26)) (.slice none 0 0) [] [] (by omega) hx ((Below.refl _ W0).alloc (Nat.le_refl _) _) (by simp) (World.ownsRow_nil _ _ _ _) (fun p hp => by simp at hp) ⟨_, heap_alloc_new W0 _, EnAt.nil _ _⟩ (by show 0 + (outN ns n (n - 1) empB 0).length ≤ 3000; omega) (by show 0 + n ≤ 3000; omega) (fun g => absurd g hxn)
    refine kw.mono ?_
    rintro e w5 ⟨rfl, ⟨vo, hvo, hen⟩, _, hkw⟩
    have hbel := hkw.bel ((Below.refl _ W0).alloc (Nat.le_refl _) _)
    have ce := one_cell1 hvo
    obtain ⟨ao, co, rfl⟩ := hen.form
    have HE : Hid (EnAt (W0.heap.size + 1) w5 (.slice ao ([] ++ outN ns n (n - 1) (nmP []) (cntP [])).length co) ([] ++ outN ns n (n - 1) (nmP []) (cntP []))) := hen
    generalize ([] ++ outN ns n (n - 1) (nmP []) (cntP [])).length = mm at HE ce
    clear kw hvo hen hkw hs2
    go_wp2_with fail
    go_ret
    refine ⟨_, rfl, ?_, hbw2.trans (hbel.mono hbw2.size)⟩
    rw [HO.out]
    exact HE.out.le (by have := hbw2.size; omega)
end Go.Proofs.YtdgbmihokecmhaaGreatDoor

namespace Go.Proofs.YtdgbmihokecmhaaGreatDoor
open Go.RowKit
set_option linter.unusedVariables false

/-- A node with the slices that it holds. -/
structure Mb where
  N : Nd
  vn : Value
  vk : Value
def cMb (x : Mb) : List Value := [.int .i64 x.N.k, .int .i64 x.N.f, .int .i64 x.N.t, .int .i64 x.N.l, .int .i64 x.N.op, .int .i64 x.N.n, .string x.N.x, x.vn, x.vk]
def cMbs (l : List Mb) : List Value := l.flatMap cMb
theorem cMbs_cons (a : Mb) (r : List Mb) : cMbs (a :: r) = cMb a ++ cMbs r := by simp [cMbs]
theorem cMbs_app (a b : List Mb) : cMbs (a ++ b) = cMbs a ++ cMbs b := by simp [cMbs]
theorem cMbs_len (l : List Mb) : (cMbs l).length = l.length * 9 := by
  induction l with
  | nil => rfl
  | cons a r ih =>
    have la : (cMb a).length = 9 := rfl
    rw [cMbs_cons, List.length_append, ih, la, List.length_cons]; omega
theorem cMbs_at (ts : List Mb) (i j : Nat) (T : Mb) (hT : ts[i]? = some T) (hj : j < 9) : (cMbs ts)[i * 9 + j]? = (cMb T)[j]? := by
  induction ts generalizing i with
  | nil => simp at hT
  | cons a r ih =>
    have la : (cMb a).length = 9 := rfl
    rw [cMbs_cons]
    cases i with
    | zero => simp at hT; subst hT; rw [List.getElem?_append_left (by omega)]; congr 1; omega
    | succ i =>
      rw [List.getElem?_append_right (by omega), la, show (i + 1) * 9 + j - 9 = i * 9 + j by omega]
      exact ih i (by simpa using hT)
/-- The blocks of the lists part from one another. -/
def Apart (vs : List Value) : Prop := ∀ (i j : Nat) (a b : Value), i ≠ j → vs[i]? = some a → vs[j]? = some b → a.ownBlock = none ∨ a.ownBlock ≠ b.ownBlock
structure MbOwn (W : World) (lo hi : Nat) (x : Mb) : Prop where
  on : W.ownsRow lo 9 1 x.vn x.N.nm.length (x.N.nm.map Value.string)
  ok : W.ownsRow lo 3 1 x.vk x.N.ks.length (x.N.ks.map (Value.int .i64))
  hn : ∀ g, x.vn.ownBlock = some g → g < hi
  hk : ∀ g, x.vk.ownBlock = some g → g < hi
/-- A tree whose blocks are all its own, and lie from lo up to below hi. -/
structure MbsOwn (W : World) (lo hi : Nat) (v : Value) (L : List Mb) : Prop where
  row : W.ownsRow lo 67 9 v L.length (cMbs L)
  hh : ∀ g, v.ownBlock = some g → g < hi
  each : ∀ x ∈ L, MbOwn W lo hi x
  dn : Apart (L.map Mb.vn)
  dk : Apart (L.map Mb.vk)
theorem MbOwn.below {W W' : World} {lo hi : Nat} {x : Mb} (h : MbOwn W lo hi x) (hb : Below W.heap.size W W') : MbOwn W' lo hi x := ⟨own_keep h.on hb, own_keep h.ok hb, h.hn, h.hk⟩
theorem MbsOwn.below {W W' : World} {lo hi : Nat} {v : Value} {L : List Mb} (h : MbsOwn W lo hi v L) (hb : Below W.heap.size W W') : MbsOwn W' lo hi v L :=
  ⟨own_keep h.row hb, h.hh, fun x hx => (h.each x hx).below hb, h.dn, h.dk⟩
/-- Only blocks from lo up to below hi have turned. -/
structure Mid (lo hi : Nat) (w w' : World) : Prop where
  os : w'.os = w.os
  tape : w'.tape = w.tape
  output : w'.output = w.output
  size : w.heap.size ≤ w'.heap.size
  block : ∀ k, k < w.heap.size → (k < lo ∨ hi ≤ k) → w'.heap[k]? = w.heap[k]?
theorem Mid.refl (lo hi : Nat) (w : World) : Mid lo hi w w := ⟨rfl, rfl, rfl, Nat.le_refl _, fun _ _ _ => rfl⟩
theorem Mid.trans {lo hi : Nat} {x y z : World} (h : Mid lo hi x y) (k : Mid lo hi y z) : Mid lo hi x z :=
  ⟨k.os.trans h.os, k.tape.trans h.tape, k.output.trans h.output, Nat.le_trans h.size k.size, fun i hi hne => (k.block i (Nat.lt_of_lt_of_le hi h.size) hne).trans (h.block i hi hne)⟩
theorem Mid.of_grown {lo hi : Nat} {w w' : World} {row : Option Nat} (h : w.grownBy w' row) (hr : ∀ g, row = some g → lo ≤ g ∧ g < hi) : Mid lo hi w w' :=
  ⟨h.os, h.tape, h.output, h.size, fun k hk ho => h.block k hk (fun e => by have := hr k e.symm; omega)⟩
theorem Mid.kept {lo hi : Nat} {w w' : World} (h : Mid lo hi w w') {base e size n : Nat} {v : Value} {xs : List Value} (o : w.ownsRow base e size v n xs) (hb : hi ≤ base) : w'.ownsRow base e size v n xs := by
  obtain ⟨h1, h2⟩ := o
  refine ⟨h1, ?_⟩
  rcases h2 with h2 | ⟨g, cap, cur, hv, hg, hc, rest⟩
  · exact .inl h2
  · exact .inr ⟨g, cap, cur, hv, hg, (h.block g (lt_of_block hc) (.inr (by omega))).trans hc, rest⟩
theorem Mid.tree {lo hi : Nat} {w w' : World} (h : Mid lo hi w w') {lo2 hi2 : Nat} {v : Value} {L : List Mb} (o : MbsOwn w lo2 hi2 v L) (hb : hi ≤ lo2) : MbsOwn w' lo2 hi2 v L :=
  ⟨h.kept o.row hb, o.hh, fun x hx => ⟨h.kept (o.each x hx).on hb, h.kept (o.each x hx).ok hb, (o.each x hx).hn, (o.each x hx).hk⟩, o.dn, o.dk⟩
theorem Mid.bel {lo hi base : Nat} {w0 w w' : World} (h : Mid lo hi w w') (hb : Below base w0 w) (hs : base ≤ lo) (hw : base ≤ w.heap.size) : Below base w0 w' :=
  ⟨h.os.trans hb.os, h.tape.trans hb.tape, h.output.trans hb.output, Nat.le_trans hb.size h.size, fun k hk => (h.block k (by omega) (.inl (by omega))).trans (hb.block k hk)⟩

theorem own_strs2 {W : World} {base : Nat} {v : Value} {l : List ByteArray} (h : W.ownsRow base 9 1 v l.length (l.map Value.string)) : StrsAt W v l := by
  rcases own_zero_or h with ⟨hn, rfl⟩ | ⟨g, cap, rfl⟩
  · exact .inl ⟨List.eq_nil_of_length_eq_zero hn, _, _, rfl⟩
  · exact own_strs h rfl
theorem own_ints2 {W : World} {base : Nat} {v : Value} {l : List Int} (h : W.ownsRow base 3 1 v l.length (l.map (Value.int .i64))) : IntsAt W v l := by
  rcases own_zero_or h with ⟨hn, rfl⟩ | ⟨g, cap, rfl⟩
  · exact .inl ⟨List.eq_nil_of_length_eq_zero hn, _, _, rfl⟩
  · exact own_ints h rfl
theorem row_cells {W : World} {lo g n cap : Nat} {L : List Mb} (h : W.ownsRow lo 67 9 (.slice (some ⟨g, 0, none⟩) n cap) n (cMbs L)) {i : Nat} {x : Mb} (hx : L[i]? = some x) :
    W.cell? ⟨g, i * 9, none⟩ = some (.int .i64 x.N.k) ∧ W.cell? ⟨g, i * 9 + 1, none⟩ = some (.int .i64 x.N.f) ∧ W.cell? ⟨g, i * 9 + 2, none⟩ = some (.int .i64 x.N.t) ∧ W.cell? ⟨g, i * 9 + 3, none⟩ = some (.int .i64 x.N.l) ∧ W.cell? ⟨g, i * 9 + 4, none⟩ = some (.int .i64 x.N.op) ∧ W.cell? ⟨g, i * 9 + 5, none⟩ = some (.int .i64 x.N.n) ∧ W.cell? ⟨g, i * 9 + 6, none⟩ = some (.string x.N.x) ∧ W.cell? ⟨g, i * 9 + 7, none⟩ = some x.vn ∧ W.cell? ⟨g, i * 9 + 8, none⟩ = some x.vk := by
  have hlen : n * 9 = L.length * 9 := by have := h.1; rw [cMbs_len] at this; omega
  have hi : i < L.length := by rcases Nat.lt_or_ge i L.length with g | g; exact g; rw [List.getElem?_eq_none g] at hx; cases hx
  have c : ∀ j, j < 9 → W.cell? ⟨g, i * 9 + j, none⟩ = (cMb x)[j]? := fun j hj => by
    rw [h.cellAt (i * 9 + j) (by omega), cMbs_at L i j x hx hj]
  exact ⟨c 0 (by omega), c 1 (by omega), c 2 (by omega), c 3 (by omega), c 4 (by omega), c 5 (by omega), c 6 (by omega), c 7 (by omega), c 8 (by omega)⟩
theorem MbsOwn.nds {W : World} {lo hi : Nat} {v : Value} {L : List Mb} (h : MbsOwn W lo hi v L) : NdsAt W v (L.map Mb.N) := by
  rcases own_zero_or h.row with ⟨hn, rfl⟩ | ⟨g, cap, rfl⟩
  · exact .inl ⟨by rw [List.eq_nil_of_length_eq_zero hn]; rfl, _, _, rfl⟩
  · refine .inr ⟨⟨g, 0, none⟩, cap, by rw [List.length_map], fun i N hN => ?_⟩
    rw [List.getElem?_map] at hN
    cases hx : L[i]? with
    | none => rw [hx] at hN; cases hN
    | some x =>
      rw [hx] at hN
      obtain rfl := Option.some.inj hN
      rw [add_zero9]
      obtain ⟨c0, c1, c2, c3, c4, c5, c6, c7, c8⟩ := row_cells h.row hx
      have hm := h.each x (List.mem_of_getElem? hx)
      exact ⟨x.vn, x.vk, c0, c1, c2, c3, c4, c5, c6, c7, c8, own_strs2 hm.on, own_ints2 hm.ok⟩
theorem apart_of {α : Type} {L : List α} (f : α → Value) (q : α → Nat) (hf : ∀ x, (f x).ownBlock = some (q x)) (hd : (L.map q).Nodup) : Apart (L.map f) := by
  intro i j a b hij ha hb
  rw [List.getElem?_map] at ha hb
  cases hx : L[i]? with
  | none => rw [hx] at ha; cases ha
  | some x =>
    cases hy : L[j]? with
    | none => rw [hy] at hb; cases hb
    | some y =>
      rw [hx] at ha; rw [hy] at hb
      obtain rfl := Option.some.inj ha
      obtain rfl := Option.some.inj hb
      rw [hf, hf]
      refine .inr fun e => ?_
      have e2 := Option.some.inj e
      have li : i < L.length := (List.getElem?_eq_some_iff.1 hx).1
      have lj : j < L.length := (List.getElem?_eq_some_iff.1 hy).1
      have h1 : (L.map q)[i]'(by simpa using li) = q x := by simp [(List.getElem?_eq_some_iff.1 hx).2]
      have h2 : (L.map q)[j]'(by simpa using lj) = q y := by simp [(List.getElem?_eq_some_iff.1 hy).2]
      have hp := List.pairwise_iff_getElem.1 hd
      rcases Nat.lt_or_gt_of_ne hij with g | g
      · exact hp i j (by simpa using li) (by simpa using lj) g (by rw [h1, h2, e2])
      · exact hp j i (by simpa using lj) (by simpa using li) g (by rw [h1, h2, e2])
theorem NbsOwn.mbs {W : World} {base g n : Nat} {L : List Nb} (h : NbsOwn W base g n L []) : MbsOwn W base W.heap.size (.slice (some ⟨g, 0, none⟩) n n) (L.map fun x => ⟨x.N, x.vn, x.vk⟩) := by
  have hlen : n = L.length := by have := h.row.1; rw [List.append_nil, cNbs_len] at this; omega
  have hc : cMbs (L.map fun x => ⟨x.N, x.vn, x.vk⟩) = cNbs L := by
    clear h hlen
    induction L with
    | nil => rfl
    | cons a r ih => rw [List.map_cons, cMbs_cons, ih]; simp [cNbs, cMb, cNb]
  refine ⟨?_, fun k hk => (h.row.lt k hk).2, ?_, ?_, ?_⟩
  · rw [hc, List.length_map, ← hlen]; have := h.row; rw [List.append_nil] at this; exact this
  · intro y hy
    obtain ⟨x, hx, rfl⟩ := List.mem_map.1 hy
    exact ⟨(h.each x hx).on, (h.each x hx).ok, fun k hk => ((h.each x hx).on.lt k hk).2, fun k hk => ((h.each x hx).ok.lt k hk).2⟩
  · rw [List.map_map]; exact apart_of Nb.vn Nb.g (fun _ => rfl) h.dn
  · rw [List.map_map]; exact apart_of Nb.vk Nb.h (fun _ => rfl) h.dk

/-- What the law writes into a node, from K on; how far it has counted behind it. -/
def mkNd (K : Nat) (N : Nd) : Nd := ⟨(K : Nat), (K + 1 : Nat), (K + 2 : Nat), (K + 3 : Nat), (K + 4 : Nat), (K + 5 : Nat), mtI (K + 6), mks (K + 7) N.nm.length, mki (K + 7 + N.nm.length) N.ks.length⟩
def nxt (K : Nat) (N : Nd) : Nat := K + 7 + N.nm.length + N.ks.length
def cnt : Nat → List Nd → Nat
  | K, [] => K
  | K, N :: r => cnt (nxt K N) r
def mkNs : Nat → List Nd → List Nd
  | _, [] => []
  | K, N :: r => mkNd K N :: mkNs (nxt K N) r
def mkMs : Nat → List Mb → List Mb
  | _, [] => []
  | K, x :: r => ⟨mkNd K x.N, x.vn, x.vk⟩ :: mkMs (nxt K x.N) r
theorem mkMs_N (L : List Mb) : ∀ K, (mkMs K L).map Mb.N = mkNs K (L.map Mb.N) := by
  induction L with
  | nil => intro K; rfl
  | cons x r ih => intro K; simp [mkMs, mkNs, ih]
theorem mkMs_vn (L : List Mb) : ∀ K, (mkMs K L).map Mb.vn = L.map Mb.vn := by
  induction L with
  | nil => intro K; rfl
  | cons x r ih => intro K; simp [mkMs, ih]
theorem mkMs_vk (L : List Mb) : ∀ K, (mkMs K L).map Mb.vk = L.map Mb.vk := by
  induction L with
  | nil => intro K; rfl
  | cons x r ih => intro K; simp [mkMs, ih]
theorem mkMs_len (L : List Mb) (K : Nat) : (mkMs K L).length = L.length := by have := congrArg List.length (mkMs_vn L K); simpa using this
theorem mkMs_app (x : Mb) (L : List Mb) : ∀ K, mkMs K (L ++ [x]) = mkMs K L ++ [⟨mkNd (cnt K (L.map Mb.N)) x.N, x.vn, x.vk⟩] := by
  induction L with
  | nil => intro K; rfl
  | cons y r ih => intro K; simp [mkMs, cnt, ih]
theorem cnt_app (N : Nd) (L : List Nd) : ∀ K, cnt K (L ++ [N]) = nxt (cnt K L) N := by
  induction L with
  | nil => intro K; rfl
  | cons y r ih => intro K; simp [cnt, ih]
theorem cnt_ge (L : List Nd) : ∀ K, K ≤ cnt K L := by
  induction L with
  | nil => intro K; exact Nat.le_refl _
  | cons y r ih => intro K; exact Nat.le_trans (by unfold nxt; omega) (ih (nxt K y))
theorem cnt_app2 (A B : List Nd) : ∀ K, cnt K (A ++ B) = cnt (cnt K A) B := by
  induction A with
  | nil => intro K; rfl
  | cons y r ih => intro K; simp [cnt, ih]
theorem cnt_take (L : List Nd) (K k : Nat) : cnt K (L.take k) ≤ cnt K L := by
  have h := cnt_app2 (L.take k) (L.drop k) K
  rw [List.take_append_drop] at h
  rw [h]; exact cnt_ge _ _
theorem mkNs_len (L : List Nd) : ∀ K, (mkNs K L).length = L.length := by
  induction L with
  | nil => intro K; rfl
  | cons y r ih => intro K; simp [mkNs, ih]
theorem mkNs_at (L : List Nd) : ∀ (K i : Nat) (N : Nd), L[i]? = some N → (mkNs K L)[i]? = some (mkNd (cnt K (L.take i)) N) := by
  induction L with
  | nil => intro K i N h; simp at h
  | cons y r ih =>
    intro K i N h
    cases i with
    | zero => simp at h; subst h; rfl
    | succ i => simp at h; simpa [mkNs, cnt] using ih (nxt K y) i N h
theorem set7 (A R : List Value) (m : Nat) (hA : A.length = m) (c0 c1 c2 c3 c4 c5 c6 a0 a1 a2 a3 a4 a5 a6 a7 a8 : Value) :
    (((((((A ++ ([c0, c1, c2, c3, c4, c5, c6, a7, a8] ++ R)).set m a0).set (m + 1) a1).set (m + 2) a2).set (m + 3) a3).set (m + 4) a4).set (m + 5) a5).set (m + 6) a6 = A ++ ([a0, a1, a2, a3, a4, a5, a6, a7, a8] ++ R) := by
  subst hA
  have st : ∀ (xs : List Value) (j : Nat) (u : Value), (A ++ xs).set (A.length + j) u = A ++ xs.set j u := fun xs j u => by
    rw [List.set_append_right _ _ (by omega)]; congr 2; omega
  have s0 := fun xs u => st xs 0 u
  simp only [Nat.add_zero] at s0
  rw [s0, st, st, st, st, st, st]
  rfl
theorem own_apart2 {W : World} {b1 b2 e1 e2 s1 s2 n1 n2 : Nat} {v1 v2 : Value} {x1 x2 : List Value} (h1 : W.ownsRow b1 e1 s1 v1 n1 x1) (h2 : W.ownsRow b2 e2 s2 v2 n2 x2) (he : e1 ≠ e2) : v1.ownBlock = none ∨ v1.ownBlock ≠ v2.ownBlock := by
  rcases own_zero_or h1 with ⟨hn, rfl⟩ | ⟨g1, c1, rfl⟩
  · exact .inl rfl
  · rcases own_zero_or h2 with ⟨hn, rfl⟩ | ⟨g2, c2, rfl⟩
    · exact .inr (by simp [Value.ownBlock])
    · exact .inr fun e => own_apart h1 h2 he (by simpa [Value.ownBlock] using e)
end Go.Proofs.YtdgbmihokecmhaaGreatDoor

namespace Go.Proofs.YtdgbmihokecmhaaGreatDoor
open Go.RowKit Go.Maps Go.WideMaps
set_option linter.unusedVariables false

set_option maxRecDepth 100000 in
set_option maxHeartbeats 1600000 in
theorem eqEntry_any (nm : ByteArray) (l d n : Int) (w : World) : Calls Tryz.prog 22 #[.agg #[.string nm, .int .i64 l, .int .i64 d, .int .i64 n], .agg #[.string nm, .int .i64 l, .int .i64 d, .int .i64 n]] w fun e w' => e = .returned (.bool true) ∧ Below w.heap.size w w' := by
  have hbb : ∀ o1 o2, Below w.heap.size w ((w.alloc o1).alloc o2) := fun o1 o2 => ((Below.refl _ w).alloc (Nat.le_refl _) o1).alloc (by simp) o2
  go_enter Tryz.func22, Tryz.ntmps22
  go_wp2_with fail
  go_ret
  exact ⟨rfl, hbb _ _⟩

set_option maxRecDepth 100000 in
set_option maxHeartbeats 1600000 in
theorem eqEntryS_any (w : World) (L : List En) (n b1 b2 : Nat) (v1 v2 : Value) (hn : n ≤ 3000) (hl : L.length = n) (o1 : EnAt b1 w v1 L) (o2 : EnAt b2 w v2 L) :
    Calls Tryz.prog 8 #[v1, v2] w fun e w' => e = .returned (.bool true) ∧ Below w.heap.size w w' := by
  obtain ⟨a1, c1, rfl⟩ := o1.formn hl
  obtain ⟨a2, c2, rfl⟩ := o2.formn hl
  have HH : Hid (EnAt b1 w (.slice a1 n c1) L ∧ EnAt b2 w (.slice a2 n c2) L ∧ L.length = n) := ⟨o1, o2, hl⟩
  clear o1 o2 hl
  go_enter Tryz.func8, Tryz.ntmps8
  go_wp2_with fail
  go_loopw [5] (fun i wr => ∃ k : Nat, k ≤ n ∧ i = .int .i64 k ∧ Below w.heap.size w wr) (fun i _ => n - (intOf i).toNat)
  case atStart => exact ⟨0, Nat.zero_le _, rfl, Below.refl _ _⟩
  case round =>
    obtain ⟨k, hk, rfl, hb⟩ := hrel
    by_cases hlt : k < n
    · have hki : (k : Int) < (n : Int) := by omega
      have hk0 : (0 : Int) ≤ (k : Int) := by omega
      obtain ⟨T, hT⟩ := some_at HH.out.2.2 hlt
      obtain ⟨g1, rfl, -, p0, p1, p2, p3, hg1⟩ := (HH.out.1.below hb).get hT
      obtain ⟨g2, rfl, -, q0, q1, q2, q3, hg2⟩ := (HH.out.2.1.below hb).get hT
      have ke := fun w => eqEntry_any T.nm T.ln T.dp T.nd w
      obtain ⟨tn, tl, td, tk⟩ := T
      simp only at p0 p1 p2 p3 q0 q1 q2 q3 ke
      clear hT
      go_wp2_with fail
      go_region_held3 (fun w' => w'.cell? ⟨g1, k * 4, none⟩ = some (.string tn) ∧ w'.cell? ⟨g1, k * 4 + 1, none⟩ = some (.int .i64 tl) ∧ w'.cell? ⟨g1, k * 4 + 2, none⟩ = some (.int .i64 td) ∧ w'.cell? ⟨g1, k * 4 + 3, none⟩ = some (.int .i64 tk) ∧ w'.cell? ⟨g2, k * 4, none⟩ = some (.string tn) ∧ w'.cell? ⟨g2, k * 4 + 1, none⟩ = some (.int .i64 tl) ∧ w'.cell? ⟨g2, k * 4 + 2, none⟩ = some (.int .i64 td) ∧ w'.cell? ⟨g2, k * 4 + 3, none⟩ = some (.int .i64 tk)) (first | go_keep | exact ⟨(cell_below hb4 hg1).trans p0, (cell_below hb4 hg1).trans p1, (cell_below hb4 hg1).trans p2, (cell_below hb4 hg1).trans p3, (cell_below hb4 hg2).trans q0, (cell_below hb4 hg2).trans q1, (cell_below hb4 hg2).trans q2, (cell_below hb4 hg2).trans q3⟩) ((go_at_call 22; refine (ke _).mono ?_; rintro e w4 ⟨rfl, hb4⟩))
      go_wp2_with fail
      go_roundw
      case rel => exact ⟨k + 1, by omega, by go_num, (show Below w.heap.size w wr.drew from ⟨hb.os, hb.tape, hb.output, hb.size, hb.block⟩).trans (hb4.mono hb.size)⟩
      case measure => simp [intOf]; omega
    · obtain rfl : k = n := by omega
      go_wp2_with fail
      go_ret
      exact ⟨rfl, hb⟩
end Go.Proofs.YtdgbmihokecmhaaGreatDoor

namespace Go.Proofs.YtdgbmihokecmhaaGreatDoor
open Go.RowKit Go.Maps Go.WideMaps
set_option linter.unusedVariables false

def mkEn (i : Nat) : En := ⟨mtI (1 + 4 * i), 1 + 4 * i + 1, 1 + 4 * i + 1 + 1, 1 + 4 * i + 1 + 1 + 1⟩
def mkEns (n : Nat) : List En := (List.range n).map mkEn
theorem mkEns_len (n : Nat) : (mkEns n).length = n := by simp [mkEns]
theorem mkEns_at (n i : Nat) (h : i < n) : (mkEns n)[i]? = some (mkEn i) := by simp [mkEns, h]
theorem mkEns_step (ts : List En) (k : Nat) (h : k < ts.length) : (mkEns k ++ ts.drop k).set k (mkEn k) = mkEns (k + 1) ++ ts.drop (k + 1) := by
  rw [List.set_append_right _ _ (by rw [mkEns_len]; exact Nat.le_refl _), mkEns_len, Nat.sub_self, List.drop_eq_getElem_cons h, List.set_cons_zero]
  simp [mkEns, List.range_succ]
theorem cEns_cons (a : En) (r : List En) : cEns (a :: r) = cEn a ++ cEns r := rfl
theorem cEns_set (T : En) : ∀ (L : List En) (i : Nat), i < L.length → (((((cEns L).set (i * 4) (.string T.nm)).set (i * 4 + 1) (.int .i64 T.ln)).set (i * 4 + 2) (.int .i64 T.dp)).set (i * 4 + 3) (.int .i64 T.nd)) = cEns (L.set i T)
  | [], i, h => by simp at h
  | a :: r, 0, h => by
    rw [List.set_cons_zero, cEns_cons, cEns_cons]
    simp [cEn]
  | a :: r, i + 1, h => by
    have ih := cEns_set T r i (by simpa using h)
    rw [List.set_cons_succ, cEns_cons, cEns_cons, ← ih]
    have la : (cEn a).length = 4 := rfl
    have st : ∀ (xs : List Value) (j : Nat) (u : Value), (cEn a ++ xs).set ((i + 1) * 4 + j) u = cEn a ++ xs.set (i * 4 + j) u := fun xs j u => by
      rw [List.set_append_right _ _ (by omega), la, show (i + 1) * 4 + j - 4 = i * 4 + j by omega]
    have s0 := fun xs u => st xs 0 u
    simp only [Nat.add_zero] at s0
    rw [s0, st, st, st]

set_option maxRecDepth 100000 in
set_option maxHeartbeats 3200000 in
theorem markEntryS_some (w : World) (ts : List En) (n base g cap : Nat) (hn : n ≤ 3000) (hl : ts.length = n) (o : w.ownsRow base 56 4 (.slice (some ⟨g, 0, none⟩) n cap) n (cEns ts)) :
    Calls Tryz.prog 11 #[.slice (some ⟨g, 0, none⟩) n cap, .int .i64 1] w fun e w' => e = .returned (.int .i64 (1 + 4 * n)) ∧ w'.ownsRow base 56 4 (.slice (some ⟨g, 0, none⟩) n cap) n (cEns (mkEns n)) ∧ w.grownBy w' (some g) := by
  go_enter Tryz.func11, Tryz.ntmps11
  go_wp2_with fail
  go_loopw [1, 5] (fun vk vi wr => ∃ k : Nat, k ≤ n ∧ vi = .int .i64 k ∧ vk = .int .i64 (1 + 4 * k) ∧ wr.ownsRow base 56 4 (.slice (some ⟨g, 0, none⟩) n cap) n (cEns (mkEns k ++ ts.drop k)) ∧ w.grownBy wr (some g)) (fun _ vi _ => n - (intOf vi).toNat)
  case atStart => exact ⟨0, Nat.zero_le _, rfl, rfl, o, grw_refl _ _⟩
  case round =>
    obtain ⟨k, hk, rfl, rfl, ho, hg⟩ := hrel
    clear o
    by_cases hlt : k < n
    · have hki : (k : Int) < (n : Int) := by omega
      have hk0 : (0 : Int) ≤ (k : Int) := by omega
      obtain ⟨K, hK⟩ : ∃ K : Int, 1 + 4 * (k : Int) = K := ⟨_, rfl⟩
      have hTl : (mkEns k ++ ts.drop k).length = n := by rw [List.length_append, mkEns_len, List.length_drop]; omega
      obtain ⟨T, hT⟩ := some_at hTl hlt
      have km := fun w => markText_q K (1 + 4 * k) (by omega) (by omega) (by omega) w
      have hK0 : 1 ≤ K := by omega
      have hK1 : K ≤ 420001 := by omega
      have HK : Hid (1 + 4 * (k : Int) = K) := hK
      rw [hK]
      have cAt := fun (t : Nat) (ht : t < 4) => cEns_at (mkEns k ++ ts.drop k) k T hT t ht
      have t0 := cAt 0 (by omega)
      have t1 := cAt 1 (by omega)
      have t2 := cAt 2 (by omega)
      have t3 := cAt 3 (by omega)
      obtain ⟨M, hM⟩ : ∃ M, mtI (1 + 4 * k) = M := ⟨_, rfl⟩
      rw [hM] at km
      have HM : Hid (mtI (1 + 4 * k) = M) := hM
      obtain ⟨tn, tl, td, tk⟩ := T
      clear hT hK cAt hM
      go_wp2_with (go_at_call 25; refine (km _).mono ?_; rintro e w4 ⟨rfl, hb4⟩; have o4 := own_keep ho hb4; have fz := fun j => o4.frozenAt j; have c0 : w4.cell? ⟨g, k * 4, none⟩ = some (.string tn) := (o4.cellAt (k * 4) (by omega)).trans t0; have c1 : w4.cell? ⟨g, k * 4 + 1, none⟩ = some (.int .i64 tl) := (o4.cellAt (k * 4 + 1) (by omega)).trans t1; have c2 : w4.cell? ⟨g, k * 4 + 2, none⟩ = some (.int .i64 td) := (o4.cellAt (k * 4 + 2) (by omega)).trans t2; have c3 : w4.cell? ⟨g, k * 4 + 3, none⟩ = some (.int .i64 tk) := (o4.cellAt (k * 4 + 3) (by omega)).trans t3)
      have o5 := ((((o4.stored (k * 4) (.string M)).1.stored (k * 4 + 1) (.int .i64 (K + 1))).1.stored (k * 4 + 2) (.int .i64 (K + 1 + 1))).1.stored (k * 4 + 3) (.int .i64 (K + 1 + 1 + 1))).1
      have hk7 := HK.out
      have e7 := cEns_set (mkEn k) (mkEns k ++ ts.drop k) k (by rw [hTl]; omega)
      rw [mkEns_step ts k (by omega)] at e7
      unfold mkEn at e7
      simp only at e7
      rw [HM.out, hk7] at e7
      refine ⟨⟨k + 1, by omega, by go_num, by congr 1 <;> omega, ?_, ?_⟩, by simp [intOf]; omega⟩
      · rw [← e7]; exact o5
      · exact grw_set (grw_set (grw_set (grw_set (grw_trans hg (grw_below _ hb4)) _ _) _ _) _ _) _ _
    · obtain rfl : k = n := by omega
      go_wp2_with fail
      go_ret
      exact ⟨rfl, by rw [List.drop_of_length_le (by omega), List.append_nil] at ho; exact ho, hg⟩

set_option maxRecDepth 100000 in
set_option maxHeartbeats 3200000 in
theorem heldEntryS_any (w : World) (n base : Nat) (v : Value) (hn : n ≤ 3000) (o : EnAt base w v (mkEns n)) :
    Calls Tryz.prog 12 #[v, .int .i64 1] w fun e w' => e = .returned (.int .i64 (1 + 4 * n)) ∧ Below w.heap.size w w' := by
  obtain ⟨a, c, rfl⟩ := o.formn (mkEns_len n)
  have HH : Hid (EnAt base w (.slice a n c) (mkEns n)) := o
  clear o
  go_enter Tryz.func12, Tryz.ntmps12
  go_wp2_with fail
  go_loopw [1, 5] (fun vk vi wr => ∃ k : Nat, k ≤ n ∧ vi = .int .i64 k ∧ vk = .int .i64 (1 + 4 * k) ∧ Below w.heap.size w wr) (fun _ vi _ => n - (intOf vi).toNat)
  case atStart => exact ⟨0, Nat.zero_le _, rfl, rfl, Below.refl _ _⟩
  case round =>
    obtain ⟨k, hk, rfl, rfl, hb⟩ := hrel
    by_cases hlt : k < n
    · have hki : (k : Int) < (n : Int) := by omega
      have hk0 : (0 : Int) ≤ (k : Int) := by omega
      obtain ⟨g, rfl, -, a0, a1, a2, a3, hgr⟩ := (HH.out.below hb).get (mkEns_at n k hlt)
      unfold mkEn at a0 a1 a2 a3
      simp only at a0 a1 a2 a3
      obtain ⟨K, hK⟩ : ∃ K : Int, 1 + 4 * (k : Int) = K := ⟨_, rfl⟩
      have km := fun w => markText_q K (1 + 4 * k) (by omega) (by omega) (by omega) w
      have hK0 : 1 ≤ K := by omega
      have hK1 : K ≤ 420001 := by omega
      have HK : Hid (1 + 4 * (k : Int) = K) := hK
      rw [hK] at a1 a2 a3 ⊢
      generalize mtI (1 + 4 * k) = M at a0 km
      clear hK
      have sX : ∀ W, Below wr.heap.size wr W → W.cell? ⟨g, k * 4, none⟩ = some (.string M) ∧ W.cell? ⟨g, k * 4 + 1, none⟩ = some (.int .i64 (K + 1)) ∧ W.cell? ⟨g, k * 4 + 2, none⟩ = some (.int .i64 (K + 1 + 1)) ∧ W.cell? ⟨g, k * 4 + 3, none⟩ = some (.int .i64 (K + 1 + 1 + 1)) := fun W hW => ⟨cell_kept hW a0, cell_kept hW a1, cell_kept hW a2, cell_kept hW a3⟩
      have bD : Below wr.heap.size wr wr.drew := bel_drew1 (Below.refl _ _)
      go_wp2_with fail
      go_region_held3 (fun w' => w'.cell? ⟨g, k * 4, none⟩ = some (.string M) ∧ w'.cell? ⟨g, k * 4 + 1, none⟩ = some (.int .i64 (K + 1)) ∧ w'.cell? ⟨g, k * 4 + 2, none⟩ = some (.int .i64 (K + 1 + 1)) ∧ w'.cell? ⟨g, k * 4 + 3, none⟩ = some (.int .i64 (K + 1 + 1 + 1))) (first | exact sX _ bD | exact sX _ (bD.trans hb4) | go_keep) ((go_at_call 25; refine (km _).mono ?_; rintro e w4 ⟨rfl, hb4⟩))
      obtain ⟨z0, z1, z2, z3⟩ := sX _ (bD.trans hb4)
      go_wp2_with fail
      have hk7 := HK.out
      exact ⟨⟨k + 1, by omega, by go_num, by congr 1 <;> omega, (show Below w.heap.size w wr.drew from ⟨hb.os, hb.tape, hb.output, hb.size, hb.block⟩).trans (hb4.mono hb.size)⟩, by simp [intOf]; omega⟩
    · obtain rfl : k = n := by omega
      go_wp2_with fail
      go_ret
      exact ⟨rfl, hb⟩
end Go.Proofs.YtdgbmihokecmhaaGreatDoor
