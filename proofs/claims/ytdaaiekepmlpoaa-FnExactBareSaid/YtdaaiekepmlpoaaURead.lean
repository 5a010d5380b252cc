import Derived.Test.YtdaaiekepmlpoaaUSz
import Derived.Deep.Strs
import Derived.Deep.Slices
import Derived.ChangeSlices
import Derived.WideShapes
import Derived.OpenShut
namespace Go.Proofs.Ytdaaiekepmlpoaa
open Go.ChangeShapes Go.WideShapes Go.ChangeAt Go.WideMaps Go.WideElems Go.RowKit Go.Deep
set_option linter.unusedVariables false

theorem int_wf {n : Int} (h : (Lit.int .i64 n).wf = true) : -9223372036854775808 ≤ n ∧ n ≤ 9223372036854775807 := bounds_i64 h
/-- A node's numbers are numbers of 64 bits. -/
structure NdInt (N : Nd) : Prop where
  k : -9223372036854775808 ≤ N.k ∧ N.k ≤ 9223372036854775807
  f : -9223372036854775808 ≤ N.f ∧ N.f ≤ 9223372036854775807
  t : -9223372036854775808 ≤ N.t ∧ N.t ≤ 9223372036854775807
  l : -9223372036854775808 ≤ N.l ∧ N.l ≤ 9223372036854775807
  op : -9223372036854775808 ≤ N.op ∧ N.op ≤ 9223372036854775807
  n : -9223372036854775808 ≤ N.n ∧ N.n ≤ 9223372036854775807
  ks : ∀ z ∈ N.ks, -9223372036854775808 ≤ z ∧ z ≤ 9223372036854775807
theorem strs_of_trod {H : Type} {enc : TypeId × Value → H} {W : World} {base fuel : Nat} {sp : Nat → Bool} {held : Bool} {v : Value} {y : DataW H × List MemPlace} (h : DataW.trod enc Try.prog W base sp held fuel 39 [v] = some y) :
    ∃ l, StrsAt W v l ∧ l.length ≤ 9223372036854775807 ∧ ∀ s ∈ l, s.size ≤ 9223372036854775807 := by
  rcases open_strs Try.underlying39 Try.underlying9 (by kernel_rfl) h with ⟨e, _⟩ | ⟨a, len, cap, m, Sx, e, hb, hl, hm, hmm, hx, hall⟩
  · simp only [List.cons.injEq, and_true] at e; subst e; exact ⟨[], .inl ⟨rfl, _, _, rfl⟩, by simp, by simp⟩
  · simp only [List.cons.injEq, and_true] at e; subst e
    have hlm : len ≤ m := by rw [hmm]; split <;> omega
    refine ⟨(List.range len).map Sx, .inr ⟨a, cap, by simp, fun j s hs => ?_⟩, by simp; unfold maxLen at hm; omega, fun s hs => ?_⟩
    · have hj : j < len := by have := (List.getElem?_eq_some_iff.1 hs).1; simpa using this
      have e : Sx j = s := by rw [List.getElem?_map, List.getElem?_range hj] at hs; exact Option.some.inj hs
      rw [← e]; exact (hall j (by omega)).1
    · obtain ⟨j, hj, rfl⟩ := List.mem_map.1 hs
      have := (hall j (by have := List.mem_range.1 hj; omega)).2
      unfold maxLen at this; omega
theorem ints_of_trod {H : Type} {enc : TypeId × Value → H} {W : World} {base fuel : Nat} {sp : Nat → Bool} {held : Bool} {v : Value} {y : DataW H × List MemPlace} (h : DataW.trod enc Try.prog W base sp held fuel 40 [v] = some y) :
    ∃ l, IntsAt W v l ∧ l.length ≤ 9223372036854775807 ∧ ∀ z ∈ l, -9223372036854775808 ≤ z ∧ z ≤ 9223372036854775807 := by
  rcases open_ints Try.underlying40 Try.underlying3 (by kernel_rfl) h with ⟨e, _⟩ | ⟨a, len, cap, zs, e, hb, hl, hm, hmm, hx, hall, hwf⟩
  · simp only [List.cons.injEq, and_true] at e; subst e; exact ⟨[], .inl ⟨rfl, _, _, rfl⟩, by simp, by simp⟩
  · simp only [List.cons.injEq, and_true] at e; subst e
    have hlm : len ≤ zs.length := by rw [hmm]; split <;> omega
    have hlt : (zs.take len).length = len := by rw [List.length_take]; omega
    refine ⟨zs.take len, .inr ⟨a, cap, by rw [hlt], fun j s hs => ?_⟩, by rw [hlt]; unfold maxLen at hm; omega, fun s hs => int_wf (hwf s (List.mem_of_mem_take hs))⟩
    have hj : j < len := by have := (List.getElem?_eq_some_iff.1 hs).1; omega
    rw [List.getElem?_take, if_pos hj] at hs
    rw [hall j (by omega)]
    simp [List.getD, hs]
theorem list9 {α : Type} {l : List α} (h : l.length = 9) : ∃ c0 c1 c2 c3 c4 c5 c6 c7 c8, l = [c0, c1, c2, c3, c4, c5, c6, c7, c8] := by
  match l, h with
  | [c0, c1, c2, c3, c4, c5, c6, c7, c8], _ => exact ⟨c0, c1, c2, c3, c4, c5, c6, c7, c8, rfl⟩
theorem add_pos (a : Addr) (j : Nat) (h : j ≠ 0) : a.add j = ⟨a.block, a.off + j, none⟩ := by unfold Addr.add; rw [if_neg h]

set_option maxRecDepth 100000 in
theorem nd_of_trod {H : Type} {enc : TypeId × Value → H} {W : World} {base b2 fuel : Nat} {sp : Nat → Bool} {held : Bool} {a : Addr} {cs : List Value} {y : DataW H × List MemPlace} (hc : W.cells? b2 a 9 = some cs) (h : DataW.trod enc Try.prog W base sp held fuel 53 cs = some y) :
    ∃ N vn vk, NdAt W a N vn vk ∧ NdLen N ∧ NdInt N := by
  obtain ⟨_, hlen, hcell⟩ := World.cells?_some hc
  obtain ⟨xs, m, _, hx, hl, hxl, hfl⟩ := DataW.trod_struct Try.underlying53 h
  obtain ⟨v0, v1, v2, v3, v4, v5, v6, v7, v8, rfl⟩ := list9 hlen
  have cI : Try.prog.cellsOf 3 = 1 := by kernel_rfl
  have cJ : Try.prog.cellsOf 2 = 1 := by kernel_rfl
  have cS : Try.prog.cellsOf 9 = 1 := by kernel_rfl
  have cN : Try.prog.cellsOf 39 = 1 := by kernel_rfl
  have cK : Try.prog.cellsOf 40 = 1 := by kernel_rfl
  obtain ⟨y0, y1, y2, y3, y4, y5, y6, y7, y8, rfl⟩ := list9 (hxl.trans (by kernel_rfl))
  have g0 := hfl 0 _ rfl
  have g1 := hfl 1 _ rfl
  have g2 := hfl 2 _ rfl
  have g3 := hfl 3 _ rfl
  have g4 := hfl 4 _ rfl
  have g5 := hfl 5 _ rfl
  have g6 := hfl 6 _ rfl
  have g7 := hfl 7 _ rfl
  have g8 := hfl 8 _ rfl
  simp [cI, cJ, cS, cN, cK] at g0 g1 g2 g3 g4 g5 g6 g7 g8
  obtain ⟨k, e0, _, w0⟩ := DataW.trod_int Try.underlying3 g0
  obtain ⟨f, e1, _, w1⟩ := DataW.trod_int Try.underlying3 g1
  obtain ⟨t, e2, _, w2⟩ := DataW.trod_int Try.underlying3 g2
  obtain ⟨l, e3, _, w3⟩ := DataW.trod_int Try.underlying3 g3
  obtain ⟨op, e4, _, w4⟩ := DataW.trod_int Try.underlying3 g4
  obtain ⟨n, e5, _, w5⟩ := DataW.trod_int Try.underlying2 g5
  obtain ⟨x, e6, _, w6⟩ := DataW.trod_string Try.underlying9 g6
  obtain ⟨nm, hnm, ln, sn⟩ := strs_of_trod g7
  obtain ⟨ks, hks, lk, sk⟩ := ints_of_trod g8
  simp only [List.cons.injEq, and_true] at e0 e1 e2 e3 e4 e5 e6
  subst e0 e1 e2 e3 e4 e5 e6
  have c0 := hcell 0 (by omega)
  have c1 := hcell 1 (by omega)
  have c2 := hcell 2 (by omega)
  have c3 := hcell 3 (by omega)
  have c4 := hcell 4 (by omega)
  have c5 := hcell 5 (by omega)
  have c6 := hcell 6 (by omega)
  have c7 := hcell 7 (by omega)
  have c8 := hcell 8 (by omega)
  rw [add_pos a _ (by omega)] at c1 c2 c3 c4 c5 c6 c7 c8
  refine ⟨⟨k, f, t, l, op, n, x, nm, ks⟩, v7, v8, ⟨?_, c1, c2, c3, c4, c5, c6, c7, c8, hnm, hks⟩, ⟨by unfold maxLen at w6; exact (by omega : x.size ≤ 9223372036854775807), sn, ln, lk⟩, ⟨int_wf w0, int_wf w1, int_wf w2, int_wf w3, int_wf w4, int_wf w5, sk⟩⟩
  have e : a.add 0 = a := by unfold Addr.add; rw [if_pos rfl]
  rw [e] at c0
  exact c0

theorem choose_list {α : Type} {p : Nat → α → Prop} : ∀ n, (∀ i, i < n → ∃ x, p i x) → ∃ l : List α, l.length = n ∧ ∀ i x, l[i]? = some x → p i x
  | 0, _ => ⟨[], rfl, fun i x h => by simp at h⟩
  | n + 1, h => by
    obtain ⟨l, hl, hp⟩ := choose_list n fun i hi => h i (by omega)
    obtain ⟨x, hx⟩ := h n (by omega)
    refine ⟨l ++ [x], by simp [hl], fun i y hy => ?_⟩
    rcases Nat.lt_or_ge i n with g | g
    · rw [List.getElem?_append_left (by omega)] at hy; exact hp i y hy
    · rw [List.getElem?_append_right (by omega), hl] at hy
      rcases Nat.eq_or_lt_of_le g with rfl | g
      · simp at hy; subst hy; exact hx
      · rw [List.getElem?_eq_none (by simp; omega)] at hy; cases hy

set_option maxRecDepth 100000 in
theorem nds_of_trod {H : Type} {enc : TypeId × Value → H} {W : World} {base fuel : Nat} {sp : Nat → Bool} {held : Bool} {v : Value} {y : DataW H × List MemPlace} (h : DataW.trod enc Try.prog W base sp held fuel 24 [v] = some y) :
    ∃ ns, NdsAt W v ns ∧ ns.length ≤ 9223372036854775807 ∧ (∀ N ∈ ns, NdLen N) ∧ ∀ N ∈ ns, NdInt N := by
  have cN : Try.prog.cellsOf 53 = 9 := by kernel_rfl
  rcases open_slice Try.underlying24 h with ⟨e, _⟩ | ⟨a, len, cap, m, n, D, Pl, e, hb, hl, hm, hmm, hx, hall⟩
  · simp only [List.cons.injEq, and_true] at e; subst e; exact ⟨[], .inl ⟨rfl, _, _, rfl⟩, by simp, by simp, by simp⟩
  · simp only [List.cons.injEq, and_true] at e; subst e
    have hlm : len ≤ m := by rw [hmm]; split <;> omega
    obtain ⟨ns, hns, hp⟩ := choose_list (p := fun i N => (∃ vn vk, NdAt W (a.add (i * 9)) N vn vk) ∧ NdLen N ∧ NdInt N) len fun i hi => by
      obtain ⟨cs', h1, h2⟩ := hall i (by omega)
      rw [cN] at h1
      obtain ⟨N, vn, vk, h3, h4, h5⟩ := nd_of_trod h1 h2
      exact ⟨N, ⟨vn, vk, h3⟩, h4, h5⟩
    refine ⟨ns, .inr ⟨a, cap, by rw [hns], fun i N hN => (hp i N hN).1⟩, by rw [hns]; unfold maxLen at hm; omega, fun N hN => ?_, fun N hN => ?_⟩
    · obtain ⟨i, hi, e⟩ := List.getElem_of_mem hN
      exact (hp i N (by rw [List.getElem?_eq_getElem hi, e])).2.1
    · obtain ⟨i, hi, e⟩ := List.getElem_of_mem hN
      exact (hp i N (by rw [List.getElem?_eq_getElem hi, e])).2.2

set_option maxRecDepth 100000 in
theorem tree_of {H : Type} {enc : TypeId × Value → H} {W : World} {b0 base : Nat} {sp : Nat → Bool} {held : Bool} {v : Value} {d : DataW H} {p : List MemPlace} (hv : Value.okWide Try.prog W .any b0 26 v) (h : DataW.Trod enc Try.prog W base sp held 26 v d p) :
    ∃ u ns, v = .agg #[u] ∧ NdsAt W u ns ∧ ns.length ≤ 9223372036854775807 ∧ (∀ N ∈ ns, NdLen N) ∧ ∀ N ∈ ns, NdInt N := by
  obtain ⟨cs, rfl, hsz⟩ := okWide_struct Try.underlying26 hv
  obtain ⟨l⟩ := cs
  have hl1 : l.length = 1 := hsz.trans (by kernel_rfl)
  match l, hl1 with
  | [u], _ =>
    obtain ⟨fuel, hf⟩ := h
    obtain ⟨xs, m, _, hx, hl, hlen, hfl⟩ := DataW.trod_struct Try.underlying26 hf
    have cN : Try.prog.cellsOf 24 = 1 := by kernel_rfl
    match xs, hlen with
    | [y0], _ =>
      have g0 := hfl 0 _ rfl
      simp [Value.cells, cN] at g0
      obtain ⟨ns, h1, h2, h3, h4⟩ := nds_of_trod g0
      exact ⟨u, ns, rfl, h1, h2, h3, h4⟩
end Go.Proofs.Ytdaaiekepmlpoaa
