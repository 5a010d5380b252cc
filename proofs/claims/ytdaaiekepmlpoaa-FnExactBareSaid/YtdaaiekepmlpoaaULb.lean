import Derived.Test.YtdaaiekepmlpoaaUBt
import Derived.Test.YtdaaiekepmlpoaaUMh
import Derived.Test.YtdaaiekepmlpoaaUSn
import Derived.Test.YtdaaiekepmlpoaaUEq
import Derived.Test.YtdaaiekepmlpoaaURead
namespace Go.Proofs.Ytdaaiekepmlpoaa
open Go.RowKit
set_option linter.unusedVariables false

theorem toTree_m (w : World) (v : Value) (l : List Nd) (h : NdsAt w v l) (hl : l.length ≤ 1048576) (hN : ∀ N ∈ l, N.nm.length ≤ 1048576 ∧ N.ks.length ≤ 1048576) :
    Calls Try.prog 9 #[.agg #[v]] w fun e w' => ∃ v' L, e = .returned (.agg #[v']) ∧ L.map Mb.N = l ∧ MbsOwn w' w.heap.size w'.heap.size v' L ∧ Below w.heap.size w w' := by
  refine (toTree_any w v l h hl hN).mono ?_
  rintro e w' ⟨g, rfl, ⟨L, hL, ho⟩, hb⟩
  exact ⟨_, _, rfl, by rw [List.map_map]; exact hL, ho.mbs, hb⟩
theorem mem_sumS {l : List ByteArray} {s : ByteArray} (h : s ∈ l) : s.size ≤ sumS l := by
  induction l with
  | nil => simp at h
  | cons a r ih =>
    rcases List.mem_cons.1 h with rfl | h
    · simp [sumS]
    · have := ih h; simp [sumS]; omega
theorem mem_sumN {l : List Nd} {N : Nd} (h : N ∈ l) : bulkN N ≤ sumN l := by
  induction l with
  | nil => simp at h
  | cons a r ih =>
    rcases List.mem_cons.1 h with rfl | h
    · simp [sumN]
    · have := ih h; simp [sumN]; omega
theorem cnt_le (l : List Nd) : ∀ K, cnt K l ≤ K + 7 * l.length + sumN l := by
  induction l with
  | nil => intro K; simp [cnt]
  | cons N r ih =>
    intro K
    have := ih (nxt K N)
    simp only [cnt, sumN, List.length_cons]
    unfold nxt bulkN bulkS at *
    omega
theorem cnt_bare (l : List Nd) : ∀ K, cnt K (l.map bareN) = cnt K l := by
  induction l with
  | nil => intro K; rfl
  | cons N r ih => intro K; simp only [List.map_cons, cnt]; rw [ih]; rfl
/-- What the law lets by: all is short. -/
structure Short (ns : List Nd) : Prop where
  l : ns.length ≤ 1048576
  n : ∀ N ∈ ns, N.nm.length ≤ 1048576 ∧ N.ks.length ≤ 1048576
  a : ∀ N ∈ ns, N.nm.length ≤ 1048576 ∧ N.ks.length ≤ 1048576 ∧ N.x.size ≤ 1100000 ∧ ∀ s ∈ N.nm, s.size ≤ 1100000
  c : cnt 1 ns ≤ 40000000
theorem short_of {ns : List Nd} (h : bulkT ns ≤ 1048576) : Short ns := by
  unfold bulkT at h
  have ha : ∀ N ∈ ns, N.nm.length ≤ 1048576 ∧ N.ks.length ≤ 1048576 ∧ N.x.size ≤ 1100000 ∧ ∀ s ∈ N.nm, s.size ≤ 1100000 := fun N hN => by
    have h1 := mem_sumN hN
    unfold bulkN bulkS at h1
    refine ⟨by omega, by omega, by omega, fun s hs => ?_⟩
    have := mem_sumS hs
    omega
  refine ⟨by omega, fun N hN => ⟨(ha N hN).1, (ha N hN).2.1⟩, ha, ?_⟩
  have := cnt_le ns 1
  omega
theorem Short.bare {ns : List Nd} (h : Short ns) : Short (ns.map bareN) := by
  refine ⟨by rw [List.length_map]; exact h.l, fun N hN => ?_, fun N hN => ?_, by rw [cnt_bare]; exact h.c⟩
  · obtain ⟨M, hM, rfl⟩ := List.mem_map.1 hN; exact h.n M hM
  · obtain ⟨M, hM, rfl⟩ := List.mem_map.1 hN; exact h.a M hM
/-- The boxes of the law, and what the model answered. -/
structure Bx (w w3 : World) (p5 p6 : Nat) (u vw vx vg : Value) (ns : List Nd) (W : World) : Prop where
  b1 : W.heap[w.heap.size]? = some (.cells #[u] 26 (0, 0))
  b4 : W.heap[w3.heap.size]? = some (.cells #[vw] 30 (0, 0))
  b5 : W.heap[p5]? = some (.cells #[vx] 30 (0, 0))
  b6 : W.heap[p6]? = some (.cells #[vg] 30 (0, 0))
  n3 : NdsAt w3 vw ns
  l3 : Below w3.heap.size w3 W
  bl : Below w.heap.size w W
theorem Bx.nw {w w3 : World} {p5 p6 : Nat} {u vw vx vg : Value} {ns : List Nd} {W : World} (h : Bx w w3 p5 p6 u vw vx vg ns W) : NdsAt W vw ns := h.n3.below h.l3
theorem Bx.below {w w3 : World} {p5 p6 : Nat} {u vw vx vg : Value} {ns : List Nd} {W W' : World} (h : Bx w w3 p5 p6 u vw vx vg ns W) (hb : Below W.heap.size W W') : Bx w w3 p5 p6 u vw vx vg ns W' :=
  ⟨(hb.block _ (lt_of_block h.b1)).trans h.b1, (hb.block _ (lt_of_block h.b4)).trans h.b4, (hb.block _ (lt_of_block h.b5)).trans h.b5, (hb.block _ (lt_of_block h.b6)).trans h.b6, h.n3, h.l3.trans (hb.mono h.l3.size), h.bl.trans (hb.mono h.bl.size)⟩
theorem Bx.mid {w w3 : World} {p5 p6 lo hi : Nat} {u vw vx vg : Value} {ns : List Nd} {W W' : World} (h : Bx w w3 p5 p6 u vw vx vg ns W) (hm : Mid lo hi W W') (h1 : w.heap.size < lo) (h3 : w3.heap.size < lo) (h5 : p5 < lo ∨ hi ≤ p5) (h6 : p6 < lo ∨ hi ≤ p6) : Bx w w3 p5 p6 u vw vx vg ns W' :=
  ⟨(hm.block _ (lt_of_block h.b1) (.inl h1)).trans h.b1, (hm.block _ (lt_of_block h.b4) (.inl h3)).trans h.b4, (hm.block _ (lt_of_block h.b5) h5).trans h.b5, (hm.block _ (lt_of_block h.b6) h6).trans h.b6, h.n3, hm.bel h.l3 (by omega) h.l3.size, hm.bel h.bl (by omega) h.bl.size⟩
theorem one_cell {b : Nat} {W : World} {v : Value} {t : TypeId} (h : W.heap[b]? = some (.cells #[v] t (0, 0))) : W.cell? ⟨b, 0, none⟩ = some v := by
  rw [cell_of_row _ _ _ _ _ _ h]; rfl
end Go.Proofs.Ytdaaiekepmlpoaa
