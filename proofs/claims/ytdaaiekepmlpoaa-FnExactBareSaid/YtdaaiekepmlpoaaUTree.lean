import Derived.Test.YtdaaiekepmlpoaaProg
import Derived.ProofKit
import Derived.WalkKit
import Derived.OwnWalk
import Derived.Below
import Derived.OneCell
import Derived.Laws.OwnMore
import Derived.RangeFuncBox
import Derived.Deep.RegionHeld3
namespace Go.Proofs.Ytdaaiekepmlpoaa
open Go.RowKit
set_option linter.unusedVariables false

/-- A node of a tree. -/
structure Nd where
  k : Int
  f : Int
  t : Int
  l : Int
  op : Int
  n : Int
  x : ByteArray
  nm : List ByteArray
  ks : List Int

/-- A slice of texts, a slice of ints in memory, to be read. -/
def StrsAt (W : World) (v : Value) (l : List ByteArray) : Prop :=
  (l = [] ∧ ∃ a c, v = .slice a 0 c) ∨ ∃ a c, v = .slice (some a) l.length c ∧ ∀ j s, l[j]? = some s → W.cell? (a.add j) = some (.string s)
def IntsAt (W : World) (v : Value) (l : List Int) : Prop :=
  (l = [] ∧ ∃ a c, v = .slice a 0 c) ∨ ∃ a c, v = .slice (some a) l.length c ∧ ∀ j z, l[j]? = some z → W.cell? (a.add j) = some (.int .i64 z)
/-- A node in memory: nine cells from a on. -/
structure NdAt (W : World) (a : Addr) (N : Nd) (vn vk : Value) : Prop where
  c0 : W.cell? a = some (.int .i64 N.k)
  c1 : W.cell? ⟨a.block, a.off + 1, none⟩ = some (.int .i64 N.f)
  c2 : W.cell? ⟨a.block, a.off + 2, none⟩ = some (.int .i64 N.t)
  c3 : W.cell? ⟨a.block, a.off + 3, none⟩ = some (.int .i64 N.l)
  c4 : W.cell? ⟨a.block, a.off + 4, none⟩ = some (.int .i64 N.op)
  c5 : W.cell? ⟨a.block, a.off + 5, none⟩ = some (.int .i64 N.n)
  c6 : W.cell? ⟨a.block, a.off + 6, none⟩ = some (.string N.x)
  c7 : W.cell? ⟨a.block, a.off + 7, none⟩ = some vn
  c8 : W.cell? ⟨a.block, a.off + 8, none⟩ = some vk
  hn : StrsAt W vn N.nm
  hk : IntsAt W vk N.ks
def NdsAt (W : World) (v : Value) (ns : List Nd) : Prop :=
  (ns = [] ∧ ∃ a c, v = .slice a 0 c) ∨ ∃ a c, v = .slice (some a) ns.length c ∧ ∀ i N, ns[i]? = some N → ∃ vn vk, NdAt W (a.add (i * 9)) N vn vk

theorem cell_lt {W : World} {a : Addr} {v : Value} (h : W.cell? a = some v) : a.block < W.heap.size := by
  unfold World.cell? at h
  rcases Nat.lt_or_ge a.block W.heap.size with g | g
  · exact g
  · rw [Array.getElem?_eq_none g] at h; simp at h
theorem cell_kept {W W' : World} (hb : Below W.heap.size W W') {a : Addr} {v : Value} (h : W.cell? a = some v) : W'.cell? a = some v := by
  rw [← h]
  unfold World.cell?
  rw [hb.block _ (cell_lt h)]
theorem StrsAt.below {W W' : World} {v : Value} {l : List ByteArray} (h : StrsAt W v l) (hb : Below W.heap.size W W') : StrsAt W' v l := by
  rcases h with h | ⟨a, c, h1, h2⟩
  · exact .inl h
  · exact .inr ⟨a, c, h1, fun j s hs => cell_kept hb (h2 j s hs)⟩
theorem IntsAt.below {W W' : World} {v : Value} {l : List Int} (h : IntsAt W v l) (hb : Below W.heap.size W W') : IntsAt W' v l := by
  rcases h with h | ⟨a, c, h1, h2⟩
  · exact .inl h
  · exact .inr ⟨a, c, h1, fun j s hs => cell_kept hb (h2 j s hs)⟩
theorem NdAt.below {W W' : World} {a : Addr} {N : Nd} {vn vk : Value} (h : NdAt W a N vn vk) (hb : Below W.heap.size W W') : NdAt W' a N vn vk :=
  ⟨cell_kept hb h.c0, cell_kept hb h.c1, cell_kept hb h.c2, cell_kept hb h.c3, cell_kept hb h.c4, cell_kept hb h.c5, cell_kept hb h.c6, cell_kept hb h.c7, cell_kept hb h.c8, h.hn.below hb, h.hk.below hb⟩
theorem NdsAt.below {W W' : World} {v : Value} {ns : List Nd} (h : NdsAt W v ns) (hb : Below W.heap.size W W') : NdsAt W' v ns := by
  rcases h with h | ⟨a, c, h1, h2⟩
  · exact .inl h
  · exact .inr ⟨a, c, h1, fun i N hN => by obtain ⟨vn, vk, g⟩ := h2 i N hN; exact ⟨vn, vk, g.below hb⟩⟩
theorem StrsAt.form {W : World} {v : Value} {l : List ByteArray} (h : StrsAt W v l) : ∃ a c, v = .slice a l.length c := by
  rcases h with ⟨rfl, a, c, h⟩ | ⟨a, c, h1, h2⟩
  · exact ⟨a, c, h⟩
  · exact ⟨_, _, h1⟩
theorem IntsAt.form {W : World} {v : Value} {l : List Int} (h : IntsAt W v l) : ∃ a c, v = .slice a l.length c := by
  rcases h with ⟨rfl, a, c, h⟩ | ⟨a, c, h1, h2⟩
  · exact ⟨a, c, h⟩
  · exact ⟨_, _, h1⟩
theorem NdsAt.form {W : World} {v : Value} {l : List Nd} (h : NdsAt W v l) : ∃ a c, v = .slice a l.length c := by
  rcases h with ⟨rfl, a, c, h⟩ | ⟨a, c, h1, h2⟩
  · exact ⟨a, c, h⟩
  · exact ⟨_, _, h1⟩
theorem StrsAt.get {W : World} {a : Option Addr} {n c : Nat} {l : List ByteArray} (h : StrsAt W (.slice a n c) l) {k : Nat} {s : ByteArray} (hk : l[k]? = some s) : ∃ a', a = some a' ∧ W.cell? (a'.add k) = some (.string s) := by
  rcases h with ⟨rfl, _⟩ | ⟨a', c', e, hc⟩
  · simp at hk
  · cases e; exact ⟨a', rfl, hc k s hk⟩
theorem IntsAt.get {W : World} {a : Option Addr} {n c : Nat} {l : List Int} (h : IntsAt W (.slice a n c) l) {k : Nat} {s : Int} (hk : l[k]? = some s) : ∃ a', a = some a' ∧ W.cell? (a'.add k) = some (.int .i64 s) := by
  rcases h with ⟨rfl, _⟩ | ⟨a', c', e, hc⟩
  · simp at hk
  · cases e; exact ⟨a', rfl, hc k s hk⟩
theorem NdsAt.get {W : World} {a : Option Addr} {n c : Nat} {l : List Nd} (h : NdsAt W (.slice a n c) l) {k : Nat} {N : Nd} (hk : l[k]? = some N) : ∃ a', a = some a' ∧ ∃ vn vk, NdAt W (a'.add (k * 9)) N vn vk := by
  rcases h with ⟨rfl, _⟩ | ⟨a', c', e, hc⟩
  · simp at hk
  · cases e; exact ⟨a', rfl, hc k N hk⟩
theorem own_keep {w w' : World} {base e size : Nat} {v : Value} {n : Nat} {xs : List Value} (h : w.ownsRow base e size v n xs) (hb : Below w.heap.size w w') : w'.ownsRow base e size v n xs :=
  h.kept (row := none) ⟨hb.os, hb.tape, hb.output, hb.size, fun k hk _ => hb.block k hk⟩ (by cases v.ownBlock <;> simp)
theorem own_le {w : World} {base base' e size : Nat} {v : Value} {n : Nat} {xs : List Value} (h : w.ownsRow base e size v n xs) (hb : base' ≤ base) : w.ownsRow base' e size v n xs := by
  obtain ⟨h1, h2⟩ := h
  refine ⟨h1, ?_⟩
  rcases h2 with h2 | ⟨g, cap, cur, hv, hg, rest⟩
  · exact .inl h2
  · exact .inr ⟨g, cap, cur, hv, Nat.le_trans hb hg, rest⟩
theorem some_at {α : Type} {l : List α} {n k : Nat} (hn : l.length = n) (h : k < n) : ∃ s, l[k]? = some s := ⟨l[k]'(by omega), List.getElem?_eq_getElem _⟩
end Go.Proofs.Ytdaaiekepmlpoaa
