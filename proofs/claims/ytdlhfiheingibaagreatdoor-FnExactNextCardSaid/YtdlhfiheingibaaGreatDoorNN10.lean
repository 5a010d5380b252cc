import Derived.Test.YtdlhfiheingibaaGreatDoorNN01
import Derived.Test.YtdlhfiheingibaaGreatDoorNN09
import Derived.Maps.Own
import Derived.Maps.OwnSet
import Derived.Maps.AppendAt
namespace Go.Proofs.YtdlhfiheingibaaGreatDoor
open Go.RowKit
set_option linter.unusedVariables false

def mkT : Nat → Nat → ByteArray → ByteArray
  | 0, _, o => o
  | f + 1, c, o => if c = 0 then o else mkT f (c / 10) (strI [48 + ((c % 10 : Nat) : Int)] ++ o)
def mtI (k : Nat) : ByteArray := { data := #[109] } ++ mkT k k { data := #[] }
structure MkIs (f c : Nat) (o R : ByteArray) : Prop where
  out : mkT f c o = R

theorem own_form {W : World} {base e size n : Nat} {v : Value} {xs : List Value} (h : W.ownsRow base e size v n xs) : ∃ a cap, v = .slice a n cap := by
  rcases h.2 with ⟨rfl, hn⟩ | ⟨g, cap, cur, rfl, _⟩
  · exact ⟨none, 0, by rw [hn]⟩
  · exact ⟨_, _, rfl⟩
theorem grw_refl (w : World) (b : Option Nat) : w.grownBy w b := ⟨rfl, rfl, rfl, Nat.le_refl _, fun _ _ _ => rfl⟩
theorem grw_set {w0 w : World} {b : Nat} (h : w0.grownBy w (some b)) (i : Nat) (v : Value) : w0.grownBy (w.setCell ⟨b, i, none⟩ v) (some b) :=
  ⟨h.os, h.tape, h.output, by simpa [World.setCell] using h.size, fun k hk hne => by rw [heap_setCell_other _ _ _ _ (fun e => hne (by rw [e]))]; exact h.block k hk hne⟩
theorem grw_trans {x y z : World} {b : Option Nat} (h : x.grownBy y b) (k : y.grownBy z b) : x.grownBy z b :=
  ⟨k.os.trans h.os, k.tape.trans h.tape, k.output.trans h.output, Nat.le_trans h.size k.size, fun i hi hne => (k.block i (Nat.lt_of_lt_of_le hi h.size) hne).trans (h.block i hi hne)⟩
theorem grw_below {x y : World} (b : Option Nat) (h : Below x.heap.size x y) : x.grownBy y b := ⟨h.os, h.tape, h.output, h.size, fun k hk _ => h.block k hk⟩
theorem set_split {α : Type} (A l : List α) (k : Nat) (x : α) (hA : A.length = k) (hk : k < l.length) : (A ++ l.drop k).set k x = A ++ x :: l.drop (k + 1) := by
  rw [List.set_append_right _ _ (by omega), hA, Nat.sub_self, List.drop_eq_getElem_cons hk, List.set_cons_zero]

/-- What the law writes: texts, ints from K on. -/
def mks (K n : Nat) : List ByteArray := (List.range n).map fun j => mtI (K + j)
def mki (K n : Nat) : List Int := (List.range n).map fun j => ((K + j : Nat) : Int)
theorem mks_len (K n : Nat) : (mks K n).length = n := by simp [mks]
theorem mki_len (K n : Nat) : (mki K n).length = n := by simp [mki]
theorem mks_succ (K n : Nat) : mks K (n + 1) = mks K n ++ [mtI (K + n)] := by simp [mks, List.range_succ]
theorem mki_succ (K n : Nat) : mki K (n + 1) = mki K n ++ [((K + n : Nat) : Int)] := by simp [mki, List.range_succ]
theorem mks_at (K n i : Nat) (h : i < n) : (mks K n)[i]? = some (mtI (K + i)) := by simp [mks, h]
theorem mki_at (K n i : Nat) (h : i < n) : (mki K n)[i]? = some ((K + i : Nat) : Int) := by simp [mki, h]

set_option maxRecDepth 100000 in
set_option maxHeartbeats 3200000 in
theorem markIntS_some (w : World) (l : List Int) (K : Nat) (n base g cap : Nat) (hK0 : 0 < K) (hK : K + n ≤ 50000000) (hl : l.length = n) (o : w.ownsRow base 3 1 (.slice (some ⟨g, 0, none⟩) n cap) n (l.map (Value.int .i64))) :
    Calls Tryz.prog 7 #[.slice (some ⟨g, 0, none⟩) n cap, .int .i64 K] w fun e w' => e = .returned (.int .i64 (K + n : Nat)) ∧ w'.ownsRow base 3 1 (.slice (some ⟨g, 0, none⟩) n cap) n ((mki K n).map (Value.int .i64)) ∧ w.grownBy w' (some g) := by
  go_enter Tryz.func7, Tryz.ntmps7
  go_wp2_with fail
  go_loopw [1, 5] (fun vk vi wr => ∃ k : Nat, k ≤ n ∧ vi = .int .i64 k ∧ vk = .int .i64 (K + k : Nat) ∧ wr.ownsRow base 3 1 (.slice (some ⟨g, 0, none⟩) n cap) n ((mki K k ++ l.drop k).map (Value.int .i64)) ∧ w.grownBy wr (some g)) (fun _ vi _ => n - (intOf vi).toNat)
  case atStart => exact ⟨0, Nat.zero_le _, rfl, rfl, o, grw_refl _ _⟩
  case round =>
    obtain ⟨k, hk, rfl, rfl, ho, hg⟩ := hrel
    clear o
    by_cases hlt : k < n
    · have hki : (k : Int) < (n : Int) := by omega
      have hk0 : (0 : Int) ≤ (k : Int) := by omega
      have e7 := set_split (mki K k) l k (((K + k : Nat) : Int)) (mki_len _ _) (by omega)
      obtain ⟨s, hs⟩ : ∃ s, (mki K k ++ l.drop k)[k]? = some s := ⟨(mki K k ++ l.drop k)[k]'(by simp [mki_len]; omega), List.getElem?_eq_getElem _⟩
      have hcl : ((mki K k ++ l.drop k).map (Value.int .i64))[k]? = some (.int .i64 s) := by rw [List.getElem?_map, hs]; rfl
      obtain ⟨Z, hZ⟩ : ∃ Z : Int, ((K + k : Nat) : Int) = Z := ⟨_, rfl⟩
      have hZ1 : 0 ≤ Z := by omega
      have hZ2 : Z ≤ 50000000 := by omega
      have HZ : Hid (((K + k : Nat) : Int) = Z) := hZ
      rw [hZ] at e7 ⊢
      have f6 := ho.frozenAt k
      have c6 : wr.cell? ⟨g, k, none⟩ = some (.int .i64 s) := (ho.cellAt k (by omega)).trans hcl
      have o7 := (ho.stored k (.int .i64 Z)).1
      rw [show ((mki K k ++ l.drop k).map (Value.int .i64)).set k (.int .i64 Z) = ((mki K k ++ l.drop k).set k Z).map (Value.int .i64) by rw [List.map_set], e7] at o7
      clear hZ hs hcl
      go_wp2_with fail
      have hz := HZ.out
      refine ⟨⟨k + 1, by omega, by go_num, by congr 1; omega, ?_, ?_⟩, by simp [intOf]; omega⟩
      · rw [mki_succ, hz, List.append_assoc]; exact o7
      · exact grw_set hg _ _
    · obtain rfl : k = n := by omega
      go_wp2_with fail
      go_ret
      exact ⟨rfl, by rw [List.drop_of_length_le (by omega), List.append_nil] at ho; exact ho, hg⟩

set_option maxHeartbeats 800000 in
theorem markIntS_none (w : World) (K : Nat) (a1 : Option Addr) (c1 : Nat) :
    Calls Tryz.prog 7 #[.slice a1 0 c1, .int .i64 K] w fun e w' => e = .returned (.int .i64 K) ∧ w' = w := by
  go_enter Tryz.func7, Tryz.ntmps7
  go_wp2_with fail
  refine wp_loop_rounds 1 ?_
  rw [rounds_succ]
  go_wp2
  go_ret
  exact ⟨rfl, rfl⟩
theorem own_zero_or {W : World} {base e size n : Nat} {v : Value} {xs : List Value} (h : W.ownsRow base e size v n xs) : (n = 0 ∧ v = .slice none 0 0) ∨ ∃ g cap, v = .slice (some ⟨g, 0, none⟩) n cap := by
  rcases h.2 with ⟨rfl, hn⟩ | ⟨g, cap, cur, rfl, _⟩
  · exact .inl ⟨hn, rfl⟩
  · exact .inr ⟨_, _, rfl⟩
theorem markIntS_any (w : World) (l : List Int) (K : Nat) (base : Nat) (v : Value) (hK0 : 0 < K) (hK : K + l.length ≤ 50000000) (o : w.ownsRow base 3 1 v l.length (l.map (Value.int .i64))) :
    Calls Tryz.prog 7 #[v, .int .i64 K] w fun e w' => e = .returned (.int .i64 (K + l.length : Nat)) ∧ w'.ownsRow base 3 1 v l.length ((mki K l.length).map (Value.int .i64)) ∧ w.grownBy w' v.ownBlock := by
  rcases own_zero_or o with ⟨hn, rfl⟩ | ⟨g, cap, rfl⟩
  · refine (markIntS_none w K none 0).mono ?_
    rintro e w' ⟨rfl, rfl⟩
    obtain rfl : l = [] := List.eq_nil_of_length_eq_zero hn
    exact ⟨rfl, o, grw_refl _ _⟩
  · exact markIntS_some w l K _ base g cap hK0 hK rfl o

set_option maxRecDepth 100000 in
set_option maxHeartbeats 3200000 in
theorem heldIntS_any (w : World) (v : Value) (K n : Nat) (hK0 : 0 < K) (hK : K + n ≤ 50000000) (h : IntsAt w v (mki K n)) :
    Calls Tryz.prog 8 #[v, .int .i64 K] w fun e w' => e = .returned (.int .i64 (K + n : Nat)) ∧ w' = w := by
  obtain ⟨a, c, rfl⟩ := h.form
  rw [mki_len] at h ⊢
  have HA : Hid (IntsAt w (.slice a n c) (mki K n)) := h
  clear h
  go_enter Tryz.func8, Tryz.ntmps8
  go_wp2_with fail
  go_loop [1, 5] (fun vk vi => ∃ k : Nat, k ≤ n ∧ vi = .int .i64 k ∧ vk = .int .i64 (K + k : Nat)) (fun _ vi => n - (intOf vi).toNat)
  case atStart => exact ⟨0, Nat.zero_le _, rfl, rfl⟩
  case round =>
    obtain ⟨k, hk, rfl, rfl⟩ := hrel
    by_cases hlt : k < n
    · have hki : (k : Int) < (n : Int) := by omega
      have hk0 : (0 : Int) ≤ (k : Int) := by omega
      obtain ⟨b, rfl, hck⟩ := HA.out.get (mki_at K n k hlt)
      obtain ⟨Z, hZ⟩ : ∃ Z : Int, ((K + k : Nat) : Int) = Z := ⟨_, rfl⟩
      have hZ1 : 0 ≤ Z := by omega
      have hZ2 : Z ≤ 50000000 := by omega
      have HZ : Hid (((K + k : Nat) : Int) = Z) := hZ
      rw [hZ] at hck ⊢
      clear hZ
      go_wp2_with fail
      go_round
      case rel => have hz := HZ.out; exact ⟨k + 1, by omega, by go_num, by congr 1; omega⟩
      case measure => simp [intOf]; omega
    · obtain rfl : k = n := by omega
      go_wp2_with fail
      go_ret
      exact ⟨rfl, rfl⟩
end Go.Proofs.YtdlhfiheingibaaGreatDoor

namespace Go.Proofs.YtdlhfiheingibaaGreatDoor
open Go.RowKit
set_option linter.unusedVariables false

/-- A node that the law has made: the blocks of its names and of its kids beside it. -/
structure Nb where
  N : Nd
  g : Nat
  h : Nat
def Nb.vn (x : Nb) : Value := .slice (some ⟨x.g, 0, none⟩) x.N.nm.length x.N.nm.length
def Nb.vk (x : Nb) : Value := .slice (some ⟨x.h, 0, none⟩) x.N.ks.length x.N.ks.length
def cNb (x : Nb) : List Value := [.int .i64 x.N.k, .int .i64 x.N.f, .int .i64 x.N.t, .int .i64 x.N.l, .int .i64 x.N.op, .int .i64 x.N.n, .string x.N.x, x.vn, x.vk]
def cNbs (l : List Nb) : List Value := l.flatMap cNb
def zc : List Value := [.int .i64 0, .int .i64 0, .int .i64 0, .int .i64 0, .int .i64 0, .int .i64 0, .string ⟨#[]⟩, .slice none 0 0, .slice none 0 0]
def zcs : Nat → List Value
  | 0 => []
  | n + 1 => zc ++ zcs n
theorem cNbs_app (a : List Nb) (x : Nb) : cNbs (a ++ [x]) = cNbs a ++ cNb x := by simp [cNbs]
theorem cNbs_len (l : List Nb) : (cNbs l).length = l.length * 9 := by
  induction l with
  | nil => rfl
  | cons a r ih =>
    have e : cNbs (a :: r) = cNb a ++ cNbs r := by simp [cNbs]
    have la : (cNb a).length = 9 := rfl
    rw [e, List.length_append, ih, la, List.length_cons]; omega
theorem zcs_len (n : Nat) : (zcs n).length = n * 9 := by
  induction n with
  | zero => rfl
  | succ n ih => rw [zcs, List.length_append, ih]; show 9 + n * 9 = _; omega
theorem zcs_at : ∀ (n j : Nat), j < n * 9 → (zcs n)[j]? = zc[j % 9]?
  | 0, j, h => by omega
  | n + 1, j, h => by
    have lz : zc.length = 9 := rfl
    rw [zcs]
    rcases Nat.lt_or_ge j 9 with g | g
    · rw [List.getElem?_append_left (by omega), Nat.mod_eq_of_lt g]
    · rw [List.getElem?_append_right (by omega), lz, zcs_at n (j - 9) (by omega)]
      congr 1
      omega
theorem made9 (n : Nat) : (madeCells (Value.agg #[.int .i64 0, .int .i64 0, .int .i64 0, .int .i64 0, .int .i64 0, .int .i64 0, .string ⟨#[]⟩, .slice none 0 0, .slice none 0 0]).cells (n * 9)).toList = zcs n := by
  apply List.ext_getElem?
  intro j
  by_cases hj : j < n * 9
  · rw [zcs_at n j hj]
    have hr : j % 9 < 9 := Nat.mod_lt _ (by omega)
    have e : (madeCells (Value.agg #[.int .i64 0, .int .i64 0, .int .i64 0, .int .i64 0, .int .i64 0, .int .i64 0, .string ⟨#[]⟩, .slice none 0 0, .slice none 0 0]).cells (n * 9)).toList[j]? = some ((#[.int .i64 0, .int .i64 0, .int .i64 0, .int .i64 0, .int .i64 0, .int .i64 0, .string ⟨#[]⟩, .slice none 0 0, .slice none 0 0] : Array Value)[j % 9]!) := by
      unfold madeCells
      rw [Array.getElem?_toList, Array.getElem?_map, Array.getElem?_range, if_pos hj]
      rfl
    rw [e]
    generalize j % 9 = r at hr
    rcases (show r = 0 ∨ r = 1 ∨ r = 2 ∨ r = 3 ∨ r = 4 ∨ r = 5 ∨ r = 6 ∨ r = 7 ∨ r = 8 by omega) with rfl | rfl | rfl | rfl | rfl | rfl | rfl | rfl | rfl
    all_goals rfl
  · rw [List.getElem?_eq_none (l := zcs n) (by rw [zcs_len]; omega), List.getElem?_eq_none]
    rw [Array.length_toList, size_madeCells]
    omega
theorem set_fill (A R : List Value) (m : Nat) (hA : A.length = m) (a0 a1 a2 a3 a4 a5 a6 a7 a8 : Value) :
    (((((((((A ++ (zc ++ R)).set m a0).set (m + 1) a1).set (m + 2) a2).set (m + 3) a3).set (m + 4) a4).set (m + 5) a5).set (m + 6) a6).set (m + 7) a7).set (m + 8) a8 = A ++ ([a0, a1, a2, a3, a4, a5, a6, a7, a8] ++ R) := by
  subst hA
  have st : ∀ (xs : List Value) (j : Nat) (u : Value), (A ++ xs).set (A.length + j) u = A ++ xs.set j u := fun xs j u => by
    rw [List.set_append_right _ _ (by omega)]; congr 2; omega
  have s0 := fun xs u => st xs 0 u
  simp only [Nat.add_zero] at s0
  rw [s0, st, st, st, st, st, st, st, st]
  rfl

/-- The names and the kids of a made node are its own. -/
structure NbOwn (W : World) (base : Nat) (x : Nb) : Prop where
  on : W.ownsRow base 9 1 x.vn x.N.nm.length (x.N.nm.map Value.string)
  ok : W.ownsRow base 3 1 x.vk x.N.ks.length (x.N.ks.map (Value.int .i64))
theorem NbOwn.below {W W' : World} {base : Nat} {x : Nb} (h : NbOwn W base x) (hb : Below W.heap.size W W') : NbOwn W' base x := ⟨own_keep h.on hb, own_keep h.ok hb⟩
theorem own_apart {W : World} {b1 b2 e1 e2 s1 s2 g1 g2 n1 n2 c1 c2 : Nat} {x1 x2 : List Value} (h1 : W.ownsRow b1 e1 s1 (.slice (some ⟨g1, 0, none⟩) n1 c1) n1 x1) (h2 : W.ownsRow b2 e2 s2 (.slice (some ⟨g2, 0, none⟩) n2 c2) n2 x2) (he : e1 ≠ e2) : g1 ≠ g2 := by
  rintro rfl
  rcases h1.2 with ⟨h, _⟩ | ⟨g, cap, cur, h, _, hg, _⟩
  · cases h
  · cases h
    rcases h2.2 with ⟨h, _⟩ | ⟨g', cap', cur', h', _, hg', _⟩
    · cases h
    · cases h'
      have e := hg.symm.trans hg'
      simp only [Option.some.injEq, Obj.cells.injEq] at e
      exact he e.2.1
theorem NbOwn.set {W : World} {base : Nat} {x : Nb} (h : NbOwn W base x) {a : Addr} (h1 : x.g ≠ a.block) (h2 : x.h ≠ a.block) (u : Value) : NbOwn (W.setCell a u) base x :=
  ⟨ownsRow_setCell_other h.on (by unfold Nb.vn Value.ownBlock; simp; exact h1) u, ownsRow_setCell_other h.ok (by unfold Nb.vk Value.ownBlock; simp; exact h2) u⟩
theorem cNbs_at (ts : List Nb) (i j : Nat) (T : Nb) (hT : ts[i]? = some T) (hj : j < 9) : (cNbs ts)[i * 9 + j]? = (cNb T)[j]? := by
  induction ts generalizing i with
  | nil => simp at hT
  | cons a r ih =>
    have e : cNbs (a :: r) = cNb a ++ cNbs r := by simp [cNbs]
    have la : (cNb a).length = 9 := rfl
    rw [e]
    cases i with
    | zero => simp at hT; subst hT; rw [List.getElem?_append_left (by omega)]; congr 1; omega
    | succ i =>
      rw [List.getElem?_append_right (by omega), la, show (i + 1) * 9 + j - 9 = i * 9 + j by omega]
      exact ih i (by simpa using hT)
theorem add_zero9 (g m : Nat) : (⟨g, 0, none⟩ : Addr).add m = ⟨g, m, none⟩ := by unfold Addr.add; split <;> simp_all
end Go.Proofs.YtdlhfiheingibaaGreatDoor

namespace Go.Proofs.YtdlhfiheingibaaGreatDoor
open Go.RowKit
set_option linter.unusedVariables false

/-- A node with the slices that it holds. -/
structure Mb where
  N : Nd
  vn : Value
  vk : Value
def cMb (x : Mb) : List Value := [.int .i64 x.N.k, .int .i64 x.N.f, .int .i64 x.N.t, .int .i64 x.N.l, .int .i64 x.N.op, .int .i64 x.N.n, .string x.N.x, x.vn, x.vk]
def cMbs (l : List Mb) : List Value := l.flatMap cMb
theorem cMbs_cons (a : Mb) (r : List Mb) : cMbs (a :: r) = cMb a ++ cMbs r := by simp [cMbs]
theorem cMbs_app (a b : List Mb) : cMbs (a ++ b) = cMbs a ++ cMbs b := by simp [cMbs]
theorem cMbs_len (l : List Mb) : (cMbs l).length = l.length * 9 := by
  induction l with
  | nil => rfl
  | cons a r ih =>
    have la : (cMb a).length = 9 := rfl
    rw [cMbs_cons, List.length_append, ih, la, List.length_cons]; omega
theorem cMbs_at (ts : List Mb) (i j : Nat) (T : Mb) (hT : ts[i]? = some T) (hj : j < 9) : (cMbs ts)[i * 9 + j]? = (cMb T)[j]? := by
  induction ts generalizing i with
  | nil => simp at hT
  | cons a r ih =>
    have la : (cMb a).length = 9 := rfl
    rw [cMbs_cons]
    cases i with
    | zero => simp at hT; subst hT; rw [List.getElem?_append_left (by omega)]; congr 1; omega
    | succ i =>
      rw [List.getElem?_append_right (by omega), la, show (i + 1) * 9 + j - 9 = i * 9 + j by omega]
      exact ih i (by simpa using hT)
/-- The blocks of the lists part from one another. -/
def Apart (vs : List Value) : Prop := ∀ (i j : Nat) (a b : Value), i ≠ j → vs[i]? = some a → vs[j]? = some b → a.ownBlock = none ∨ a.ownBlock ≠ b.ownBlock
structure MbOwn (W : World) (lo hi : Nat) (x : Mb) : Prop where
  on : W.ownsRow lo 9 1 x.vn x.N.nm.length (x.N.nm.map Value.string)
  ok : W.ownsRow lo 3 1 x.vk x.N.ks.length (x.N.ks.map (Value.int .i64))
  hn : ∀ g, x.vn.ownBlock = some g → g < hi
  hk : ∀ g, x.vk.ownBlock = some g → g < hi
theorem MbOwn.below {W W' : World} {lo hi : Nat} {x : Mb} (h : MbOwn W lo hi x) (hb : Below W.heap.size W W') : MbOwn W' lo hi x := ⟨own_keep h.on hb, own_keep h.ok hb, h.hn, h.hk⟩
/-- Only blocks from lo up to below hi have turned. -/
structure Mid (lo hi : Nat) (w w' : World) : Prop where
  os : w'.os = w.os
  tape : w'.tape = w.tape
  output : w'.output = w.output
  size : w.heap.size ≤ w'.heap.size
  block : ∀ k, k < w.heap.size → (k < lo ∨ hi ≤ k) → w'.heap[k]? = w.heap[k]?
theorem Mid.refl (lo hi : Nat) (w : World) : Mid lo hi w w := ⟨rfl, rfl, rfl, Nat.le_refl _, fun _ _ _ => rfl⟩
theorem Mid.trans {lo hi : Nat} {x y z : World} (h : Mid lo hi x y) (k : Mid lo hi y z) : Mid lo hi x z :=
  ⟨k.os.trans h.os, k.tape.trans h.tape, k.output.trans h.output, Nat.le_trans h.size k.size, fun i hi hne => (k.block i (Nat.lt_of_lt_of_le hi h.size) hne).trans (h.block i hi hne)⟩
theorem Mid.of_grown {lo hi : Nat} {w w' : World} {row : Option Nat} (h : w.grownBy w' row) (hr : ∀ g, row = some g → lo ≤ g ∧ g < hi) : Mid lo hi w w' :=
  ⟨h.os, h.tape, h.output, h.size, fun k hk ho => h.block k hk (fun e => by have := hr k e.symm; omega)⟩
theorem Mid.kept {lo hi : Nat} {w w' : World} (h : Mid lo hi w w') {base e size n : Nat} {v : Value} {xs : List Value} (o : w.ownsRow base e size v n xs) (hb : hi ≤ base) : w'.ownsRow base e size v n xs := by
  obtain ⟨h1, h2⟩ := o
  refine ⟨h1, ?_⟩
  rcases h2 with h2 | ⟨g, cap, cur, hv, hg, hc, rest⟩
  · exact .inl h2
  · exact .inr ⟨g, cap, cur, hv, hg, (h.block g (lt_of_block hc) (.inr (by omega))).trans hc, rest⟩
theorem Mid.bel {lo hi base : Nat} {w0 w w' : World} (h : Mid lo hi w w') (hb : Below base w0 w) (hs : base ≤ lo) (hw : base ≤ w.heap.size) : Below base w0 w' :=
  ⟨h.os.trans hb.os, h.tape.trans hb.tape, h.output.trans hb.output, Nat.le_trans hb.size h.size, fun k hk => (h.block k (by omega) (.inl (by omega))).trans (hb.block k hk)⟩

theorem own_strs2 {W : World} {base : Nat} {v : Value} {l : List ByteArray} (h : W.ownsRow base 9 1 v l.length (l.map Value.string)) : StrsAt W v l := by
  rcases own_zero_or h with ⟨hn, rfl⟩ | ⟨g, cap, rfl⟩
  · exact .inl ⟨List.eq_nil_of_length_eq_zero hn, _, _, rfl⟩
  · exact own_strs h rfl
theorem own_ints2 {W : World} {base : Nat} {v : Value} {l : List Int} (h : W.ownsRow base 3 1 v l.length (l.map (Value.int .i64))) : IntsAt W v l := by
  rcases own_zero_or h with ⟨hn, rfl⟩ | ⟨g, cap, rfl⟩
  · exact .inl ⟨List.eq_nil_of_length_eq_zero hn, _, _, rfl⟩
  · exact own_ints h rfl
theorem apart_of {α : Type} {L : List α} (f : α → Value) (q : α → Nat) (hf : ∀ x, (f x).ownBlock = some (q x)) (hd : (L.map q).Nodup) : Apart (L.map f) := by
  intro i j a b hij ha hb
  rw [List.getElem?_map] at ha hb
  cases hx : L[i]? with
  | none => rw [hx] at ha; cases ha
  | some x =>
    cases hy : L[j]? with
    | none => rw [hy] at hb; cases hb
    | some y =>
      rw [hx] at ha; rw [hy] at hb
      obtain rfl := Option.some.inj ha
      obtain rfl := Option.some.inj hb
      rw [hf, hf]
      refine .inr fun e => ?_
      have e2 := Option.some.inj e
      have li : i < L.length := (List.getElem?_eq_some_iff.1 hx).1
      have lj : j < L.length := (List.getElem?_eq_some_iff.1 hy).1
      have h1 : (L.map q)[i]'(by simpa using li) = q x := by simp [(List.getElem?_eq_some_iff.1 hx).2]
      have h2 : (L.map q)[j]'(by simpa using lj) = q y := by simp [(List.getElem?_eq_some_iff.1 hy).2]
      have hp := List.pairwise_iff_getElem.1 hd
      rcases Nat.lt_or_gt_of_ne hij with g | g
      · exact hp i j (by simpa using li) (by simpa using lj) g (by rw [h1, h2, e2])
      · exact hp j i (by simpa using lj) (by simpa using li) g (by rw [h1, h2, e2])
/-- What the law writes into a node, from K on; how far it has counted behind it. -/
def mkNd (K : Nat) (N : Nd) : Nd := ⟨(K : Nat), (K + 1 : Nat), (K + 2 : Nat), (K + 3 : Nat), (K + 4 : Nat), (K + 5 : Nat), mtI (K + 6), mks (K + 7) N.nm.length, mki (K + 7 + N.nm.length) N.ks.length⟩
def nxt (K : Nat) (N : Nd) : Nat := K + 7 + N.nm.length + N.ks.length
def cnt : Nat → List Nd → Nat
  | K, [] => K
  | K, N :: r => cnt (nxt K N) r
def mkNs : Nat → List Nd → List Nd
  | _, [] => []
  | K, N :: r => mkNd K N :: mkNs (nxt K N) r
def mkMs : Nat → List Mb → List Mb
  | _, [] => []
  | K, x :: r => ⟨mkNd K x.N, x.vn, x.vk⟩ :: mkMs (nxt K x.N) r
theorem mkMs_N (L : List Mb) : ∀ K, (mkMs K L).map Mb.N = mkNs K (L.map Mb.N) := by
  induction L with
  | nil => intro K; rfl
  | cons x r ih => intro K; simp [mkMs, mkNs, ih]
theorem mkMs_vn (L : List Mb) : ∀ K, (mkMs K L).map Mb.vn = L.map Mb.vn := by
  induction L with
  | nil => intro K; rfl
  | cons x r ih => intro K; simp [mkMs, ih]
theorem mkMs_vk (L : List Mb) : ∀ K, (mkMs K L).map Mb.vk = L.map Mb.vk := by
  induction L with
  | nil => intro K; rfl
  | cons x r ih => intro K; simp [mkMs, ih]
theorem mkMs_len (L : List Mb) (K : Nat) : (mkMs K L).length = L.length := by have := congrArg List.length (mkMs_vn L K); simpa using this
theorem mkMs_app (x : Mb) (L : List Mb) : ∀ K, mkMs K (L ++ [x]) = mkMs K L ++ [⟨mkNd (cnt K (L.map Mb.N)) x.N, x.vn, x.vk⟩] := by
  induction L with
  | nil => intro K; rfl
  | cons y r ih => intro K; simp [mkMs, cnt, ih]
theorem cnt_app (N : Nd) (L : List Nd) : ∀ K, cnt K (L ++ [N]) = nxt (cnt K L) N := by
  induction L with
  | nil => intro K; rfl
  | cons y r ih => intro K; simp [cnt, ih]
theorem cnt_ge (L : List Nd) : ∀ K, K ≤ cnt K L := by
  induction L with
  | nil => intro K; exact Nat.le_refl _
  | cons y r ih => intro K; exact Nat.le_trans (by unfold nxt; omega) (ih (nxt K y))
theorem cnt_app2 (A B : List Nd) : ∀ K, cnt K (A ++ B) = cnt (cnt K A) B := by
  induction A with
  | nil => intro K; rfl
  | cons y r ih => intro K; simp [cnt, ih]
theorem cnt_take (L : List Nd) (K k : Nat) : cnt K (L.take k) ≤ cnt K L := by
  have h := cnt_app2 (L.take k) (L.drop k) K
  rw [List.take_append_drop] at h
  rw [h]; exact cnt_ge _ _
theorem mkNs_len (L : List Nd) : ∀ K, (mkNs K L).length = L.length := by
  induction L with
  | nil => intro K; rfl
  | cons y r ih => intro K; simp [mkNs, ih]
theorem mkNs_at (L : List Nd) : ∀ (K i : Nat) (N : Nd), L[i]? = some N → (mkNs K L)[i]? = some (mkNd (cnt K (L.take i)) N) := by
  induction L with
  | nil => intro K i N h; simp at h
  | cons y r ih =>
    intro K i N h
    cases i with
    | zero => simp at h; subst h; rfl
    | succ i => simp at h; simpa [mkNs, cnt] using ih (nxt K y) i N h
theorem set7 (A R : List Value) (m : Nat) (hA : A.length = m) (c0 c1 c2 c3 c4 c5 c6 a0 a1 a2 a3 a4 a5 a6 a7 a8 : Value) :
    (((((((A ++ ([c0, c1, c2, c3, c4, c5, c6, a7, a8] ++ R)).set m a0).set (m + 1) a1).set (m + 2) a2).set (m + 3) a3).set (m + 4) a4).set (m + 5) a5).set (m + 6) a6 = A ++ ([a0, a1, a2, a3, a4, a5, a6, a7, a8] ++ R) := by
  subst hA
  have st : ∀ (xs : List Value) (j : Nat) (u : Value), (A ++ xs).set (A.length + j) u = A ++ xs.set j u := fun xs j u => by
    rw [List.set_append_right _ _ (by omega)]; congr 2; omega
  have s0 := fun xs u => st xs 0 u
  simp only [Nat.add_zero] at s0
  rw [s0, st, st, st, st, st, st]
  rfl
theorem own_apart2 {W : World} {b1 b2 e1 e2 s1 s2 n1 n2 : Nat} {v1 v2 : Value} {x1 x2 : List Value} (h1 : W.ownsRow b1 e1 s1 v1 n1 x1) (h2 : W.ownsRow b2 e2 s2 v2 n2 x2) (he : e1 ≠ e2) : v1.ownBlock = none ∨ v1.ownBlock ≠ v2.ownBlock := by
  rcases own_zero_or h1 with ⟨hn, rfl⟩ | ⟨g1, c1, rfl⟩
  · exact .inl rfl
  · rcases own_zero_or h2 with ⟨hn, rfl⟩ | ⟨g2, c2, rfl⟩
    · exact .inr (by simp [Value.ownBlock])
    · exact .inr fun e => own_apart h1 h2 he (by simpa [Value.ownBlock] using e)
end Go.Proofs.YtdlhfiheingibaaGreatDoor

namespace Go.Proofs.YtdlhfiheingibaaGreatDoor
open Go.RowKit Go.Maps Go.WideMaps
set_option linter.unusedVariables false

/-! The guard's rows in memory: a map of slices of arrays of six symbols. -/
theorem infoRow : (Tryz.prog.info? 100).map (fun i => (i.zero, i.size, i.bytes)) = some (some (.agg #[.int .u8 0, .int .u8 0, .int .u8 0, .int .u8 0, .int .u8 0, .int .u8 0]), 6, 6) := by kernel_rfl
def rc (r : List Int) : List Value := (r ++ List.replicate (6 - r.length) 0).map (Value.int .u8)
def rcs (L : List (List Int)) : List Value := L.flatMap rc
theorem rcs_app (A B : List (List Int)) : rcs (A ++ B) = rcs A ++ rcs B := by simp [rcs]
/-- A reader that keeps the value as it is. -/
def heldR (v : Value) : Option (DataW Value × List MemPlace) := some (.held v, [])
def look (R : List (Int × List (List Int))) (a : Int) : List (List Int) := ((R.find? (fun p => p.1 == a)).map (·.2)).getD []
theorem look_same (a : Int) (L : List (List Int)) (R : List (Int × List (List Int))) : look ((a, L) :: R) a = L := by simp [look]
theorem look_other {a b : Int} (h : a ≠ b) (L : List (List Int)) (R : List (Int × List (List Int))) : look ((a, L) :: R) b = look R b := by
  unfold look; rw [List.find?_cons_of_neg (by simpa using h)]
def RowIn (W : World) (base : Nat) (v : Value) (L : List (List Int)) : Prop := W.ownsRow base 100 6 v L.length (rcs L)
def ApartR (f : Int → Value) : Prop := ∀ a b, 0 ≤ a → a ≤ 255 → 0 ≤ b → b ≤ 255 → a ≠ b → (f a).ownBlock = none ∨ (f a).ownBlock ≠ (f b).ownBlock
/-- The map at mb holds just the rows R, each in a block of its own. -/
structure RM (W : World) (base mb n : Nat) (R : List (Int × List (List Int))) : Prop where
  ex : ∃ (D : DataW Value) (f : Int → Value), W.ownsMap Tryz.prog 59 heldR mb n D ∧ (∀ a, 0 ≤ a → a ≤ 255 → D.atKey (.int .u8 a) (.held (.slice none 0 0)) = .held (f a) ∧ RowIn W base (f a) (look R a)) ∧ ApartR f
  lo : base ≤ mb
theorem keySym : Keyed Tryz.prog 59 := int_keyed Tryz.underlying59
theorem RowIn.keep {W W' : World} {base : Nat} {v : Value} {L : List (List Int)} (h : RowIn W base v L) (hb : Below W.heap.size W W') : RowIn W' base v L := own_keep h hb
theorem RM.below {W W' : World} {base mb n : Nat} {R : List (Int × List (List Int))} (h : RM W base mb n R) (hb : Below W.heap.size W W') : RM W' base mb n R := by
  obtain ⟨D, f, h1, h2, h3⟩ := h.ex
  exact ⟨⟨D, f, h1.kept (row := none) ⟨hb.os, hb.tape, hb.output, hb.size, fun k hk _ => hb.block k hk⟩ (by simp), fun a a0 a1 => ⟨(h2 a a0 a1).1, (h2 a a0 a1).2.keep hb⟩, h3⟩, h.lo⟩
theorem RM.congr {W : World} {base mb n : Nat} {R R' : List (Int × List (List Int))} (h : RM W base mb n R) (he : ∀ a, 0 ≤ a → a ≤ 255 → look R a = look R' a) : RM W base mb n R' := by
  obtain ⟨D, f, h1, h2, h3⟩ := h.ex
  exact ⟨⟨D, f, h1, fun a a0 a1 => by rw [← he a a0 a1]; exact h2 a a0 a1, h3⟩, h.lo⟩
theorem RM.mono {W : World} {base mb n n' : Nat} {R : List (Int × List (List Int))} (h : RM W base mb n R) (hn : n ≤ n') : RM W base mb n' R := by
  obtain ⟨D, f, h1, h2⟩ := h.ex
  exact ⟨⟨D, f, h1.mono hn, h2⟩, h.lo⟩
theorem rowIn_map {W W' : World} {base mb : Nat} {v : Value} {L : List (List Int)} {es : Array MapEntry} {c : Nat} (h : RowIn W base v L) (hm : W.heap[mb]? = some (.map es c)) (hg : W.grownBy W' (some mb)) : RowIn W' base v L := by
  refine World.ownsRow.kept h hg ?_
  rcases own_zero_or h with ⟨_, rfl⟩ | ⟨g, cap, rfl⟩
  · exact .inl rfl
  · refine .inr ?_
    intro e
    obtain rfl : g = mb := by simpa [Value.ownBlock] using e
    rcases h.2 with ⟨h1, _⟩ | ⟨g2, cap2, cur, h1, _, h3, _⟩
    · cases h1
    · cases h1; rw [hm] at h3; cases h3
theorem u8_key {a : Int} (a0 : 0 ≤ a) (a1 : a ≤ 255) : keyOf Tryz.prog 59 (.int .u8 a) = some (.int .u8 a) := keyOf_int_mk Tryz.underlying59 (WalkArith.wf_u8 ⟨a0, a1⟩)

/-- A row of the map is laid: the map as it was in W, w has new blocks beside. -/
theorem wpList_rowPut {ops : Array Oper} {rest : List Oper} {o : Oper} {a : Act} {Q : Exit → Act → World → Prop} {w0 W w : World} {base mb n : Nat} {R : List (Int × List (List Int))}
    (hg : o.guard = none) (m x v : Operand) (hop : o.op = Op.mapUpdate 51 m x v) (hm : a.eval m = .map (some mb)) (h : RM W base mb n R) (hb : Below W.heap.size W w) (hn : n < 1000) (s : Int) (s0 : 0 ≤ s) (s1 : s ≤ 255) (hx : a.eval x = .int .u8 s)
    (val : Value) (hv : a.eval v = val) (L : List (List Int)) (ho : RowIn w W.heap.size val L) (hB0 : Below base w0 W)
    (hK : ∀ w', RM w' base mb (n + 1) ((s, L) :: R) → Below base w0 w' → wpList Tryz.prog ops Q rest (a.put o.dst undef) w') : wpList Tryz.prog ops Q (o :: rest) a w := by
  have h' := h.below hb
  obtain ⟨D, f, h1, h2, h3⟩ := h.ex
  have hmlt := h1.lt
  have hbase : base ≤ W.heap.size := by have := h.lo; omega
  have h1' : w.ownsMap Tryz.prog 59 heldR mb n D := h1.kept (row := none) ⟨hb.os, hb.tape, hb.output, hb.size, fun k hk _ => hb.block k hk⟩ (by simp)
  refine wpList_mapUpdate_own w hg m x v 51 hop 59 101 keySym Tryz.underlying51 heldR mb n D hm h1' (by unfold maxLen; omega) _ _ _ hx hv (u8_key s0 s1) (.held val) [] rfl ?_
  intro w' ho' hg'
  obtain ⟨es, ck, hbk, _⟩ := h1'
  refine hK w' ⟨⟨_, fun a => if a = s then val else f a, ho', fun a a0 a1 => ?_, ?_⟩, h.lo⟩ ?_
  · by_cases e : a = s
    · subst e
      rw [look_same, atKey_put_same h1.isMap (by trivial)]
      show DataW.held val = DataW.held (if a = a then val else f a) ∧ RowIn w' base (if a = a then val else f a) L
      rw [if_pos rfl]
      refine ⟨rfl, rowIn_map (h := ?_) hbk hg'⟩
      refine ⟨ho.1, ?_⟩
      rcases ho.2 with h | ⟨g, cap, cur, e1, e2, e3⟩
      · exact .inl h
      · exact .inr ⟨g, cap, cur, e1, by omega, e3⟩
    · show _ = DataW.held (if a = s then val else f a) ∧ RowIn w' base (if a = s then val else f a) _
      rw [look_other (fun h => e h.symm), if_neg e, atKey_put_other (by intro h; injection h with _ h; exact e h)]
      exact ⟨(h2 a a0 a1).1, rowIn_map ((h2 a a0 a1).2.keep hb) hbk hg'⟩
  · have hval : ∀ g, val.ownBlock = some g → W.heap.size ≤ g := fun g hg => (ho.lt g hg).1
    have hold : ∀ a, 0 ≤ a → a ≤ 255 → ∀ g, (f a).ownBlock = some g → g < W.heap.size := fun a a0 a1 g hg => ((h2 a a0 a1).2.lt g hg).2
    intro a b a0 a1 b0 b1 hne
    show (if a = s then val else f a).ownBlock = none ∨ (if a = s then val else f a).ownBlock ≠ (if b = s then val else f b).ownBlock
    by_cases ea : a = s
    · rw [if_pos ea, if_neg (by omega)]
      cases hq : val.ownBlock with
      | none => exact .inl rfl
      | some g => exact .inr (fun e => by have := hval g hq; have := hold b b0 b1 g e.symm; omega)
    · rw [if_neg ea]
      by_cases eb : b = s
      · rw [if_pos eb]
        cases hq : (f a).ownBlock with
        | none => exact .inl rfl
        | some g => exact .inr (fun e => by have := hold a a0 a1 g hq; have := hval g e.symm; omega)
      · rw [if_neg eb]
        exact h3 a b a0 a1 b0 b1 hne
  · have b1 : Below base W w := hb.mono hbase
    refine hB0.trans ?_
    exact b1.grown hg' (by have := hb.size; omega) (fun k e => by cases e; exact h.lo)
/-- Rows that have just been laid. -/
theorem rows_new (w : World) (cs : Array Value) (L : List (List Int)) (n : Nat) (hn : L.length = n) (hc : cs.toList = rcs L) (hl : n ≤ 1000) (hr : ∀ r ∈ L, r.length ≤ 6) : RowIn (w.alloc (.cells cs 100 (0, 0))) w.heap.size (.slice (some ⟨w.heap.size, 0, none⟩) n n) L := by
  have h6 : ∀ L : List (List Int), (∀ r ∈ L, r.length ≤ 6) → (rcs L).length = L.length * 6 := by
    intro L
    induction L with
    | nil => intro _; rfl
    | cons r L ih =>
      intro h
      have := h r (by simp)
      rw [show rcs (r :: L) = rc r ++ rcs L from rfl, List.length_append, ih (fun x hx => h x (by simp [hx]))]
      simp [rc]
      omega
  have hs : cs.size = n * 6 := by rw [← Array.length_toList, hc, h6 L hr, hn]
  refine ⟨by rw [h6 L hr], .inr ⟨w.heap.size, n, cs, by rw [hn], Nat.le_refl _, heap_alloc_new w _, by omega, by unfold maxLen; omega, hs, ?_⟩⟩
  rw [hc, List.take_of_length_le (by rw [h6 L hr]; exact Nat.le_refl _)]
end Go.Proofs.YtdlhfiheingibaaGreatDoor

namespace Go.Proofs.YtdlhfiheingibaaGreatDoor
open Go.RowKit Go.Maps Go.WideMaps
set_option linter.unusedVariables false

set_option maxHeartbeats 1600000 in
theorem suffix_any (p c : Int) (w : World) :
    Calls Tryz.prog 59 #[.int .u8 p, .int .u8 c] w fun e w' => e = .returned (.slice (some ⟨w.heap.size, 0, none⟩) 3 3) ∧ RowIn w' w.heap.size (.slice (some ⟨w.heap.size, 0, none⟩) 3 3) (sufI p c) ∧ Below w.heap.size w w' := by
  go_enter Tryz.func59, Tryz.ntmps59
  go_wp2
  go_ret
  exact ⟨rfl, rows_new _ _ (sufI p c) 3 rfl rfl (by decide) (by simp [sufI]), (Below.refl _ _).alloc (Nat.le_refl _) _⟩
theorem rcs_one {L : List (List Int)} : ∀ u ∈ rcs L, u.oneCell' = true := by
  intro u hu
  unfold rcs at hu
  rw [List.mem_flatMap] at hu
  obtain ⟨r, _, hr⟩ := hu
  unfold rc at hr
  rw [List.mem_map] at hr
  obtain ⟨z, _, rfl⟩ := hr
  rfl
theorem rcs_len : ∀ {L : List (List Int)}, (∀ r ∈ L, r.length ≤ 6) → (rcs L).length = L.length * 6 := by
  intro L
  induction L with
  | nil => intro _; rfl
  | cons r L ih =>
    intro h
    have := h r (by simp)
    rw [show rcs (r :: L) = rc r ++ rcs L from rfl, List.length_append, ih (fun x hx => h x (by simp [hx]))]
    simp [rc]
    omega
/-- Rows are put behind others that this call has made. -/
theorem wpList_rowsApp {ops : Array Oper} {rest : List Oper} {o : Oper} {a : Act} {Q : Exit → Act → World → Prop} {W w2 : World} {v : Value} {L : List (List Int)} (hgd : o.guard = none) (s x : Operand)
    (ho : o.op = .call { callee := .builtin .append, args := #[s, x], argTypes := #[101, 101] }) (hs : a.eval s = v) (HO : RowIn w2 W.heap.size v L) (hS : Below W.heap.size W w2) (cs : Array Value) (m : Nat) (hx : a.eval x = .slice (some ⟨w2.heap.size, 0, none⟩) m m) (L2 : List (List Int)) (hm : L2.length = m) (hc : cs.toList = rcs L2) (hr : ∀ r ∈ L2, r.length ≤ 6)
    (h63 : L.length + m ≤ 1000)
    (hK : ∀ v' w', RowIn w' W.heap.size v' (L ++ L2) → Below W.heap.size W w' → wpList Tryz.prog ops Q rest (a.put o.dst v') w') : wpList Tryz.prog ops Q (o :: rest) a (w2.alloc (.cells cs 100 (0, 0))) := by
  obtain ⟨j0, ji, jz0, jz1, jz2⟩ := info_parts infoRow
  refine wpList_append_own _ hgd s x 101 ho W.heap.size 100 j0 _ 6 6 Tryz.underlying101 ji jz0 jz1 jz2 rfl (by decide) v L.length (rcs L) hs (World.ownsRow.alloc HO _) ⟨w2.heap.size, 0, none⟩ m m (rcs L2) hx (by rw [rcs_len hr, hm]) ?_ rcs_one (by unfold maxLen; omega) (by omega) (by have := hS.size; simp; omega) ?_
  · rw [← hc]; exact World.news_of_block (cs := cs) (fr := (0, 0)) (heap_alloc_new w2 _)
  · intro v' w' h1 h2 _
    refine hK v' w' ?_ ?_
    · unfold RowIn
      rw [rcs_app, List.length_append, hm]
      exact h1
    · exact (hS.alloc hS.size _).grown h2 (by have := hS.size; simp; omega) (fun k hk => (HO.lt k hk).1)
set_option maxRecDepth 100000 in
set_option maxHeartbeats 6400000 in
theorem addBase_any (w : World) (base mb n : Nat) (R : List (Int × List (List Int))) (H : RM w base mb n R) (hn : n ≤ 100) :
    Calls Tryz.prog 39 #[.map (some mb)] w fun e w' => e = .returned (.tuple #[]) ∧ RM w' base mb (n + 10) ((120, sufI 120 120 ++ [[]]) :: (133, sufI 132 133 ++ [[]]) :: (132, sufI 132 133) :: (131, [[1, 132], [40, 117, 41, 132]]) :: (130, sufI 129 130) :: (129, sufI 129 130 ++ [[46, 128], [47, 110]]) :: (128, [[1, 129], [40, 117, 41, 130]]) :: (127, sufI 125 126) :: (126, sufI 125 126 ++ [[]]) :: (125, sufI 125 126 ++ [[46, 128], [47, 110]]) :: R) ∧ Below base w w' := by
  have hB : Below base w w := Below.refl _ _
  go_enter Tryz.func39, Tryz.ntmps39
  go_wp2_with (first
    | (go_at_call 59; refine (suffix_any _ _ _).mono ?_; rintro e w2 ⟨rfl, HO, hS⟩)
    | (at_builtin; first
      | (refine wpList_rowsApp rfl _ _ rfl rfl HO hS _ 2 rfl [[46, 128], [47, 110]] rfl rfl (by decide) (by decide) ?_; clear HO hS; intro v w3 HO hS)
      | (refine wpList_rowsApp rfl _ _ rfl rfl HO hS _ 1 rfl [[]] rfl rfl (by decide) (by decide) ?_; clear HO hS; intro v w3 HO hS))
    | (at_mapUpdate; first
      | (refine wpList_rowPut rfl _ _ _ rfl rfl H hS (by omega) _ (by decide) (by decide) rfl _ rfl _ HO hB ?_; clear H hB HO hS; intro w1 H hB)
      | (refine wpList_rowPut rfl _ _ _ rfl rfl H ((Below.refl _ _).alloc (Nat.le_refl _) _) (by omega) 128 (by decide) (by decide) rfl _ rfl [[1, 129], [40, 117, 41, 130]] ?own hB ?_; (case own => exact rows_new _ _ [[1, 129], [40, 117, 41, 130]] 2 rfl rfl (by decide) (by decide)); clear H hB; intro w1 H hB)
      | (refine wpList_rowPut rfl _ _ _ rfl rfl H ((Below.refl _ _).alloc (Nat.le_refl _) _) (by omega) 131 (by decide) (by decide) rfl _ rfl [[1, 132], [40, 117, 41, 132]] ?own hB ?_; (case own => exact rows_new _ _ [[1, 132], [40, 117, 41, 132]] 2 rfl rfl (by decide) (by decide)); clear H hB; intro w1 H hB)))
  go_end0
  exact ⟨rfl, H, hB⟩
end Go.Proofs.YtdlhfiheingibaaGreatDoor
