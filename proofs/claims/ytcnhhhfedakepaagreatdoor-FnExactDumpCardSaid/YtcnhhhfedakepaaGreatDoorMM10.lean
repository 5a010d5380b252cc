import Derived.Test.YtcnhhhfedakepaaGreatDoorMM05
import Derived.Deep.Strs
import Derived.Deep.Slices
import Derived.ChangeSlices
import Derived.WideShapes
import Derived.OpenShut
import Derived.Test.YtcnhhhfedakepaaGreatDoorMM09
import Derived.Test.YtcnhhhfedakepaaGreatDoorMM01
import Derived.Lib.ItoaLen
import Derived.Lib.Join
namespace Go.Proofs.YtcnhhhfedakepaaGreatDoor
open Go.ChangeShapes Go.WideShapes Go.ChangeAt Go.WideMaps Go.WideElems Go.RowKit Go.Deep
set_option linter.unusedVariables false

theorem int_wf {n : Int} (h : (Lit.int .i64 n).wf = true) : -9223372036854775808 ≤ n ∧ n ≤ 9223372036854775807 := bounds_i64 h
/-- A node's numbers are numbers of 64 bits. -/
structure NdInt (N : Nd) : Prop where
  k : -9223372036854775808 ≤ N.k ∧ N.k ≤ 9223372036854775807
  f : -9223372036854775808 ≤ N.f ∧ N.f ≤ 9223372036854775807
  t : -9223372036854775808 ≤ N.t ∧ N.t ≤ 9223372036854775807
  l : -9223372036854775808 ≤ N.l ∧ N.l ≤ 9223372036854775807
  op : -9223372036854775808 ≤ N.op ∧ N.op ≤ 9223372036854775807
  n : -9223372036854775808 ≤ N.n ∧ N.n ≤ 9223372036854775807
  ks : ∀ z ∈ N.ks, -9223372036854775808 ≤ z ∧ z ≤ 9223372036854775807
theorem strs_of_trod {H : Type} {enc : TypeId × Value → H} {W : World} {base fuel : Nat} {sp : Nat → Bool} {held : Bool} {v : Value} {y : DataW H × List MemPlace} (h : DataW.trod enc Tryz.prog W base sp held fuel 64 [v] = some y) :
    ∃ l, StrsAt W v l ∧ l.length ≤ 9223372036854775807 ∧ ∀ s ∈ l, s.size ≤ 9223372036854775807 := by
  rcases open_strs Tryz.underlying64 Tryz.underlying9 (by kernel_rfl) h with ⟨e, _⟩ | ⟨a, len, cap, m, Sx, e, hb, hl, hm, hmm, hx, hall⟩
  · simp only [List.cons.injEq, and_true] at e; subst e; exact ⟨[], .inl ⟨rfl, _, _, rfl⟩, by simp, by simp⟩
  · simp only [List.cons.injEq, and_true] at e; subst e
    have hlm : len ≤ m := by rw [hmm]; split <;> omega
    refine ⟨(List.range len).map Sx, .inr ⟨a, cap, by simp, fun j s hs => ?_⟩, by simp; unfold maxLen at hm; omega, fun s hs => ?_⟩
    · have hj : j < len := by have := (List.getElem?_eq_some_iff.1 hs).1; simpa using this
      have e : Sx j = s := by rw [List.getElem?_map, List.getElem?_range hj] at hs; exact Option.some.inj hs
      rw [← e]; exact (hall j (by omega)).1
    · obtain ⟨j, hj, rfl⟩ := List.mem_map.1 hs
      have := (hall j (by have := List.mem_range.1 hj; omega)).2
      unfold maxLen at this; omega
theorem ints_of_trod {H : Type} {enc : TypeId × Value → H} {W : World} {base fuel : Nat} {sp : Nat → Bool} {held : Bool} {v : Value} {y : DataW H × List MemPlace} (h : DataW.trod enc Tryz.prog W base sp held fuel 65 [v] = some y) :
    ∃ l, IntsAt W v l ∧ l.length ≤ 9223372036854775807 ∧ ∀ z ∈ l, -9223372036854775808 ≤ z ∧ z ≤ 9223372036854775807 := by
  rcases open_ints Tryz.underlying65 Tryz.underlying3 (by kernel_rfl) h with ⟨e, _⟩ | ⟨a, len, cap, zs, e, hb, hl, hm, hmm, hx, hall, hwf⟩
  · simp only [List.cons.injEq, and_true] at e; subst e; exact ⟨[], .inl ⟨rfl, _, _, rfl⟩, by simp, by simp⟩
  · simp only [List.cons.injEq, and_true] at e; subst e
    have hlm : len ≤ zs.length := by rw [hmm]; split <;> omega
    have hlt : (zs.take len).length = len := by rw [List.length_take]; omega
    refine ⟨zs.take len, .inr ⟨a, cap, by rw [hlt], fun j s hs => ?_⟩, by rw [hlt]; unfold maxLen at hm; omega, fun s hs => int_wf (hwf s (List.mem_of_mem_take hs))⟩
    have hj : j < len := by have := (List.getElem?_eq_some_iff.1 hs).1; omega
    rw [List.getElem?_take, if_pos hj] at hs
    rw [hall j (by omega)]
    simp [List.getD, hs]
theorem list9 {α : Type} {l : List α} (h : l.length = 9) : ∃ c0 c1 c2 c3 c4 c5 c6 c7 c8, l = [c0, c1, c2, c3, c4, c5, c6, c7, c8] := by
  match l, h with
  | [c0, c1, c2, c3, c4, c5, c6, c7, c8], _ => exact ⟨c0, c1, c2, c3, c4, c5, c6, c7, c8, rfl⟩
theorem add_pos (a : Addr) (j : Nat) (h : j ≠ 0) : a.add j = ⟨a.block, a.off + j, none⟩ := by unfold Addr.add; rw [if_neg h]

set_option maxRecDepth 100000 in
theorem nd_of_trod {H : Type} {enc : TypeId × Value → H} {W : World} {base b2 fuel : Nat} {sp : Nat → Bool} {held : Bool} {a : Addr} {cs : List Value} {y : DataW H × List MemPlace} (hc : W.cells? b2 a 9 = some cs) (h : DataW.trod enc Tryz.prog W base sp held fuel 78 cs = some y) :
    ∃ N vn vk, NdAt W a N vn vk ∧ NdLen N ∧ NdInt N := by
  obtain ⟨_, hlen, hcell⟩ := World.cells?_some hc
  obtain ⟨xs, m, _, hx, hl, hxl, hfl⟩ := DataW.trod_struct Tryz.underlying78 h
  obtain ⟨v0, v1, v2, v3, v4, v5, v6, v7, v8, rfl⟩ := list9 hlen
  have cI : Tryz.prog.cellsOf 3 = 1 := by kernel_rfl
  have cJ : Tryz.prog.cellsOf 2 = 1 := by kernel_rfl
  have cS : Tryz.prog.cellsOf 9 = 1 := by kernel_rfl
  have cN : Tryz.prog.cellsOf 64 = 1 := by kernel_rfl
  have cK : Tryz.prog.cellsOf 65 = 1 := by kernel_rfl
  obtain ⟨y0, y1, y2, y3, y4, y5, y6, y7, y8, rfl⟩ := list9 (hxl.trans (by kernel_rfl))
  have g0 := hfl 0 _ rfl
  have g1 := hfl 1 _ rfl
  have g2 := hfl 2 _ rfl
  have g3 := hfl 3 _ rfl
  have g4 := hfl 4 _ rfl
  have g5 := hfl 5 _ rfl
  have g6 := hfl 6 _ rfl
  have g7 := hfl 7 _ rfl
  have g8 := hfl 8 _ rfl
  simp [cI, cJ, cS, cN, cK] at g0 g1 g2 g3 g4 g5 g6 g7 g8
  obtain ⟨k, e0, _, w0⟩ := DataW.trod_int Tryz.underlying3 g0
  obtain ⟨f, e1, _, w1⟩ := DataW.trod_int Tryz.underlying3 g1
  obtain ⟨t, e2, _, w2⟩ := DataW.trod_int Tryz.underlying3 g2
  obtain ⟨l, e3, _, w3⟩ := DataW.trod_int Tryz.underlying3 g3
  obtain ⟨op, e4, _, w4⟩ := DataW.trod_int Tryz.underlying3 g4
  obtain ⟨n, e5, _, w5⟩ := DataW.trod_int Tryz.underlying2 g5
  obtain ⟨x, e6, _, w6⟩ := DataW.trod_string Tryz.underlying9 g6
  obtain ⟨nm, hnm, ln, sn⟩ := strs_of_trod g7
  obtain ⟨ks, hks, lk, sk⟩ := ints_of_trod g8
  simp only [List.cons.injEq, and_true] at e0 e1 e2 e3 e4 e5 e6
  subst e0 e1 e2 e3 e4 e5 e6
  have c0 := hcell 0 (by omega)
  have c1 := hcell 1 (by omega)
  have c2 := hcell 2 (by omega)
  have c3 := hcell 3 (by omega)
  have c4 := hcell 4 (by omega)
  have c5 := hcell 5 (by omega)
  have c6 := hcell 6 (by omega)
  have c7 := hcell 7 (by omega)
  have c8 := hcell 8 (by omega)
  rw [add_pos a _ (by omega)] at c1 c2 c3 c4 c5 c6 c7 c8
  refine ⟨⟨k, f, t, l, op, n, x, nm, ks⟩, v7, v8, ⟨?_, c1, c2, c3, c4, c5, c6, c7, c8, hnm, hks⟩, ⟨by unfold maxLen at w6; exact (by omega : x.size ≤ 9223372036854775807), sn, ln, lk⟩, ⟨int_wf w0, int_wf w1, int_wf w2, int_wf w3, int_wf w4, int_wf w5, sk⟩⟩
  have e : a.add 0 = a := by unfold Addr.add; rw [if_pos rfl]
  rw [e] at c0
  exact c0

theorem choose_list {α : Type} {p : Nat → α → Prop} : ∀ n, (∀ i, i < n → ∃ x, p i x) → ∃ l : List α, l.length = n ∧ ∀ i x, l[i]? = some x → p i x
  | 0, _ => ⟨[], rfl, fun i x h => by simp at h⟩
  | n + 1, h => by
    obtain ⟨l, hl, hp⟩ := choose_list n fun i hi => h i (by omega)
    obtain ⟨x, hx⟩ := h n (by omega)
    refine ⟨l ++ [x], by simp [hl], fun i y hy => ?_⟩
    rcases Nat.lt_or_ge i n with g | g
    · rw [List.getElem?_append_left (by omega)] at hy; exact hp i y hy
    · rw [List.getElem?_append_right (by omega), hl] at hy
      rcases Nat.eq_or_lt_of_le g with rfl | g
      · simp at hy; subst hy; exact hx
      · rw [List.getElem?_eq_none (by simp; omega)] at hy; cases hy

set_option maxRecDepth 100000 in
theorem nds_of_trod {H : Type} {enc : TypeId × Value → H} {W : World} {base fuel : Nat} {sp : Nat → Bool} {held : Bool} {v : Value} {y : DataW H × List MemPlace} (h : DataW.trod enc Tryz.prog W base sp held fuel 22 [v] = some y) :
    ∃ ns, NdsAt W v ns ∧ ns.length ≤ 9223372036854775807 ∧ (∀ N ∈ ns, NdLen N) ∧ ∀ N ∈ ns, NdInt N := by
  have cN : Tryz.prog.cellsOf 78 = 9 := by kernel_rfl
  rcases open_slice Tryz.underlying22 h with ⟨e, _⟩ | ⟨a, len, cap, m, n, D, Pl, e, hb, hl, hm, hmm, hx, hall⟩
  · simp only [List.cons.injEq, and_true] at e; subst e; exact ⟨[], .inl ⟨rfl, _, _, rfl⟩, by simp, by simp, by simp⟩
  · simp only [List.cons.injEq, and_true] at e; subst e
    have hlm : len ≤ m := by rw [hmm]; split <;> omega
    obtain ⟨ns, hns, hp⟩ := choose_list (p := fun i N => (∃ vn vk, NdAt W (a.add (i * 9)) N vn vk) ∧ NdLen N ∧ NdInt N) len fun i hi => by
      obtain ⟨cs', h1, h2⟩ := hall i (by omega)
      rw [cN] at h1
      obtain ⟨N, vn, vk, h3, h4, h5⟩ := nd_of_trod h1 h2
      exact ⟨N, ⟨vn, vk, h3⟩, h4, h5⟩
    refine ⟨ns, .inr ⟨a, cap, by rw [hns], fun i N hN => (hp i N hN).1⟩, by rw [hns]; unfold maxLen at hm; omega, fun N hN => ?_, fun N hN => ?_⟩
    · obtain ⟨i, hi, e⟩ := List.getElem_of_mem hN
      exact (hp i N (by rw [List.getElem?_eq_getElem hi, e])).2.1
    · obtain ⟨i, hi, e⟩ := List.getElem_of_mem hN
      exact (hp i N (by rw [List.getElem?_eq_getElem hi, e])).2.2

set_option maxRecDepth 100000 in
theorem tree_of {H : Type} {enc : TypeId × Value → H} {W : World} {b0 base : Nat} {sp : Nat → Bool} {held : Bool} {v : Value} {d : DataW H} {p : List MemPlace} (hv : Value.okWide Tryz.prog W .any b0 24 v) (h : DataW.Trod enc Tryz.prog W base sp held 24 v d p) :
    ∃ u ns, v = .agg #[u] ∧ NdsAt W u ns ∧ ns.length ≤ 9223372036854775807 ∧ (∀ N ∈ ns, NdLen N) ∧ ∀ N ∈ ns, NdInt N := by
  obtain ⟨cs, rfl, hsz⟩ := okWide_struct Tryz.underlying24 hv
  obtain ⟨l⟩ := cs
  have hl1 : l.length = 1 := hsz.trans (by kernel_rfl)
  match l, hl1 with
  | [u], _ =>
    obtain ⟨fuel, hf⟩ := h
    obtain ⟨xs, m, _, hx, hl, hlen, hfl⟩ := DataW.trod_struct Tryz.underlying24 hf
    have cN : Tryz.prog.cellsOf 22 = 1 := by kernel_rfl
    match xs, hlen with
    | [y0], _ =>
      have g0 := hfl 0 _ rfl
      simp [Value.cells, cN] at g0
      obtain ⟨ns, h1, h2, h3, h4⟩ := nds_of_trod g0
      exact ⟨u, ns, rfl, h1, h2, h3, h4⟩
end Go.Proofs.YtcnhhhfedakepaaGreatDoor

namespace Go.Proofs.YtcnhhhfedakepaaGreatDoor
open Go.RowKit Go.Maps Go.WideMaps
set_option linter.unusedVariables false

/-- A number in decimal. -/
def decB (n : Int) : ByteArray := ⟨(Lib.itoa n).toArray⟩
def spcB : ByteArray := { data := #[32] }
def nwlB : ByteArray := { data := #[10] }
/-- Texts, each behind a space. -/
def spAll : List ByteArray → ByteArray
  | [] => ⟨#[]⟩
  | s :: l => (spcB ++ s) ++ spAll l
theorem emp_app (x : ByteArray) : (⟨#[]⟩ : ByteArray) ++ x = x := ByteArray.empty_append
theorem app_emp (x : ByteArray) : x ++ (⟨#[]⟩ : ByteArray) = x := ByteArray.append_empty
theorem spAll_app (a b : List ByteArray) : spAll (a ++ b) = spAll a ++ spAll b := by
  induction a with
  | nil => exact (emp_app _).symm
  | cons s l ih => show (spcB ++ s) ++ spAll (l ++ b) = ((spcB ++ s) ++ spAll l) ++ spAll b; rw [ih, ByteArray.append_assoc (b := spAll l)]
theorem spAll_take (l : List ByteArray) (k : Nat) (s : ByteArray) (h : l[k]? = some s) : spAll (l.take (k + 1)) = spAll (l.take k) ++ (spcB ++ s) := by
  rw [List.take_add_one, h, spAll_app]
  show spAll (l.take k) ++ ((spcB ++ s) ++ ⟨#[]⟩) = _
  rw [app_emp]
def sumZ : List ByteArray → Nat
  | [] => 0
  | s :: l => s.size + sumZ l
theorem spAll_size (l : List ByteArray) : (spAll l).size = l.length + sumZ l := by
  induction l with
  | nil => rfl
  | cons s l ih => show ((spcB ++ s) ++ spAll l).size = _; rw [ByteArray.size_append, ByteArray.size_append, ih]; show 1 + s.size + _ = (l.length + 1) + (s.size + sumZ l); omega
theorem spAll_size_take (l : List ByteArray) (k : Nat) : (spAll (l.take k)).size ≤ (spAll l).size := by
  have := congrArg ByteArray.size (spAll_app (l.take k) (l.drop k))
  rw [List.take_append_drop, ByteArray.size_append] at this
  omega
/-- The six numbers ahead of a node's Text. -/
def headB (N : Nd) : ByteArray :=
  (((((((⟨#[]⟩ : ByteArray) ++ (decB N.k ++ spcB)) ++ (decB N.f ++ spcB)) ++ (decB N.t ++ spcB)) ++ (decB N.l ++ spcB)) ++ (decB N.op ++ spcB)) ++ (decB N.n ++ spcB))
def quoB (s : ByteArray) : ByteArray := strI (quoteI s)
/-- A node's line but for the newline. -/
def dmpR (N : Nd) : ByteArray :=
  (((headB N ++ ((quoB N.x ++ spcB) ++ decB N.nm.length)) ++ spAll N.nm) ++ (spcB ++ decB N.ks.length)) ++ spAll (N.ks.map decB)
def dumpB : List Nd → ByteArray
  | [] => ⟨#[]⟩
  | N :: l => (dmpR N ++ nwlB) ++ dumpB l
theorem dumpB_app (a b : List Nd) : dumpB (a ++ b) = dumpB a ++ dumpB b := by
  induction a with
  | nil => exact (emp_app _).symm
  | cons s l ih => show (dmpR s ++ nwlB) ++ dumpB (l ++ b) = ((dmpR s ++ nwlB) ++ dumpB l) ++ dumpB b; rw [ih, ByteArray.append_assoc (b := dumpB l)]
theorem dumpB_take (l : List Nd) (k : Nat) (N : Nd) (h : l[k]? = some N) : dumpB (l.take (k + 1)) = dumpB (l.take k) ++ (dmpR N ++ nwlB) := by
  rw [List.take_add_one, h, dumpB_app]
  show dumpB (l.take k) ++ ((dmpR N ++ nwlB) ++ ⟨#[]⟩) = _
  rw [app_emp]
theorem dumpB_size_take (l : List Nd) (k : Nat) : (dumpB (l.take k)).size ≤ (dumpB l).size := by
  have := congrArg ByteArray.size (dumpB_app (l.take k) (l.drop k))
  rw [List.take_append_drop, ByteArray.size_append] at this
  omega

/-- The program's words of a node, and what strings.Join makes of them. -/
def wordsN (N : Nd) : List ByteArray := [decB N.k, decB N.f, decB N.t, decB N.l, decB N.op, decB N.n, quoB N.x, decB N.nm.length] ++ (N.nm ++ (decB N.ks.length :: N.ks.map decB))
theorem join_data (x : ByteArray) (l : List ByteArray) : (⟨(Lib.join ((x :: l).map (·.data.toList)) [32]).toArray⟩ : ByteArray) = x ++ spAll l := by
  rw [List.map_cons, Lib.join_cons]
  have key : ∀ l : List ByteArray, Lib.joinTail [32] (l.map (·.data.toList)) = (spAll l).data.toList := by
    intro l
    induction l with
    | nil => rfl
    | cons s l ih =>
      have e : Lib.joinTail [32] ((s :: l).map (·.data.toList)) = ([32] ++ s.data.toList) ++ Lib.joinTail [32] (l.map (·.data.toList)) := by simp [Lib.joinTail]
      rw [e, ih]
      show _ = (((spcB ++ s) ++ spAll l).data).toList
      rw [ByteArray.data_append, ByteArray.data_append]
      simp [spcB]
  rw [key]
  apply ByteArray.ext
  rw [ByteArray.data_append]
  simp
theorem join_words (N : Nd) : (⟨(Lib.join ((wordsN N).map (·.data.toList)) [32]).toArray⟩ : ByteArray) = dmpR N := by
  have e : wordsN N = decB N.k :: ([decB N.f, decB N.t, decB N.l, decB N.op, decB N.n, quoB N.x, decB N.nm.length] ++ (N.nm ++ (decB N.ks.length :: N.ks.map decB))) := rfl
  rw [e, join_data, spAll_app, spAll_app]
  unfold dmpR headB
  simp only [spAll, emp_app, app_emp, ByteArray.append_assoc]

theorem decB_size (n : Int) (h0 : -9223372036854775808 ≤ n) (h1 : n ≤ 9223372036854775807) : (decB n).size ≤ 21 := by
  show (Lib.itoa n).toArray.size ≤ 21
  rw [List.size_toArray]
  exact Lib.itoa_length_le n h0 h1
theorem strI_sizeD (x : List Int) : (strI x).size = x.length := by
  have key : ∀ (x : List Int) (a : ByteArray), (x.foldl (fun r n => r.push (UInt8.ofNat n.toNat)) a).size = a.size + x.length := by
    intro x
    induction x with
    | nil => intro a; rfl
    | cons b r ih => intro a; show (r.foldl _ (a.push _)).size = _; rw [ih]; simp; omega
  have := key x ByteArray.empty
  unfold strI
  rw [this]
  simp
theorem quoB_size (s : ByteArray) : (quoB s).size ≤ 2 + 4 * s.size := by
  unfold quoB
  rw [strI_sizeD]
  unfold quoteI
  have := qt_len s s.size (Nat.le_refl _)
  simp
  omega
theorem sumZ_eq (l : List ByteArray) : sumZ l = sumS l := by
  induction l with
  | nil => rfl
  | cons s l ih => show s.size + sumZ l = s.size + sumS l; rw [ih]
theorem sumZ_dec (l : List Int) (h : ∀ z ∈ l, -9223372036854775808 ≤ z ∧ z ≤ 9223372036854775807) : sumZ (l.map decB) ≤ 21 * l.length := by
  induction l with
  | nil => exact Nat.le_refl _
  | cons s l ih =>
    have h1 := ih fun z hz => h z (List.mem_cons_of_mem _ hz)
    have h2 := decB_size s (h s (List.mem_cons_self)).1 (h s (List.mem_cons_self)).2
    show (decB s).size + sumZ (l.map decB) ≤ 21 * (l.length + 1)
    omega
theorem rowB_size {N : Nd} (h : NdInt N) (hn : N.nm.length ≤ 1048576) (hk : N.ks.length ≤ 1048576) : (dmpR N).size ≤ 220 + 22 * bulkN N := by
  have a1 := decB_size _ h.k.1 h.k.2
  have a2 := decB_size _ h.f.1 h.f.2
  have a3 := decB_size _ h.t.1 h.t.2
  have a4 := decB_size _ h.l.1 h.l.2
  have a5 := decB_size _ h.op.1 h.op.2
  have a6 := decB_size _ h.n.1 h.n.2
  have a7 := decB_size (N.nm.length : Int) (by omega) (by omega)
  have a8 := decB_size (N.ks.length : Int) (by omega) (by omega)
  have a9 := quoB_size N.x
  have b1 := spAll_size N.nm
  have b2 := spAll_size (N.ks.map decB)
  have b3 := sumZ_dec N.ks h.ks
  have b4 := sumZ_eq N.nm
  have s1 : spcB.size = 1 := rfl
  have s0 : (⟨#[]⟩ : ByteArray).size = 0 := rfl
  rw [List.length_map] at b2
  unfold dmpR headB bulkN bulkS
  simp only [ByteArray.size_append]
  omega
theorem dumpB_size (l : List Nd) (h : ∀ N ∈ l, NdInt N) (hk : ∀ N ∈ l, N.nm.length ≤ 1048576 ∧ N.ks.length ≤ 1048576) : (dumpB l).size ≤ 221 * l.length + 22 * sumN l := by
  induction l with
  | nil => exact Nat.le_refl _
  | cons N l ih =>
    have h1 := ih (fun z hz => h z (List.mem_cons_of_mem _ hz)) fun z hz => hk z (List.mem_cons_of_mem _ hz)
    have h2 := rowB_size (h N (List.mem_cons_self)) (hk N (List.mem_cons_self)).1 (hk N (List.mem_cons_self)).2
    have s1 : nwlB.size = 1 := rfl
    show ((dmpR N ++ nwlB) ++ dumpB l).size ≤ 221 * (l.length + 1) + 22 * (bulkN N + sumN l)
    rw [ByteArray.size_append, ByteArray.size_append]
    omega
end Go.Proofs.YtcnhhhfedakepaaGreatDoor

namespace Go.Proofs.YtcnhhhfedakepaaGreatDoor
open Go.RowKit Go.Maps Go.WideMaps
set_option linter.unusedVariables false

set_option maxRecDepth 100000 in
set_option maxHeartbeats 3200000 in
theorem l1decimal_zero (w : World) : Calls Tryz.prog 46 #[.int .i64 0] w fun e w' => e = .returned (.string (decB 0)) ∧ Below w.heap.size w w' := by
  have e0 : decB 0 = { data := #[48] } := by unfold decB Lib.itoa; rw [if_neg (by decide), show (0 : Int).toNat = 0 from rfl, Lib.decDigits, dif_pos (by decide)]; rfl
  rw [e0]
  go_enter Tryz.func46, Tryz.ntmps46
  go_wp2_with fail
  go_ret
  exact ⟨rfl, Below.refl _ _⟩

set_option maxRecDepth 100000 in
set_option maxHeartbeats 3200000 in
theorem l1decimal_neg (N : Nat) (h0 : N ≠ 0) (h1 : N ≤ 9223372036854775808) (w : World) : Calls Tryz.prog 46 #[.int .i64 (-(N : Int))] w fun e w' => e = .returned (.string ({ data := #[45] } ++ ⟨(Lib.decDigits N).toArray⟩)) ∧ Below w.heap.size w w' := by
  obtain ⟨n, hn⟩ : ∃ n : Int, (N : Int) = n := ⟨_, rfl⟩
  rw [hn]
  have n0 : -n < 0 := by omega
  have n1 : n ≤ 9223372036854775808 := by omega
  have nz : (-n == 0) = false := by rw [beq_eq_false_iff_ne]; omega
  have HN : Hid ((N : Int) = n) := hn
  clear hn
  go_enter Tryz.func46, Tryz.ntmps46
  go_wp2_with fail
  go_loopw [0, 4, 5] (fun vn vd v5 wr => ∃ (c : Int) (l : List Int), vn = .int .i64 (-c) ∧ 0 ≤ c ∧ c ≤ 9223372036854775808 ∧ Hid (c.toNat < 10 ^ (19 - l.length) ∧ l.length ≤ 19 ∧ ints (Lib.decDigits N) = pre c.toNat ++ l.reverse) ∧ wr.ownsRow w.heap.size 5 1 vd l.length (B8 l) ∧ Below w.heap.size w wr) (fun vn _ _ _ => (-(intOf vn)).toNat)
  case atStart =>
    refine ⟨n, [], rfl, by omega, n1, ⟨?_, by simp, ?_⟩, World.ownsRow_nil _ _ _ _, Below.refl _ _⟩
    · have : (10 : Nat) ^ (19 - ([] : List Int).length) = 10000000000000000000 := by decide
      rw [this]; omega
    · rw [show n.toNat = N by have := HN.out; omega]; unfold pre; rw [if_neg h0]; simp
  case round =>
    obtain ⟨c, l, rfl, c0, c1, HH, hown, hb⟩ := hrel
    by_cases hc : c = 0
    · subst hc
      obtain ⟨_, hl19, hfin⟩ := HH.out
      have hfin' : ints (Lib.decDigits N) = l.reverse := hfin
      have hlpos : 0 < l.length := by
        have e := congrArg List.length hfin'
        rw [List.length_reverse] at e
        have : 0 < (ints (Lib.decDigits N)).length := by
          rw [Lib.decDigits]
          split <;> simp [ints]
        omega
      have HL : Hid (strI l.reverse = ⟨(Lib.decDigits N).toArray⟩) := by show _ = _; rw [← hfin', strI_ints]
      rcases hown.2 with ⟨h, hz⟩ | ⟨g, cap, cur, hv, hg, hh, _, hmx, hsz, htk⟩
      · have : l = [] := by
          have hB : (B8 l).length = l.length := B8_len l
          have := hown.1
          simp at hz
          omega
        rw [this] at hlpos; simp at hlpos
      · have hcell : ∀ j, j < l.length → wr.cell? ⟨g, j, none⟩ = some (.int .u8 (l.getD j 0)) := fun j hj => by
          rw [cell_of_row _ _ _ _ _ _ hh]
          have e1 : (B8 l)[j]? = some (.int .u8 (l.getD j 0)) := by simp [B8, hj, List.getD]
          rw [← htk, List.getElem?_take] at e1
          split at e1
          · simpa using e1
          · cases e1
        have hglt : g < wr.heap.size := lt_of_block hh
        obtain ⟨Ln, hLn⟩ : ∃ Ln, l.length = Ln := ⟨_, rfl⟩
        rw [hLn] at hlpos hl19 hcell hv
        subst hv
        clear HH hfin hfin' hown hh htk hsz hmx
        have hrev : ∀ t, t < Ln → l.reverse.take (t + 1) = l.reverse.take t ++ [l.getD (Ln - 1 - t) 0] := fun t ht => by
          have e : l.reverse[t]? = some (l.getD (Ln - 1 - t) 0) := by
            rw [List.getElem?_reverse (by omega), List.getD, hLn, List.getElem?_eq_getElem (by omega)]
            rfl
          rw [List.take_add_one, e]; rfl
        have hsz : ∀ t, t ≤ Ln → (strI (l.reverse.take t)).size = t := fun t ht => by
          have : ∀ x : List Int, (strI x).size = x.length := by
            intro x
            induction x with
            | nil => rfl
            | cons a b ih => rw [show a :: b = [a] ++ b from rfl, strI_app, ByteArray.size_append, ih, List.length_append]; rfl
          rw [this, List.length_take, List.length_reverse]; omega
        have HREV : Hid (∀ t, t < Ln → l.reverse.take (t + 1) = l.reverse.take t ++ [l.getD (Ln - 1 - t) 0]) := hrev
        have HLL : Hid (l.length = Ln) := hLn
        clear hrev hLn
        go_wp2_with fail
        go_loopw [6, 7] (fun out i wq => ∃ t : Nat, t ≤ Ln ∧ i = .int .i64 ((Ln : Int) - 1 - (t : Int)) ∧ out = .string ({ data := #[45] } ++ strI (l.reverse.take t)) ∧ Below wr.heap.size wr wq) (fun _ i _ => (intOf i + 1).toNat)
        case atStart => exact ⟨0, by omega, by first | rfl | (congr 1; omega), rfl, Below.refl _ _⟩
        case round =>
          obtain ⟨t, ht, rfl, rfl, hbq⟩ := hrel
          have hs1 : (({ data := #[45] } : ByteArray) ++ strI (l.reverse.take t)).size = t + 1 := by rw [ByteArray.size_append, hsz t ht]; show 1 + t = _; omega
          by_cases htl : t < Ln
          · obtain ⟨I, hI⟩ : ∃ I : Nat, Ln - 1 - t = I := ⟨_, rfl⟩
            have hci := (cell_below hbq hglt).trans (hcell I (by omega))
            have HT := HREV.out t htl
            rw [hI] at HT
            have HS : Hid (({ data := #[45] } ++ strI (l.reverse.take t)) ++ strI [l.getD I 0] = { data := #[45] } ++ strI (l.reverse.take (t + 1))) := by show _ = _; rw [HT, strI_app, ByteArray.append_assoc]
            generalize l.getD I 0 = x at hci HS
            have hcv := fun w => conv_own (own_first w x)
            have hs2 : (strI [x]).size = 1 := rfl
            have hii : (Ln : Int) - 1 - (t : Int) = (I : Int) := by omega
            have hIl : I < Ln := by omega
            generalize ({ data := #[45] } : ByteArray) ++ strI (l.reverse.take t) = o at hs1 HS ⊢
            rw [hii]
            clear hsz HT hcell
            go_wp2
            go_roundw
            case rel => exact ⟨t + 1, by omega, by first | rfl | (congr 1; omega), by rw [HS.out], hbq.alloc hbq.size _⟩
            case measure => simp [intOf]
          · obtain rfl : t = Ln := by omega
            have hneg : ¬ (0 : Int) ≤ (t : Int) - 1 - (t : Int) := by omega
            rw [List.take_of_length_le (by rw [List.length_reverse, HLL.out]; exact Nat.le_refl _)]
            rw [HL.out]
            clear hs1 hsz HL HREV
            go_wp2
            go_ret
            exact ⟨rfl, hb.trans (hbq.mono hb.size)⟩
    · have hcz : (-c == 0) = false := by rw [beq_eq_false_iff_ne]; omega
      have hcn : (-c != 0) = true := by rw [bne_iff_ne]; omega
      have hl19 : l.length ≤ 18 := by
        obtain ⟨e1, e2, _⟩ := HH.out
        rcases Nat.lt_or_ge l.length 19 with h | h
        · omega
        · rw [show 19 - l.length = 0 by omega] at e1; simp at e1; omega
      have HN2 : Hid ((c / 10).toNat < 10 ^ (19 - (l ++ [48 + c % 10]).length) ∧ (l ++ [48 + c % 10]).length ≤ 19 ∧ ints (Lib.decDigits N) = pre (c / 10).toNat ++ (l ++ [48 + c % 10]).reverse) := by
        obtain ⟨e1, e2, e3⟩ := HH.out
        have el : (l ++ [48 + c % 10]).length = l.length + 1 := by simp
        refine ⟨?_, by omega, ?_⟩
        · rw [el]
          have e4 : 10 ^ (19 - l.length) = 10 ^ (19 - (l.length + 1)) * 10 := by rw [← Nat.pow_succ]; congr 1; omega
          rw [e4] at e1
          have : (c / 10).toNat = c.toNat / 10 := by omega
          rw [this]
          omega
        · rw [e3, pre_step c.toNat (by omega), show (c / 10).toNat = c.toNat / 10 by omega, show ((c.toNat % 10 : Nat) : Int) = c % 10 by omega]
          simp
      have hb0 : (-c).tmod 10 = -(c % 10) := by rw [Int.neg_tmod, Int.tmod_eq_emod_of_nonneg c0]
      have hb1 : (-c).tdiv 10 = -(c / 10) := by rw [Int.neg_tdiv, Int.tdiv_eq_ediv_of_nonneg c0]
      clear HH
      by_cases hm : c % 10 = 0
      · rw [hm] at HN2 hb0
        rw [show (-(0 : Int)) = 0 from rfl] at hb0
        clear hm
        go_wp2_with (at_builtin; refine ap_law rfl (.tmp 20) (.tmp 24) rfl w.heap.size u4 l.length l rfl hown hb.size (by omega) [48 + 0] 1 rfl (by decide) (by decide) _ rfl rfl ?_; intro g cap w1 hown1 hb1)
        go_roundw
        case rel => exact ⟨c / 10, l ++ [48 + 0], by first | rfl | (congr 1; omega), by omega, by omega, HN2, by rw [List.length_append]; exact hown1, hb.trans (hb1.mono (by omega))⟩
        case measure => simp [intOf]; omega
      · have hm1 : -(c % 10) < 0 := by omega
        clear hm
        go_wp2_with (at_builtin; refine ap_law rfl (.tmp 20) (.tmp 24) rfl w.heap.size u4 l.length l rfl hown hb.size (by omega) [48 + c % 10] 1 rfl (by decide) (by decide) _ rfl rfl ?_; intro g cap w1 hown1 hb1)
        go_roundw
        case rel => exact ⟨c / 10, l ++ [48 + c % 10], by first | rfl | (congr 1; omega), by omega, by omega, HN2, by rw [List.length_append]; exact hown1, hb.trans (hb1.mono (by omega))⟩
        case measure => simp [intOf]; omega
theorem l1decimal_any (n : Int) (h0 : -9223372036854775808 ≤ n) (h1 : n ≤ 9223372036854775807) (w : World) : Calls Tryz.prog 46 #[.int .i64 n] w fun e w' => e = .returned (.string (decB n)) ∧ Below w.heap.size w w' := by
  rcases Int.lt_trichotomy n 0 with h | h | h
  · refine (show Calls Tryz.prog 46 #[.int .i64 n] w _ from by rw [show n = -((n.natAbs : Nat) : Int) by omega]; exact l1decimal_neg n.natAbs (by omega) (by omega) w).mono ?_
    rintro e w' ⟨rfl, hb⟩
    refine ⟨?_, hb⟩
    congr 2
    unfold decB Lib.itoa
    rw [if_pos h]
    apply ByteArray.ext
    rw [ByteArray.data_append]
    simp
  · subst h
    exact l1decimal_zero w
  · refine (show Calls Tryz.prog 46 #[.int .i64 n] w _ from by rw [show n = ((n.toNat : Nat) : Int) by omega]; exact l1decimal_pos n.toNat (by omega) (by omega) w).mono ?_
    rintro e w' ⟨rfl, hb⟩
    refine ⟨?_, hb⟩
    unfold decB Lib.itoa
    rw [if_neg (by omega)]
end Go.Proofs.YtcnhhhfedakepaaGreatDoor

namespace Go.Proofs.YtcnhhhfedakepaaGreatDoor
open Go.RowKit

set_option maxHeartbeats 3200000 in
theorem specQuote (s : ByteArray) (hs : s.size ≤ 4000) (w : World) :
    Calls Tryz.prog 47 #[.string s] w fun e w' => e = .returned (.string (strI (quoteI s))) ∧ Below w.heap.size w w' := by
  go_enter Tryz.func47, Tryz.ntmps47
  go_wp2_with fail
  go_loopw [4, 5] (fun v i wr => ∃ k n : Nat, k ≤ s.size ∧ i = .int .i64 k ∧ wr.ownsRow w.heap.size 5 1 v n (B8 (qt s k)) ∧ Below w.heap.size w wr) (fun _ i _ => s.size - (intOf i).toNat)
  case atStart => exact ⟨0, 1, Nat.zero_le _, rfl, own_first w 34, (Below.refl _ _).alloc (Nat.le_refl _) _⟩
  case round =>
    obtain ⟨k, n, hk, rfl, hown, hbel⟩ := hrel
    have hlen := own_len hown
    have hql := qt_len s k hk
    have hn : n ≤ 20000 := by omega
    clear hlen hql
    by_cases hlt : k < s.size
    · have hsn : Hid (qt s (k + 1) = qt s k ++ esc (s[k].toNat : Int)) := qt_succ s k hlt
      obtain ⟨c, hc⟩ : ∃ c : Int, c = (s[k].toNat : Int) := ⟨_, rfl⟩
      have hc0 : 0 ≤ c := by omega
      have hc1 : c < 256 := by have := s[k].toNat_lt; omega
      rw [← hc] at hsn
      have hidx : ∀ w, (Instr.index 9 (.string s) (.int .i64 (k : Int))).run Tryz.prog w = .ok (.int .u8 c) w := by
        intro w; rw [hc]; go_simp
      clear hc
      by_cases e1 : c = 10
      · subst e1
        go_wp2_with (at_builtin; refine ap_law rfl (.tmp 24) (.tmp 25) rfl w.heap.size _ n (qt s k) rfl hown hbel.size (by omega) [92, 110] 2 rfl (by decide) (by decide) _ rfl rfl ?_; intro g cap w1 hown1 hb1)
        go_roundw
        case rel => exact ⟨k + 1, _, by omega, by go_num, by rw [hsn.out]; exact hown1, hbel.trans hb1⟩
        case measure => simp [intOf]; omega
      have g1 : (c == 10) = false := by simp [e1]
      by_cases e2 : c = 9
      · subst e2
        go_wp2_with (at_builtin; refine ap_law rfl (.tmp 30) (.tmp 31) rfl w.heap.size _ n (qt s k) rfl hown hbel.size (by omega) [92, 116] 2 rfl (by decide) (by decide) _ rfl rfl ?_; intro g cap w1 hown1 hb1)
        go_roundw
        case rel => exact ⟨k + 1, _, by omega, by go_num, by rw [hsn.out]; exact hown1, hbel.trans hb1⟩
        case measure => simp [intOf]; omega
      have g2 : (c == 9) = false := by simp [e2]
      by_cases e3 : c = 34
      · subst e3
        go_wp2_with (at_builtin; refine ap_law rfl (.tmp 40) (.tmp 42) rfl w.heap.size _ n (qt s k) rfl hown hbel.size (by omega) [92, 34] 2 rfl (by decide) (by decide) _ rfl rfl ?_; intro g cap w1 hown1 hb1)
        go_roundw
        case rel => exact ⟨k + 1, _, by omega, by go_num, by rw [hsn.out]; exact hown1, hbel.trans hb1⟩
        case measure => simp [intOf]; omega
      have g3 : (c == 34) = false := by simp [e3]
      by_cases e4 : c = 92
      · subst e4
        go_wp2_with (at_builtin; refine ap_law rfl (.tmp 40) (.tmp 42) rfl w.heap.size _ n (qt s k) rfl hown hbel.size (by omega) [92, 92] 2 rfl (by decide) (by decide) _ rfl rfl ?_; intro g cap w1 hown1 hb1)
        go_roundw
        case rel => exact ⟨k + 1, _, by omega, by go_num, by rw [hsn.out]; exact hown1, hbel.trans hb1⟩
        case measure => simp [intOf]; omega
      have g4 : (c == 92) = false := by simp [e4]
      by_cases e5 : c < 32 ∨ 126 < c
      · have HE : Hid (esc c = [92, 120, hexd (c / 16), hexd (c % 16)]) := by unfold esc Hid; rw [if_neg e1, if_neg e2, if_neg (by omega), if_pos e5]
        clear e1 e2 e3 e4
        have i1 := DG_run (c / 16) (by omega) (by omega)
        have i2 := DG_run (c % 16) (by omega) (by omega)
        have hbit : bits .and .u8 c 15 = c % 16 := low4 c (by omega) (by omega)
        have a1 : 0 ≤ c / 16 := by omega
        have a2 : c / 16 < 16 := by omega
        have a3 : 0 ≤ c % 16 := by omega
        have a4 : c % 16 < 16 := by omega
        rcases e5 with e5 | e5
        all_goals
          go_wp2_with fail
          go_region_held3 (fun w' => True) (trivial) ((refine ap_step (by rfl) _ _ (by rfl) w.heap.size _ n (qt s k) (by rfl) hown hbel.size (by omega) [92, 120, _, _] 4 (by rfl) (by decide) (by decide) _ (by rfl) (by rfl) ?_; intro g cap w1 hown1 hb1))
          all_goals
            go_wp2
            go_roundw
            case rel => exact ⟨k + 1, _, by omega, by go_num, by rw [hsn.out, HE.out]; assumption, hbel.trans (by assumption)⟩
            case measure => simp [intOf]; omega
      · have HE : Hid (esc c = [c]) := by unfold esc Hid; rw [if_neg e1, if_neg e2, if_neg (by omega), if_neg e5]
        have e6 : ¬ c < 32 := by omega
        have e7 : ¬ 126 < c := by omega
        clear e1 e2 e3 e4 e5
        go_wp2_with (at_builtin; refine ap_law rfl (.tmp 17) (.tmp 19) rfl w.heap.size _ n (qt s k) rfl hown hbel.size (by omega) [c] 1 rfl (by decide) (by decide) _ rfl rfl ?_; intro g cap w1 hown1 hb1)
        go_roundw
        case rel => exact ⟨k + 1, _, by omega, by go_num, by rw [hsn.out, HE.out]; exact hown1, hbel.trans hb1⟩
        case measure => simp [intOf]; omega
    · have hk' : k = s.size := by omega
      subst hk'
      go_wp2_with (at_builtin; refine ap_law rfl (.tmp 62) (.tmp 63) rfl w.heap.size _ n (qt s s.size) rfl hown hbel.size (by omega) [34] 1 rfl (by decide) (by decide) _ rfl rfl ?_; intro g cap w1 hown1 hb1; have kc := conv_own hown1)
      go_ret
      exact ⟨rfl, hbel.trans hb1⟩
end Go.Proofs.YtcnhhhfedakepaaGreatDoor
