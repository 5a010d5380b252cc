import Derived.Test.YtdgbmihokecmhaaGreatDoorMM07
import Derived.Test.YtdgbmihokecmhaaGreatDoorMM03
import Derived.Test.YtdgbmihokecmhaaGreatDoorMM05
namespace Go.Proofs.YtdgbmihokecmhaaGreatDoor
open Go.RowKit
set_option linter.unusedVariables false

def exprK (k : Int) : Bool := decide (20 ≤ k ∧ k ≤ 37)
def statK (k : Int) : Bool := decide (1 ≤ k ∧ k ≤ 16)
def targK (k : Int) : Bool := decide (k = 26 ∨ k = 32 ∨ k = 33)
theorem l2expr_any (k : Int) (w : World) : Calls Tryz.prog 69 #[.int .i64 k] w fun e w' => e = .returned (.bool (exprK k)) ∧ w' = w := by
  unfold exprK
  rcases (show (20 ≤ k ∧ k ≤ 37) ∨ (20 ≤ k ∧ ¬ k ≤ 37) ∨ ¬ 20 ≤ k by omega) with ⟨h1, h2⟩ | ⟨h1, h2⟩ | h1
  · rw [decide_eq_true ⟨h1, h2⟩]
    go_enter Tryz.func69, Tryz.ntmps69
    go_wp2
    go_ret
    exact ⟨rfl, rfl⟩
  · rw [decide_eq_false (fun h => h2 h.2)]
    go_enter Tryz.func69, Tryz.ntmps69
    go_wp2
    go_ret
    exact ⟨rfl, rfl⟩
  · rw [decide_eq_false (fun h => h1 h.1)]
    go_enter Tryz.func69, Tryz.ntmps69
    go_wp2
    go_ret
    exact ⟨rfl, rfl⟩
theorem l2stat_any (k : Int) (w : World) : Calls Tryz.prog 40 #[.int .i64 k] w fun e w' => e = .returned (.bool (statK k)) ∧ w' = w := by
  unfold statK
  rcases (show (1 ≤ k ∧ k ≤ 16) ∨ (1 ≤ k ∧ ¬ k ≤ 16) ∨ ¬ 1 ≤ k by omega) with ⟨h1, h2⟩ | ⟨h1, h2⟩ | h1
  · rw [decide_eq_true ⟨h1, h2⟩]
    go_enter Tryz.func40, Tryz.ntmps40
    go_wp2
    go_ret
    exact ⟨rfl, rfl⟩
  · rw [decide_eq_false (fun h => h2 h.2)]
    go_enter Tryz.func40, Tryz.ntmps40
    go_wp2
    go_ret
    exact ⟨rfl, rfl⟩
  · rw [decide_eq_false (fun h => h1 h.1)]
    go_enter Tryz.func40, Tryz.ntmps40
    go_wp2
    go_ret
    exact ⟨rfl, rfl⟩
theorem l2target_any (k : Int) (w : World) : Calls Tryz.prog 58 #[.int .i64 k] w fun e w' => e = .returned (.bool (targK k)) ∧ w' = w := by
  unfold targK
  by_cases h1 : k = 26
  · subst h1
    go_enter Tryz.func58, Tryz.ntmps58
    go_wp2
    go_ret
    exact ⟨rfl, rfl⟩
  have g1 : (k == 26) = false := by rw [beq_eq_false_iff_ne]; exact h1
  by_cases h2 : k = 32
  · subst h2
    go_enter Tryz.func58, Tryz.ntmps58
    go_wp2
    go_ret
    exact ⟨rfl, rfl⟩
  have g2 : (k == 32) = false := by rw [beq_eq_false_iff_ne]; exact h2
  by_cases h3 : k = 33
  · subst h3
    go_enter Tryz.func58, Tryz.ntmps58
    go_wp2
    go_ret
    exact ⟨rfl, rfl⟩
  have g3 : (k == 33) = false := by rw [beq_eq_false_iff_ne]; exact h3
  rw [decide_eq_false (by omega)]
  go_enter Tryz.func58, Tryz.ntmps58
  go_wp2
  go_ret
  exact ⟨rfl, rfl⟩

set_option maxRecDepth 100000 in
set_option maxHeartbeats 1600000 in
theorem l2kid_any (w : World) (vt : Value) (ns : List Nd) (N M : Nd) (vn vk : Value) (i : Nat) (z : Nat) (ht : NdsAt w vt ns) (hn : StrsAt w vn N.nm) (hk : IntsAt w vk N.ks) (hi : N.ks[i]? = some (z : Int)) (hM : ns[z]? = some M) (hb1 : ns.length ≤ 1048576) (hb2 : N.ks.length ≤ 1048576) :
    Calls Tryz.prog 54 #[.agg #[vt], vNd N vn vk, .int .i64 i] w fun e w' => e = .returned (.int .i64 M.k) ∧ Below w.heap.size w w' := by
  have hb0 : ∀ o1 o2, Below w.heap.size w ((w.alloc o1).alloc o2) := fun o1 o2 => ((Below.refl _ w).alloc (Nat.le_refl _) o1).alloc (by simp) o2
  obtain ⟨a1, c1, rfl⟩ := ht.form
  obtain ⟨a2, c2, rfl⟩ := hn.form
  obtain ⟨a3, c3, rfl⟩ := hk.form
  obtain ⟨p1, rfl, vn1, vk1, g1⟩ := ht.get hM
  obtain ⟨p3, rfl, g3⟩ := hk.get hi
  have hz : z < ns.length := by rcases Nat.lt_or_ge z ns.length with h | h; exact h; rw [List.getElem?_eq_none h] at hM; cases hM
  have hil : i < N.ks.length := by rcases Nat.lt_or_ge i N.ks.length with h | h; exact h; rw [List.getElem?_eq_none h] at hi; cases hi
  have e1 := g1.c0
  have l1 := cell_lt g3
  have l2 := cell_lt e1
  unfold vNd
  generalize ns.length = n at hb1 hz
  generalize N.ks.length = L2 at hb2 hil
  generalize N.nm.length = L1
  generalize M.k = R at e1
  have hzi : (z : Int) < (n : Int) := by omega
  have hii : (i : Int) < (L2 : Int) := by omega
  have hz0 : (0 : Int) ≤ (z : Int) := by omega
  have hi0 : (0 : Int) ≤ (i : Int) := by omega
  clear ht hn hk hi hM g1
  obtain ⟨nk, nf, nt, nl, nop, nn, nx, nnm, nks⟩ := N
  simp only
  go_enter Tryz.func54, Tryz.ntmps54
  go_wp2_with fail
  go_quiet (fail)
  go_wp2_with fail
  go_ret
  exact ⟨rfl, bel_drew (hb0 _ _) _⟩

/-- The kind of a node's kid j. -/
def kidK (ns : List Nd) (N : Nd) (j : Nat) : Int := (ns.getD ((N.ks.getD j 0).toNat) zNd).k
/-- f kids from j on are expressions. -/
def exB (ns : List Nd) (N : Nd) : Nat → Nat → Bool
  | 0, _ => true
  | f + 1, j => exprK (kidK ns N j) && exB ns N f (j + 1)
structure ExIs (ns : List Nd) (N : Nd) (f j : Nat) (R : Bool) : Prop where
  out : exB ns N f j = R
/-- A node's kids are nodes. -/
structure KidsOk (ns : List Nd) (N : Nd) : Prop where
  ok : ∀ z ∈ N.ks, 0 ≤ z ∧ z < (ns.length : Int)
theorem KidsOk.get {ns : List Nd} {N : Nd} (h : KidsOk ns N) {j : Nat} (hj : j < N.ks.length) : ∃ (z : Nat) (M : Nd), N.ks[j]? = some (z : Int) ∧ ns[z]? = some M ∧ kidK ns N j = M.k ∧ z < ns.length := by
  have e1 : N.ks[j]? = some N.ks[j] := List.getElem?_eq_getElem hj
  obtain ⟨h0, h1⟩ := h.ok N.ks[j] (List.getElem_mem hj)
  obtain ⟨z, hz⟩ : ∃ z : Nat, N.ks[j] = (z : Int) := ⟨N.ks[j].toNat, by omega⟩
  have hzl : z < ns.length := by omega
  refine ⟨z, ns[z], by rw [e1, hz], List.getElem?_eq_getElem hzl, ?_, hzl⟩
  unfold kidK
  rw [List.getD_eq_getElem?_getD, List.getD_eq_getElem?_getD, e1, hz]
  simp [hzl]

set_option maxRecDepth 100000 in
set_option maxHeartbeats 1600000 in
theorem l2exprs_any (w : World) (vt : Value) (ns : List Nd) (N : Nd) (vn vk : Value) (i k : Nat) (ht : NdsAt w vt ns) (hn : StrsAt w vn N.nm) (hk : IntsAt w vk N.ks) (hK : KidsOk ns N) (hkl : k ≤ N.ks.length) (hb1 : ns.length ≤ 1048576) (hb2 : N.ks.length ≤ 1048576) :
    Calls Tryz.prog 57 #[.agg #[vt], vNd N vn vk, .int .i64 i, .int .i64 k] w fun e w' => e = .returned (.bool (exB ns N (k - i) i)) ∧ Below w.heap.size w w' := by
  obtain ⟨R, hR⟩ : ∃ R, exB ns N (k - i) i = R := ⟨_, rfl⟩
  rw [hR]
  have HR : ExIs ns N (k - i) i R := ⟨hR⟩
  clear hR
  have hb0 : ∀ o1 o2, Below w.heap.size w ((w.alloc o1).alloc o2) := fun o1 o2 => ((Below.refl _ w).alloc (Nat.le_refl _) o1).alloc (by simp) o2
  have HT : Hid (NdsAt w vt ns ∧ IntsAt w vk N.ks) := ⟨ht, hk⟩
  obtain ⟨a1, c1, rfl⟩ := ht.form
  obtain ⟨a2, c2, rfl⟩ := hn.form
  obtain ⟨a3, c3, rfl⟩ := hk.form
  clear ht hn hk
  unfold vNd
  obtain ⟨n, hn⟩ : ∃ n, ns.length = n := ⟨_, rfl⟩
  obtain ⟨L2, hL2⟩ : ∃ n, N.ks.length = n := ⟨_, rfl⟩
  have HL : Hid (ns.length = n ∧ N.ks.length = L2) := ⟨hn, hL2⟩
  rw [hn] at HT hb1 ⊢
  rw [hL2] at HT hb2 hkl ⊢
  clear hn hL2
  generalize N.nm.length = L1
  go_enter Tryz.func57, Tryz.ntmps57
  go_wp2_with fail
  obtain ⟨W2, hW2⟩ : ∃ W2, (w.alloc (.cells #[.slice a1 n c1] 30)).alloc (.cells #[.int .i64 N.k, .int .i64 N.f, .int .i64 N.t, .int .i64 N.l, .int .i64 N.op, .int .i64 N.n, .string N.x, .slice a2 L1 c2, .slice a3 L2 c3] 67) = W2 := ⟨_, rfl⟩
  have d1 : W2.cell? ⟨w.heap.size, 0, none⟩ = some (.slice a1 n c1) := by
    rw [← hW2, cell_of_row _ _ _ _ _ _ ((Below.heap_alloc _ _ _ (by simp)).trans (heap_alloc_new w _))]; rfl
  have d2 : W2.cell? ⟨w.heap.size + 1, 8, none⟩ = some (.slice a3 L2 c3) := by
    have := heap_alloc_new (w.alloc (.cells #[.slice a1 n c1] 30)) (.cells #[.int .i64 N.k, .int .i64 N.f, .int .i64 N.t, .int .i64 N.l, .int .i64 N.op, .int .i64 N.n, .string N.x, .slice a2 L1 c2, .slice a3 L2 c3] 67)
    rw [World.size_alloc] at this
    rw [← hW2, cell_of_row _ _ _ _ _ _ this]; rfl
  have hB2 : Below w.heap.size w W2 := by rw [← hW2]; exact hb0 _ _
  rw [hW2]
  clear hW2 hb0
  go_loopw [9] (fun vj wr => ∃ (j : Nat), vj = .int .i64 j ∧ i ≤ j ∧ (i ≤ k → j ≤ k) ∧ ExIs ns N (k - j) j R ∧ Below W2.heap.size W2 wr) (fun vj _ => k - (intOf vj).toNat)
  case atStart => exact ⟨i, rfl, Nat.le_refl _, fun h => h, HR, Below.refl _ _⟩
  case round =>
    obtain ⟨j, rfl, hij, hjk, HJ, hb⟩ := hrel
    have hbw := hB2.trans (hb.mono hB2.size)
    by_cases hlt : j < k
    · obtain ⟨z, M, e1, e2, e3, e4⟩ := hK.get (j := j) (by rw [HL.out.2]; omega)
      rw [HL.out.1] at e4
      obtain ⟨p1, rfl, vn1, vk1, g1⟩ := (HT.out.1.below hbw).get e2
      obtain ⟨p3, rfl, g3⟩ := (HT.out.2.below hbw).get e1
      have f1 := cell_kept hb d1
      have f2 := cell_kept hb d2
      have f3 := g1.c0
      have hst := HJ.out
      rw [show k - j = (k - (j + 1)) + 1 by omega, exB, e3] at hst
      have hji : (j : Int) < (k : Int) := by omega
      have hjl : (j : Int) < (L2 : Int) := by omega
      have hzi : (z : Int) < (n : Int) := by omega
      have hz0 : (0 : Int) ≤ (z : Int) := by omega
      have hj0 : (0 : Int) ≤ (j : Int) := by omega
      have ke := fun w => l2expr_any M.k w
      generalize M.k = m at f3 hst ke
      clear e1 e2 e3 g1
      cases hx : exprK m with
      | true =>
        rw [hx, Bool.true_and] at hst
        rw [hx] at ke
        have HS : ExIs ns N (k - (j + 1)) (j + 1) R := ⟨hst⟩
        clear hst hx
        go_wp2_with fail
        go_quiet ((go_at_call 69; exact Calls.quiet_of_same (ke _)))
        go_wp2_with fail
        exact ⟨⟨j + 1, by go_num, by omega, fun _ => by omega, HS, bel_drew hb _⟩, by simp [intOf]; omega⟩
      | false =>
        rw [hx, Bool.false_and] at hst
        rw [hx] at ke
        have HS : Hid (false = R) := hst
        clear hst hx
        go_wp2_with fail
        go_quiet ((go_at_call 69; exact Calls.quiet_of_same (ke _)))
        go_wp2_with fail
        go_ret
        exact ⟨by rw [← HS.out]; rfl, bel_drew hbw _⟩
    · have hst := HJ.out
      rw [show k - j = 0 by omega, exB] at hst
      have HS : Hid (true = R) := hst
      have hji : ¬ (j : Int) < (k : Int) := by omega
      clear hst
      go_wp2_with fail
      go_ret
      exact ⟨by rw [← HS.out]; rfl, hbw⟩
end Go.Proofs.YtdgbmihokecmhaaGreatDoor

namespace Go.Proofs.YtdgbmihokecmhaaGreatDoor
open Go.RowKit Go.Maps Go.WideMaps
set_option linter.unusedVariables false

/-- f names from j on are names. -/
def nmsB (l : List ByteArray) : Nat → Nat → Bool
  | 0, _ => true
  | f + 1, j => nmok (l.getD j ByteArray.empty) && nmsB l f (j + 1)
structure NmsIs (l : List ByteArray) (f j : Nat) (R : Bool) : Prop where
  out : nmsB l f j = R
def namedB (N : Nd) (least most : Int) : Bool := decide (least ≤ (N.nm.length : Int) ∧ (N.nm.length : Int) ≤ most) && nmsB N.nm N.nm.length 0

set_option maxRecDepth 100000 in
set_option maxHeartbeats 1600000 in
theorem l2named_any (w : World) (N : Nd) (vn vk : Value) (least most : Int) (hn : StrsAt w vn N.nm) (hk : IntsAt w vk N.ks) (hl : N.nm.length ≤ 1048576) (hs : ∀ s ∈ N.nm, s.size ≤ 1048576) :
    Calls Tryz.prog 56 #[vNd N vn vk, .int .i64 least, .int .i64 most] w fun e w' => e = .returned (.bool (namedB N least most)) ∧ Below w.heap.size w w' := by
  have hb0 : ∀ o, Below w.heap.size w (w.alloc o) := fun o => (Below.refl _ w).alloc (Nat.le_refl _) o
  have HT : Hid (StrsAt w vn N.nm ∧ ∀ s ∈ N.nm, s.size ≤ 1048576) := ⟨hn, hs⟩
  obtain ⟨a2, c2, rfl⟩ := hn.form
  obtain ⟨a3, c3, rfl⟩ := hk.form
  clear hn hk hs
  obtain ⟨R, hR⟩ : ∃ R, namedB N least most = R := ⟨_, rfl⟩
  rw [hR]
  unfold namedB at hR
  unfold vNd
  obtain ⟨L1, hL1⟩ : ∃ n, N.nm.length = n := ⟨_, rfl⟩
  have HL : Hid (N.nm.length = L1) := hL1
  rw [hL1] at HT hl hR ⊢
  clear hL1
  generalize N.ks.length = L2
  by_cases g1 : (L1 : Int) < least
  · have HR : Hid (false = R) := by rw [decide_eq_false (by omega)] at hR; exact hR
    clear hR
    go_enter Tryz.func56, Tryz.ntmps56
    go_wp2
    go_ret
    exact ⟨by rw [← HR.out]; rfl, hb0 _⟩
  by_cases g2 : most < (L1 : Int)
  · have HR : Hid (false = R) := by rw [decide_eq_false (by omega)] at hR; exact hR
    clear hR
    go_enter Tryz.func56, Tryz.ntmps56
    go_wp2
    go_ret
    exact ⟨by rw [← HR.out]; rfl, hb0 _⟩
  have HR : NmsIs N.nm L1 0 R := ⟨by rw [decide_eq_true (by omega)] at hR; simpa using hR⟩
  clear hR
  go_enter Tryz.func56, Tryz.ntmps56
  go_wp2_with fail
  have hB2 := hb0 (.cells #[.int .i64 N.k, .int .i64 N.f, .int .i64 N.t, .int .i64 N.l, .int .i64 N.op, .int .i64 N.n, .string N.x, .slice a2 L1 c2, .slice a3 L2 c3] 67)
  generalize w.alloc (.cells #[.int .i64 N.k, .int .i64 N.f, .int .i64 N.t, .int .i64 N.l, .int .i64 N.op, .int .i64 N.n, .string N.x, .slice a2 L1 c2, .slice a3 L2 c3] 67) = W2 at hB2 ⊢
  clear hb0
  go_loopw [24, 8] (fun vj _ wr => ∃ (j : Nat), vj = .int .i64 j ∧ j ≤ L1 ∧ NmsIs N.nm (L1 - j) j R ∧ Below W2.heap.size W2 wr) (fun vj _ _ => L1 - (intOf vj).toNat)
  case atStart => exact ⟨0, rfl, by omega, HR, Below.refl _ _⟩
  case round =>
    obtain ⟨j, rfl, hj, HJ, hb⟩ := hrel
    have hbw := hB2.trans (hb.mono hB2.size)
    have hst := HJ.out
    by_cases hlt : j < L1
    · obtain ⟨s, hsk⟩ := some_at HL.out hlt
      have hss := HT.out.2 s (List.mem_of_getElem? hsk)
      obtain ⟨p3, rfl, g3⟩ := (HT.out.1.below hbw).get hsk
      rw [show L1 - j = (L1 - (j + 1)) + 1 by omega, nmsB, List.getD_eq_getElem?_getD, hsk, Option.getD_some] at hst
      have hji : (j : Int) < (L1 : Int) := by omega
      have hj0 : (0 : Int) ≤ (j : Int) := by omega
      have ke := l1nameok_any s (by omega) wr
      clear hsk
      cases hx : nmok s with
      | true =>
        rw [hx, Bool.true_and] at hst
        rw [hx] at ke
        have HS : NmsIs N.nm (L1 - (j + 1)) (j + 1) R := ⟨hst⟩
        clear hst hx
        go_wp2_with (go_at_call 60; refine ke.mono ?_; rintro e w3 ⟨rfl, hb3⟩)
        exact ⟨⟨j + 1, by go_num, by omega, HS, hb.trans (hb3.mono hb.size)⟩, by simp [intOf]; omega⟩
      | false =>
        rw [hx, Bool.false_and] at hst
        rw [hx] at ke
        have HS : Hid (false = R) := hst
        clear hst hx
        go_wp2_with (go_at_call 60; refine ke.mono ?_; rintro e w3 ⟨rfl, hb3⟩)
        go_ret
        exact ⟨by rw [← HS.out]; rfl, hbw.trans (hb3.mono hbw.size)⟩
    · rw [show L1 - j = 0 by omega, nmsB] at hst
      have HS : Hid (true = R) := hst
      have hji : ¬ (j : Int) < (L1 : Int) := by omega
      clear hst
      go_wp2_with fail
      go_ret
      exact ⟨by rw [← HS.out]; rfl, hbw⟩
end Go.Proofs.YtdgbmihokecmhaaGreatDoor

namespace Go.Proofs.YtdgbmihokecmhaaGreatDoor
open Go.RowKit
set_option linter.unusedVariables false

def emptyB (x : ByteArray) : Bool := decide (x.toList = [])
def bareB (N : Nd) (op num text names : Bool) : Bool := (op || N.op == 0) && (num || N.n == 0) && (text || emptyB N.x) && (names || decide (N.nm.length = 0))

set_option maxRecDepth 100000 in
set_option maxHeartbeats 1600000 in
theorem l2bare_ffff (w : World) (N : Nd) (vn vk : Value) (hn : StrsAt w vn N.nm) (hk : IntsAt w vk N.ks) (hl : N.nm.length ≤ 1048576) :
    Calls Tryz.prog 55 #[vNd N vn vk, .bool false, .bool false, .bool false, .bool false] w fun e w' => e = .returned (.bool (bareB N false false false false)) ∧ Below w.heap.size w w' := by
  have hb0 : ∀ o, Below w.heap.size w (w.alloc o) := fun o => (Below.refl _ w).alloc (Nat.le_refl _) o
  obtain ⟨a2, c2, rfl⟩ := hn.form
  obtain ⟨a3, c3, rfl⟩ := hk.form
  clear hn hk
  obtain ⟨R, hR⟩ : ∃ R, bareB N false false false false = R := ⟨_, rfl⟩
  rw [hR]
  unfold vNd
  generalize N.ks.length = L2
  obtain ⟨nk, nf, nt, nl, nop, nn, nx, nnm, nks⟩ := N
  simp only at hl ⊢
  unfold bareB emptyB at hR
  simp only at hR
  obtain ⟨L1, hL1⟩ : ∃ L1, nnm.length = L1 := ⟨_, rfl⟩
  rw [hL1] at hl hR ⊢
  clear hL1
  cases t1 : (nop == 0) with
  | false =>
    rw [t1] at hR
    have HR : Hid (false = R) := by first | exact hR | simpa using hR
    clear hR
    go_enter Tryz.func55, Tryz.ntmps55
    go_wp2
    go_ret
    exact ⟨by rw [← HR.out]; rfl, hb0 _⟩
  | true =>
    rw [t1] at hR
    cases t2 : (nn == 0) with
    | false =>
      rw [t2] at hR
      have HR : Hid (false = R) := by first | exact hR | simpa using hR
      clear hR
      go_enter Tryz.func55, Tryz.ntmps55
      go_wp2
      go_ret
      exact ⟨by rw [← HR.out]; rfl, hb0 _⟩
    | true =>
      rw [t2] at hR
      by_cases t3 : nx.toList = []
      case neg =>
        rw [decide_eq_false t3] at hR
        have HR : Hid (false = R) := by first | exact hR | simpa using hR
        clear hR
        go_enter Tryz.func55, Tryz.ntmps55
        go_wp2
        go_ret
        exact ⟨by rw [← HR.out]; rfl, hb0 _⟩
      rw [decide_eq_true t3] at hR
      by_cases h4 : L1 = 0
      · subst h4
        have HR : Hid (true = R) := by first | exact hR | simpa using hR
        clear hR
        go_enter Tryz.func55, Tryz.ntmps55
        go_wp2
        go_ret
        exact ⟨by rw [← HR.out]; rfl, hb0 _⟩
      · have t4 : ((L1 : Int) == 0) = false := by rw [beq_eq_false_iff_ne]; omega
        rw [decide_eq_false h4] at hR
        have HR : Hid (false = R) := by first | exact hR | simpa using hR
        clear hR
        go_enter Tryz.func55, Tryz.ntmps55
        go_wp2
        go_ret
        exact ⟨by rw [← HR.out]; rfl, hb0 _⟩

set_option maxRecDepth 100000 in
set_option maxHeartbeats 1600000 in
theorem l2bare_ffft (w : World) (N : Nd) (vn vk : Value) (hn : StrsAt w vn N.nm) (hk : IntsAt w vk N.ks) (hl : N.nm.length ≤ 1048576) :
    Calls Tryz.prog 55 #[vNd N vn vk, .bool false, .bool false, .bool false, .bool true] w fun e w' => e = .returned (.bool (bareB N false false false true)) ∧ Below w.heap.size w w' := by
  have hb0 : ∀ o, Below w.heap.size w (w.alloc o) := fun o => (Below.refl _ w).alloc (Nat.le_refl _) o
  obtain ⟨a2, c2, rfl⟩ := hn.form
  obtain ⟨a3, c3, rfl⟩ := hk.form
  clear hn hk
  obtain ⟨R, hR⟩ : ∃ R, bareB N false false false true = R := ⟨_, rfl⟩
  rw [hR]
  unfold vNd
  generalize N.ks.length = L2
  obtain ⟨nk, nf, nt, nl, nop, nn, nx, nnm, nks⟩ := N
  simp only at hl ⊢
  unfold bareB emptyB at hR
  simp only at hR
  obtain ⟨L1, hL1⟩ : ∃ L1, nnm.length = L1 := ⟨_, rfl⟩
  rw [hL1] at hl hR ⊢
  clear hL1
  cases t1 : (nop == 0) with
  | false =>
    rw [t1] at hR
    have HR : Hid (false = R) := by first | exact hR | simpa using hR
    clear hR
    go_enter Tryz.func55, Tryz.ntmps55
    go_wp2
    go_ret
    exact ⟨by rw [← HR.out]; rfl, hb0 _⟩
  | true =>
    rw [t1] at hR
    cases t2 : (nn == 0) with
    | false =>
      rw [t2] at hR
      have HR : Hid (false = R) := by first | exact hR | simpa using hR
      clear hR
      go_enter Tryz.func55, Tryz.ntmps55
      go_wp2
      go_ret
      exact ⟨by rw [← HR.out]; rfl, hb0 _⟩
    | true =>
      rw [t2] at hR
      by_cases t3 : nx.toList = []
      case neg =>
        rw [decide_eq_false t3] at hR
        have HR : Hid (false = R) := by first | exact hR | simpa using hR
        clear hR
        go_enter Tryz.func55, Tryz.ntmps55
        go_wp2
        go_ret
        exact ⟨by rw [← HR.out]; rfl, hb0 _⟩
      rw [decide_eq_true t3] at hR
      have HR : Hid (true = R) := by first | exact hR | simpa using hR
      clear hR
      go_enter Tryz.func55, Tryz.ntmps55
      go_wp2
      go_ret
      exact ⟨by rw [← HR.out]; rfl, hb0 _⟩

set_option maxRecDepth 100000 in
set_option maxHeartbeats 1600000 in
theorem l2bare_ftff (w : World) (N : Nd) (vn vk : Value) (hn : StrsAt w vn N.nm) (hk : IntsAt w vk N.ks) (hl : N.nm.length ≤ 1048576) :
    Calls Tryz.prog 55 #[vNd N vn vk, .bool false, .bool true, .bool false, .bool false] w fun e w' => e = .returned (.bool (bareB N false true false false)) ∧ Below w.heap.size w w' := by
  have hb0 : ∀ o, Below w.heap.size w (w.alloc o) := fun o => (Below.refl _ w).alloc (Nat.le_refl _) o
  obtain ⟨a2, c2, rfl⟩ := hn.form
  obtain ⟨a3, c3, rfl⟩ := hk.form
  clear hn hk
  obtain ⟨R, hR⟩ : ∃ R, bareB N false true false false = R := ⟨_, rfl⟩
  rw [hR]
  unfold vNd
  generalize N.ks.length = L2
  obtain ⟨nk, nf, nt, nl, nop, nn, nx, nnm, nks⟩ := N
  simp only at hl ⊢
  unfold bareB emptyB at hR
  simp only at hR
  obtain ⟨L1, hL1⟩ : ∃ L1, nnm.length = L1 := ⟨_, rfl⟩
  rw [hL1] at hl hR ⊢
  clear hL1
  cases t1 : (nop == 0) with
  | false =>
    rw [t1] at hR
    have HR : Hid (false = R) := by first | exact hR | simpa using hR
    clear hR
    go_enter Tryz.func55, Tryz.ntmps55
    go_wp2
    go_ret
    exact ⟨by rw [← HR.out]; rfl, hb0 _⟩
  | true =>
    rw [t1] at hR
    by_cases t3 : nx.toList = []
    case neg =>
      rw [decide_eq_false t3] at hR
      have HR : Hid (false = R) := by first | exact hR | simpa using hR
      clear hR
      go_enter Tryz.func55, Tryz.ntmps55
      go_wp2
      go_ret
      exact ⟨by rw [← HR.out]; rfl, hb0 _⟩
    rw [decide_eq_true t3] at hR
    by_cases h4 : L1 = 0
    · subst h4
      have HR : Hid (true = R) := by first | exact hR | simpa using hR
      clear hR
      go_enter Tryz.func55, Tryz.ntmps55
      go_wp2
      go_ret
      exact ⟨by rw [← HR.out]; rfl, hb0 _⟩
    · have t4 : ((L1 : Int) == 0) = false := by rw [beq_eq_false_iff_ne]; omega
      rw [decide_eq_false h4] at hR
      have HR : Hid (false = R) := by first | exact hR | simpa using hR
      clear hR
      go_enter Tryz.func55, Tryz.ntmps55
      go_wp2
      go_ret
      exact ⟨by rw [← HR.out]; rfl, hb0 _⟩

set_option maxRecDepth 100000 in
set_option maxHeartbeats 1600000 in
theorem l2bare_fftf (w : World) (N : Nd) (vn vk : Value) (hn : StrsAt w vn N.nm) (hk : IntsAt w vk N.ks) (hl : N.nm.length ≤ 1048576) :
    Calls Tryz.prog 55 #[vNd N vn vk, .bool false, .bool false, .bool true, .bool false] w fun e w' => e = .returned (.bool (bareB N false false true false)) ∧ Below w.heap.size w w' := by
  have hb0 : ∀ o, Below w.heap.size w (w.alloc o) := fun o => (Below.refl _ w).alloc (Nat.le_refl _) o
  obtain ⟨a2, c2, rfl⟩ := hn.form
  obtain ⟨a3, c3, rfl⟩ := hk.form
  clear hn hk
  obtain ⟨R, hR⟩ : ∃ R, bareB N false false true false = R := ⟨_, rfl⟩
  rw [hR]
  unfold vNd
  generalize N.ks.length = L2
  obtain ⟨nk, nf, nt, nl, nop, nn, nx, nnm, nks⟩ := N
  simp only at hl ⊢
  unfold bareB emptyB at hR
  simp only at hR
  obtain ⟨L1, hL1⟩ : ∃ L1, nnm.length = L1 := ⟨_, rfl⟩
  rw [hL1] at hl hR ⊢
  clear hL1
  cases t1 : (nop == 0) with
  | false =>
    rw [t1] at hR
    have HR : Hid (false = R) := by first | exact hR | simpa using hR
    clear hR
    go_enter Tryz.func55, Tryz.ntmps55
    go_wp2
    go_ret
    exact ⟨by rw [← HR.out]; rfl, hb0 _⟩
  | true =>
    rw [t1] at hR
    cases t2 : (nn == 0) with
    | false =>
      rw [t2] at hR
      have HR : Hid (false = R) := by first | exact hR | simpa using hR
      clear hR
      go_enter Tryz.func55, Tryz.ntmps55
      go_wp2
      go_ret
      exact ⟨by rw [← HR.out]; rfl, hb0 _⟩
    | true =>
      rw [t2] at hR
      by_cases h4 : L1 = 0
      · subst h4
        have HR : Hid (true = R) := by first | exact hR | simpa using hR
        clear hR
        go_enter Tryz.func55, Tryz.ntmps55
        go_wp2
        go_ret
        exact ⟨by rw [← HR.out]; rfl, hb0 _⟩
      · have t4 : ((L1 : Int) == 0) = false := by rw [beq_eq_false_iff_ne]; omega
        rw [decide_eq_false h4] at hR
        have HR : Hid (false = R) := by first | exact hR | simpa using hR
        clear hR
        go_enter Tryz.func55, Tryz.ntmps55
        go_wp2
        go_ret
        exact ⟨by rw [← HR.out]; rfl, hb0 _⟩

set_option maxRecDepth 100000 in
set_option maxHeartbeats 1600000 in
theorem l2bare_tfff (w : World) (N : Nd) (vn vk : Value) (hn : StrsAt w vn N.nm) (hk : IntsAt w vk N.ks) (hl : N.nm.length ≤ 1048576) :
    Calls Tryz.prog 55 #[vNd N vn vk, .bool true, .bool false, .bool false, .bool false] w fun e w' => e = .returned (.bool (bareB N true false false false)) ∧ Below w.heap.size w w' := by
  have hb0 : ∀ o, Below w.heap.size w (w.alloc o) := fun o => (Below.refl _ w).alloc (Nat.le_refl _) o
  obtain ⟨a2, c2, rfl⟩ := hn.form
  obtain ⟨a3, c3, rfl⟩ := hk.form
  clear hn hk
  obtain ⟨R, hR⟩ : ∃ R, bareB N true false false false = R := ⟨_, rfl⟩
  rw [hR]
  unfold vNd
  generalize N.ks.length = L2
  obtain ⟨nk, nf, nt, nl, nop, nn, nx, nnm, nks⟩ := N
  simp only at hl ⊢
  unfold bareB emptyB at hR
  simp only at hR
  obtain ⟨L1, hL1⟩ : ∃ L1, nnm.length = L1 := ⟨_, rfl⟩
  rw [hL1] at hl hR ⊢
  clear hL1
  cases t2 : (nn == 0) with
  | false =>
    rw [t2] at hR
    have HR : Hid (false = R) := by first | exact hR | simpa using hR
    clear hR
    go_enter Tryz.func55, Tryz.ntmps55
    go_wp2
    go_ret
    exact ⟨by rw [← HR.out]; rfl, hb0 _⟩
  | true =>
    rw [t2] at hR
    by_cases t3 : nx.toList = []
    case neg =>
      rw [decide_eq_false t3] at hR
      have HR : Hid (false = R) := by first | exact hR | simpa using hR
      clear hR
      go_enter Tryz.func55, Tryz.ntmps55
      go_wp2
      go_ret
      exact ⟨by rw [← HR.out]; rfl, hb0 _⟩
    rw [decide_eq_true t3] at hR
    by_cases h4 : L1 = 0
    · subst h4
      have HR : Hid (true = R) := by first | exact hR | simpa using hR
      clear hR
      go_enter Tryz.func55, Tryz.ntmps55
      go_wp2
      go_ret
      exact ⟨by rw [← HR.out]; rfl, hb0 _⟩
    · have t4 : ((L1 : Int) == 0) = false := by rw [beq_eq_false_iff_ne]; omega
      rw [decide_eq_false h4] at hR
      have HR : Hid (false = R) := by first | exact hR | simpa using hR
      clear hR
      go_enter Tryz.func55, Tryz.ntmps55
      go_wp2
      go_ret
      exact ⟨by rw [← HR.out]; rfl, hb0 _⟩

set_option maxRecDepth 100000 in
set_option maxHeartbeats 1600000 in
theorem l2bare_tfft (w : World) (N : Nd) (vn vk : Value) (hn : StrsAt w vn N.nm) (hk : IntsAt w vk N.ks) (hl : N.nm.length ≤ 1048576) :
    Calls Tryz.prog 55 #[vNd N vn vk, .bool true, .bool false, .bool false, .bool true] w fun e w' => e = .returned (.bool (bareB N true false false true)) ∧ Below w.heap.size w w' := by
  have hb0 : ∀ o, Below w.heap.size w (w.alloc o) := fun o => (Below.refl _ w).alloc (Nat.le_refl _) o
  obtain ⟨a2, c2, rfl⟩ := hn.form
  obtain ⟨a3, c3, rfl⟩ := hk.form
  clear hn hk
  obtain ⟨R, hR⟩ : ∃ R, bareB N true false false true = R := ⟨_, rfl⟩
  rw [hR]
  unfold vNd
  generalize N.ks.length = L2
  obtain ⟨nk, nf, nt, nl, nop, nn, nx, nnm, nks⟩ := N
  simp only at hl ⊢
  unfold bareB emptyB at hR
  simp only at hR
  obtain ⟨L1, hL1⟩ : ∃ L1, nnm.length = L1 := ⟨_, rfl⟩
  rw [hL1] at hl hR ⊢
  clear hL1
  cases t2 : (nn == 0) with
  | false =>
    rw [t2] at hR
    have HR : Hid (false = R) := by first | exact hR | simpa using hR
    clear hR
    go_enter Tryz.func55, Tryz.ntmps55
    go_wp2
    go_ret
    exact ⟨by rw [← HR.out]; rfl, hb0 _⟩
  | true =>
    rw [t2] at hR
    by_cases t3 : nx.toList = []
    case neg =>
      rw [decide_eq_false t3] at hR
      have HR : Hid (false = R) := by first | exact hR | simpa using hR
      clear hR
      go_enter Tryz.func55, Tryz.ntmps55
      go_wp2
      go_ret
      exact ⟨by rw [← HR.out]; rfl, hb0 _⟩
    rw [decide_eq_true t3] at hR
    have HR : Hid (true = R) := by first | exact hR | simpa using hR
    clear hR
    go_enter Tryz.func55, Tryz.ntmps55
    go_wp2
    go_ret
    exact ⟨by rw [← HR.out]; rfl, hb0 _⟩
end Go.Proofs.YtdgbmihokecmhaaGreatDoor

namespace Go.Proofs.YtdgbmihokecmhaaGreatDoor
open Go.RowKit Go.Maps Go.WideMaps
set_option linter.unusedVariables false

def stp (a : Option Nat) (c : UInt8) : Option Nat := match a with | none => none | some x => if x * 10 + (c.toNat - 48) ≤ 9223372036854775807 then some (x * 10 + (c.toNat - 48)) else none
theorem stp_none : ∀ l : List UInt8, l.foldl stp none = none
  | [] => rfl
  | c :: r => stp_none r
theorem pu_big : ∀ (l : List UInt8) (acc : Nat), (∀ c ∈ l, 48 ≤ c.toNat ∧ c.toNat ≤ 57) → 9223372036854775808 ≤ acc → Lib.parseUintM (2 ^ 64 - 1) acc l = .range ∨ ∃ u, Lib.parseUintM (2 ^ 64 - 1) acc l = .ok u ∧ 9223372036854775808 ≤ u
  | [], acc, _, h => .inr ⟨acc, rfl, h⟩
  | c :: r, acc, hd, h => by
    have hc := hd c (by simp)
    unfold Lib.parseUintM
    rw [if_pos hc, if_pos (by omega)]
    exact .inl rfl
theorem pu_dec : ∀ (l : List UInt8) (acc : Nat), (∀ c ∈ l, 48 ≤ c.toNat ∧ c.toNat ≤ 57) → acc ≤ 9223372036854775807 → (∀ u, l.foldl stp (some acc) = some u → Lib.parseUintM (2 ^ 64 - 1) acc l = .ok u ∧ u ≤ 9223372036854775807) ∧ (l.foldl stp (some acc) = none → Lib.parseUintM (2 ^ 64 - 1) acc l = .range ∨ ∃ u, Lib.parseUintM (2 ^ 64 - 1) acc l = .ok u ∧ 9223372036854775808 ≤ u)
  | [], acc, _, h => by
    refine ⟨fun u hu => ?_, fun hn => by simp at hn⟩
    simp at hu
    subst hu
    exact ⟨rfl, h⟩
  | c :: r, acc, hd, h => by
    have hc := hd c (by simp)
    have hr : ∀ x ∈ r, 48 ≤ x.toNat ∧ x.toNat ≤ 57 := fun x hx => hd x (by simp [hx])
    rw [List.foldl_cons, show stp (some acc) c = if acc * 10 + (c.toNat - 48) ≤ 9223372036854775807 then some (acc * 10 + (c.toNat - 48)) else none from rfl]
    by_cases hle : acc * 10 + (c.toNat - 48) ≤ 9223372036854775807
    · rw [if_pos hle]
      have ih := pu_dec r (acc * 10 + (c.toNat - 48)) hr hle
      have e : Lib.parseUintM (2 ^ 64 - 1) acc (c :: r) = Lib.parseUintM (2 ^ 64 - 1) (acc * 10 + (c.toNat - 48)) r := by
        rw [Lib.parseUintM, if_pos hc, if_neg (by omega), if_neg (by omega)]
      rw [e]
      exact ih
    · rw [if_neg hle, stp_none r]
      refine ⟨fun u hu => (by cases hu), fun _ => ?_⟩
      rw [Lib.parseUintM, if_pos hc]
      by_cases h1 : 1844674407370955162 ≤ acc
      · rw [if_pos h1]; exact .inl rfl
      · rw [if_neg h1]
        by_cases h2 : 2 ^ 64 - 1 < acc * 10 + (c.toNat - 48)
        · rw [if_pos h2]; exact .inl rfl
        · rw [if_neg h2]; exact pu_big r _ hr (by omega)
theorem pu_bad : ∀ (l : List UInt8) (acc : Nat), (∃ c ∈ l, ¬ (48 ≤ c.toNat ∧ c.toNat ≤ 57)) → ∀ u, Lib.parseUintM (2 ^ 64 - 1) acc l ≠ .ok u
  | [], _, h, u => by obtain ⟨c, hc, _⟩ := h; simp at hc
  | c :: r, acc, h, u => by
    rw [Lib.parseUintM]
    by_cases hc : 48 ≤ c.toNat ∧ c.toNat ≤ 57
    · rw [if_pos hc]
      split
      · intro h; cases h
      · split
        · intro h; cases h
        · refine pu_bad r _ ?_ u
          obtain ⟨d, hd, hn⟩ := h
          rcases List.mem_cons.1 hd with rfl | hd
          · exact absurd hc hn
          · exact ⟨d, hd, hn⟩
    · rw [if_neg hc]; intro h; cases h

/-- The digits' number, from p on, n of them; none where it is above the greatest int. -/
def dcS (s : ByteArray) (p : Nat) : Nat → Option Nat
  | 0 => some 0
  | n + 1 => match dcS s p n with | none => none | some x => if x * 10 + (bat s (p + n) - 48).toNat ≤ 9223372036854775807 then some (x * 10 + (bat s (p + n) - 48).toNat) else none
theorem dcS_fold (s : ByteArray) (p : Nat) : ∀ n, p + n ≤ s.size → dcS s p n = ((s.data.toList.drop p).take n).foldl stp (some 0)
  | 0, _ => rfl
  | n + 1, h => by
    have hlt : p + n < s.data.toList.length := by rw [Array.length_toList]; exact h
    have e : (s.data.toList.drop p)[n]? = some (s.data.toList[p + n]) := by rw [List.getElem?_drop]; exact List.getElem?_eq_getElem hlt
    have hb : bat s (p + n) = ((s.data.toList[p + n]).toNat : Int) := ((bat_list s (p + n) _).1 (List.getElem?_eq_getElem hlt)).2
    rw [List.take_add_one, e, List.foldl_append, ← dcS_fold s p n (by omega), dcS, hb]
    simp only [Option.toList_some, List.foldl_cons, List.foldl_nil, stp]
    have e2 : (((s.data.toList[p + n]).toNat : Int) - 48).toNat = (s.data.toList[p + n]).toNat - 48 := by omega
    rw [e2]
theorem dcS_le (s : ByteArray) (p : Nat) : ∀ n u, dcS s p n = some u → u ≤ 9223372036854775807
  | 0, u, h => by simp [dcS] at h; omega
  | n + 1, u, h => by
    unfold dcS at h
    split at h
    · cases h
    · split at h
      · rename_i h2; cases h; exact h2
      · cases h

theorem all_list (q : ByteArray) (h : ∀ i, i < q.size → digB (bat q i) = true) : ∀ c ∈ q.data.toList, 48 ≤ c.toNat ∧ c.toNat ≤ 57 := by
  intro c hc
  obtain ⟨i, hi, rfl⟩ := List.mem_iff_getElem.1 hc
  have := (bat_list q i _).1 (List.getElem?_eq_getElem hi)
  have hd := dig_range (h i this.1)
  rw [this.2] at hd
  omega
theorem head_dig (q : ByteArray) (h0 : digB (bat q 0) = true) : ∃ c r, q.data.toList = c :: r ∧ 48 ≤ c.toNat ∧ c.toNat ≤ 57 := by
  have hlt := dig_lt h0
  cases hq : q.data.toList with
  | nil => have : q.data.toList.length = q.size := by rw [Array.length_toList]; rfl
           rw [hq] at this; simp at this; omega
  | cons c r =>
    refine ⟨c, r, rfl, ?_⟩
    have := (bat_list q 0 c).1 (by rw [hq]; rfl)
    have hd := dig_range h0
    rw [this.2] at hd
    omega
theorem pint_of (c : UInt8) (r : List UInt8) (h1 : 48 ≤ c.toNat) (h2 : c.toNat ≤ 57) : Lib.parseIntB 64 (c :: r) = match Lib.parseUintM (2 ^ 64 - 1) 0 (c :: r) with | .syntax => .syntax | .range => .range | .ok u => if 9223372036854775808 ≤ u then .range else .ok (u : Int) := by
  simp only [Lib.parseIntB, Lib.parseUintB]
  rw [if_neg (show ¬ (c.toNat = 43 ∨ c.toNat = 45) by omega), if_neg (show ¬ (c :: r = []) by simp)]
  have hn : ¬ c.toNat = 45 := by omega
  cases Lib.parseUintM (2 ^ 64 - 1) 0 (c :: r) with
  | ok u => simp [hn]
  | «syntax» => rfl
  | range => rfl
theorem decI_dig (q : ByteArray) (h0 : 0 < q.size) (h : ∀ i, i < q.size → digB (bat q i) = true) : decI q = Option.map (fun u : Nat => (u : Int)) (dcS q 0 q.size) := by
  obtain ⟨c, r, hq, h1, h2⟩ := head_dig q (h 0 h0)
  have hall := all_list q h
  have hf := dcS_fold q 0 q.size (by omega)
  rw [List.drop_zero, List.take_of_length_le (by rw [Array.length_toList]; exact Nat.le_refl _)] at hf
  unfold decI
  rw [hf]
  rw [hq] at hall ⊢
  rw [pint_of c r h1 h2]
  have hp := pu_dec (c :: r) 0 hall (by omega)
  cases hx : (c :: r).foldl stp (some 0) with
  | some u =>
    obtain ⟨e1, e2⟩ := hp.1 u hx
    rw [e1]
    simp only [Option.map_some]
    rw [if_neg (by omega)]
  | none =>
    rcases hp.2 hx with e | ⟨u, e, hu⟩
    · rw [e]; rfl
    · rw [e]; simp only [if_pos hu]; rfl
theorem decI_bad (q : ByteArray) (h0 : digB (bat q 0) = true) (i : Nat) (hi : i < q.size) (hn : digB (bat q i) = false) : decI q = none := by
  obtain ⟨c, r, hq, h1, h2⟩ := head_dig q h0
  have hb : ∃ c ∈ q.data.toList, ¬ (48 ≤ c.toNat ∧ c.toNat ≤ 57) := by
    have hlt : i < q.data.toList.length := by rw [Array.length_toList]; exact hi
    refine ⟨q.data.toList[i], List.getElem_mem hlt, ?_⟩
    have := (bat_list q i _).1 (List.getElem?_eq_getElem hlt)
    have e : ¬ (48 ≤ bat q i ∧ bat q i ≤ 57) := by simpa [digB] using hn
    rw [this.2] at e
    omega
  unfold decI
  rw [hq] at hb ⊢
  rw [pint_of c r h1 h2]
  have := pu_bad (c :: r) 0 hb
  cases hx : Lib.parseUintM (2 ^ 64 - 1) 0 (c :: r) with
  | ok u => exact absurd hx (this u)
  | «syntax» => rfl
  | range => rfl
end Go.Proofs.YtdgbmihokecmhaaGreatDoor

namespace Go.Proofs.YtdgbmihokecmhaaGreatDoor
open Go.RowKit Go.Maps Go.WideMaps
set_option linter.unusedVariables false

/-- A text that is a float as a whole. -/
def fltI (q : ByteArray) : Bool := decide (digB (bat q 0) = true ∧ numN q 0 = (q.size, true) ∧ ¬ (bat q 0 = 48 ∧ bat q 1 = 120) ∧ decI q = none)

theorem hxE_bd (s : ByteArray) (p : Nat) (h : p ≤ s.size) : p ≤ hxE s p ∧ hxE s p ≤ s.size := runE_bd hexB hex_neg s _ p h
theorem hexN_yes {s : ByteArray} {p e : Nat} (h : hexN s p = (e, true)) : p < e ∧ e ≤ p + 16 ∧ e = hxE s p ∧ ∀ i, p ≤ i → i < e → hexB (bat s i) = true := by
  unfold hexN at h
  split at h
  · cases h
  · rename_i hle
    obtain ⟨h1, h2⟩ := Prod.mk.inj h
    subst h1
    exact ⟨by simpa using h2, by omega, rfl, fun i hi h2 => runE_all hexB s _ p i hi h2⟩

theorem nil_toList {q : ByteArray} (h0 : 0 < q.size) : (q.toList == []) = false := by
  have : q.toList.length = q.size := by rw [ByteArray.toList_eq]; simp
  cases hs : q.toList with
  | nil => rw [hs] at this; simp at this; omega
  | cons a l => rfl
theorem nil_toList' {q : ByteArray} (h0 : ¬ 0 < q.size) : (q.toList == []) = true := by
  have : q.toList.length = q.size := by rw [ByteArray.toList_eq]; simp
  have : q.toList = [] := List.length_eq_zero_iff.1 (by omega)
  rw [this]; rfl

theorem isDigit_q {c : Int} {b : Bool} (h : digB c = b) (w : World) : Calls Tryz.prog 90 #[.int .u8 c] w fun e w' => e = .returned (.bool b) ∧ w' = w := (isDigit_any c w).mono fun e w' g => ⟨by rw [g.1, h], g.2.symm⟩
theorem numberEnd0 (s : ByteArray) (hm : s.size ≤ 1100000) (h0 : 0 < s.size) (w : World) : Calls Tryz.prog 91 #[.string s, .int .i64 0] w fun e w' => e = .returned (.tuple #[.int .i64 ((numN s 0).1 : Int), .bool (numN s 0).2]) ∧ w' = w := numberEnd_any s hm 0 h0 w

theorem nEx_bd (s : ByteArray) (a : Nat) (h : a ≤ s.size) : a ≤ (nEx s a).1 ∧ (nEx s a).1 ≤ s.size := by
  unfold nEx
  split
  · rename_i he
    have h1 := lt_of_bat he (by omega)
    have h2 : nA2 s a ≤ s.size ∧ a < nA2 s a := by
      unfold nA2
      split
      · rename_i hs
        rcases hs with hs | hs
        · have := lt_of_bat hs (by omega); omega
        · have := lt_of_bat hs (by omega); omega
      · omega
    have := digE_bd s (nA2 s a) h2.1
    simp only
    omega
  · exact ⟨Nat.le_refl _, h⟩
theorem nA0_bd (s : ByteArray) (p : Nat) (h : p < s.size) : p < nA0 s p ∧ nA0 s p ≤ s.size := by
  unfold nA0
  split
  · omega
  · have := digE_bd s (p + 1) (by omega); omega
theorem nA1_bd (s : ByteArray) (a : Nat) (h : a ≤ s.size) : a ≤ nA1 s a ∧ nA1 s a ≤ s.size := by
  unfold nA1
  split
  · rename_i hd
    have := digE_bd s (a + 1) (by have := dig_lt hd.2; omega); omega
  · omega
theorem hexN_bd (s : ByteArray) (p : Nat) (h : p ≤ s.size) : p ≤ (hexN s p).1 ∧ (hexN s p).1 ≤ s.size := by
  have := hxE_bd s p h
  unfold hexN
  split
  · simp only; omega
  · exact this
theorem numN_bd (s : ByteArray) (p : Nat) (h : p < s.size) : p < (numN s p).1 ∧ (numN s p).1 ≤ s.size := by
  unfold numN
  split
  · rename_i hx
    have := lt_of_bat hx.2 (by omega)
    have := hexN_bd s (p + 2) (by omega)
    omega
  · have h0 := nA0_bd s p h
    have h1 := nA1_bd s _ h0.2
    have h2 := nEx_bd s _ h1.2
    omega

set_option maxRecDepth 100000 in
set_option maxHeartbeats 3200000 in
theorem isFloat_any (q : ByteArray) (hm : q.size ≤ 1100000) (w : World) (hE : Errs w) : Calls Tryz.prog 74 #[.string q] w fun e w' => e = .returned (.bool (fltI q)) ∧ Below w.heap.size w w' := by
  by_cases h0 : 0 < q.size
  · have hne := nil_toList h0
    have i1 : ∀ w, (Instr.index 9 (.string q) (.int .i64 0)).run Tryz.prog w = .ok (.int .u8 (bat q 0)) w := fun w => idx_run h0 w
    by_cases hd : digB (bat q 0) = true
    · have kd := fun w => isDigit_q hd w
      have kn := fun w => numberEnd0 q hm h0 w
      have bd := (numN_bd q 0 h0).2
      by_cases hok : (numN q 0).2 = true
      · by_cases he : (numN q 0).1 = q.size
        · have hN : numN q 0 = (q.size, true) := Prod.ext he hok
          have hnl : ¬ (q.size : Int) < (q.size : Int) := by omega
          rw [hN] at kn
          by_cases hx : bat q 0 = 48 ∧ bat q 1 = 120
          · have hf : fltI q = false := by unfold fltI; simp [hx]
            rw [hf]
            have hh : hexN q 2 = (q.size, true) := by rw [← hN]; unfold numN; rw [if_pos hx]
            obtain ⟨g1, g2, g3, g4⟩ := hexN_yes hh
            have ki := fun w => intOf_hex q hx.1 hx.2 (by omega) (by omega) g4 w
            generalize wrap64 (hvS q 2 (q.size - 2) : Int) = v at ki
            clear hf hh g3 g4 hN hok he hx hd
            generalize bat q 0 = c at i1 kd
            go_enter Tryz.func74, Tryz.ntmps74
            go_wp2_with (first | (go_at_call 90; refine (kd _).mono ?_; rintro e w' ⟨rfl, rfl⟩) | (go_at_call 91; refine (kn _).mono ?_; rintro e w' ⟨rfl, rfl⟩) | (go_at_call 92; refine (ki _).mono ?_; rintro e w' ⟨rfl, hb⟩))
            go_ret
            exact ⟨rfl, hb⟩
          · have ki := intOf_dec q hm hx w hE
            have hf : fltI q = !(decI q).isSome := by
              unfold fltI
              cases hdc : decI q <;> simp [hd, hN, hx]
            rw [hf]
            generalize (decI q).isSome = B at ki
            clear hf hN hok he hx hd
            generalize bat q 0 = c at i1 kd
            go_enter Tryz.func74, Tryz.ntmps74
            go_wp2_with (first | (go_at_call 90; refine (kd _).mono ?_; rintro e w' ⟨rfl, rfl⟩) | (go_at_call 91; refine (kn _).mono ?_; rintro e w' ⟨rfl, rfl⟩) | (go_at_call 92; refine ki.mono ?_; rintro e w' ⟨⟨x, rfl, _⟩, hb⟩))
            go_ret
            exact ⟨rfl, hb⟩
        · have hf : fltI q = false := by unfold fltI; rw [decide_eq_false_iff_not]; rintro ⟨_, h2, _⟩; rw [h2] at he; exact he rfl
          rw [hf]
          have hlt : ((numN q 0).1 : Int) < (q.size : Int) := by omega
          rw [hok] at kn
          generalize (numN q 0).1 = E at kn hlt
          clear hf hok he hd bd
          generalize bat q 0 = c at i1 kd
          go_enter Tryz.func74, Tryz.ntmps74
          go_wp2_with (first | (go_at_call 90; refine (kd _).mono ?_; rintro e w' ⟨rfl, rfl⟩) | (go_at_call 91; refine (kn _).mono ?_; rintro e w' ⟨rfl, rfl⟩))
          go_ret
          exact ⟨rfl, Below.refl _ _⟩
      · have hok' : (numN q 0).2 = false := by simpa using hok
        have hf : fltI q = false := by unfold fltI; rw [decide_eq_false_iff_not]; rintro ⟨_, h2, _⟩; rw [h2] at hok; exact hok rfl
        rw [hf]
        rw [hok'] at kn
        generalize (numN q 0).1 = E at kn bd
        clear hf hok hok' hd
        generalize bat q 0 = c at i1 kd
        go_enter Tryz.func74, Tryz.ntmps74
        go_wp2_with (first | (go_at_call 90; refine (kd _).mono ?_; rintro e w' ⟨rfl, rfl⟩) | (go_at_call 91; refine (kn _).mono ?_; rintro e w' ⟨rfl, rfl⟩))
        go_ret
        exact ⟨rfl, Below.refl _ _⟩
    · have hd' : digB (bat q 0) = false := by simpa using hd
      have kd := fun w => isDigit_q hd' w
      have hf : fltI q = false := by unfold fltI; simp [hd']
      rw [hf]
      clear hf hd hd'
      generalize bat q 0 = c at i1 kd
      go_enter Tryz.func74, Tryz.ntmps74
      go_wp2_with (first | (go_at_call 90; refine (kd _).mono ?_; rintro e w' ⟨rfl, rfl⟩))
      go_ret
      exact ⟨rfl, Below.refl _ _⟩
  · have hne := nil_toList' h0
    have hf : fltI q = false := by unfold fltI; rw [bat_out h0]; simp [dig_neg]
    rw [hf]
    clear hf
    go_enter Tryz.func74, Tryz.ntmps74
    go_wp2
    go_ret
    exact ⟨rfl, Below.refl _ _⟩
end Go.Proofs.YtdgbmihokecmhaaGreatDoor
