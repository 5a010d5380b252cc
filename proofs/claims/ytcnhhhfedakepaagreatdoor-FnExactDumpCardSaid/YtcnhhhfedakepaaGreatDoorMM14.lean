import Derived.Test.YtcnhhhfedakepaaGreatDoorMM13
import Derived.Test.YtcnhhhfedakepaaGreatDoorMM03
import Derived.Test.YtcnhhhfedakepaaGreatDoorMM06
import Derived.Test.YtcnhhhfedakepaaGreatDoorMM09
namespace Go.Proofs.YtcnhhhfedakepaaGreatDoor
open Go.RowKit Go.Maps Go.WideMaps
set_option linter.unusedVariables false

/-- f names from j on are names. -/
def nmsB (l : List ByteArray) : Nat → Nat → Bool
  | 0, _ => true
  | f + 1, j => nmok (l.getD j ByteArray.empty) && nmsB l f (j + 1)
structure NmsIs (l : List ByteArray) (f j : Nat) (R : Bool) : Prop where
  out : nmsB l f j = R
def namedB (N : Nd) (least most : Int) : Bool := decide (least ≤ (N.nm.length : Int) ∧ (N.nm.length : Int) ≤ most) && nmsB N.nm N.nm.length 0

set_option maxRecDepth 100000 in
set_option maxHeartbeats 1600000 in
theorem l2named_any (w : World) (N : Nd) (vn vk : Value) (least most : Int) (hn : StrsAt w vn N.nm) (hk : IntsAt w vk N.ks) (hl : N.nm.length ≤ 1048576) (hs : ∀ s ∈ N.nm, s.size ≤ 1048576) :
    Calls Tryz.prog 76 #[vNd N vn vk, .int .i64 least, .int .i64 most] w fun e w' => e = .returned (.bool (namedB N least most)) ∧ Below w.heap.size w w' := by
  have hb0 : ∀ o, Below w.heap.size w (w.alloc o) := fun o => (Below.refl _ w).alloc (Nat.le_refl _) o
  have HT : Hid (StrsAt w vn N.nm ∧ ∀ s ∈ N.nm, s.size ≤ 1048576) := ⟨hn, hs⟩
  obtain ⟨a2, c2, rfl⟩ := hn.form
  obtain ⟨a3, c3, rfl⟩ := hk.form
  clear hn hk hs
  obtain ⟨R, hR⟩ : ∃ R, namedB N least most = R := ⟨_, rfl⟩
  rw [hR]
  unfold namedB at hR
  unfold vNd
  obtain ⟨L1, hL1⟩ : ∃ n, N.nm.length = n := ⟨_, rfl⟩
  have HL : Hid (N.nm.length = L1) := hL1
  rw [hL1] at HT hl hR ⊢
  clear hL1
  generalize N.ks.length = L2
  by_cases g1 : (L1 : Int) < least
  · have HR : Hid (false = R) := by rw [decide_eq_false (by omega)] at hR; exact hR
    clear hR
    go_enter Tryz.func76, Tryz.ntmps76
    go_wp2
    go_ret
    exact ⟨by rw [← HR.out]; rfl, hb0 _⟩
  by_cases g2 : most < (L1 : Int)
  · have HR : Hid (false = R) := by rw [decide_eq_false (by omega)] at hR; exact hR
    clear hR
    go_enter Tryz.func76, Tryz.ntmps76
    go_wp2
    go_ret
    exact ⟨by rw [← HR.out]; rfl, hb0 _⟩
  have HR : NmsIs N.nm L1 0 R := ⟨by rw [decide_eq_true (by omega)] at hR; simpa using hR⟩
  clear hR
  go_enter Tryz.func76, Tryz.ntmps76
  go_wp2_with fail
  have hB2 := hb0 (.cells #[.int .i64 N.k, .int .i64 N.f, .int .i64 N.t, .int .i64 N.l, .int .i64 N.op, .int .i64 N.n, .string N.x, .slice a2 L1 c2, .slice a3 L2 c3] 67)
  generalize w.alloc (.cells #[.int .i64 N.k, .int .i64 N.f, .int .i64 N.t, .int .i64 N.l, .int .i64 N.op, .int .i64 N.n, .string N.x, .slice a2 L1 c2, .slice a3 L2 c3] 67) = W2 at hB2 ⊢
  clear hb0
  go_loopw [24, 8] (fun vj _ wr => ∃ (j : Nat), vj = .int .i64 j ∧ j ≤ L1 ∧ NmsIs N.nm (L1 - j) j R ∧ Below W2.heap.size W2 wr) (fun vj _ _ => L1 - (intOf vj).toNat)
  case atStart => exact ⟨0, rfl, by omega, HR, Below.refl _ _⟩
  case round =>
    obtain ⟨j, rfl, hj, HJ, hb⟩ := hrel
    have hbw := hB2.trans (hb.mono hB2.size)
    have hst := HJ.out
    by_cases hlt : j < L1
    · obtain ⟨s, hsk⟩ := some_at HL.out hlt
      have hss := HT.out.2 s (List.mem_of_getElem? hsk)
      obtain ⟨p3, rfl, g3⟩ := (HT.out.1.below hbw).get hsk
      rw [show L1 - j = (L1 - (j + 1)) + 1 by omega, nmsB, List.getD_eq_getElem?_getD, hsk, Option.getD_some] at hst
      have hji : (j : Int) < (L1 : Int) := by omega
      have hj0 : (0 : Int) ≤ (j : Int) := by omega
      have ke := l1nameok_any s (by omega) wr
      clear hsk
      cases hx : nmok s with
      | true =>
        rw [hx, Bool.true_and] at hst
        rw [hx] at ke
        have HS : NmsIs N.nm (L1 - (j + 1)) (j + 1) R := ⟨hst⟩
        clear hst hx
        go_wp2_with (go_at_call 80; refine ke.mono ?_; rintro e w3 ⟨rfl, hb3⟩)
        exact ⟨⟨j + 1, by go_num, by omega, HS, hb.trans (hb3.mono hb.size)⟩, by simp [intOf]; omega⟩
      | false =>
        rw [hx, Bool.false_and] at hst
        rw [hx] at ke
        have HS : Hid (false = R) := hst
        clear hst hx
        go_wp2_with (go_at_call 80; refine ke.mono ?_; rintro e w3 ⟨rfl, hb3⟩)
        go_ret
        exact ⟨by rw [← HS.out]; rfl, hbw.trans (hb3.mono hbw.size)⟩
    · rw [show L1 - j = 0 by omega, nmsB] at hst
      have HS : Hid (true = R) := hst
      have hji : ¬ (j : Int) < (L1 : Int) := by omega
      clear hst
      go_wp2_with fail
      go_ret
      exact ⟨by rw [← HS.out]; rfl, hbw⟩
end Go.Proofs.YtcnhhhfedakepaaGreatDoor

namespace Go.Proofs.YtcnhhhfedakepaaGreatDoor
open Go.RowKit
set_option linter.unusedVariables false

def emptyB (x : ByteArray) : Bool := decide (x.toList = [])
def bareB (N : Nd) (op num text names : Bool) : Bool := (op || N.op == 0) && (num || N.n == 0) && (text || emptyB N.x) && (names || decide (N.nm.length = 0))

set_option maxRecDepth 100000 in
set_option maxHeartbeats 1600000 in
theorem l2bare_ffff (w : World) (N : Nd) (vn vk : Value) (hn : StrsAt w vn N.nm) (hk : IntsAt w vk N.ks) (hl : N.nm.length ≤ 1048576) :
    Calls Tryz.prog 75 #[vNd N vn vk, .bool false, .bool false, .bool false, .bool false] w fun e w' => e = .returned (.bool (bareB N false false false false)) ∧ Below w.heap.size w w' := by
  have hb0 : ∀ o, Below w.heap.size w (w.alloc o) := fun o => (Below.refl _ w).alloc (Nat.le_refl _) o
  obtain ⟨a2, c2, rfl⟩ := hn.form
  obtain ⟨a3, c3, rfl⟩ := hk.form
  clear hn hk
  obtain ⟨R, hR⟩ : ∃ R, bareB N false false false false = R := ⟨_, rfl⟩
  rw [hR]
  unfold vNd
  generalize N.ks.length = L2
  obtain ⟨nk, nf, nt, nl, nop, nn, nx, nnm, nks⟩ := N
  simp only at hl ⊢
  unfold bareB emptyB at hR
  simp only at hR
  obtain ⟨L1, hL1⟩ : ∃ L1, nnm.length = L1 := ⟨_, rfl⟩
  rw [hL1] at hl hR ⊢
  clear hL1
  cases t1 : (nop == 0) with
  | false =>
    rw [t1] at hR
    have HR : Hid (false = R) := by first | exact hR | simpa using hR
    clear hR
    go_enter Tryz.func75, Tryz.ntmps75
    go_wp2
    go_ret
    exact ⟨by rw [← HR.out]; rfl, hb0 _⟩
  | true =>
    rw [t1] at hR
    cases t2 : (nn == 0) with
    | false =>
      rw [t2] at hR
      have HR : Hid (false = R) := by first | exact hR | simpa using hR
      clear hR
      go_enter Tryz.func75, Tryz.ntmps75
      go_wp2
      go_ret
      exact ⟨by rw [← HR.out]; rfl, hb0 _⟩
    | true =>
      rw [t2] at hR
      by_cases t3 : nx.toList = []
      case neg =>
        rw [decide_eq_false t3] at hR
        have HR : Hid (false = R) := by first | exact hR | simpa using hR
        clear hR
        go_enter Tryz.func75, Tryz.ntmps75
        go_wp2
        go_ret
        exact ⟨by rw [← HR.out]; rfl, hb0 _⟩
      rw [decide_eq_true t3] at hR
      by_cases h4 : L1 = 0
      · subst h4
        have HR : Hid (true = R) := by first | exact hR | simpa using hR
        clear hR
        go_enter Tryz.func75, Tryz.ntmps75
        go_wp2
        go_ret
        exact ⟨by rw [← HR.out]; rfl, hb0 _⟩
      · have t4 : ((L1 : Int) == 0) = false := by rw [beq_eq_false_iff_ne]; omega
        rw [decide_eq_false h4] at hR
        have HR : Hid (false = R) := by first | exact hR | simpa using hR
        clear hR
        go_enter Tryz.func75, Tryz.ntmps75
        go_wp2
        go_ret
        exact ⟨by rw [← HR.out]; rfl, hb0 _⟩

set_option maxRecDepth 100000 in
set_option maxHeartbeats 1600000 in
theorem l2bare_ffft (w : World) (N : Nd) (vn vk : Value) (hn : StrsAt w vn N.nm) (hk : IntsAt w vk N.ks) (hl : N.nm.length ≤ 1048576) :
    Calls Tryz.prog 75 #[vNd N vn vk, .bool false, .bool false, .bool false, .bool true] w fun e w' => e = .returned (.bool (bareB N false false false true)) ∧ Below w.heap.size w w' := by
  have hb0 : ∀ o, Below w.heap.size w (w.alloc o) := fun o => (Below.refl _ w).alloc (Nat.le_refl _) o
  obtain ⟨a2, c2, rfl⟩ := hn.form
  obtain ⟨a3, c3, rfl⟩ := hk.form
  clear hn hk
  obtain ⟨R, hR⟩ : ∃ R, bareB N false false false true = R := ⟨_, rfl⟩
  rw [hR]
  unfold vNd
  generalize N.ks.length = L2
  obtain ⟨nk, nf, nt, nl, nop, nn, nx, nnm, nks⟩ := N
  simp only at hl ⊢
  unfold bareB emptyB at hR
  simp only at hR
  obtain ⟨L1, hL1⟩ : ∃ L1, nnm.length = L1 := ⟨_, rfl⟩
  rw [hL1] at hl hR ⊢
  clear hL1
  cases t1 : (nop == 0) with
  | false =>
    rw [t1] at hR
    have HR : Hid (false = R) := by first | exact hR | simpa using hR
    clear hR
    go_enter Tryz.func75, Tryz.ntmps75
    go_wp2
    go_ret
    exact ⟨by rw [← HR.out]; rfl, hb0 _⟩
  | true =>
    rw [t1] at hR
    cases t2 : (nn == 0) with
    | false =>
      rw [t2] at hR
      have HR : Hid (false = R) := by first | exact hR | simpa using hR
      clear hR
      go_enter Tryz.func75, Tryz.ntmps75
      go_wp2
      go_ret
      exact ⟨by rw [← HR.out]; rfl, hb0 _⟩
    | true =>
      rw [t2] at hR
      by_cases t3 : nx.toList = []
      case neg =>
        rw [decide_eq_false t3] at hR
        have HR : Hid (false = R) := by first | exact hR | simpa using hR
        clear hR
        go_enter Tryz.func75, Tryz.ntmps75
        go_wp2
        go_ret
        exact ⟨by rw [← HR.out]; rfl, hb0 _⟩
      rw [decide_eq_true t3] at hR
      have HR : Hid (true = R) := by first | exact hR | simpa using hR
      clear hR
      go_enter Tryz.func75, Tryz.ntmps75
      go_wp2
      go_ret
      exact ⟨by rw [← HR.out]; rfl, hb0 _⟩

set_option maxRecDepth 100000 in
set_option maxHeartbeats 1600000 in
theorem l2bare_ftff (w : World) (N : Nd) (vn vk : Value) (hn : StrsAt w vn N.nm) (hk : IntsAt w vk N.ks) (hl : N.nm.length ≤ 1048576) :
    Calls Tryz.prog 75 #[vNd N vn vk, .bool false, .bool true, .bool false, .bool false] w fun e w' => e = .returned (.bool (bareB N false true false false)) ∧ Below w.heap.size w w' := by
  have hb0 : ∀ o, Below w.heap.size w (w.alloc o) := fun o => (Below.refl _ w).alloc (Nat.le_refl _) o
  obtain ⟨a2, c2, rfl⟩ := hn.form
  obtain ⟨a3, c3, rfl⟩ := hk.form
  clear hn hk
  obtain ⟨R, hR⟩ : ∃ R, bareB N false true false false = R := ⟨_, rfl⟩
  rw [hR]
  unfold vNd
  generalize N.ks.length = L2
  obtain ⟨nk, nf, nt, nl, nop, nn, nx, nnm, nks⟩ := N
  simp only at hl ⊢
  unfold bareB emptyB at hR
  simp only at hR
  obtain ⟨L1, hL1⟩ : ∃ L1, nnm.length = L1 := ⟨_, rfl⟩
  rw [hL1] at hl hR ⊢
  clear hL1
  cases t1 : (nop == 0) with
  | false =>
    rw [t1] at hR
    have HR : Hid (false = R) := by first | exact hR | simpa using hR
    clear hR
    go_enter Tryz.func75, Tryz.ntmps75
    go_wp2
    go_ret
    exact ⟨by rw [← HR.out]; rfl, hb0 _⟩
  | true =>
    rw [t1] at hR
    by_cases t3 : nx.toList = []
    case neg =>
      rw [decide_eq_false t3] at hR
      have HR : Hid (false = R) := by first | exact hR | simpa using hR
      clear hR
      go_enter Tryz.func75, Tryz.ntmps75
      go_wp2
      go_ret
      exact ⟨by rw [← HR.out]; rfl, hb0 _⟩
    rw [decide_eq_true t3] at hR
    by_cases h4 : L1 = 0
    · subst h4
      have HR : Hid (true = R) := by first | exact hR | simpa using hR
      clear hR
      go_enter Tryz.func75, Tryz.ntmps75
      go_wp2
      go_ret
      exact ⟨by rw [← HR.out]; rfl, hb0 _⟩
    · have t4 : ((L1 : Int) == 0) = false := by rw [beq_eq_false_iff_ne]; omega
      rw [decide_eq_false h4] at hR
      have HR : Hid (false = R) := by first | exact hR | simpa using hR
      clear hR
      go_enter Tryz.func75, Tryz.ntmps75
      go_wp2
      go_ret
      exact ⟨by rw [← HR.out]; rfl, hb0 _⟩

set_option maxRecDepth 100000 in
set_option maxHeartbeats 1600000 in
theorem l2bare_fftf (w : World) (N : Nd) (vn vk : Value) (hn : StrsAt w vn N.nm) (hk : IntsAt w vk N.ks) (hl : N.nm.length ≤ 1048576) :
    Calls Tryz.prog 75 #[vNd N vn vk, .bool false, .bool false, .bool true, .bool false] w fun e w' => e = .returned (.bool (bareB N false false true false)) ∧ Below w.heap.size w w' := by
  have hb0 : ∀ o, Below w.heap.size w (w.alloc o) := fun o => (Below.refl _ w).alloc (Nat.le_refl _) o
  obtain ⟨a2, c2, rfl⟩ := hn.form
  obtain ⟨a3, c3, rfl⟩ := hk.form
  clear hn hk
  obtain ⟨R, hR⟩ : ∃ R, bareB N false false true false = R := ⟨_, rfl⟩
  rw [hR]
  unfold vNd
  generalize N.ks.length = L2
  obtain ⟨nk, nf, nt, nl, nop, nn, nx, nnm, nks⟩ := N
  simp only at hl ⊢
  unfold bareB emptyB at hR
  simp only at hR
  obtain ⟨L1, hL1⟩ : ∃ L1, nnm.length = L1 := ⟨_, rfl⟩
  rw [hL1] at hl hR ⊢
  clear hL1
  cases t1 : (nop == 0) with
  | false =>
    rw [t1] at hR
    have HR : Hid (false = R) := by first | exact hR | simpa using hR
    clear hR
    go_enter Tryz.func75, Tryz.ntmps75
    go_wp2
    go_ret
    exact ⟨by rw [← HR.out]; rfl, hb0 _⟩
  | true =>
    rw [t1] at hR
    cases t2 : (nn == 0) with
    | false =>
      rw [t2] at hR
      have HR : Hid (false = R) := by first | exact hR | simpa using hR
      clear hR
      go_enter Tryz.func75, Tryz.ntmps75
      go_wp2
      go_ret
      exact ⟨by rw [← HR.out]; rfl, hb0 _⟩
    | true =>
      rw [t2] at hR
      by_cases h4 : L1 = 0
      · subst h4
        have HR : Hid (true = R) := by first | exact hR | simpa using hR
        clear hR
        go_enter Tryz.func75, Tryz.ntmps75
        go_wp2
        go_ret
        exact ⟨by rw [← HR.out]; rfl, hb0 _⟩
      · have t4 : ((L1 : Int) == 0) = false := by rw [beq_eq_false_iff_ne]; omega
        rw [decide_eq_false h4] at hR
        have HR : Hid (false = R) := by first | exact hR | simpa using hR
        clear hR
        go_enter Tryz.func75, Tryz.ntmps75
        go_wp2
        go_ret
        exact ⟨by rw [← HR.out]; rfl, hb0 _⟩

set_option maxRecDepth 100000 in
set_option maxHeartbeats 1600000 in
theorem l2bare_tfff (w : World) (N : Nd) (vn vk : Value) (hn : StrsAt w vn N.nm) (hk : IntsAt w vk N.ks) (hl : N.nm.length ≤ 1048576) :
    Calls Tryz.prog 75 #[vNd N vn vk, .bool true, .bool false, .bool false, .bool false] w fun e w' => e = .returned (.bool (bareB N true false false false)) ∧ Below w.heap.size w w' := by
  have hb0 : ∀ o, Below w.heap.size w (w.alloc o) := fun o => (Below.refl _ w).alloc (Nat.le_refl _) o
  obtain ⟨a2, c2, rfl⟩ := hn.form
  obtain ⟨a3, c3, rfl⟩ := hk.form
  clear hn hk
  obtain ⟨R, hR⟩ : ∃ R, bareB N true false false false = R := ⟨_, rfl⟩
  rw [hR]
  unfold vNd
  generalize N.ks.length = L2
  obtain ⟨nk, nf, nt, nl, nop, nn, nx, nnm, nks⟩ := N
  simp only at hl ⊢
  unfold bareB emptyB at hR
  simp only at hR
  obtain ⟨L1, hL1⟩ : ∃ L1, nnm.length = L1 := ⟨_, rfl⟩
  rw [hL1] at hl hR ⊢
  clear hL1
  cases t2 : (nn == 0) with
  | false =>
    rw [t2] at hR
    have HR : Hid (false = R) := by first | exact hR | simpa using hR
    clear hR
    go_enter Tryz.func75, Tryz.ntmps75
    go_wp2
    go_ret
    exact ⟨by rw [← HR.out]; rfl, hb0 _⟩
  | true =>
    rw [t2] at hR
    by_cases t3 : nx.toList = []
    case neg =>
      rw [decide_eq_false t3] at hR
      have HR : Hid (false = R) := by first | exact hR | simpa using hR
      clear hR
      go_enter Tryz.func75, Tryz.ntmps75
      go_wp2
      go_ret
      exact ⟨by rw [← HR.out]; rfl, hb0 _⟩
    rw [decide_eq_true t3] at hR
    by_cases h4 : L1 = 0
    · subst h4
      have HR : Hid (true = R) := by first | exact hR | simpa using hR
      clear hR
      go_enter Tryz.func75, Tryz.ntmps75
      go_wp2
      go_ret
      exact ⟨by rw [← HR.out]; rfl, hb0 _⟩
    · have t4 : ((L1 : Int) == 0) = false := by rw [beq_eq_false_iff_ne]; omega
      rw [decide_eq_false h4] at hR
      have HR : Hid (false = R) := by first | exact hR | simpa using hR
      clear hR
      go_enter Tryz.func75, Tryz.ntmps75
      go_wp2
      go_ret
      exact ⟨by rw [← HR.out]; rfl, hb0 _⟩

set_option maxRecDepth 100000 in
set_option maxHeartbeats 1600000 in
theorem l2bare_tfft (w : World) (N : Nd) (vn vk : Value) (hn : StrsAt w vn N.nm) (hk : IntsAt w vk N.ks) (hl : N.nm.length ≤ 1048576) :
    Calls Tryz.prog 75 #[vNd N vn vk, .bool true, .bool false, .bool false, .bool true] w fun e w' => e = .returned (.bool (bareB N true false false true)) ∧ Below w.heap.size w w' := by
  have hb0 : ∀ o, Below w.heap.size w (w.alloc o) := fun o => (Below.refl _ w).alloc (Nat.le_refl _) o
  obtain ⟨a2, c2, rfl⟩ := hn.form
  obtain ⟨a3, c3, rfl⟩ := hk.form
  clear hn hk
  obtain ⟨R, hR⟩ : ∃ R, bareB N true false false true = R := ⟨_, rfl⟩
  rw [hR]
  unfold vNd
  generalize N.ks.length = L2
  obtain ⟨nk, nf, nt, nl, nop, nn, nx, nnm, nks⟩ := N
  simp only at hl ⊢
  unfold bareB emptyB at hR
  simp only at hR
  obtain ⟨L1, hL1⟩ : ∃ L1, nnm.length = L1 := ⟨_, rfl⟩
  rw [hL1] at hl hR ⊢
  clear hL1
  cases t2 : (nn == 0) with
  | false =>
    rw [t2] at hR
    have HR : Hid (false = R) := by first | exact hR | simpa using hR
    clear hR
    go_enter Tryz.func75, Tryz.ntmps75
    go_wp2
    go_ret
    exact ⟨by rw [← HR.out]; rfl, hb0 _⟩
  | true =>
    rw [t2] at hR
    by_cases t3 : nx.toList = []
    case neg =>
      rw [decide_eq_false t3] at hR
      have HR : Hid (false = R) := by first | exact hR | simpa using hR
      clear hR
      go_enter Tryz.func75, Tryz.ntmps75
      go_wp2
      go_ret
      exact ⟨by rw [← HR.out]; rfl, hb0 _⟩
    rw [decide_eq_true t3] at hR
    have HR : Hid (true = R) := by first | exact hR | simpa using hR
    clear hR
    go_enter Tryz.func75, Tryz.ntmps75
    go_wp2
    go_ret
    exact ⟨by rw [← HR.out]; rfl, hb0 _⟩
end Go.Proofs.YtcnhhhfedakepaaGreatDoor

namespace Go.Proofs.YtcnhhhfedakepaaGreatDoor
open Go.RowKit Go.Maps Go.WideMaps
set_option linter.unusedVariables false

/-- A tree and one of its nodes, as arguments, to be read. -/
structure NArg (W : World) (vt : Value) (ns : List Nd) (N : Nd) (vn vk : Value) : Prop where
  t : NdsAt W vt ns
  n : StrsAt W vn N.nm
  k : IntsAt W vk N.ks
  ok : KidsOk ns N
  ln : ns.length ≤ 1048576
  l1 : N.nm.length ≤ 1048576
  l2 : N.ks.length ≤ 1048576
  lx : N.x.size ≤ 1048576
  ls : ∀ s ∈ N.nm, s.size ≤ 1048576
theorem NArg.below {W W' : World} {vt : Value} {ns : List Nd} {N : Nd} {vn vk : Value} (h : NArg W vt ns N vn vk) (hb : Below W.heap.size W W') : NArg W' vt ns N vn vk :=
  ⟨h.t.below hb, h.n.below hb, h.k.below hb, h.ok, h.ln, h.l1, h.l2, h.lx, h.ls⟩
/-- They lie in boxes of their own. -/
structure St (w : World) (vt : Value) (ns : List Nd) (N : Nd) (vn vk : Value) (W : World) : Prop where
  a : NArg W vt ns N vn vk
  bt : W.cell? ⟨w.heap.size, 0, none⟩ = some vt
  bn : NdBox (w.heap.size + 1) W 67 N vn vk
  bel : Below w.heap.size w W
theorem St.below {w : World} {vt : Value} {ns : List Nd} {N : Nd} {vn vk : Value} {W W' : World} (h : St w vt ns N vn vk W) (hb : Below W.heap.size W W') : St w vt ns N vn vk W' :=
  ⟨h.a.below hb, cell_kept hb h.bt, h.bn.below hb, h.bel.trans (hb.mono h.bel.size)⟩
theorem St.start {w : World} {vt : Value} {ns : List Nd} {N : Nd} {vn vk : Value} (h : NArg w vt ns N vn vk) : St w vt ns N vn vk ((w.alloc (.cells #[vt] 30)).alloc (.cells #[.int .i64 N.k, .int .i64 N.f, .int .i64 N.t, .int .i64 N.l, .int .i64 N.op, .int .i64 N.n, .string N.x, vn, vk] 67)) := by
  have hb : Below w.heap.size w ((w.alloc (.cells #[vt] 30)).alloc (.cells #[.int .i64 N.k, .int .i64 N.f, .int .i64 N.t, .int .i64 N.l, .int .i64 N.op, .int .i64 N.n, .string N.x, vn, vk] 67)) := ((Below.refl _ w).alloc (Nat.le_refl _) _).alloc (by simp) _
  refine ⟨h.below hb, ?_, ?_, hb⟩
  · rw [cell_of_row _ _ _ _ _ _ ((Below.heap_alloc _ _ _ (by simp)).trans (heap_alloc_new w _))]; rfl
  · have := heap_alloc_new (w.alloc (.cells #[vt] 30)) (.cells #[.int .i64 N.k, .int .i64 N.f, .int .i64 N.t, .int .i64 N.l, .int .i64 N.op, .int .i64 N.n, .string N.x, vn, vk] 67)
    rw [World.size_alloc] at this
    exact this
theorem kid_any {w : World} {vt : Value} {ns : List Nd} {N : Nd} {vn vk : Value} (A : NArg w vt ns N vn vk) (i : Nat) (hi : i < N.ks.length) :
    Calls Tryz.prog 74 #[.agg #[vt], vNd N vn vk, .int .i64 i] w fun e w' => e = .returned (.int .i64 (kidK ns N i)) ∧ Below w.heap.size w w' := by
  obtain ⟨z, M, e1, e2, e3, e4⟩ := A.ok.get hi
  rw [e3]
  exact l2kid_any w vt ns N M vn vk i z A.t A.n A.k e1 e2 A.ln A.l2
end Go.Proofs.YtcnhhhfedakepaaGreatDoor

namespace Go.Proofs.YtcnhhhfedakepaaGreatDoor
open Go.RowKit Go.Maps Go.WideMaps
set_option linter.unusedVariables false

set_option maxRecDepth 100000 in
set_option maxHeartbeats 3200000 in
theorem l2ex_e20 {w : World} {vt : Value} {ns : List Nd} {N : Nd} {vn vk : Value} (A : NArg w vt ns N vn vk) (hK : N.k = 20) :
    Calls Tryz.prog 57 #[.agg #[vt], vNd N vn vk] w fun e w' => e = .returned (.bool (((N.ks.length : Int) == 0) && bareB N false false false false)) ∧ Below w.heap.size w w' := by
  obtain ⟨a1, c1, rfl⟩ := A.t.form
  obtain ⟨a2, c2, rfl⟩ := A.n.form
  obtain ⟨a3, c3, rfl⟩ := A.k.form
  have st := St.start A
  have hlx := A.lx
  have HX : Hid (N.x.size ≤ 1100000) := by show _ ≤ _; omega
  clear A
  have q20 : (N.k == 20) = true := by rw [hK]; rfl
  clear hK
  cases t0 : ((N.ks.length : Int) == 0) with
  | false =>
    unfold vNd
    go_enter Tryz.func57, Tryz.ntmps57
    go_wp2_with (first | (go_at_call 75; refine (l2bare_ffff _ N _ _ st.a.n st.a.k st.a.l1).mono ?_; rintro e w' ⟨rfl, hb'⟩; replace st := st.below hb'; clear hb'; obtain ⟨x0, x1, x2, x3, x4, x5, x6, x7, x8, xf⟩ := nd_cells st.bn; have xt := st.bt))
    go_ret
    exact ⟨rfl, st.bel⟩
  | true =>
    have HL : N.ks.length = 0 := by have := eq_of_beq t0; omega
    clear HL
    cases t1 : bareB N false false false false with
    | false =>
      unfold vNd
      go_enter Tryz.func57, Tryz.ntmps57
      go_wp2_with (first | (go_at_call 75; refine (l2bare_ffff _ N _ _ st.a.n st.a.k st.a.l1).mono ?_; rintro e w' ⟨rfl, hb'⟩; replace st := st.below hb'; clear hb'; obtain ⟨x0, x1, x2, x3, x4, x5, x6, x7, x8, xf⟩ := nd_cells st.bn; have xt := st.bt))
      go_ret
      exact ⟨rfl, st.bel⟩
    | true =>
      unfold vNd
      go_enter Tryz.func57, Tryz.ntmps57
      go_wp2_with (first | (go_at_call 75; refine (l2bare_ffff _ N _ _ st.a.n st.a.k st.a.l1).mono ?_; rintro e w' ⟨rfl, hb'⟩; replace st := st.below hb'; clear hb'; obtain ⟨x0, x1, x2, x3, x4, x5, x6, x7, x8, xf⟩ := nd_cells st.bn; have xt := st.bt))
      go_ret
      exact ⟨rfl, st.bel⟩

set_option maxRecDepth 100000 in
set_option maxHeartbeats 3200000 in
theorem l2ex_e21 {w : World} {vt : Value} {ns : List Nd} {N : Nd} {vn vk : Value} (A : NArg w vt ns N vn vk) (hK : N.k = 21) :
    Calls Tryz.prog 57 #[.agg #[vt], vNd N vn vk] w fun e w' => e = .returned (.bool (((N.ks.length : Int) == 0) && bareB N false false false false)) ∧ Below w.heap.size w w' := by
  obtain ⟨a1, c1, rfl⟩ := A.t.form
  obtain ⟨a2, c2, rfl⟩ := A.n.form
  obtain ⟨a3, c3, rfl⟩ := A.k.form
  have st := St.start A
  have hlx := A.lx
  have HX : Hid (N.x.size ≤ 1100000) := by show _ ≤ _; omega
  clear A
  have q20 : (N.k == 20) = false := by rw [hK]; rfl
  have q21 : (N.k == 21) = true := by rw [hK]; rfl
  clear hK
  cases t0 : ((N.ks.length : Int) == 0) with
  | false =>
    unfold vNd
    go_enter Tryz.func57, Tryz.ntmps57
    go_wp2_with (first | (go_at_call 75; refine (l2bare_ffff _ N _ _ st.a.n st.a.k st.a.l1).mono ?_; rintro e w' ⟨rfl, hb'⟩; replace st := st.below hb'; clear hb'; obtain ⟨x0, x1, x2, x3, x4, x5, x6, x7, x8, xf⟩ := nd_cells st.bn; have xt := st.bt))
    go_ret
    exact ⟨rfl, st.bel⟩
  | true =>
    have HL : N.ks.length = 0 := by have := eq_of_beq t0; omega
    clear HL
    cases t1 : bareB N false false false false with
    | false =>
      unfold vNd
      go_enter Tryz.func57, Tryz.ntmps57
      go_wp2_with (first | (go_at_call 75; refine (l2bare_ffff _ N _ _ st.a.n st.a.k st.a.l1).mono ?_; rintro e w' ⟨rfl, hb'⟩; replace st := st.below hb'; clear hb'; obtain ⟨x0, x1, x2, x3, x4, x5, x6, x7, x8, xf⟩ := nd_cells st.bn; have xt := st.bt))
      go_ret
      exact ⟨rfl, st.bel⟩
    | true =>
      unfold vNd
      go_enter Tryz.func57, Tryz.ntmps57
      go_wp2_with (first | (go_at_call 75; refine (l2bare_ffff _ N _ _ st.a.n st.a.k st.a.l1).mono ?_; rintro e w' ⟨rfl, hb'⟩; replace st := st.below hb'; clear hb'; obtain ⟨x0, x1, x2, x3, x4, x5, x6, x7, x8, xf⟩ := nd_cells st.bn; have xt := st.bt))
      go_ret
      exact ⟨rfl, st.bel⟩

set_option maxRecDepth 100000 in
set_option maxHeartbeats 3200000 in
theorem l2ex_e22 {w : World} {vt : Value} {ns : List Nd} {N : Nd} {vn vk : Value} (A : NArg w vt ns N vn vk) (hK : N.k = 22) :
    Calls Tryz.prog 57 #[.agg #[vt], vNd N vn vk] w fun e w' => e = .returned (.bool (((N.ks.length : Int) == 0) && bareB N false false false false)) ∧ Below w.heap.size w w' := by
  obtain ⟨a1, c1, rfl⟩ := A.t.form
  obtain ⟨a2, c2, rfl⟩ := A.n.form
  obtain ⟨a3, c3, rfl⟩ := A.k.form
  have st := St.start A
  have hlx := A.lx
  have HX : Hid (N.x.size ≤ 1100000) := by show _ ≤ _; omega
  clear A
  have q20 : (N.k == 20) = false := by rw [hK]; rfl
  have q21 : (N.k == 21) = false := by rw [hK]; rfl
  have q22 : (N.k == 22) = true := by rw [hK]; rfl
  clear hK
  cases t0 : ((N.ks.length : Int) == 0) with
  | false =>
    unfold vNd
    go_enter Tryz.func57, Tryz.ntmps57
    go_wp2_with (first | (go_at_call 75; refine (l2bare_ffff _ N _ _ st.a.n st.a.k st.a.l1).mono ?_; rintro e w' ⟨rfl, hb'⟩; replace st := st.below hb'; clear hb'; obtain ⟨x0, x1, x2, x3, x4, x5, x6, x7, x8, xf⟩ := nd_cells st.bn; have xt := st.bt))
    go_ret
    exact ⟨rfl, st.bel⟩
  | true =>
    have HL : N.ks.length = 0 := by have := eq_of_beq t0; omega
    clear HL
    cases t1 : bareB N false false false false with
    | false =>
      unfold vNd
      go_enter Tryz.func57, Tryz.ntmps57
      go_wp2_with (first | (go_at_call 75; refine (l2bare_ffff _ N _ _ st.a.n st.a.k st.a.l1).mono ?_; rintro e w' ⟨rfl, hb'⟩; replace st := st.below hb'; clear hb'; obtain ⟨x0, x1, x2, x3, x4, x5, x6, x7, x8, xf⟩ := nd_cells st.bn; have xt := st.bt))
      go_ret
      exact ⟨rfl, st.bel⟩
    | true =>
      unfold vNd
      go_enter Tryz.func57, Tryz.ntmps57
      go_wp2_with (first | (go_at_call 75; refine (l2bare_ffff _ N _ _ st.a.n st.a.k st.a.l1).mono ?_; rintro e w' ⟨rfl, hb'⟩; replace st := st.below hb'; clear hb'; obtain ⟨x0, x1, x2, x3, x4, x5, x6, x7, x8, xf⟩ := nd_cells st.bn; have xt := st.bt))
      go_ret
      exact ⟨rfl, st.bel⟩

set_option maxRecDepth 100000 in
set_option maxHeartbeats 3200000 in
theorem l2ex_e27 {w : World} {vt : Value} {ns : List Nd} {N : Nd} {vn vk : Value} (A : NArg w vt ns N vn vk) (hK : N.k = 27) :
    Calls Tryz.prog 57 #[.agg #[vt], vNd N vn vk] w fun e w' => e = .returned (.bool (((N.ks.length : Int) == 0) && bareB N false false false false)) ∧ Below w.heap.size w w' := by
  obtain ⟨a1, c1, rfl⟩ := A.t.form
  obtain ⟨a2, c2, rfl⟩ := A.n.form
  obtain ⟨a3, c3, rfl⟩ := A.k.form
  have st := St.start A
  have hlx := A.lx
  have HX : Hid (N.x.size ≤ 1100000) := by show _ ≤ _; omega
  clear A
  have q20 : (N.k == 20) = false := by rw [hK]; rfl
  have q21 : (N.k == 21) = false := by rw [hK]; rfl
  have q22 : (N.k == 22) = false := by rw [hK]; rfl
  have q27 : (N.k == 27) = true := by rw [hK]; rfl
  clear hK
  cases t0 : ((N.ks.length : Int) == 0) with
  | false =>
    unfold vNd
    go_enter Tryz.func57, Tryz.ntmps57
    go_wp2_with (first | (go_at_call 75; refine (l2bare_ffff _ N _ _ st.a.n st.a.k st.a.l1).mono ?_; rintro e w' ⟨rfl, hb'⟩; replace st := st.below hb'; clear hb'; obtain ⟨x0, x1, x2, x3, x4, x5, x6, x7, x8, xf⟩ := nd_cells st.bn; have xt := st.bt))
    go_ret
    exact ⟨rfl, st.bel⟩
  | true =>
    have HL : N.ks.length = 0 := by have := eq_of_beq t0; omega
    clear HL
    cases t1 : bareB N false false false false with
    | false =>
      unfold vNd
      go_enter Tryz.func57, Tryz.ntmps57
      go_wp2_with (first | (go_at_call 75; refine (l2bare_ffff _ N _ _ st.a.n st.a.k st.a.l1).mono ?_; rintro e w' ⟨rfl, hb'⟩; replace st := st.below hb'; clear hb'; obtain ⟨x0, x1, x2, x3, x4, x5, x6, x7, x8, xf⟩ := nd_cells st.bn; have xt := st.bt))
      go_ret
      exact ⟨rfl, st.bel⟩
    | true =>
      unfold vNd
      go_enter Tryz.func57, Tryz.ntmps57
      go_wp2_with (first | (go_at_call 75; refine (l2bare_ffff _ N _ _ st.a.n st.a.k st.a.l1).mono ?_; rintro e w' ⟨rfl, hb'⟩; replace st := st.below hb'; clear hb'; obtain ⟨x0, x1, x2, x3, x4, x5, x6, x7, x8, xf⟩ := nd_cells st.bn; have xt := st.bt))
      go_ret
      exact ⟨rfl, st.bel⟩

set_option maxRecDepth 100000 in
set_option maxHeartbeats 3200000 in
theorem l2ex_e23 {w : World} {vt : Value} {ns : List Nd} {N : Nd} {vn vk : Value} (A : NArg w vt ns N vn vk) (hK : N.k = 23) :
    Calls Tryz.prog 57 #[.agg #[vt], vNd N vn vk] w fun e w' => e = .returned (.bool (((N.ks.length : Int) == 0) && bareB N false true false false)) ∧ Below w.heap.size w w' := by
  obtain ⟨a1, c1, rfl⟩ := A.t.form
  obtain ⟨a2, c2, rfl⟩ := A.n.form
  obtain ⟨a3, c3, rfl⟩ := A.k.form
  have st := St.start A
  have hlx := A.lx
  have HX : Hid (N.x.size ≤ 1100000) := by show _ ≤ _; omega
  clear A
  have q20 : (N.k == 20) = false := by rw [hK]; rfl
  have q21 : (N.k == 21) = false := by rw [hK]; rfl
  have q22 : (N.k == 22) = false := by rw [hK]; rfl
  have q27 : (N.k == 27) = false := by rw [hK]; rfl
  have q23 : (N.k == 23) = true := by rw [hK]; rfl
  clear hK
  cases t0 : ((N.ks.length : Int) == 0) with
  | false =>
    unfold vNd
    go_enter Tryz.func57, Tryz.ntmps57
    go_wp2_with (first | (go_at_call 75; refine (l2bare_ftff _ N _ _ st.a.n st.a.k st.a.l1).mono ?_; rintro e w' ⟨rfl, hb'⟩; replace st := st.below hb'; clear hb'; obtain ⟨x0, x1, x2, x3, x4, x5, x6, x7, x8, xf⟩ := nd_cells st.bn; have xt := st.bt))
    go_ret
    exact ⟨rfl, st.bel⟩
  | true =>
    have HL : N.ks.length = 0 := by have := eq_of_beq t0; omega
    clear HL
    cases t1 : bareB N false true false false with
    | false =>
      unfold vNd
      go_enter Tryz.func57, Tryz.ntmps57
      go_wp2_with (first | (go_at_call 75; refine (l2bare_ftff _ N _ _ st.a.n st.a.k st.a.l1).mono ?_; rintro e w' ⟨rfl, hb'⟩; replace st := st.below hb'; clear hb'; obtain ⟨x0, x1, x2, x3, x4, x5, x6, x7, x8, xf⟩ := nd_cells st.bn; have xt := st.bt))
      go_ret
      exact ⟨rfl, st.bel⟩
    | true =>
      unfold vNd
      go_enter Tryz.func57, Tryz.ntmps57
      go_wp2_with (first | (go_at_call 75; refine (l2bare_ftff _ N _ _ st.a.n st.a.k st.a.l1).mono ?_; rintro e w' ⟨rfl, hb'⟩; replace st := st.below hb'; clear hb'; obtain ⟨x0, x1, x2, x3, x4, x5, x6, x7, x8, xf⟩ := nd_cells st.bn; have xt := st.bt))
      go_ret
      exact ⟨rfl, st.bel⟩

set_option maxRecDepth 100000 in
set_option maxHeartbeats 3200000 in
theorem l2ex_e24 {w : World} {vt : Value} {ns : List Nd} {N : Nd} {vn vk : Value} (A : NArg w vt ns N vn vk) (hK : N.k = 24) :
    Calls Tryz.prog 57 #[.agg #[vt], vNd N vn vk] w fun e w' => e = .returned (.bool (((N.ks.length : Int) == 0) && bareB N false false true false && fok N.x)) ∧ Below w.heap.size w w' := by
  obtain ⟨a1, c1, rfl⟩ := A.t.form
  obtain ⟨a2, c2, rfl⟩ := A.n.form
  obtain ⟨a3, c3, rfl⟩ := A.k.form
  have st := St.start A
  have hlx := A.lx
  have HX : Hid (N.x.size ≤ 1100000) := by show _ ≤ _; omega
  clear A
  have q20 : (N.k == 20) = false := by rw [hK]; rfl
  have q21 : (N.k == 21) = false := by rw [hK]; rfl
  have q22 : (N.k == 22) = false := by rw [hK]; rfl
  have q27 : (N.k == 27) = false := by rw [hK]; rfl
  have q23 : (N.k == 23) = false := by rw [hK]; rfl
  have q24 : (N.k == 24) = true := by rw [hK]; rfl
  clear hK
  cases t0 : ((N.ks.length : Int) == 0) with
  | false =>
    unfold vNd
    go_enter Tryz.func57, Tryz.ntmps57
    go_wp2_with (first | (go_at_call 75; refine (l2bare_fftf _ N _ _ st.a.n st.a.k st.a.l1).mono ?_; rintro e w' ⟨rfl, hb'⟩; replace st := st.below hb'; clear hb'; obtain ⟨x0, x1, x2, x3, x4, x5, x6, x7, x8, xf⟩ := nd_cells st.bn; have xt := st.bt) | (go_at_call 79; refine (l1fltok_any N.x HX.out _).mono ?_; rintro e w' ⟨rfl, hb'⟩; replace st := st.below hb'; clear hb'; obtain ⟨x0, x1, x2, x3, x4, x5, x6, x7, x8, xf⟩ := nd_cells st.bn; have xt := st.bt))
    go_ret
    exact ⟨rfl, st.bel⟩
  | true =>
    have HL : N.ks.length = 0 := by have := eq_of_beq t0; omega
    clear HL
    cases t1 : bareB N false false true false with
    | false =>
      unfold vNd
      go_enter Tryz.func57, Tryz.ntmps57
      go_wp2_with (first | (go_at_call 75; refine (l2bare_fftf _ N _ _ st.a.n st.a.k st.a.l1).mono ?_; rintro e w' ⟨rfl, hb'⟩; replace st := st.below hb'; clear hb'; obtain ⟨x0, x1, x2, x3, x4, x5, x6, x7, x8, xf⟩ := nd_cells st.bn; have xt := st.bt) | (go_at_call 79; refine (l1fltok_any N.x HX.out _).mono ?_; rintro e w' ⟨rfl, hb'⟩; replace st := st.below hb'; clear hb'; obtain ⟨x0, x1, x2, x3, x4, x5, x6, x7, x8, xf⟩ := nd_cells st.bn; have xt := st.bt))
      go_ret
      exact ⟨rfl, st.bel⟩
    | true =>
      cases t2 : fok N.x with
      | false =>
        unfold vNd
        go_enter Tryz.func57, Tryz.ntmps57
        go_wp2_with (first | (go_at_call 75; refine (l2bare_fftf _ N _ _ st.a.n st.a.k st.a.l1).mono ?_; rintro e w' ⟨rfl, hb'⟩; replace st := st.below hb'; clear hb'; obtain ⟨x0, x1, x2, x3, x4, x5, x6, x7, x8, xf⟩ := nd_cells st.bn; have xt := st.bt) | (go_at_call 79; refine (l1fltok_any N.x HX.out _).mono ?_; rintro e w' ⟨rfl, hb'⟩; replace st := st.below hb'; clear hb'; obtain ⟨x0, x1, x2, x3, x4, x5, x6, x7, x8, xf⟩ := nd_cells st.bn; have xt := st.bt))
        go_ret
        exact ⟨rfl, st.bel⟩
      | true =>
        unfold vNd
        go_enter Tryz.func57, Tryz.ntmps57
        go_wp2_with (first | (go_at_call 75; refine (l2bare_fftf _ N _ _ st.a.n st.a.k st.a.l1).mono ?_; rintro e w' ⟨rfl, hb'⟩; replace st := st.below hb'; clear hb'; obtain ⟨x0, x1, x2, x3, x4, x5, x6, x7, x8, xf⟩ := nd_cells st.bn; have xt := st.bt) | (go_at_call 79; refine (l1fltok_any N.x HX.out _).mono ?_; rintro e w' ⟨rfl, hb'⟩; replace st := st.below hb'; clear hb'; obtain ⟨x0, x1, x2, x3, x4, x5, x6, x7, x8, xf⟩ := nd_cells st.bn; have xt := st.bt))
        go_ret
        exact ⟨rfl, st.bel⟩

set_option maxRecDepth 100000 in
set_option maxHeartbeats 3200000 in
theorem l2ex_e25 {w : World} {vt : Value} {ns : List Nd} {N : Nd} {vn vk : Value} (A : NArg w vt ns N vn vk) (hK : N.k = 25) :
    Calls Tryz.prog 57 #[.agg #[vt], vNd N vn vk] w fun e w' => e = .returned (.bool (((N.ks.length : Int) == 0) && bareB N false false true false && decide ((N.x.size : Int) ≤ 4000))) ∧ Below w.heap.size w w' := by
  obtain ⟨a1, c1, rfl⟩ := A.t.form
  obtain ⟨a2, c2, rfl⟩ := A.n.form
  obtain ⟨a3, c3, rfl⟩ := A.k.form
  have st := St.start A
  have hlx := A.lx
  have HX : Hid (N.x.size ≤ 1100000) := by show _ ≤ _; omega
  clear A
  have q20 : (N.k == 20) = false := by rw [hK]; rfl
  have q21 : (N.k == 21) = false := by rw [hK]; rfl
  have q22 : (N.k == 22) = false := by rw [hK]; rfl
  have q27 : (N.k == 27) = false := by rw [hK]; rfl
  have q23 : (N.k == 23) = false := by rw [hK]; rfl
  have q24 : (N.k == 24) = false := by rw [hK]; rfl
  have q25 : (N.k == 25) = true := by rw [hK]; rfl
  clear hK
  cases t0 : ((N.ks.length : Int) == 0) with
  | false =>
    unfold vNd
    go_enter Tryz.func57, Tryz.ntmps57
    go_wp2_with (first | (go_at_call 75; refine (l2bare_fftf _ N _ _ st.a.n st.a.k st.a.l1).mono ?_; rintro e w' ⟨rfl, hb'⟩; replace st := st.below hb'; clear hb'; obtain ⟨x0, x1, x2, x3, x4, x5, x6, x7, x8, xf⟩ := nd_cells st.bn; have xt := st.bt))
    go_ret
    exact ⟨rfl, st.bel⟩
  | true =>
    have HL : N.ks.length = 0 := by have := eq_of_beq t0; omega
    clear HL
    cases t1 : bareB N false false true false with
    | false =>
      unfold vNd
      go_enter Tryz.func57, Tryz.ntmps57
      go_wp2_with (first | (go_at_call 75; refine (l2bare_fftf _ N _ _ st.a.n st.a.k st.a.l1).mono ?_; rintro e w' ⟨rfl, hb'⟩; replace st := st.below hb'; clear hb'; obtain ⟨x0, x1, x2, x3, x4, x5, x6, x7, x8, xf⟩ := nd_cells st.bn; have xt := st.bt))
      go_ret
      exact ⟨rfl, st.bel⟩
    | true =>
      cases t2 : decide ((N.x.size : Int) ≤ 4000) with
      | false =>
        unfold vNd
        go_enter Tryz.func57, Tryz.ntmps57
        go_wp2_with (first | (go_at_call 75; refine (l2bare_fftf _ N _ _ st.a.n st.a.k st.a.l1).mono ?_; rintro e w' ⟨rfl, hb'⟩; replace st := st.below hb'; clear hb'; obtain ⟨x0, x1, x2, x3, x4, x5, x6, x7, x8, xf⟩ := nd_cells st.bn; have xt := st.bt))
        go_ret
        exact ⟨rfl, st.bel⟩
      | true =>
        unfold vNd
        go_enter Tryz.func57, Tryz.ntmps57
        go_wp2_with (first | (go_at_call 75; refine (l2bare_fftf _ N _ _ st.a.n st.a.k st.a.l1).mono ?_; rintro e w' ⟨rfl, hb'⟩; replace st := st.below hb'; clear hb'; obtain ⟨x0, x1, x2, x3, x4, x5, x6, x7, x8, xf⟩ := nd_cells st.bn; have xt := st.bt))
        go_ret
        exact ⟨rfl, st.bel⟩

set_option maxRecDepth 100000 in
set_option maxHeartbeats 3200000 in
theorem l2ex_e26 {w : World} {vt : Value} {ns : List Nd} {N : Nd} {vn vk : Value} (A : NArg w vt ns N vn vk) (hK : N.k = 26) :
    Calls Tryz.prog 57 #[.agg #[vt], vNd N vn vk] w fun e w' => e = .returned (.bool (((N.ks.length : Int) == 0) && bareB N false false true false && nmok N.x)) ∧ Below w.heap.size w w' := by
  obtain ⟨a1, c1, rfl⟩ := A.t.form
  obtain ⟨a2, c2, rfl⟩ := A.n.form
  obtain ⟨a3, c3, rfl⟩ := A.k.form
  have st := St.start A
  have hlx := A.lx
  have HX : Hid (N.x.size ≤ 1100000) := by show _ ≤ _; omega
  clear A
  have q20 : (N.k == 20) = false := by rw [hK]; rfl
  have q21 : (N.k == 21) = false := by rw [hK]; rfl
  have q22 : (N.k == 22) = false := by rw [hK]; rfl
  have q27 : (N.k == 27) = false := by rw [hK]; rfl
  have q23 : (N.k == 23) = false := by rw [hK]; rfl
  have q24 : (N.k == 24) = false := by rw [hK]; rfl
  have q25 : (N.k == 25) = false := by rw [hK]; rfl
  have q26 : (N.k == 26) = true := by rw [hK]; rfl
  clear hK
  cases t0 : ((N.ks.length : Int) == 0) with
  | false =>
    unfold vNd
    go_enter Tryz.func57, Tryz.ntmps57
    go_wp2_with (first | (go_at_call 75; refine (l2bare_fftf _ N _ _ st.a.n st.a.k st.a.l1).mono ?_; rintro e w' ⟨rfl, hb'⟩; replace st := st.below hb'; clear hb'; obtain ⟨x0, x1, x2, x3, x4, x5, x6, x7, x8, xf⟩ := nd_cells st.bn; have xt := st.bt) | (go_at_call 80; refine (l1nameok_any N.x HX.out _).mono ?_; rintro e w' ⟨rfl, hb'⟩; replace st := st.below hb'; clear hb'; obtain ⟨x0, x1, x2, x3, x4, x5, x6, x7, x8, xf⟩ := nd_cells st.bn; have xt := st.bt))
    go_ret
    exact ⟨rfl, st.bel⟩
  | true =>
    have HL : N.ks.length = 0 := by have := eq_of_beq t0; omega
    clear HL
    cases t1 : bareB N false false true false with
    | false =>
      unfold vNd
      go_enter Tryz.func57, Tryz.ntmps57
      go_wp2_with (first | (go_at_call 75; refine (l2bare_fftf _ N _ _ st.a.n st.a.k st.a.l1).mono ?_; rintro e w' ⟨rfl, hb'⟩; replace st := st.below hb'; clear hb'; obtain ⟨x0, x1, x2, x3, x4, x5, x6, x7, x8, xf⟩ := nd_cells st.bn; have xt := st.bt) | (go_at_call 80; refine (l1nameok_any N.x HX.out _).mono ?_; rintro e w' ⟨rfl, hb'⟩; replace st := st.below hb'; clear hb'; obtain ⟨x0, x1, x2, x3, x4, x5, x6, x7, x8, xf⟩ := nd_cells st.bn; have xt := st.bt))
      go_ret
      exact ⟨rfl, st.bel⟩
    | true =>
      cases t2 : nmok N.x with
      | false =>
        unfold vNd
        go_enter Tryz.func57, Tryz.ntmps57
        go_wp2_with (first | (go_at_call 75; refine (l2bare_fftf _ N _ _ st.a.n st.a.k st.a.l1).mono ?_; rintro e w' ⟨rfl, hb'⟩; replace st := st.below hb'; clear hb'; obtain ⟨x0, x1, x2, x3, x4, x5, x6, x7, x8, xf⟩ := nd_cells st.bn; have xt := st.bt) | (go_at_call 80; refine (l1nameok_any N.x HX.out _).mono ?_; rintro e w' ⟨rfl, hb'⟩; replace st := st.below hb'; clear hb'; obtain ⟨x0, x1, x2, x3, x4, x5, x6, x7, x8, xf⟩ := nd_cells st.bn; have xt := st.bt))
        go_ret
        exact ⟨rfl, st.bel⟩
      | true =>
        unfold vNd
        go_enter Tryz.func57, Tryz.ntmps57
        go_wp2_with (first | (go_at_call 75; refine (l2bare_fftf _ N _ _ st.a.n st.a.k st.a.l1).mono ?_; rintro e w' ⟨rfl, hb'⟩; replace st := st.below hb'; clear hb'; obtain ⟨x0, x1, x2, x3, x4, x5, x6, x7, x8, xf⟩ := nd_cells st.bn; have xt := st.bt) | (go_at_call 80; refine (l1nameok_any N.x HX.out _).mono ?_; rintro e w' ⟨rfl, hb'⟩; replace st := st.below hb'; clear hb'; obtain ⟨x0, x1, x2, x3, x4, x5, x6, x7, x8, xf⟩ := nd_cells st.bn; have xt := st.bt))
        go_ret
        exact ⟨rfl, st.bel⟩
end Go.Proofs.YtcnhhhfedakepaaGreatDoor
