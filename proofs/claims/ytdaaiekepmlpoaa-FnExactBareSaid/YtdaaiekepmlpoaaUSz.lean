import Derived.Test.YtdaaiekepmlpoaaUTree
namespace Go.Proofs.Ytdaaiekepmlpoaa
open Go.RowKit
set_option linter.unusedVariables false

def sumS : List ByteArray → Nat
  | [] => 0
  | s :: l => s.size + sumS l
theorem sumS_app (a b : List ByteArray) : sumS (a ++ b) = sumS a + sumS b := by
  induction a with
  | nil => simp [sumS]
  | cons x r ih => simp [sumS, ih]; omega
theorem sumS_take (l : List ByteArray) (k : Nat) (s : ByteArray) (h : l[k]? = some s) : sumS (l.take (k + 1)) = sumS (l.take k) + s.size := by
  rw [List.take_add_one, h, sumS_app]; simp [sumS]
theorem sumS_le (l : List ByteArray) (k : Nat) : sumS (l.take k) ≤ sumS l := by
  have h := sumS_app (l.take k) (l.drop k)
  rw [List.take_append_drop] at h
  omega
def bulkS (l : List ByteArray) : Nat := l.length + sumS l
def lessI (left : Int) (b : Nat) : Int := if (b : Int) ≤ left then left - b else -1
theorem lessI_yes {left : Int} {b : Nat} (h : (b : Int) ≤ left) : lessI left b = left - b := by unfold lessI; rw [if_pos h]
theorem lessI_no {left : Int} {b : Nat} (h : ¬ (b : Int) ≤ left) : lessI left b = -1 := by unfold lessI; rw [if_neg h]

set_option maxRecDepth 100000 in
set_option maxHeartbeats 1600000 in
theorem szStringS_any (w : World) (v : Value) (l : List ByteArray) (left : Int) (h : StrsAt w v l) (hs : ∀ s ∈ l, s.size ≤ 9223372036854775807) (hl : l.length ≤ 9223372036854775807) (h0 : 0 ≤ left) (h1 : left ≤ 1048576) :
    Calls Try.prog 36 #[v, .int .i64 left] w fun e w' => e = .returned (.int .i64 (lessI left (bulkS l))) ∧ w' = w := by
  obtain ⟨a, c, rfl⟩ := h.form
  obtain ⟨n, hn⟩ : ∃ n, l.length = n := ⟨_, rfl⟩
  have HN : Hid (l.length = n) := hn
  rw [hn] at hl ⊢
  by_cases g1 : left < (n : Int)
  · have hneg : left - (n : Int) < 0 := by omega
    have hb : ¬ ((bulkS l : Nat) : Int) ≤ left := by unfold bulkS; omega
    rw [lessI_no hb]
    clear hn HN
    go_enter Try.func36, Try.ntmps36
    go_wp2
    go_ret
    exact ⟨rfl, rfl⟩
  · have hneg : ¬ left - (n : Int) < 0 := by omega
    have HS : Hid (∀ s ∈ l, s.size ≤ 9223372036854775807) := hs
    have HA : Hid (StrsAt w (.slice a n c) l) := by rw [← hn]; exact h
    clear hs h hn
    go_enter Try.func36, Try.ntmps36
    go_wp2_with fail
    go_loop [1, 5] (fun vl vi => ∃ (k : Nat) (z : Int), k ≤ n ∧ vi = .int .i64 k ∧ vl = .int .i64 z ∧ 0 ≤ z ∧ z ≤ 1048576 ∧ Hid (z = left - (n : Int) - (sumS (l.take k) : Int))) (fun _ vi => n - (intOf vi).toNat)
    case atStart => exact ⟨0, left - n, by omega, rfl, rfl, by omega, by omega, by show _ = _; simp [sumS]⟩
    case round =>
      obtain ⟨k, z, hk, rfl, rfl, z0, z1, HZ⟩ := hrel
      by_cases hlt : k < n
      · obtain ⟨s, hsk⟩ := some_at HN.out hlt
        have hss := HS.out s (List.mem_of_getElem? hsk)
        have hst := sumS_take l k s hsk
        have hle := sumS_le l (k + 1)
        obtain ⟨a', rfl, hck⟩ := HA.out.get hsk
        have hki : (k : Int) < (n : Int) := by omega
        have hk0 : (0 : Int) ≤ (k : Int) := by omega
        obtain ⟨m, hm⟩ : ∃ m, s.size = m := ⟨_, rfl⟩
        rw [hm] at hss hst
        have HM : Hid (s.size = m) := hm
        by_cases hfit : (m : Int) ≤ z
        · have hng : ¬ z - (m : Int) < 0 := by omega
          have HR : Hid (z - (m : Int) = left - (n : Int) - (sumS (l.take (k + 1)) : Int)) := by show _ = _; have := HZ.out; omega
          clear hst hle HZ hsk
          go_wp2_with fail
          go_round
          case rel => exact ⟨k + 1, z - m, by omega, by go_num, by go_num, by omega, by omega, HR⟩
          case measure => simp [intOf]; omega
        · have hng : z - (m : Int) < 0 := by omega
          have HR : Hid (lessI left (bulkS l) = -1) := by show _ = _; have := HZ.out; have := HN.out; exact lessI_no (by unfold bulkS; omega)
          clear hst hle HZ hsk
          go_wp2_with fail
          go_ret
          exact ⟨by rw [HR.out]; rfl, rfl⟩
      · obtain rfl : k = n := by omega
        have hz : z = lessI left (bulkS l) := by
          have := HZ.out
          have hn := HN.out
          rw [List.take_of_length_le (by omega)] at this
          rw [lessI_yes (by unfold bulkS; omega)]
          unfold bulkS; omega
        have HF : Hid (z = lessI left (bulkS l)) := hz
        clear hz
        go_wp2_with fail
        go_ret
        exact ⟨by rw [← HF.out]; rfl, rfl⟩

theorem lessI_two {left : Int} {a b : Nat} (h : (a : Int) ≤ left) : lessI (left - a) b = lessI left (a + b) := by
  unfold lessI
  by_cases g : (b : Int) ≤ left - a
  · rw [if_pos g, if_pos (by omega)]; omega
  · rw [if_neg g, if_neg (by omega)]
set_option maxHeartbeats 800000 in
theorem szIntS_any (w : World) (v : Value) (l : List Int) (left : Int) (h : IntsAt w v l) (hl : l.length ≤ 9223372036854775807) (h0 : 0 ≤ left) (h1 : left ≤ 1048576) :
    Calls Try.prog 37 #[v, .int .i64 left] w fun e w' => e = .returned (.int .i64 (lessI left l.length)) ∧ w' = w := by
  obtain ⟨a, c, rfl⟩ := h.form
  generalize l.length = n at hl
  by_cases g1 : (n : Int) ≤ left
  · have hneg : ¬ left - (n : Int) < 0 := by omega
    rw [lessI_yes g1]
    go_enter Try.func37, Try.ntmps37
    go_wp2
    go_ret
    exact ⟨rfl, rfl⟩
  · have hneg : left - (n : Int) < 0 := by omega
    rw [lessI_no g1]
    go_enter Try.func37, Try.ntmps37
    go_wp2
    go_ret
    exact ⟨rfl, rfl⟩

/-- A node's lengths are lengths. -/
structure NdLen (N : Nd) : Prop where
  x : N.x.size ≤ 9223372036854775807
  s : ∀ s ∈ N.nm, s.size ≤ 9223372036854775807
  n : N.nm.length ≤ 9223372036854775807
  k : N.ks.length ≤ 9223372036854775807
def bulkN (N : Nd) : Nat := N.x.size + (bulkS N.nm + N.ks.length)
def vNd (N : Nd) (vn vk : Value) : Value := .agg #[.int .i64 N.k, .int .i64 N.f, .int .i64 N.t, .int .i64 N.l, .int .i64 N.op, .int .i64 N.n, .string N.x, vn, vk]

set_option maxRecDepth 100000 in
set_option maxHeartbeats 1600000 in
theorem szNode_any (w : World) (N : Nd) (vn vk : Value) (left : Int) (hn : StrsAt w vn N.nm) (hk : IntsAt w vk N.ks) (hN : NdLen N) (h0 : 0 ≤ left) (h1 : left ≤ 1048576) :
    Calls Try.prog 26 #[vNd N vn vk, .int .i64 left] w fun e w' => e = .returned (.int .i64 (lessI left (bulkN N))) ∧ Below w.heap.size w w' := by
  have hb0 : ∀ o, Below w.heap.size w (w.alloc o) := fun o => (Below.refl _ w).alloc (Nat.le_refl _) o
  have ks := fun (o : Obj) (left : Int) (h0 : 0 ≤ left) (h1 : left ≤ 1048576) => szStringS_any (w.alloc o) vn N.nm left (hn.below (hb0 o)) hN.s hN.n h0 h1
  have ki := fun (o : Obj) (left : Int) (h0 : 0 ≤ left) (h1 : left ≤ 1048576) => szIntS_any (w.alloc o) vk N.ks left (hk.below (hb0 o)) hN.k h0 h1
  have HKS : Hid (∀ (o : Obj) (left : Int) (h0 : 0 ≤ left) (h1 : left ≤ 1048576), Calls Try.prog 36 #[vn, .int .i64 left] (w.alloc o) fun e w' => e = .returned (.int .i64 (lessI left (bulkS N.nm))) ∧ w' = w.alloc o) := ks
  have HKI : Hid (∀ (o : Obj) (left : Int) (h0 : 0 ≤ left) (h1 : left ≤ 1048576), Calls Try.prog 37 #[vk, .int .i64 left] (w.alloc o) fun e w' => e = .returned (.int .i64 (lessI left N.ks.length)) ∧ w' = w.alloc o) := ki
  clear ks ki
  obtain ⟨a1, c1, rfl⟩ := hn.form
  obtain ⟨a2, c2, rfl⟩ := hk.form
  unfold vNd bulkN
  have hx := hN.x
  generalize bulkS N.nm = B at HKS ⊢
  generalize N.nm.length = L1 at HKS ⊢
  generalize N.ks.length = L2 at HKI ⊢
  clear hn hk hN
  obtain ⟨nk, nf, nt, nl, nop, nn, nx, nnm, nks⟩ := N
  simp only at hx ⊢
  obtain ⟨m, hm⟩ : ∃ m, nx.size = m := ⟨_, rfl⟩
  rw [hm] at hx ⊢
  by_cases g1 : (m : Int) ≤ left
  · have f1 : ¬ left - (m : Int) < 0 := by omega
    rw [← lessI_two g1]
    by_cases g2 : (B : Int) ≤ left - m
    · rw [← lessI_two g2]
      have f2 : ¬ left - (m : Int) - (B : Int) < 0 := by omega
      have k1 := fun o => HKS.out o (left - m) (by omega) (by omega)
      have k2 := fun o => HKI.out o (left - m - B) (by omega) (by omega)
      rw [lessI_yes g2] at k1
      have f3 : ∃ R, lessI (left - m - B) L2 = R ∧ -1 ≤ R := ⟨_, rfl, by unfold lessI; split <;> omega⟩
      obtain ⟨R, hR, hR1⟩ := f3
      rw [hR] at k2 ⊢
      clear hR
      by_cases f4 : R < 0
      · obtain rfl : R = -1 := by omega
        go_enter Try.func26, Try.ntmps26
        go_wp2_with (first | (go_at_call 36; refine (k1 _).mono ?_; rintro e w' ⟨rfl, rfl⟩) | (go_at_call 37; refine (k2 _).mono ?_; rintro e w' ⟨rfl, rfl⟩))
        go_ret
        exact ⟨rfl, hb0 _⟩
      · go_enter Try.func26, Try.ntmps26
        go_wp2_with (first | (go_at_call 36; refine (k1 _).mono ?_; rintro e w' ⟨rfl, rfl⟩) | (go_at_call 37; refine (k2 _).mono ?_; rintro e w' ⟨rfl, rfl⟩))
        go_ret
        exact ⟨rfl, hb0 _⟩
    · rw [lessI_no (show ¬ ((B + L2 : Nat) : Int) ≤ left - m by omega)]
      have k1 := fun o => HKS.out o (left - m) (by omega) (by omega)
      rw [lessI_no g2] at k1
      go_enter Try.func26, Try.ntmps26
      go_wp2_with (first | (go_at_call 36; refine (k1 _).mono ?_; rintro e w' ⟨rfl, rfl⟩))
      go_ret
      exact ⟨rfl, hb0 _⟩
  · have f1 : left - (m : Int) < 0 := by omega
    rw [lessI_no (show ¬ ((m + (B + L2) : Nat) : Int) ≤ left by omega)]
    go_enter Try.func26, Try.ntmps26
    go_wp2
    go_ret
    exact ⟨rfl, hb0 _⟩
end Go.Proofs.Ytdaaiekepmlpoaa
