import Derived.Test.YtdaaiekepmlpoaaUSz
namespace Go.Proofs.Ytdaaiekepmlpoaa
open Go.RowKit
set_option linter.unusedVariables false

def sumN : List Nd → Nat
  | [] => 0
  | N :: l => bulkN N + sumN l
theorem sumN_app (a b : List Nd) : sumN (a ++ b) = sumN a + sumN b := by
  induction a with
  | nil => simp [sumN]
  | cons x r ih => simp [sumN, ih]; omega
theorem sumN_take (l : List Nd) (k : Nat) (s : Nd) (h : l[k]? = some s) : sumN (l.take (k + 1)) = sumN (l.take k) + bulkN s := by
  rw [List.take_add_one, h, sumN_app]; simp [sumN]
theorem sumN_le (l : List Nd) (k : Nat) : sumN (l.take k) ≤ sumN l := by
  have h := sumN_app (l.take k) (l.drop k)
  rw [List.take_append_drop] at h
  omega
def bulkT (l : List Nd) : Nat := l.length + sumN l

set_option maxRecDepth 100000 in
set_option maxHeartbeats 1600000 in
theorem szNodeS_any (w : World) (v : Value) (l : List Nd) (left : Int) (h : NdsAt w v l) (hs : ∀ N ∈ l, NdLen N) (hl : l.length ≤ 9223372036854775807) (h0 : 0 ≤ left) (h1 : left ≤ 1048576) :
    Calls Try.prog 16 #[v, .int .i64 left] w fun e w' => e = .returned (.int .i64 (lessI left (bulkT l))) ∧ Below w.heap.size w w' := by
  obtain ⟨a, c, rfl⟩ := h.form
  obtain ⟨n, hn⟩ : ∃ n, l.length = n := ⟨_, rfl⟩
  have HN : Hid (l.length = n) := hn
  rw [hn] at hl ⊢
  by_cases g1 : left < (n : Int)
  · have hneg : left - (n : Int) < 0 := by omega
    have hb : ¬ ((bulkT l : Nat) : Int) ≤ left := by unfold bulkT; omega
    rw [lessI_no hb]
    clear hn HN
    go_enter Try.func16, Try.ntmps16
    go_wp2
    go_ret
    exact ⟨rfl, Below.refl _ _⟩
  · have hneg : ¬ left - (n : Int) < 0 := by omega
    have HS : Hid (∀ N ∈ l, NdLen N) := hs
    have HA : Hid (NdsAt w (.slice a n c) l) := by rw [← hn]; exact h
    clear hs h hn
    go_enter Try.func16, Try.ntmps16
    go_wp2_with fail
    go_loopw [1, 5] (fun vl vi wr => ∃ (k : Nat) (z : Int), k ≤ n ∧ vi = .int .i64 k ∧ vl = .int .i64 z ∧ 0 ≤ z ∧ z ≤ 1048576 ∧ Hid (z = left - (n : Int) - (sumN (l.take k) : Int)) ∧ Below w.heap.size w wr) (fun _ vi _ => n - (intOf vi).toNat)
    case atStart => exact ⟨0, left - n, by omega, rfl, rfl, by omega, by omega, by show _ = _; simp [sumN], Below.refl _ _⟩
    case round =>
      obtain ⟨k, z, hk, rfl, rfl, z0, z1, HZ, hb⟩ := hrel
      by_cases hlt : k < n
      · obtain ⟨N, hsk⟩ := some_at HN.out hlt
        have hss := HS.out N (List.mem_of_getElem? hsk)
        have hst := sumN_take l k N hsk
        have hle := sumN_le l (k + 1)
        obtain ⟨a', rfl, vn, vk, hNd⟩ := (HA.out.below hb).get hsk
        have hki : (k : Int) < (n : Int) := by omega
        have hk0 : (0 : Int) ≤ (k : Int) := by omega
        obtain ⟨c0, c1, c2, c3, c4, c5, c6, c7, c8, hn, hkk⟩ := hNd
        have kz := fun w hn hkk => szNode_any w N vn vk z hn hkk hss z0 z1
        obtain ⟨b, hB⟩ : ∃ b, bulkN N = b := ⟨_, rfl⟩
        rw [hB] at hst kz
        have HB : Hid (bulkN N = b) := hB
        obtain ⟨av, cv, rfl⟩ := hn.form
        obtain ⟨ak, ck, rfl⟩ := hkk.form
        unfold vNd at kz
        by_cases hfit : (b : Int) ≤ z
        · rw [lessI_yes hfit] at kz
          have hng : ¬ z - (b : Int) < 0 := by omega
          have HR : Hid (z - (b : Int) = left - (n : Int) - (sumN (l.take (k + 1)) : Int)) := by show _ = _; have := HZ.out; omega
          have kz' := kz wr hn hkk
          clear hst hle HZ hsk kz hB hn hkk hss
          go_wp2_with (go_at_call 26; refine kz'.mono ?_; rintro e w3 ⟨rfl, hb3⟩)
          exact ⟨⟨k + 1, z - b, by omega, by go_num, by go_num, by omega, by omega, HR, hb.trans (hb3.mono hb.size)⟩, by simp [intOf]; omega⟩
        · rw [lessI_no hfit] at kz
          have HR : Hid (lessI left (bulkT l) = -1) := by show _ = _; have := HZ.out; have := HN.out; exact lessI_no (by unfold bulkT; omega)
          have kz' := kz wr hn hkk
          clear hst hle HZ hsk kz hB hn hkk hss
          go_wp2_with (go_at_call 26; refine kz'.mono ?_; rintro e w3 ⟨rfl, hb3⟩)
          go_ret
          exact ⟨by rw [HR.out]; rfl, hb.trans (hb3.mono hb.size)⟩
      · obtain rfl : k = n := by omega
        have hz : z = lessI left (bulkT l) := by
          have := HZ.out
          have hn := HN.out
          rw [List.take_of_length_le (by omega)] at this
          rw [lessI_yes (by unfold bulkT; omega)]
          unfold bulkT; omega
        have HF : Hid (z = lessI left (bulkT l)) := hz
        clear hz
        go_wp2_with fail
        go_ret
        exact ⟨by rw [← HF.out]; rfl, hb⟩

set_option maxHeartbeats 800000 in
theorem szTree_any (w : World) (v : Value) (l : List Nd) (left : Int) (h : NdsAt w v l) (hs : ∀ N ∈ l, NdLen N) (hl : l.length ≤ 9223372036854775807) (h0 : 0 ≤ left) (h1 : left ≤ 1048576) :
    Calls Try.prog 7 #[.agg #[v], .int .i64 left] w fun e w' => e = .returned (.int .i64 (lessI left (bulkT l))) ∧ Below w.heap.size w w' := by
  have hb0 : ∀ o, Below w.heap.size w (w.alloc o) := fun o => (Below.refl _ w).alloc (Nat.le_refl _) o
  have kz := fun o => szNodeS_any (w.alloc o) v l left (h.below (hb0 o)) hs hl h0 h1
  obtain ⟨a, c, rfl⟩ := h.form
  generalize l.length = n at kz
  have f3 : ∃ R, lessI left (bulkT l) = R ∧ -1 ≤ R := ⟨_, rfl, by unfold lessI; split <;> omega⟩
  obtain ⟨R, hR, hR1⟩ := f3
  rw [hR] at kz ⊢
  clear hR h hs hl
  by_cases f4 : R < 0
  · obtain rfl : R = -1 := by omega
    go_enter Try.func7, Try.ntmps7
    go_wp2_with (go_at_call 16; refine (kz _).mono ?_; rintro e w3 ⟨rfl, hb3⟩)
    go_ret
    exact ⟨rfl, (hb0 _).trans (hb3.mono (by simp))⟩
  · go_enter Try.func7, Try.ntmps7
    go_wp2_with (go_at_call 16; refine (kz _).mono ?_; rintro e w3 ⟨rfl, hb3⟩)
    go_ret
    exact ⟨rfl, (hb0 _).trans (hb3.mono (by simp))⟩
end Go.Proofs.Ytdaaiekepmlpoaa
