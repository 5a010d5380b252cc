import Derived.Test.YtcnhhhfedakepaaGreatDoorMM11
import Derived.Test.YtcnhhhfedakepaaGreatDoorMM10
import Derived.Test.YtcnhhhfedakepaaGreatDoorMM07
import Derived.Test.YtcnhhhfedakepaaGreatDoorMM01
import Derived.Test.YtcnhhhfedakepaaGreatDoorMM03
import Derived.Lib.AppendIntMem
namespace Go.Proofs.YtcnhhhfedakepaaGreatDoor
open Go.RowKit Go.Maps Go.WideMaps
set_option linter.unusedVariables false

def joinB : List ByteArray → ByteArray
  | [] => ⟨#[]⟩
  | x :: l => x ++ spAll l
theorem sumZ_take (l : List ByteArray) (k : Nat) (s : ByteArray) (h : l[k]? = some s) : sumZ (l.take (k + 1)) = sumZ (l.take k) + s.size := by
  induction l generalizing k with
  | nil => simp at h
  | cons a l ih =>
    cases k with
    | zero => simp at h; subst h; simp [sumZ]
    | succ k => have := ih k (by simpa using h); show a.size + sumZ (l.take (k + 1)) = a.size + sumZ (l.take k) + s.size; omega
theorem sumZ_le (l : List ByteArray) (k : Nat) : sumZ (l.take k) ≤ sumZ l := by
  induction l generalizing k with
  | nil => simp
  | cons a l ih =>
    cases k with
    | zero => exact Nat.zero_le _
    | succ k => have := ih k; show a.size + sumZ (l.take k) ≤ a.size + sumZ l; omega
theorem joinB_size (l : List ByteArray) (h : 1 ≤ l.length) : (joinB l).size = (l.length - 1) + sumZ l := by
  cases l with
  | nil => simp at h
  | cons x l => show (x ++ spAll l).size = (l.length + 1 - 1) + (x.size + sumZ l); rw [ByteArray.size_append, spAll_size]; omega

set_option maxRecDepth 100000 in
set_option maxHeartbeats 6400000 in
theorem join_any (g c m : Nat) (x : ByteArray) (l : List ByteArray) (w : World) (hN : l.length = m + 1) (hc0 : w.cell? ⟨g, 0, none⟩ = some (.string x)) (hcells : ∀ (j : Nat) y, l[j]? = some y → w.cell? ⟨g, j + 1, none⟩ = some (.string y)) (hn : m ≤ 4194304) (hcap : m + 2 ≤ c) (hlen : (x ++ spAll l).size ≤ 1099511627776) :
    Calls Tryz.prog 52 #[.slice (some ⟨g, 0, none⟩) (m + 2) c, .string { data := #[32] }] w fun e w' => e = .returned (.string (x ++ spAll l)) ∧ Below w.heap.size w w' := by
  have HC : Hid (w.cell? ⟨g, 0, none⟩ = some (.string x) ∧ (∀ (j : Nat) y, l[j]? = some y → w.cell? ⟨g, j + 1, none⟩ = some (.string y))) := ⟨hc0, hcells⟩
  have hjs : (x ++ spAll l).size = (m + 1) + (x.size + sumZ l) := by rw [ByteArray.size_append, spAll_size, hN]; omega
  obtain ⟨xs, hxs⟩ : ∃ xs, xs = x :: l := ⟨_, rfl⟩
  have hxc : ∀ (j : Nat) y, xs[j]? = some y → w.cell? ⟨g, j, none⟩ = some (.string y) := fun j y hy => by
    subst hxs
    cases j with
    | zero => simp at hy; subst hy; exact hc0
    | succ j => exact hcells j y (by simpa using hy)
  have hxl : xs.length = m + 2 := by rw [hxs, List.length_cons, hN]
  have hxz : sumZ xs = x.size + sumZ l := by rw [hxs]; rfl
  have HX : Hid ((∀ (j : Nat) y, xs[j]? = some y → w.cell? ⟨g, j, none⟩ = some (.string y)) ∧ xs.length = m + 2 ∧ sumZ xs = x.size + sumZ l ∧ l.length = m + 1 ∧ (x ++ spAll l).size = (m + 1) + (x.size + sumZ l) ∧ (x ++ spAll l).size ≤ 1099511627776) := ⟨hxc, hxl, hxz, hN, hjs, hlen⟩
  have hm : (m : Int) ≤ 4194304 := by omega
  have hm0 : (0 : Int) ≤ (m : Int) := by omega
  have hq : (1 : Int) < 9223372036854775807 / ((m : Int) + 2 - 1) := by
    have : (2 : Int) ≤ 9223372036854775807 / ((m : Int) + 2 - 1) := Int.le_ediv_of_mul_le (by omega) (by omega)
    omega
  have e0 : ((m : Int) + 2 == 0) = false := by rw [beq_eq_false_iff_ne]; omega
  have e1 : ((m : Int) + 2 == 1) = false := by rw [beq_eq_false_iff_ne]; omega
  clear hc0 hcells hjs hxs hxc hxl hxz hN hlen hn
  go_enter Tryz.func52, Tryz.ntmps52
  go_wp2_with fail
  go_loopw [5, 41] (fun vn vi wr => ∃ k : Nat, k ≤ m + 2 ∧ vi = .int .i64 k ∧ vn = .int .i64 ((m : Int) + 1 + (sumZ (xs.take k) : Nat)) ∧ wr = w) (fun _ vi _ => m + 2 - (intOf vi).toNat)
  case atStart => exact ⟨0, by omega, rfl, by first | rfl | (congr 1; omega) | (congr 1; simp [sumZ]; omega), rfl⟩
  case round =>
    obtain ⟨k, hk, rfl, rfl, rfl⟩ := hrel
    by_cases hlt : k < m + 2
    · obtain ⟨s, hs⟩ := some_at HX.out.2.1 hlt
      have hcs := HX.out.1 k s hs
      have hz := sumZ_take xs k s hs
      have hz2 := sumZ_le xs (k + 1)
      have hki : (k : Int) < (m : Int) + 2 := by omega
      have hk0 : (0 : Int) ≤ (k : Int) := by omega
      have hz3 := HX.out
      obtain ⟨_, _, q3, _, q5, q6⟩ := hz3
      have HZ : Hid (sumZ (xs.take (k + 1)) = sumZ (xs.take k) + s.size) := hz
      rw [hz] at hz2
      generalize sumZ (xs.take k) = z at hz2 HZ ⊢
      have hb : (z : Int) + (s.size : Int) ≤ 1099511627776 := by omega
      clear hz q3 q5 q6 hs hz2
      go_wp2_with fail
      exact ⟨⟨k + 1, by omega, by go_num, by rw [HZ.out]; congr 1; omega, by trivial⟩, by simp [intOf]; omega⟩
    · obtain rfl : k = m + 2 := by omega
      obtain ⟨w9, rfl⟩ : ∃ w9, w9 = wr := ⟨wr, rfl⟩
      obtain ⟨S, hS⟩ : ∃ S : Nat, (m + 1) + sumZ xs = S := ⟨_, rfl⟩
      have hS1 : (m : Int) + 1 + ((sumZ (xs.take (m + 2)) : Nat) : Int) = (S : Int) := by
        rw [List.take_of_length_le (by rw [HX.out.2.1]; exact Nat.le_refl _)]
        omega
      have HS : Hid ((m + 1) + sumZ xs = S) := hS
      have hS2 : S ≤ 1099511627776 := by have := HX.out; omega
      have hS3 : 0 < S := by omega
      rw [hS1]
      clear hS hS1
      have kg := grow_new w9.heap.size w9.heap.size S (w9.alloc (.cells #[.pointer none, .slice none 0 0] 71)) (Nat.le_refl _) (heap_alloc_new w9 _) (by simp) (by omega) hS3
      go_wp2_with (go_at_call 73; fail)
      refine kg.mono ?_
      rintro e w2 ⟨rfl, h2, hb2⟩
      have hbA : Below w9.heap.size w9 (w9.alloc (.cells #[.pointer none, .slice none 0 0] 71)) := (Below.refl _ w9).alloc (Nat.le_refl _) _
      have bw2 : Below w9.heap.size w9 w2 := hbA.trans hb2
      have b2 : Bu w9.heap.size w9.heap.size ⟨#[]⟩ w2 := .inr h2
      have c2 := cell_kept bw2 HC.out.1
      have hx8 : x.size ≤ 1099511627776 := by have := HX.out; omega
      clear kg h2 hb2 hbA
      have s2 := bw2.size
      have kw := write_any w9.heap.size w9.heap.size ⟨#[]⟩ x w2 b2 (by show 0 + x.size ≤ _; omega) s2
      rw [emp_app] at kw
      have HB2 : Hid (Below w9.heap.size w9 w2) := bw2
      clear b2 s2 bw2
      go_wp2_with (go_at_call 31; fail)
      refine kw.mono ?_
      rintro e w3 ⟨rfl, b3, hb3⟩
      have H3 : Hid (Bu w9.heap.size w9.heap.size x w3 ∧ Below w9.heap.size w9 w3) := ⟨b3, HB2.out.trans hb3⟩
      clear b3 hb3 kw c2 hS2 hS3
      have hc1 : (1 : Int) ≤ (m : Int) + 2 := by omega
      have hc2 : (m : Int) + 2 ≤ (c : Int) := by omega
      go_wp2_with fail
      go_loopw [65] (fun vi wq => ∃ k : Nat, k ≤ m + 1 ∧ vi = .int .i64 k ∧ Hid (Bu w9.heap.size w9.heap.size (x ++ spAll (l.take k)) wq ∧ Below w9.heap.size w9 wq)) (fun vi _ => m + 1 - (intOf vi).toNat)
      case atStart => exact ⟨0, by omega, rfl, by rw [List.take_zero, show x ++ spAll [] = x from app_emp x]; exact H3.out.1, H3.out.2⟩
      case round =>
        obtain ⟨k, hk, rfl, HQ⟩ := hrel
        by_cases hlt : k < m + 1
        · obtain ⟨s, hs⟩ := some_at HX.out.2.2.2.1 hlt
          have cs := cell_kept HQ.out.2 (HC.out.2 k s hs)
          rw [Nat.add_comm k 1] at cs
          have hz := spAll_take l k s hs
          have hz2 := spAll_size_take l (k + 1)
          have HZ : Hid (spAll (l.take (k + 1)) = spAll (l.take k) ++ (spcB ++ s) ∧ (x ++ spAll (l.take (k + 1))).size ≤ 1099511627776) := ⟨hz, by have := HX.out.2.2.2.2.2; rw [ByteArray.size_append] at this ⊢; omega⟩
          have hki : (k : Int) < (m : Int) + 2 - 1 := by omega
          have hki2 : (k : Int) < (m : Int) + 1 := by omega
          have hk0 : (0 : Int) ≤ (k : Int) := by omega
          clear hz hz2 hs
          go_wp2_with (go_at_call 31; fail)
          refine (write_any _ _ _ spcB _ HQ.out.1 (by have := HZ.out.2; rw [HZ.out.1] at this; simp only [ByteArray.size_append] at this ⊢; omega) HQ.out.2.size).mono ?_
          rintro e w4 ⟨rfl, b4, hb4⟩
          have H4 : Hid (Bu w9.heap.size w9.heap.size (x ++ spAll (l.take k) ++ spcB) w4 ∧ Below w9.heap.size w9 w4) := ⟨b4, HQ.out.2.trans hb4⟩
          clear b4 hb4 cs HQ
          go_wp2_with (go_at_call 31; fail)
          refine (write_any _ _ _ s _ H4.out.1 (by have := HZ.out.2; rw [HZ.out.1] at this; simp only [ByteArray.size_append] at this ⊢; omega) H4.out.2.size).mono ?_
          rintro e w5 ⟨rfl, b5, hb5⟩
          have H5 : Hid (Bu w9.heap.size w9.heap.size (x ++ spAll (l.take (k + 1))) w5 ∧ Below w9.heap.size w9 w5) := ⟨by rw [HZ.out.1, ← ByteArray.append_assoc, ← ByteArray.append_assoc]; exact b5, H4.out.2.trans hb5⟩
          clear b5 hb5
          go_wp2_with fail
          exact ⟨⟨k + 1, by omega, by go_num, H5⟩, by simp [intOf]; omega⟩
        · obtain rfl : k = m + 1 := by omega
          have hT : l.take (m + 1) = l := List.take_of_length_le (by rw [HX.out.2.2.2.1]; exact Nat.le_refl _)
          rw [hT] at HQ
          clear hT
          go_wp2_with (go_at_call 33; fail)
          refine (string_any _ _ _ _ HQ.out.1 HQ.out.2.size).mono ?_
          rintro e w6 ⟨rfl, b6, hb6⟩
          go_wp2_with fail
          go_ret
          exact ⟨rfl, HQ.out.2.trans hb6⟩
end Go.Proofs.YtcnhhhfedakepaaGreatDoor

namespace Go.Proofs.YtcnhhhfedakepaaGreatDoor
open Go.RowKit Go.Maps Go.WideMaps
set_option linter.unusedVariables false

theorem bel_grow2 (w : World) (q : Nat) (os : Array Obj) : Below w.heap.size w (Sort.grow (w.drewN q) os) :=
  Lib.below_grow _ w (Nat.le_refl _) q os
/-- The table that strconv.Itoa wants, now and later. -/
def PowAt (w : World) : Prop := ∀ W, Below w.heap.size w W → Lib.TabIs Tryz.prog W "internal/strconv.uint64pow10" .u64 Lib.pow10Tab
theorem PowAt.below {w W : World} (h : PowAt w) (hb : Below w.heap.size w W) : PowAt W := fun W2 h2 => h W2 (hb.trans (h2.mono hb.size))
theorem itoa_any (n : Int) (h0 : -9223372036854775808 ≤ n) (h1 : n ≤ 9223372036854775807) (w : World) (hp : PowAt w) :
    Calls Tryz.prog 49 #[.int .i64 n] w fun e w' => e = .returned (.string (decB n)) ∧ Below w.heap.size w w' := by
  refine (Tryz.strconv_Itoa n h0 h1 w (hp w (Below.refl _ _))).mono ?_
  rintro e w' ⟨rfl, k, os, rfl⟩
  exact ⟨rfl, bel_grow2 _ _ _⟩
theorem fmt_any (n : Int) (h0 : -9223372036854775808 ≤ n) (h1 : n ≤ 9223372036854775807) (w : World) (hp : PowAt w) :
    Calls Tryz.prog 50 #[.int .i64 n, .int .i64 10] w fun e w' => e = .returned (.string (decB n)) ∧ Below w.heap.size w w' := by
  refine (Tryz.strconv_FormatInt_10 n h0 h1 w (hp w (Below.refl _ _))).mono ?_
  rintro e w' ⟨rfl, k, os, rfl⟩
  exact ⟨rfl, bel_grow2 _ _ _⟩
def five (N : Nd) : List Int := [N.k, N.f, N.t, N.l, N.op]
/-- What rowText holds: its node, its words. -/
structure RwSt (w : World) (N : Nd) (vn vk : Value) (v : Value) (xs : List ByteArray) (W : World) : Prop where
  ln : LnSt w N vn vk W
  ws : WsAt (w.heap.size + 1 + 1) W v xs
  sz : w.heap.size + 1 + 1 ≤ W.heap.size
theorem RwSt.below {w : World} {N : Nd} {vn vk v : Value} {xs : List ByteArray} {W W' : World} (h : RwSt w N vn vk v xs W) (hb : Below W.heap.size W W') : RwSt w N vn vk v xs W' :=
  ⟨h.ln.below hb, h.ws.below hb, Nat.le_trans h.sz hb.size⟩
theorem RwSt.put {w : World} {N : Nd} {vn vk v : Value} {xs : List ByteArray} {W W' : World} (h : RwSt w N vn vk v xs W) (hb : Below (w.heap.size + 1 + 1) W W') {v' : Value} {ys : List ByteArray} (hw : WsAt (w.heap.size + 1 + 1) W' v' ys) : RwSt w N vn vk v' ys W' :=
  ⟨⟨(hb.block _ (by omega)).trans h.ln.bx, h.ln.bl.trans (hb.mono (by omega))⟩, hw, Nat.le_trans h.sz hb.size⟩

set_option maxRecDepth 100000 in
set_option maxHeartbeats 12800000 in
theorem rowText_any (w : World) (N : Nd) (vn vk : Value) (hn : StrsAt w vn N.nm) (hk : IntsAt w vk N.ks) (hI : NdInt N) (hx : N.x.size ≤ 4000) (h1 : N.nm.length ≤ 1048576) (h2 : N.ks.length ≤ 1048576) (hr : (dmpR N).size ≤ 1099511627776) (hp : PowAt w) :
    Calls Tryz.prog 32 #[vNd N vn vk] w fun e w' => e = .returned (.string (dmpR N)) ∧ Below w.heap.size w w' := by
  obtain ⟨a1, c1, rfl⟩ := hn.form
  obtain ⟨a2, c2, rfl⟩ := hk.form
  obtain ⟨L1, hL1⟩ : ∃ n, N.nm.length = n := ⟨_, rfl⟩
  obtain ⟨L2, hL2⟩ : ∃ n, N.ks.length = n := ⟨_, rfl⟩
  rw [hL1] at hn h1 ⊢
  rw [hL2] at hk h2 ⊢
  have HH : Hid (StrsAt w (.slice a1 L1 c1) N.nm ∧ IntsAt w (.slice a2 L2 c2) N.ks ∧ NdInt N ∧ (dmpR N).size ≤ 1099511627776 ∧ N.nm.length = L1 ∧ N.ks.length = L2 ∧ PowAt w) := ⟨hn, hk, hI, hr, hL1, hL2, hp⟩
  unfold vNd
  clear hn hk hI hr hL1 hL2 hp
  go_enter Tryz.func32, Tryz.ntmps32
  go_wp2_with fail
  have B0 := heap_alloc_new w (.cells #[.int .i64 N.k, .int .i64 N.f, .int .i64 N.t, .int .i64 N.l, .int .i64 N.op, .int .i64 N.n, .string N.x, .slice a1 L1 c1, .slice a2 L2 c2] 67)
  have hb01 : Below w.heap.size w (w.alloc (.cells #[.int .i64 N.k, .int .i64 N.f, .int .i64 N.t, .int .i64 N.l, .int .i64 N.op, .int .i64 N.n, .string N.x, .slice a1 L1 c1, .slice a2 L2 c2] 67)) := (Below.refl _ w).alloc (Nat.le_refl _) _
  have hs1 : (w.alloc (.cells #[.int .i64 N.k, .int .i64 N.f, .int .i64 N.t, .int .i64 N.l, .int .i64 N.op, .int .i64 N.n, .string N.x, .slice a1 L1 c1, .slice a2 L2 c2] 67)).heap.size = w.heap.size + 1 := World.size_alloc _ _
  generalize w.alloc (.cells #[.int .i64 N.k, .int .i64 N.f, .int .i64 N.t, .int .i64 N.l, .int .i64 N.op, .int .i64 N.n, .string N.x, .slice a1 L1 c1, .slice a2 L2 c2] 67) = W1 at B0 hb01 hs1 ⊢
  have B1 := heap_alloc_new W1 (.cells #[.int .i64 N.k, .int .i64 N.f, .int .i64 N.t, .int .i64 N.l, .int .i64 N.op] 3)
  have hb12 : Below W1.heap.size W1 (W1.alloc (.cells #[.int .i64 N.k, .int .i64 N.f, .int .i64 N.t, .int .i64 N.l, .int .i64 N.op] 3)) := (Below.refl _ W1).alloc (Nat.le_refl _) _
  have hs2 : (W1.alloc (.cells #[.int .i64 N.k, .int .i64 N.f, .int .i64 N.t, .int .i64 N.l, .int .i64 N.op] 3)).heap.size = w.heap.size + 1 + 1 := by rw [World.size_alloc, hs1]
  generalize W1.alloc (.cells #[.int .i64 N.k, .int .i64 N.f, .int .i64 N.t, .int .i64 N.l, .int .i64 N.op] 3) = W2 at B1 hb12 hs2 ⊢
  rw [hs1] at B1
  have st2 : RwSt w N (.slice a1 L1 c1) (.slice a2 L2 c2) (.slice none 0 0) [] W2 := ⟨LnSt.below ⟨B0, hb01⟩ hb12, World.ownsRow_nil _ _ _ _, by omega⟩
  have c5 : ∀ (j : Nat) z, (five N)[j]? = some z → W2.cell? ⟨w.heap.size + 1, j, none⟩ = some (.int .i64 z) := fun j z hz => by
    rw [cell_of_row _ _ _ _ _ _ B1]
    unfold five at hz
    match j, hz with
    | 0, hz => simp at hz; subst hz; rfl
    | 1, hz => simp at hz; subst hz; rfl
    | 2, hz => simp at hz; subst hz; rfl
    | 3, hz => simp at hz; subst hz; rfl
    | 4, hz => simp at hz; subst hz; rfl
    | (j + 5), hz => simp at hz
  have H2 : Hid (RwSt w N (.slice a1 L1 c1) (.slice a2 L2 c2) (.slice none 0 0) [] W2 ∧ (∀ (j : Nat) z, (five N)[j]? = some z → W2.cell? ⟨w.heap.size + 1, j, none⟩ = some (.int .i64 z)) ∧ W2.heap.size = w.heap.size + 1 + 1) := ⟨st2, c5, hs2⟩
  clear B0 B1 hb01 hb12 hs1 hs2 st2 c5
  go_loopw [3, 20] (fun vo vi wr => ∃ k : Nat, k ≤ 5 ∧ vi = .int .i64 k ∧ (∃ av cv, vo = .slice av k cv) ∧ Hid (RwSt w N (.slice a1 L1 c1) (.slice a2 L2 c2) vo (((five N).take k).map decB) wr ∧ Below W2.heap.size W2 wr)) (fun _ vi _ => 5 - (intOf vi).toNat)
  case atStart => exact ⟨0, by omega, rfl, ⟨none, 0, rfl⟩, H2.out.1, Below.refl _ _⟩
  case round =>
    obtain ⟨k, hk, rfl, ⟨av, cv, rfl⟩, HS⟩ := hrel
    by_cases hlt : k < 5
    · obtain ⟨z, hz⟩ := some_at (show (five N).length = 5 from rfl) hlt
      have cz := cell_kept HS.out.2 (H2.out.2.1 k z hz)
      have hzi := six_int HH.out.2.2.1 z (by unfold six; unfold five at hz; have := List.mem_of_getElem? hz; simp only [List.mem_cons, List.not_mem_nil, or_false] at this ⊢; rcases this with h | h | h | h | h <;> simp [h])
      have HT : Hid (((five N).take (k + 1)).map decB = ((five N).take k).map decB ++ [decB z] ∧ (((five N).take k).map decB).length = k) := ⟨by rw [List.take_add_one, hz]; simp, by rw [List.length_map, List.length_take, show (five N).length = 5 from rfl]; omega⟩
      have bw : Below w.heap.size w wr := HS.out.1.ln.bl
      have kd := itoa_any z hzi.1 hzi.2 wr (HH.out.2.2.2.2.2.2.below bw)
      have hki : (k : Int) < 5 := by omega
      have hk0 : (0 : Int) ≤ (k : Int) := by omega
      clear hz hzi
      go_wp2_with (go_at_call 49; fail)
      refine kd.mono ?_
      rintro e w3 ⟨rfl, hb3⟩
      have hb34 : Below w3.heap.size w3 (w3.alloc (.cells #[.string (decB z)] 9)) := (Below.refl _ w3).alloc (Nat.le_refl _) _
      have b34 : Below wr.heap.size wr (w3.alloc (.cells #[.string (decB z)] 9)) := hb3.trans (hb34.mono hb3.size)
      have st4 := HS.out.1.below b34
      have ws4 := st4.ws
      have hzs := st4.sz
      have hlx : (((five N).take k).map decB).length ≤ 4194304 := by rw [HT.out.2]; omega
      clear kd cz hb34
      go_wp2_with (at_builtin; (refine wpList_ws rfl _ _ rfl (w.heap.size + 1 + 1) (.slice av k cv) _ rfl ws4 hzs _ [decB z] rfl (strs_one w3 (decB z)) hlx (by simp) (k + 1) (by rw [HT.out.2]; rfl) ?_; intro av5 cv5 w5 ho5 hb5))
      refine ⟨⟨k + 1, by omega, by go_num, ⟨_, _, rfl⟩, ?_, ?_⟩, by simp [intOf]; omega⟩
      · rw [HT.out.1]; exact st4.put hb5 ho5
      · have e2 := H2.out.2.2
        rw [e2]
        have q1 := HS.out.2
        rw [e2] at q1
        exact (q1.trans (b34.mono HS.out.1.sz)).trans hb5
    · obtain rfl : k = 5 := by omega
      obtain ⟨w3, rfl⟩ : ∃ w3, w3 = wr := ⟨wr, rfl⟩
      have st3 := HS.out.1
      rw [show (five N).take 5 = five N from rfl] at st3
      obtain ⟨ys, hys⟩ : ∃ ys, (five N).map decB = ys := ⟨_, rfl⟩
      rw [hys] at st3
      have hy5 : ys.length = 5 := by rw [← hys]; rfl
      obtain ⟨x0, x1, x2, x3, x4, x5, x6, x7, x8, xz⟩ := nd_cells st3.ln.bx
      have HI := HH.out.2.2.1
      have bw := st3.ln.bl
      have hP3 := HH.out.2.2.2.2.2.2.below bw
      have bD : Below w3.heap.size w3 w3.drew := bel_drew1 (Below.refl _ _)
      have hq : ∀ W, Calls Tryz.prog 51 #[.string N.x] W fun e w' => e = .returned (.string (quoB N.x)) ∧ Below W.heap.size W w' := fun W => implQuote N.x hx W
      have hf : ∀ W, Below w3.heap.size w3 W → Calls Tryz.prog 50 #[.int .i64 N.n, .int .i64 10] W fun e w' => e = .returned (.string (decB N.n)) ∧ Below W.heap.size W w' := fun W hW => fmt_any N.n HI.n.1 HI.n.2 W (hP3.below hW)
      have HST : Hid (RwSt w N (.slice a1 L1 c1) (.slice a2 L2 c2) (.slice av 5 cv) ys w3 ∧ (five N).map decB = ys ∧ ys.length = 5) := ⟨st3, hys, hy5⟩
      have sY : ∀ W, Below (w.heap.size + 1 + 1) w3 W → W.cell? ⟨w.heap.size, 5, none⟩ = some (.int .i64 N.n) ∧ W.cell? ⟨w.heap.size, 6, none⟩ = some (.string N.x) ∧ Below (w.heap.size + 1 + 1) w3 W := fun W hW => ⟨(cell_below hW (show w.heap.size < _ by omega)).trans x5, (cell_below hW (show w.heap.size < _ by omega)).trans x6, hW⟩
      have hsz3 := st3.sz
      have sX : ∀ W, Below w3.heap.size w3 W → W.cell? ⟨w.heap.size, 5, none⟩ = some (.int .i64 N.n) ∧ W.cell? ⟨w.heap.size, 6, none⟩ = some (.string N.x) ∧ Below (w.heap.size + 1 + 1) w3 W := fun W hW => sY W (hW.mono hsz3)
      obtain ⟨X, hX⟩ : ∃ X, quoB N.x = X := ⟨_, rfl⟩
      obtain ⟨D, hD⟩ : ∃ D, decB N.n = D := ⟨_, rfl⟩
      rw [hX] at hq
      rw [hD] at hf
      have HDX : Hid (decB N.n = D ∧ quoB N.x = X) := ⟨hD, hX⟩
      clear hX hD
      clear x0 x1 x2 x3 x4 x7 x8 xz HI bw hP3 st3 hys hy5
      have kz := fun (W : World) (hW : Below w3.heap.size w3 W) => (HST.out.1.below hW).sz
      have kws := fun (W : World) (hW : Below w3.heap.size w3 W) => (HST.out.1.below hW).ws
      have k5 : ys.length ≤ 4194304 := by have := HST.out.2.2; omega
      have k7 : ys.length + 2 = 7 := by have := HST.out.2.2; omega
      have bo : ∀ (W : World) (hW : Below w3.heap.size w3 W) (o : Obj), Below w3.heap.size w3 (W.alloc o) := fun W hW o => hW.alloc hW.size o
      go_wp2_with fail
      go_region_held3 (fun W' => W'.cell? ⟨w.heap.size, 5, none⟩ = some (.int .i64 N.n) ∧ W'.cell? ⟨w.heap.size, 6, none⟩ = some (.string N.x) ∧ Below (w.heap.size + 1 + 1) w3 W') (first | exact sX _ bD | exact sX _ (bD.trans (hbq.mono bD.size)) | exact sX _ (bD.trans (hbd.mono bD.size)) | exact sX _ ((bD.trans (hbq.mono bD.size)).trans (hbd.mono (bD.trans (hbq.mono bD.size)).size)) | exact sX _ ((bD.trans (hbd.mono bD.size)).trans (hbq.mono (bD.trans (hbd.mono bD.size)).size)) | exact sX _ (bo _ ((bD.trans (hbq.mono bD.size)).trans (hbd.mono (bD.trans (hbq.mono bD.size)).size)) _) | exact sX _ (bo _ ((bD.trans (hbd.mono bD.size)).trans (hbq.mono (bD.trans (hbd.mono bD.size)).size)) _) | exact sY _ (((bo _ ((bD.trans (hbq.mono bD.size)).trans (hbd.mono (bD.trans (hbq.mono bD.size)).size)) _).mono hsz3).trans hb5) | exact sY _ (((bo _ ((bD.trans (hbd.mono bD.size)).trans (hbq.mono (bD.trans (hbd.mono bD.size)).size)) _).mono hsz3).trans hb5) | go_keep) (first | (go_at_call 51; refine (hq _).mono ?_; rintro e wq ⟨rfl, hbq⟩) | (go_at_call 50; refine (hf _ (by first | exact bD | exact bD.trans (hbq.mono bD.size))).mono ?_; rintro e wd ⟨rfl, hbd⟩) | (refine ws_step (by rfl) _ _ (by rfl) (w.heap.size + 1 + 1) (.slice av 5 cv) ys (by rfl) (kws _ (bo _ ((bD.trans (hbq.mono bD.size)).trans (hbd.mono (bD.trans (hbq.mono bD.size)).size)) _)) (kz _ (bo _ ((bD.trans (hbq.mono bD.size)).trans (hbd.mono (bD.trans (hbq.mono bD.size)).size)) _)) ⟨_, 0, none⟩ 2 2 [D, X] (by rfl) rfl (news_two _ D X) k5 (by decide) (by decide) 7 k7 ?_; intro g5 cap5 w5 ho5 hb5) | (refine ws_step (by rfl) _ _ (by rfl) (w.heap.size + 1 + 1) (.slice av 5 cv) ys (by rfl) (kws _ (bo _ ((bD.trans (hbd.mono bD.size)).trans (hbq.mono (bD.trans (hbd.mono bD.size)).size)) _)) (kz _ (bo _ ((bD.trans (hbd.mono bD.size)).trans (hbq.mono (bD.trans (hbd.mono bD.size)).size)) _)) ⟨_, 0, none⟩ 2 2 [D, X] (by rfl) rfl (news_two _ D X) k5 (by decide) (by decide) 7 k7 ?_; intro g5 cap5 w5 ho5 hb5))
      have st5 : RwSt w N (.slice a1 L1 c1) (.slice a2 L2 c2) (.slice (some ⟨g5, 0, none⟩) 7 cap5) (ys ++ [D, X]) w5 := (HST.out.1.below (bo _ ((bD.trans (hbd.mono bD.size)).trans (hbq.mono (bD.trans (hbd.mono bD.size)).size)) _)).put hb5 ho5
      have HI := HH.out.2.2.1
      have HW : Hid ((five N).map decB ++ [decB N.n, quoB N.x] = ys ++ [D, X] ∧ ys.length = 5) := ⟨by rw [HST.out.2.1, ← HDX.out.1, ← HDX.out.2], HST.out.2.2⟩
      obtain ⟨zs, hzs⟩ : ∃ zs, ys ++ [D, X] = zs := ⟨_, rfl⟩
      rw [hzs] at st5 HW
      have hz7 : zs.length = 7 := by rw [← hzs, List.length_append, HST.out.2.2]; rfl
      have HZ : Hid ((five N).map decB ++ [decB N.n, quoB N.x] = zs ∧ zs.length = 7) := ⟨HW.out.1, hz7⟩
      have kd := itoa_any (L1 : Int) (by omega) (by omega) w5 (HH.out.2.2.2.2.2.2.below st5.ln.bl)
      obtain ⟨x0, x1, x2, x3, x4, x5, x6, x7, x8, xz⟩ := nd_cells st5.ln.bx
      have H5 : Hid (RwSt w N (.slice a1 L1 c1) (.slice a2 L2 c2) (.slice (some ⟨g5, 0, none⟩) 7 cap5) zs w5) := st5
      clear sX sY kz kws bo hb5 ho5 hbq hbd bD k5 k7 hsz3 hq hf HST st5 hzs hz7 HI HW x0 x1 x2 x3 x4 x5 x6 x8 xz
      go_wp2_with (go_at_call 49; fail)
      refine kd.mono ?_
      rintro e w6 ⟨rfl, hb6⟩
      have b67 : Below w5.heap.size w5 (w6.alloc (.cells #[.string (decB (L1 : Int))] 9)) := hb6.alloc hb6.size _
      have st7 := H5.out.below b67
      have ws7 := st7.ws
      have sz7 := st7.sz
      have hlz : zs.length ≤ 4194304 := by have := HZ.out.2; omega
      clear kd x7
      have hl8 : (zs ++ [decB (L1 : Int)]).length ≤ 4194304 := by rw [List.length_append, HZ.out.2]; simp
      have hln : N.nm.length ≤ 4194304 := by have := HH.out.2.2.2.2.1; omega
      go_wp2_with (first | (at_builtin; refine wpList_ws rfl _ _ rfl (w.heap.size + 1 + 1) (.slice (some ⟨g5, 0, none⟩) 7 cap5) zs rfl ws7 sz7 _ [decB (L1 : Int)] rfl (strs_one w6 _) hlz (by simp) 8 (by rw [HZ.out.2]; rfl) ?_; intro av8 cv8 w8 ho8 hb8; have st8 := st7.put hb8 ho8; have y7 := (nd_cells st8.ln.bx).2.2.2.2.2.2.2.1) | (at_builtin; refine wpList_ws rfl _ _ rfl (w.heap.size + 1 + 1) (.slice av8 8 cv8) (zs ++ [decB (L1 : Int)]) rfl st8.ws st8.sz (.slice a1 L1 c1) N.nm rfl (HH.out.1.below st8.ln.bl) hl8 hln (8 + L1) (by rw [List.length_append, HZ.out.2, HH.out.2.2.2.2.1]; rfl) ?_; intro av9 cv9 w9 ho9 hb9; have st9 := st8.put hb9 ho9; have y8 := (nd_cells st9.ln.bx).2.2.2.2.2.2.2.2.1) | (go_at_call 49; fail))
      obtain ⟨us, hus⟩ : ∃ us, (zs ++ [decB (L1 : Int)]) ++ N.nm = us := ⟨_, rfl⟩
      rw [hus] at st9
      have hul : us.length = 8 + L1 := by rw [← hus, List.length_append, List.length_append, HZ.out.2, HH.out.2.2.2.2.1]; rfl
      have HU : Hid ((((five N).map decB ++ [decB N.n, quoB N.x]) ++ [decB (L1 : Int)]) ++ N.nm = us ∧ us.length = 8 + L1) := ⟨by rw [HZ.out.1]; exact hus, hul⟩
      have H9 : Hid (RwSt w N (.slice a1 L1 c1) (.slice a2 L2 c2) (.slice av9 (8 + L1) cv9) us w9) := st9
      have kd2 := itoa_any (L2 : Int) (by omega) (by omega) w9 (HH.out.2.2.2.2.2.2.below st9.ln.bl)
      clear st8 st9 ho8 hb8 ho9 hb9 y7 hus hul hl8 hln ws7 sz7 st7 b67 hlz H5 HZ hb6
      refine kd2.mono ?_
      rintro e w10 ⟨rfl, hb10⟩
      have b11 : Below w9.heap.size w9 (w10.alloc (.cells #[.string (decB (L2 : Int))] 9)) := hb10.alloc hb10.size _
      have st11 := H9.out.below b11
      have hlu : us.length ≤ 4194304 := by have := HU.out.2; omega
      clear kd2 y8
      go_wp2_with (at_builtin; refine wpList_ws rfl _ _ rfl (w.heap.size + 1 + 1) (.slice av9 (8 + L1) cv9) us rfl st11.ws st11.sz _ [decB (L2 : Int)] rfl (strs_one w10 _) hlu (by simp) (9 + L1) (by rw [HU.out.2]; show 8 + L1 + 1 = _; omega) ?_; intro av12 cv12 w12 ho12 hb12; have st12 := st11.put hb12 ho12; have y8 := (nd_cells st12.ln.bx).2.2.2.2.2.2.2.2.1)
      have H12 : Hid (RwSt w N (.slice a1 L1 c1) (.slice a2 L2 c2) (.slice av12 (9 + L1) cv12) (us ++ [decB (L2 : Int)]) w12) := st12
      clear st11 st12 ho12 hb12 b11 hb10 hlu H9
      go_loopw [3, 60] (fun vo vi wr => ∃ j : Nat, j ≤ L2 ∧ vi = .int .i64 j ∧ (∃ av cv, vo = .slice av (9 + L1 + j) cv) ∧ Hid (RwSt w N (.slice a1 L1 c1) (.slice a2 L2 c2) vo ((us ++ [decB (L2 : Int)]) ++ (N.ks.take j).map decB) wr)) (fun _ vi _ => L2 - (intOf vi).toNat)
      case atStart => exact ⟨0, by omega, rfl, ⟨_, _, rfl⟩, by rw [List.take_zero, List.map_nil, List.append_nil]; exact H12.out⟩
      case round =>
        obtain ⟨j, hj, rfl, ⟨avj, cvj, rfl⟩, HR⟩ := hrel
        have HL : Hid (((us ++ [decB (L2 : Int)]) ++ (N.ks.take j).map decB).length = 9 + L1 + j) := by
          show _ = _
          rw [List.length_append, List.length_append, HU.out.2, List.length_map, List.length_take, HH.out.2.2.2.2.2.1]
          show 8 + L1 + 1 + min j L2 = _
          omega
        by_cases hlt : j < L2
        · obtain ⟨z, hz⟩ := some_at HH.out.2.2.2.2.2.1 hlt
          obtain ⟨a', rfl, cz⟩ := (HH.out.2.1.below HR.out.ln.bl).get hz
          have hzi := HH.out.2.2.1.ks z (List.mem_of_getElem? hz)
          have HT : Hid ((N.ks.take (j + 1)).map decB = (N.ks.take j).map decB ++ [decB z]) := by show _ = _; rw [List.take_add_one, hz]; simp
          have kd := itoa_any z hzi.1 hzi.2 wr (HH.out.2.2.2.2.2.2.below HR.out.ln.bl)
          have hji : (j : Int) < (L2 : Int) := by omega
          have hj0 : (0 : Int) ≤ (j : Int) := by omega
          clear hz hzi y8
          go_wp2_with (go_at_call 49; fail)
          refine kd.mono ?_
          rintro e w13 ⟨rfl, hb13⟩
          have b14 : Below wr.heap.size wr (w13.alloc (.cells #[.string (decB z)] 9)) := hb13.alloc hb13.size _
          have st14 := HR.out.below b14
          have hlu : ((us ++ [decB (L2 : Int)]) ++ (N.ks.take j).map decB).length ≤ 4194304 := by rw [HL.out]; omega
          obtain ⟨qs, hqs⟩ : ∃ qs, (us ++ [decB (L2 : Int)]) ++ (N.ks.take j).map decB = qs := ⟨_, rfl⟩
          rw [hqs] at st14 hlu HL
          have HQ : Hid ((us ++ [decB (L2 : Int)]) ++ (N.ks.take j).map decB = qs) := hqs
          clear kd cz hqs
          go_wp2_with (at_builtin; refine wpList_ws rfl _ _ rfl (w.heap.size + 1 + 1) (.slice avj (9 + L1 + j) cvj) qs rfl st14.ws st14.sz _ [decB z] rfl (strs_one w13 _) hlu (by simp) (9 + L1 + (j + 1)) (by rw [HL.out]; rfl) ?_; intro av15 cv15 w15 ho15 hb15)
          exact ⟨⟨j + 1, by omega, by go_num, ⟨_, _, rfl⟩, by rw [HT.out, ← List.append_assoc, HQ.out]; exact st14.put hb15 ho15⟩, by simp [intOf]; omega⟩
        · obtain rfl : j = L2 := by omega
          rw [List.take_of_length_le (by rw [HH.out.2.2.2.2.2.1]; exact Nat.le_refl _)] at HR HL
          have hwd : (us ++ [decB (j : Int)]) ++ N.ks.map decB = wordsN N := by
            rw [← HU.out.1]
            unfold wordsN five
            rw [HH.out.2.2.2.2.1, HH.out.2.2.2.2.2.1]
            simp
          rw [hwd] at HR HL
          have ho : wr.ownsRow (w.heap.size + 1 + 1) 9 1 (.slice avj (9 + L1 + j) cvj) (wordsN N).length ((wordsN N).map Value.string) := HR.out.ws
          rw [HL.out] at ho
          rcases ho.2 with ⟨_, h0⟩ | ⟨g, cap, cur, e, hg, hh, hnc, hmx, hsz, htk⟩
          · omega
          · cases e
            have hcons : wordsN N = decB N.k :: ([decB N.f, decB N.t, decB N.l, decB N.op, decB N.n, quoB N.x, decB N.nm.length] ++ (N.nm ++ (decB N.ks.length :: N.ks.map decB))) := rfl
            have hcl : ∀ (i : Nat) y, (wordsN N)[i]? = some y → wr.cell? ⟨g, i, none⟩ = some (.string y) := fun i y hy => by
              have hi : i < 9 + L1 + j := by rw [← HL.out]; exact (List.getElem?_eq_some_iff.1 hy).1
              rw [ho.cellAt i (by omega), List.getElem?_map, hy]; rfl
            have hjw : decB N.k ++ spAll ([decB N.f, decB N.t, decB N.l, decB N.op, decB N.n, quoB N.x, decB N.nm.length] ++ (N.nm ++ (decB N.ks.length :: N.ks.map decB))) = dmpR N := by
              have e1 := join_words N
              rw [hcons, join_data] at e1
              exact e1
            have kj := join_any g cvj (7 + L1 + j) (decB N.k) ([decB N.f, decB N.t, decB N.l, decB N.op, decB N.n, quoB N.x, decB N.nm.length] ++ (N.nm ++ (decB N.ks.length :: N.ks.map decB))) wr (by have := HL.out; rw [hcons, List.length_cons] at this; omega) (hcl 0 _ (by rw [hcons]; exact List.getElem?_cons_zero)) (fun i y hy => hcl (i + 1) y (by rw [hcons, List.getElem?_cons_succ]; exact hy)) (by omega) (by omega) (by rw [hjw]; exact HH.out.2.2.2.1)
            rw [hjw, show 7 + L1 + j + 2 = 9 + L1 + j by omega] at kj
            have bw := HR.out.ln.bl
            clear hh hmx hsz htk hcl hjw hcons ho hwd HR y8
            go_wp2_with (go_at_call 52; refine kj.mono ?_; rintro e w16 ⟨rfl, hb16⟩)
            go_ret
            exact ⟨rfl, bw.trans (hb16.mono bw.size)⟩
end Go.Proofs.YtcnhhhfedakepaaGreatDoor
