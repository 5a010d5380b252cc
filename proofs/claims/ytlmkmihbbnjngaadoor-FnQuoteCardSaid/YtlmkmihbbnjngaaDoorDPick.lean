import Derived.Test.YtlmkmihbbnjngaaDoorDNext
namespace Go.Proofs.YtlmkmihbbnjngaaDoor
open Go.RowKit
set_option linter.unusedVariables false

set_option maxHeartbeats 800000 in
theorem pick_any (k : Int) (hk1 : 2 ≤ k) (hk2 : k ≤ 200) (b base : Nat) (w : World) (a0 : Option Addr) (len cap : Nat) (p q r : Int) (hc : CurAt b w a0 len cap p q r) (hcode : Code base w a0 len) (hp : 0 ≤ p) (hp1 : p ≤ 2000000) (hlen : len ≤ 1048576) :
    Calls Tryd.prog 12 #[.pointer (some ⟨b, 0, none⟩), .int .i64 k] w fun e w' => ∃ z : Int, 0 ≤ z ∧ z < k ∧ e = .returned (.int .i64 z) ∧ ∃ q', CurAt b w' a0 len cap (p + 1) q' r ∧ w.grownBy w' (some b) := by
  go_enter Tryd.func12, Tryd.ntmps12
  go_wp2_with (go_at_call 23; refine (next_any b base w a0 len cap p q r hc hcode hp hp1 hlen).mono ?_; rintro e w' ⟨z, z0, z1, rfl, q', hc', hbel⟩)
  go_ret
  exact ⟨z % k, Int.emod_nonneg _ (by omega), Int.emod_lt_of_pos _ (by omega), rfl, q', hc', hbel⟩

theorem CurAt.below {B b : Nat} {w w' : World} {a0 : Option Addr} {len cap : Nat} {p q r : Int} (h : CurAt b w a0 len cap p q r) (hb : Below B w w') (hlt : b < B) : CurAt b w' a0 len cap p q r :=
  (hb.block b hlt).trans h

/-- 'append' of one byte that was reckoned: ap_law at a variable list. -/
theorem conv_nil (w : World) : (convert 22 9 (.slice none 0 0)).run Tryd.prog w = .ok (.string ByteArray.empty) w := by
  rw [run_convert_bytes_string w 22 9 5 _ _ _ Tryd.underlying22 Tryd.underlying5 Tryd.underlying9]
  simp [Conv.bytesToString, Sem.run_pure]

theorem strI_fold (l : List Int) : ∀ r : ByteArray, (l.foldl (fun r n => r.push (UInt8.ofNat n.toNat)) r).size = r.size + l.length := by
  induction l with
  | nil => intro r; rfl
  | cons a l ih => intro r; simp only [List.foldl_cons, List.length_cons]; rw [ih, ByteArray.size_push]; omega
theorem strI_size (l : List Int) : (strI l).size = l.length := by
  unfold strI; rw [strI_fold]; simp

theorem own_ne {w : World} {base e size : Nat} {v : Value} {n : Nat} {xs : List Value} {b : Nat} (h : w.ownsRow base e size v n xs) (hb : b < base) : v.ownBlock = none ∨ v.ownBlock ≠ some b := by
  right; intro e; have := (h.lt b e).1; omega

set_option maxHeartbeats 800000 in
theorem bytes_any (n : Nat) (hn : n ≤ 100) (b base : Nat) (w : World) (a0 : Option Addr) (len cap : Nat) (p q r : Int) (hbb : base ≤ b) (hc : CurAt b w a0 len cap p q r) (hcode : Code base w a0 len) (hp : 0 ≤ p) (hp1 : p ≤ 1500000) (hlen : len ≤ 1048576) :
    Calls Tryd.prog 14 #[.pointer (some ⟨b, 0, none⟩), .int .i64 n] w fun e w' => ∃ s : ByteArray, s.size ≤ n ∧ e = .returned (.string s) ∧ ∃ p' q', 0 ≤ p' ∧ p' ≤ p + n ∧ CurAt b w' a0 len cap p' q' r ∧ Below base w w' := by
  have hbw := hc.lt
  go_enter Tryd.func14, Tryd.ntmps14
  go_wp2_with fail
  go_loopw [1, 5] (fun nv v wr => ∃ (m k : Nat) (l : List Int) (p' q' : Int), nv = .int .i64 m ∧ m + k = n ∧ wr.ownsRow w.heap.size 5 1 v k (B8 l) ∧ CurAt b wr a0 len cap p' q' r ∧ 0 ≤ p' ∧ p' ≤ p + k ∧ Below base w wr) (fun nv _ _ => (intOf nv).toNat)
  case atStart => exact ⟨n, 0, [], p, q, rfl, rfl, World.ownsRow_nil _ _ _ _, hc, hp, by omega, Below.refl _ _⟩
  case round =>
    obtain ⟨m, k, l, p', q', rfl, hmk, hown, hcr, hp0', hp1', hbel⟩ := hrel
    have hll := own_len hown
    have hsz := hbel.size
    have HMK : Hid (m + k = n) := hmk
    have hkn : k ≤ n := by omega
    have hmn : m ≤ n := by omega
    have HLL : Hid (l.length = k) := hll
    clear hmk hll
    by_cases hm : 0 < m
    · go_wp2_with (first
        | (go_at_call 23; refine (next_any b base wr a0 len cap p' q' r hcr (hcode.below hbel) hp0' (by omega) hlen).mono ?_; rintro e w1 ⟨z, z0, z1, rfl, q1, hc1, hg1⟩; have hown1 := hown.kept hg1 (own_ne hown hbw); have hsz1 := hg1.size)
        | (at_builtin; refine ap_law rfl (.tmp 10) (.tmp 14) rfl w.heap.size _ k l rfl hown1 (by omega) (by omega) [_] 1 rfl (by decide) (by decide) _ rfl rfl ?_; intro g cap' w2 hown2 hb2))
      go_roundw
      case rel => exact ⟨m - 1, k + 1, _, p' + 1, q1, by go_num, by have := HMK.out; omega, hown2, hc1.below hb2 hbw, by omega, by omega, (hbel.trans (gr_below hg1 hbb (by omega))).trans (hb2.mono (by omega))⟩
      case measure => simp [intOf]; omega
    · obtain rfl : m = 0 := by omega
      rcases hown.2 with ⟨rfl, hk0⟩ | ⟨g, cap', cur, rfl, rest⟩
      · have kc := conv_nil
        go_wp2
        go_ret
        exact ⟨_, by simp, rfl, p', q', hp0', by omega, hcr, hbel⟩
      · have kc := conv_own hown
        go_wp2
        go_ret
        exact ⟨_, by rw [strI_size]; have := HLL.out; omega, rfl, p', q', hp0', by omega, hcr, hbel⟩
end Go.Proofs.YtlmkmihbbnjngaaDoor
