import Derived.Test.YtdgbmihokecmhaaGreatDoorMM06
import Derived.BigQuiet
import Derived.Test.YtdgbmihokecmhaaGreatDoorMM01
namespace Go.Proofs.YtdgbmihokecmhaaGreatDoor
open Go.RowKit
set_option linter.unusedVariables false

theorem bel_drew {B : Nat} {a w : World} (h : Below B a w) (n : Nat) : Below B a (w.drewN n) := ⟨h.os, h.tape, h.output, h.size, h.block⟩
theorem bel_drew1 {B : Nat} {a w : World} (h : Below B a w) : Below B a w.drew := ⟨h.os, h.tape, h.output, h.size, h.block⟩

set_option maxRecDepth 100000 in
set_option maxHeartbeats 1600000 in
theorem eqStringS_any (w : World) (v1 v2 : Value) (l : List ByteArray) (h1 : StrsAt w v1 l) (h2 : StrsAt w v2 l) (hl : l.length ≤ 1048576) :
    Calls Tryz.prog 52 #[v1, v2] w fun e w' => e = .returned (.bool true) ∧ Below w.heap.size w w' := by
  obtain ⟨a1, c1, rfl⟩ := h1.form
  obtain ⟨a2, c2, rfl⟩ := h2.form
  obtain ⟨n, hn⟩ : ∃ n, l.length = n := ⟨_, rfl⟩
  have HN : Hid (l.length = n) := hn
  have HA : Hid (StrsAt w (.slice a1 n c1) l ∧ StrsAt w (.slice a2 n c2) l) := by rw [← hn]; exact ⟨h1, h2⟩
  rw [hn] at hl ⊢
  clear h1 h2 hn
  go_enter Tryz.func52, Tryz.ntmps52
  go_wp2_with fail
  go_loopw [5] (fun vi wr => ∃ k : Nat, k ≤ n ∧ vi = .int .i64 k ∧ Below w.heap.size w wr) (fun vi _ => n - (intOf vi).toNat)
  case atStart => exact ⟨0, by omega, rfl, Below.refl _ _⟩
  case round =>
    obtain ⟨k, hk, rfl, hb⟩ := hrel
    by_cases hlt : k < n
    · obtain ⟨s, hsk⟩ := some_at HN.out hlt
      obtain ⟨b1, rfl, d1⟩ := (HA.out.1.below hb).get hsk
      obtain ⟨b2, rfl, d2⟩ := (HA.out.2.below hb).get hsk
      have hki : (k : Int) < (n : Int) := by omega
      have hk0 : (0 : Int) ≤ (k : Int) := by omega
      clear hsk
      go_wp2_with fail
      go_quiet (fail)
      go_wp2_with fail
      exact ⟨⟨k + 1, by omega, by go_num, bel_drew hb _⟩, by simp [intOf]; omega⟩
    · obtain rfl : k = n := by omega
      go_wp2_with fail
      go_ret
      exact ⟨rfl, hb⟩

set_option maxRecDepth 100000 in
set_option maxHeartbeats 1600000 in
theorem eqIntS_any (w : World) (v1 v2 : Value) (l : List Int) (h1 : IntsAt w v1 l) (h2 : IntsAt w v2 l) (hl : l.length ≤ 1048576) :
    Calls Tryz.prog 53 #[v1, v2] w fun e w' => e = .returned (.bool true) ∧ Below w.heap.size w w' := by
  obtain ⟨a1, c1, rfl⟩ := h1.form
  obtain ⟨a2, c2, rfl⟩ := h2.form
  obtain ⟨n, hn⟩ : ∃ n, l.length = n := ⟨_, rfl⟩
  have HN : Hid (l.length = n) := hn
  have HA : Hid (IntsAt w (.slice a1 n c1) l ∧ IntsAt w (.slice a2 n c2) l) := by rw [← hn]; exact ⟨h1, h2⟩
  rw [hn] at hl ⊢
  clear h1 h2 hn
  go_enter Tryz.func53, Tryz.ntmps53
  go_wp2_with fail
  go_loopw [5] (fun vi wr => ∃ k : Nat, k ≤ n ∧ vi = .int .i64 k ∧ Below w.heap.size w wr) (fun vi _ => n - (intOf vi).toNat)
  case atStart => exact ⟨0, by omega, rfl, Below.refl _ _⟩
  case round =>
    obtain ⟨k, hk, rfl, hb⟩ := hrel
    by_cases hlt : k < n
    · obtain ⟨s, hsk⟩ := some_at HN.out hlt
      obtain ⟨b1, rfl, d1⟩ := (HA.out.1.below hb).get hsk
      obtain ⟨b2, rfl, d2⟩ := (HA.out.2.below hb).get hsk
      have hki : (k : Int) < (n : Int) := by omega
      have hk0 : (0 : Int) ≤ (k : Int) := by omega
      clear hsk
      go_wp2_with fail
      go_quiet (fail)
      go_wp2_with fail
      exact ⟨⟨k + 1, by omega, by go_num, bel_drew hb _⟩, by simp [intOf]; omega⟩
    · obtain rfl : k = n := by omega
      go_wp2_with fail
      go_ret
      exact ⟨rfl, hb⟩

set_option maxRecDepth 100000 in
set_option maxHeartbeats 1600000 in
theorem eqNode_any (w : World) (N : Nd) (vn1 vk1 vn2 vk2 : Value) (n1 : StrsAt w vn1 N.nm) (k1 : IntsAt w vk1 N.ks) (n2 : StrsAt w vn2 N.nm) (k2 : IntsAt w vk2 N.ks) (hl1 : N.nm.length ≤ 1048576) (hl2 : N.ks.length ≤ 1048576) :
    Calls Tryz.prog 35 #[vNd N vn1 vk1, vNd N vn2 vk2] w fun e w' => e = .returned (.bool true) ∧ Below w.heap.size w w' := by
  have hb0 : ∀ o1 o2, Below w.heap.size w ((w.alloc o1).alloc o2) := fun o1 o2 => ((Below.refl _ w).alloc (Nat.le_refl _) o1).alloc (by simp) o2
  have ks := fun o1 o2 => eqStringS_any ((w.alloc o1).alloc o2) vn1 vn2 N.nm (n1.below (hb0 o1 o2)) (n2.below (hb0 o1 o2)) hl1
  have ki := fun W (hb : Below w.heap.size w W) => eqIntS_any W vk1 vk2 N.ks (k1.below hb) (k2.below hb) hl2
  obtain ⟨a1, c1, rfl⟩ := n1.form
  obtain ⟨a2, c2, rfl⟩ := n2.form
  obtain ⟨a3, c3, rfl⟩ := k1.form
  obtain ⟨a4, c4, rfl⟩ := k2.form
  unfold vNd
  generalize N.nm.length = L1 at ks ⊢
  generalize N.ks.length = L2 at ki ⊢
  clear n1 k1 n2 k2 hl1 hl2
  obtain ⟨nk, nf, nt, nl, nop, nn, nx, nnm, nks⟩ := N
  simp only
  go_enter Tryz.func35, Tryz.ntmps35
  go_wp2_with (go_at_call 52; fail)
  have e1 : ((w.alloc (.cells #[.int .i64 nk, .int .i64 nf, .int .i64 nt, .int .i64 nl, .int .i64 nop, .int .i64 nn, .string nx, .slice a1 L1 c1, .slice a3 L2 c3] 67)).alloc (.cells #[.int .i64 nk, .int .i64 nf, .int .i64 nt, .int .i64 nl, .int .i64 nop, .int .i64 nn, .string nx, .slice a2 L1 c2, .slice a4 L2 c4] 67)).cell? ⟨w.heap.size, 8, none⟩ = some (.slice a3 L2 c3) := by
    rw [cell_of_row _ _ _ _ _ _ ((Below.heap_alloc _ _ _ (by simp)).trans (heap_alloc_new w _))]; rfl
  have e2 : ((w.alloc (.cells #[.int .i64 nk, .int .i64 nf, .int .i64 nt, .int .i64 nl, .int .i64 nop, .int .i64 nn, .string nx, .slice a1 L1 c1, .slice a3 L2 c3] 67)).alloc (.cells #[.int .i64 nk, .int .i64 nf, .int .i64 nt, .int .i64 nl, .int .i64 nop, .int .i64 nn, .string nx, .slice a2 L1 c2, .slice a4 L2 c4] 67)).cell? ⟨w.heap.size + 1, 8, none⟩ = some (.slice a4 L2 c4) := by
    have := heap_alloc_new (w.alloc (.cells #[.int .i64 nk, .int .i64 nf, .int .i64 nt, .int .i64 nl, .int .i64 nop, .int .i64 nn, .string nx, .slice a1 L1 c1, .slice a3 L2 c3] 67)) (.cells #[.int .i64 nk, .int .i64 nf, .int .i64 nt, .int .i64 nl, .int .i64 nop, .int .i64 nn, .string nx, .slice a2 L1 c2, .slice a4 L2 c4] 67)
    rw [World.size_alloc] at this
    rw [cell_of_row _ _ _ _ _ _ this]; rfl
  have hbB := hb0 (.cells #[.int .i64 nk, .int .i64 nf, .int .i64 nt, .int .i64 nl, .int .i64 nop, .int .i64 nn, .string nx, .slice a1 L1 c1, .slice a3 L2 c3] 67) (.cells #[.int .i64 nk, .int .i64 nf, .int .i64 nt, .int .i64 nl, .int .i64 nop, .int .i64 nn, .string nx, .slice a2 L1 c2, .slice a4 L2 c4] 67)
  have k9 := ks (.cells #[.int .i64 nk, .int .i64 nf, .int .i64 nt, .int .i64 nl, .int .i64 nop, .int .i64 nn, .string nx, .slice a1 L1 c1, .slice a3 L2 c3] 67) (.cells #[.int .i64 nk, .int .i64 nf, .int .i64 nt, .int .i64 nl, .int .i64 nop, .int .i64 nn, .string nx, .slice a2 L1 c2, .slice a4 L2 c4] 67)
  generalize (w.alloc (.cells #[.int .i64 nk, .int .i64 nf, .int .i64 nt, .int .i64 nl, .int .i64 nop, .int .i64 nn, .string nx, .slice a1 L1 c1, .slice a3 L2 c3] 67)).alloc (.cells #[.int .i64 nk, .int .i64 nf, .int .i64 nt, .int .i64 nl, .int .i64 nop, .int .i64 nn, .string nx, .slice a2 L1 c2, .slice a4 L2 c4] 67) = W2 at e1 e2 hbB k9 ⊢
  refine k9.mono ?_
  rintro e w1 ⟨rfl, hb1⟩
  have f1 := cell_kept hb1 e1
  have f2 := cell_kept hb1 e2
  have hb2 := hbB.trans (hb1.mono hbB.size)
  have kz := ki w1 hb2
  clear e1 e2 k9 ks ki hb1 hbB hb0
  go_wp2_with (go_at_call 53; refine kz.mono ?_; rintro e w3 ⟨rfl, hb3⟩)
  go_ret
  exact ⟨rfl, hb2.trans (hb3.mono hb2.size)⟩

set_option maxRecDepth 100000 in
set_option maxHeartbeats 3200000 in
theorem eqNodeS_any (w : World) (v1 v2 : Value) (l : List Nd) (h1 : NdsAt w v1 l) (h2 : NdsAt w v2 l) (hl : l.length ≤ 1048576) (hN : ∀ N ∈ l, N.nm.length ≤ 1048576 ∧ N.ks.length ≤ 1048576) :
    Calls Tryz.prog 23 #[v1, v2] w fun e w' => e = .returned (.bool true) ∧ Below w.heap.size w w' := by
  obtain ⟨a1, c1, rfl⟩ := h1.form
  obtain ⟨a2, c2, rfl⟩ := h2.form
  obtain ⟨n, hn⟩ : ∃ n, l.length = n := ⟨_, rfl⟩
  have HN : Hid (l.length = n) := hn
  have HA : Hid (NdsAt w (.slice a1 n c1) l ∧ NdsAt w (.slice a2 n c2) l) := by rw [← hn]; exact ⟨h1, h2⟩
  have HS : Hid (∀ N ∈ l, N.nm.length ≤ 1048576 ∧ N.ks.length ≤ 1048576) := hN
  rw [hn] at hl ⊢
  clear h1 h2 hn hN
  go_enter Tryz.func23, Tryz.ntmps23
  go_wp2_with fail
  go_loopw [5] (fun vi wr => ∃ k : Nat, k ≤ n ∧ vi = .int .i64 k ∧ Below w.heap.size w wr) (fun vi _ => n - (intOf vi).toNat)
  case atStart => exact ⟨0, by omega, rfl, Below.refl _ _⟩
  case round =>
    obtain ⟨k, hk, rfl, hb⟩ := hrel
    by_cases hlt : k < n
    · obtain ⟨N, hsk⟩ := some_at HN.out hlt
      obtain ⟨hs1, hs2⟩ := HS.out N (List.mem_of_getElem? hsk)
      obtain ⟨b1, rfl, vn1, vk1, g1⟩ := (HA.out.1.below hb).get hsk
      obtain ⟨b2, rfl, vn2, vk2, g2⟩ := (HA.out.2.below hb).get hsk
      have hki : (k : Int) < (n : Int) := by omega
      have hk0 : (0 : Int) ≤ (k : Int) := by omega
      obtain ⟨p0, p1, p2, p3, p4, p5, p6, p7, p8, n1, k1⟩ := g1
      obtain ⟨q0, q1, q2, q3, q4, q5, q6, q7, q8, n2, k2⟩ := g2
      have ke := eqNode_any wr.drew N vn1 vk1 vn2 vk2 n1 k1 n2 k2 hs1 hs2
      obtain ⟨x1, y1, rfl⟩ := n1.form
      obtain ⟨x2, y2, rfl⟩ := n2.form
      obtain ⟨x3, y3, rfl⟩ := k1.form
      obtain ⟨x4, y4, rfl⟩ := k2.form
      unfold vNd at ke
      clear hsk n1 k1 n2 k2 hs1 hs2
      generalize N.nm.length = L1 at p7 q7 ke
      generalize N.ks.length = L2 at p8 q8 ke
      obtain ⟨nk, nf, nt, nl, nop, nn, nx, nnm, nks⟩ := N
      simp only at p0 p1 p2 p3 p4 p5 p6 q0 q1 q2 q3 q4 q5 q6 ke
      go_wp2_with fail
      go_region_held3 (fun w' => w'.cell? (b1.add (k * 9)) = some (.int .i64 nk) ∧ w'.cell? ⟨(b1.add (k * 9)).block, (b1.add (k * 9)).off + 1, none⟩ = some (.int .i64 nf) ∧ w'.cell? ⟨(b1.add (k * 9)).block, (b1.add (k * 9)).off + 2, none⟩ = some (.int .i64 nt) ∧ w'.cell? ⟨(b1.add (k * 9)).block, (b1.add (k * 9)).off + 3, none⟩ = some (.int .i64 nl) ∧ w'.cell? ⟨(b1.add (k * 9)).block, (b1.add (k * 9)).off + 4, none⟩ = some (.int .i64 nop) ∧ w'.cell? ⟨(b1.add (k * 9)).block, (b1.add (k * 9)).off + 5, none⟩ = some (.int .i64 nn) ∧ w'.cell? ⟨(b1.add (k * 9)).block, (b1.add (k * 9)).off + 6, none⟩ = some (.string nx) ∧ w'.cell? ⟨(b1.add (k * 9)).block, (b1.add (k * 9)).off + 7, none⟩ = some (.slice x1 L1 y1) ∧ w'.cell? ⟨(b1.add (k * 9)).block, (b1.add (k * 9)).off + 8, none⟩ = some (.slice x3 L2 y3) ∧ w'.cell? (b2.add (k * 9)) = some (.int .i64 nk) ∧ w'.cell? ⟨(b2.add (k * 9)).block, (b2.add (k * 9)).off + 1, none⟩ = some (.int .i64 nf) ∧ w'.cell? ⟨(b2.add (k * 9)).block, (b2.add (k * 9)).off + 2, none⟩ = some (.int .i64 nt) ∧ w'.cell? ⟨(b2.add (k * 9)).block, (b2.add (k * 9)).off + 3, none⟩ = some (.int .i64 nl) ∧ w'.cell? ⟨(b2.add (k * 9)).block, (b2.add (k * 9)).off + 4, none⟩ = some (.int .i64 nop) ∧ w'.cell? ⟨(b2.add (k * 9)).block, (b2.add (k * 9)).off + 5, none⟩ = some (.int .i64 nn) ∧ w'.cell? ⟨(b2.add (k * 9)).block, (b2.add (k * 9)).off + 6, none⟩ = some (.string nx) ∧ w'.cell? ⟨(b2.add (k * 9)).block, (b2.add (k * 9)).off + 7, none⟩ = some (.slice x2 L1 y2) ∧ w'.cell? ⟨(b2.add (k * 9)).block, (b2.add (k * 9)).off + 8, none⟩ = some (.slice x4 L2 y4)) (first | go_keep | exact ⟨cell_kept hb4 p0, cell_kept hb4 p1, cell_kept hb4 p2, cell_kept hb4 p3, cell_kept hb4 p4, cell_kept hb4 p5, cell_kept hb4 p6, cell_kept hb4 p7, cell_kept hb4 p8, cell_kept hb4 q0, cell_kept hb4 q1, cell_kept hb4 q2, cell_kept hb4 q3, cell_kept hb4 q4, cell_kept hb4 q5, cell_kept hb4 q6, cell_kept hb4 q7, cell_kept hb4 q8⟩) ((go_at_call 35; refine ke.mono ?_; rintro e w4 ⟨rfl, hb4⟩))
      go_wp2_with fail
      exact ⟨⟨k + 1, by omega, by go_num, (bel_drew1 hb).trans (hb4.mono hb.size)⟩, by simp [intOf]; omega⟩
    · obtain rfl : k = n := by omega
      go_wp2_with fail
      go_ret
      exact ⟨rfl, hb⟩
set_option maxHeartbeats 800000 in
theorem eqTree_any (w : World) (v1 v2 : Value) (l : List Nd) (h1 : NdsAt w v1 l) (h2 : NdsAt w v2 l) (hl : l.length ≤ 1048576) (hN : ∀ N ∈ l, N.nm.length ≤ 1048576 ∧ N.ks.length ≤ 1048576) :
    Calls Tryz.prog 9 #[.agg #[v1], .agg #[v2]] w fun e w' => e = .returned (.bool true) ∧ Below w.heap.size w w' := by
  have hb0 : ∀ o1 o2, Below w.heap.size w ((w.alloc o1).alloc o2) := fun o1 o2 => ((Below.refl _ w).alloc (Nat.le_refl _) o1).alloc (by simp) o2
  have ks := fun o1 o2 => eqNodeS_any ((w.alloc o1).alloc o2) v1 v2 l (h1.below (hb0 o1 o2)) (h2.below (hb0 o1 o2)) hl hN
  obtain ⟨a1, c1, rfl⟩ := h1.form
  obtain ⟨a2, c2, rfl⟩ := h2.form
  generalize l.length = n at ks
  clear h1 h2 hl hN
  go_enter Tryz.func9, Tryz.ntmps9
  go_wp2_with (go_at_call 23; refine (ks _ _).mono ?_; rintro e w3 ⟨rfl, hb3⟩)
  go_ret
  exact ⟨rfl, (hb0 _ _).trans (hb3.mono (by simp; omega))⟩
end Go.Proofs.YtdgbmihokecmhaaGreatDoor

namespace Go.Proofs.YtdgbmihokecmhaaGreatDoor
open Go.RowKit
set_option linter.unusedVariables false

def mkT : Nat → Nat → ByteArray → ByteArray
  | 0, _, o => o
  | f + 1, c, o => if c = 0 then o else mkT f (c / 10) (strI [48 + ((c % 10 : Nat) : Int)] ++ o)
def mtI (k : Nat) : ByteArray := { data := #[109] } ++ mkT k k { data := #[] }
structure MkIs (f c : Nat) (o R : ByteArray) : Prop where
  out : mkT f c o = R

set_option maxRecDepth 100000 in
set_option maxHeartbeats 1600000 in
theorem markText_any (N : Nat) (h0 : 0 < N) (h1 : N ≤ 100000000) (w : World) : Calls Tryz.prog 25 #[.int .i64 (N : Int)] w fun e w' => e = .returned (.string (mtI N)) ∧ Below w.heap.size w w' := by
  unfold mtI
  obtain ⟨R, hR⟩ : ∃ R, mkT N N { data := #[] } = R := ⟨_, rfl⟩
  rw [hR]
  have HR : MkIs N N { data := #[] } R := ⟨hR⟩
  clear hR
  have hN : ¬ (N : Int) ≤ 0 := by omega
  go_enter Tryz.func25, Tryz.ntmps25
  go_wp2_with fail
  go_loopw [0, 3] (fun vk vo wr => ∃ (c f : Nat) (o : ByteArray), vk = .int .i64 c ∧ vo = .string o ∧ c ≤ f ∧ o.size + c ≤ N ∧ MkIs f c o R ∧ Below w.heap.size w wr) (fun vk _ _ => (intOf vk).toNat)
  case atStart => exact ⟨N, N, { data := #[] }, rfl, rfl, Nat.le_refl _, by simp [ByteArray.size], HR, Below.refl _ _⟩
  case round =>
    obtain ⟨c, f, o, rfl, rfl, hcf, ho, HK, hb⟩ := hrel
    have hst := HK.out
    clear HK
    by_cases hc : c = 0
    · subst hc
      have HS : Hid (o = R) := by
        cases f with
        | zero => exact hst
        | succ f => rw [mkT, if_pos rfl] at hst; exact hst
      have hs1 : (({ data := #[109] } : ByteArray)).size = 1 := rfl
      clear hst
      go_wp2
      go_ret
      exact ⟨by rw [← HS.out]; rfl, hb⟩
    · obtain ⟨f, rfl⟩ : ∃ g, f = g + 1 := ⟨f - 1, by omega⟩
      rw [mkT, if_neg hc] at hst
      have hci : (0 : Int) < (c : Int) := by omega
      have e1 : ((c % 10 : Nat) : Int) = (c : Int) % 10 := by omega
      rw [e1] at hst
      obtain ⟨C, hC⟩ : ∃ C : Int, (c : Int) = C := ⟨_, rfl⟩
      have q1 : (c / 10 : Nat) = (C / 10).toNat := by omega
      have HS : MkIs f (c / 10) (strI [48 + C % 10] ++ o) R := ⟨by rw [← hC]; exact hst⟩
      rw [hC] at hci ⊢
      have hcv := fun w => conv_own (own_first w (48 + C % 10))
      have hs2 : (strI [48 + C % 10]).size = 1 := rfl
      have hC1 : C ≤ 100000000 := by omega
      have HC : Hid ((c : Int) = C) := hC
      clear hst e1 hC
      go_wp2_with fail
      have := HC.out
      exact ⟨⟨c / 10, f, _, by congr 1; omega, rfl, by omega, by rw [ByteArray.size_append, hs2]; omega, HS, hb.alloc hb.size _⟩, by simp [intOf]; omega⟩
theorem markText_q (a : Int) (N : Nat) (ha : a = (N : Int)) (h0 : 0 < N) (h1 : N ≤ 100000000) (w : World) : Calls Tryz.prog 25 #[.int .i64 a] w fun e w' => e = .returned (.string (mtI N)) ∧ Below w.heap.size w w' := by
  subst ha; exact markText_any N h0 h1 w

theorem own_form {W : World} {base e size n : Nat} {v : Value} {xs : List Value} (h : W.ownsRow base e size v n xs) : ∃ a cap, v = .slice a n cap := by
  rcases h.2 with ⟨rfl, hn⟩ | ⟨g, cap, cur, rfl, _⟩
  · exact ⟨none, 0, by rw [hn]⟩
  · exact ⟨_, _, rfl⟩
theorem grw_refl (w : World) (b : Option Nat) : w.grownBy w b := ⟨rfl, rfl, rfl, Nat.le_refl _, fun _ _ _ => rfl⟩
theorem grw_set {w0 w : World} {b : Nat} (h : w0.grownBy w (some b)) (i : Nat) (v : Value) : w0.grownBy (w.setCell ⟨b, i, none⟩ v) (some b) :=
  ⟨h.os, h.tape, h.output, by simpa [World.setCell] using h.size, fun k hk hne => by rw [heap_setCell_other _ _ _ _ (fun e => hne (by rw [e]))]; exact h.block k hk hne⟩
theorem grw_trans {x y z : World} {b : Option Nat} (h : x.grownBy y b) (k : y.grownBy z b) : x.grownBy z b :=
  ⟨k.os.trans h.os, k.tape.trans h.tape, k.output.trans h.output, Nat.le_trans h.size k.size, fun i hi hne => (k.block i (Nat.lt_of_lt_of_le hi h.size) hne).trans (h.block i hi hne)⟩
theorem grw_below {x y : World} (b : Option Nat) (h : Below x.heap.size x y) : x.grownBy y b := ⟨h.os, h.tape, h.output, h.size, fun k hk _ => h.block k hk⟩
theorem set_split {α : Type} (A l : List α) (k : Nat) (x : α) (hA : A.length = k) (hk : k < l.length) : (A ++ l.drop k).set k x = A ++ x :: l.drop (k + 1) := by
  rw [List.set_append_right _ _ (by omega), hA, Nat.sub_self, List.drop_eq_getElem_cons hk, List.set_cons_zero]

/-- What the law writes: texts, ints from K on. -/
def mks (K n : Nat) : List ByteArray := (List.range n).map fun j => mtI (K + j)
def mki (K n : Nat) : List Int := (List.range n).map fun j => ((K + j : Nat) : Int)
theorem mks_len (K n : Nat) : (mks K n).length = n := by simp [mks]
theorem mki_len (K n : Nat) : (mki K n).length = n := by simp [mki]
theorem mks_succ (K n : Nat) : mks K (n + 1) = mks K n ++ [mtI (K + n)] := by simp [mks, List.range_succ]
theorem mki_succ (K n : Nat) : mki K (n + 1) = mki K n ++ [((K + n : Nat) : Int)] := by simp [mki, List.range_succ]
theorem mks_at (K n i : Nat) (h : i < n) : (mks K n)[i]? = some (mtI (K + i)) := by simp [mks, h]
theorem mki_at (K n i : Nat) (h : i < n) : (mki K n)[i]? = some ((K + i : Nat) : Int) := by simp [mki, h]

set_option maxRecDepth 100000 in
set_option maxHeartbeats 3200000 in
theorem markStringS_some (w : World) (l : List ByteArray) (K : Nat) (n base g cap : Nat) (hK0 : 0 < K) (hK : K + n ≤ 50000000) (hl : l.length = n) (o : w.ownsRow base 9 1 (.slice (some ⟨g, 0, none⟩) n cap) n (l.map Value.string)) :
    Calls Tryz.prog 36 #[.slice (some ⟨g, 0, none⟩) n cap, .int .i64 K] w fun e w' => e = .returned (.int .i64 (K + n : Nat)) ∧ w'.ownsRow base 9 1 (.slice (some ⟨g, 0, none⟩) n cap) n ((mks K n).map Value.string) ∧ w.grownBy w' (some g) := by
  go_enter Tryz.func36, Tryz.ntmps36
  go_wp2_with fail
  go_loopw [1, 5] (fun vk vi wr => ∃ k : Nat, k ≤ n ∧ vi = .int .i64 k ∧ vk = .int .i64 (K + k : Nat) ∧ wr.ownsRow base 9 1 (.slice (some ⟨g, 0, none⟩) n cap) n ((mks K k ++ l.drop k).map Value.string) ∧ w.grownBy wr (some g)) (fun _ vi _ => n - (intOf vi).toNat)
  case atStart => exact ⟨0, Nat.zero_le _, rfl, rfl, o, grw_refl _ _⟩
  case round =>
    obtain ⟨k, hk, rfl, rfl, ho, hg⟩ := hrel
    clear o
    by_cases hlt : k < n
    · have hki : (k : Int) < (n : Int) := by omega
      have hk0 : (0 : Int) ≤ (k : Int) := by omega
      have km := fun w => markText_any (K + k) (by omega) (by omega) w
      have e7 := set_split (mks K k) l k (mtI (K + k)) (mks_len _ _) (by omega)
      obtain ⟨s, hs⟩ : ∃ s, (mks K k ++ l.drop k)[k]? = some s := ⟨(mks K k ++ l.drop k)[k]'(by simp [mks_len]; omega), List.getElem?_eq_getElem _⟩
      obtain ⟨M, hM⟩ : ∃ M, mtI (K + k) = M := ⟨_, rfl⟩
      rw [hM] at km e7
      have HM : Hid (mtI (K + k) = M) := hM
      clear hM
      have hcl : ((mks K k ++ l.drop k).map Value.string)[k]? = some (.string s) := by rw [List.getElem?_map, hs]; rfl
      obtain ⟨Z, hZ⟩ : ∃ Z : Int, ((K + k : Nat) : Int) = Z := ⟨_, rfl⟩
      have hZ1 : 0 ≤ Z := by omega
      have hZ2 : Z ≤ 50000000 := by omega
      have HZ : Hid (((K + k : Nat) : Int) = Z) := hZ
      rw [hZ] at km ⊢
      clear hZ hs
      go_wp2_with (go_at_call 25; refine (km _).mono ?_; rintro e w4 ⟨rfl, hb4⟩; have o6 := own_keep ho hb4; have f6 := o6.frozenAt k; have c6 : w4.cell? ⟨g, k, none⟩ = some (.string s) := (o6.cellAt k (by omega)).trans hcl)
      have o7 := (o6.stored k (.string M)).1
      rw [show ((mks K k ++ l.drop k).map Value.string).set k (.string M) = ((mks K k ++ l.drop k).set k M).map Value.string by rw [List.map_set], e7] at o7
      have hz := HZ.out
      refine ⟨⟨k + 1, by omega, by go_num, by congr 1; omega, ?_, ?_⟩, by simp [intOf]; omega⟩
      · rw [mks_succ, HM.out, List.append_assoc]; exact o7
      · exact grw_set (grw_trans hg (grw_below _ hb4)) _ _
    · obtain rfl : k = n := by omega
      go_wp2_with fail
      go_ret
      exact ⟨rfl, by rw [List.drop_of_length_le (by omega), List.append_nil] at ho; exact ho, hg⟩

set_option maxRecDepth 100000 in
set_option maxHeartbeats 3200000 in
theorem markIntS_some (w : World) (l : List Int) (K : Nat) (n base g cap : Nat) (hK0 : 0 < K) (hK : K + n ≤ 50000000) (hl : l.length = n) (o : w.ownsRow base 3 1 (.slice (some ⟨g, 0, none⟩) n cap) n (l.map (Value.int .i64))) :
    Calls Tryz.prog 37 #[.slice (some ⟨g, 0, none⟩) n cap, .int .i64 K] w fun e w' => e = .returned (.int .i64 (K + n : Nat)) ∧ w'.ownsRow base 3 1 (.slice (some ⟨g, 0, none⟩) n cap) n ((mki K n).map (Value.int .i64)) ∧ w.grownBy w' (some g) := by
  go_enter Tryz.func37, Tryz.ntmps37
  go_wp2_with fail
  go_loopw [1, 5] (fun vk vi wr => ∃ k : Nat, k ≤ n ∧ vi = .int .i64 k ∧ vk = .int .i64 (K + k : Nat) ∧ wr.ownsRow base 3 1 (.slice (some ⟨g, 0, none⟩) n cap) n ((mki K k ++ l.drop k).map (Value.int .i64)) ∧ w.grownBy wr (some g)) (fun _ vi _ => n - (intOf vi).toNat)
  case atStart => exact ⟨0, Nat.zero_le _, rfl, rfl, o, grw_refl _ _⟩
  case round =>
    obtain ⟨k, hk, rfl, rfl, ho, hg⟩ := hrel
    clear o
    by_cases hlt : k < n
    · have hki : (k : Int) < (n : Int) := by omega
      have hk0 : (0 : Int) ≤ (k : Int) := by omega
      have e7 := set_split (mki K k) l k (((K + k : Nat) : Int)) (mki_len _ _) (by omega)
      obtain ⟨s, hs⟩ : ∃ s, (mki K k ++ l.drop k)[k]? = some s := ⟨(mki K k ++ l.drop k)[k]'(by simp [mki_len]; omega), List.getElem?_eq_getElem _⟩
      have hcl : ((mki K k ++ l.drop k).map (Value.int .i64))[k]? = some (.int .i64 s) := by rw [List.getElem?_map, hs]; rfl
      obtain ⟨Z, hZ⟩ : ∃ Z : Int, ((K + k : Nat) : Int) = Z := ⟨_, rfl⟩
      have hZ1 : 0 ≤ Z := by omega
      have hZ2 : Z ≤ 50000000 := by omega
      have HZ : Hid (((K + k : Nat) : Int) = Z) := hZ
      rw [hZ] at e7 ⊢
      have f6 := ho.frozenAt k
      have c6 : wr.cell? ⟨g, k, none⟩ = some (.int .i64 s) := (ho.cellAt k (by omega)).trans hcl
      have o7 := (ho.stored k (.int .i64 Z)).1
      rw [show ((mki K k ++ l.drop k).map (Value.int .i64)).set k (.int .i64 Z) = ((mki K k ++ l.drop k).set k Z).map (Value.int .i64) by rw [List.map_set], e7] at o7
      clear hZ hs hcl
      go_wp2_with fail
      have hz := HZ.out
      refine ⟨⟨k + 1, by omega, by go_num, by congr 1; omega, ?_, ?_⟩, by simp [intOf]; omega⟩
      · rw [mki_succ, hz, List.append_assoc]; exact o7
      · exact grw_set hg _ _
    · obtain rfl : k = n := by omega
      go_wp2_with fail
      go_ret
      exact ⟨rfl, by rw [List.drop_of_length_le (by omega), List.append_nil] at ho; exact ho, hg⟩

set_option maxHeartbeats 800000 in
theorem markStringS_none (w : World) (K : Nat) (a1 : Option Addr) (c1 : Nat) :
    Calls Tryz.prog 36 #[.slice a1 0 c1, .int .i64 K] w fun e w' => e = .returned (.int .i64 K) ∧ w' = w := by
  go_enter Tryz.func36, Tryz.ntmps36
  go_wp2_with fail
  refine wp_loop_rounds 1 ?_
  rw [rounds_succ]
  go_wp2
  go_ret
  exact ⟨rfl, rfl⟩
set_option maxHeartbeats 800000 in
theorem markIntS_none (w : World) (K : Nat) (a1 : Option Addr) (c1 : Nat) :
    Calls Tryz.prog 37 #[.slice a1 0 c1, .int .i64 K] w fun e w' => e = .returned (.int .i64 K) ∧ w' = w := by
  go_enter Tryz.func37, Tryz.ntmps37
  go_wp2_with fail
  refine wp_loop_rounds 1 ?_
  rw [rounds_succ]
  go_wp2
  go_ret
  exact ⟨rfl, rfl⟩
theorem own_zero_or {W : World} {base e size n : Nat} {v : Value} {xs : List Value} (h : W.ownsRow base e size v n xs) : (n = 0 ∧ v = .slice none 0 0) ∨ ∃ g cap, v = .slice (some ⟨g, 0, none⟩) n cap := by
  rcases h.2 with ⟨rfl, hn⟩ | ⟨g, cap, cur, rfl, _⟩
  · exact .inl ⟨hn, rfl⟩
  · exact .inr ⟨_, _, rfl⟩
theorem markStringS_any (w : World) (l : List ByteArray) (K : Nat) (base : Nat) (v : Value) (hK0 : 0 < K) (hK : K + l.length ≤ 50000000) (o : w.ownsRow base 9 1 v l.length (l.map Value.string)) :
    Calls Tryz.prog 36 #[v, .int .i64 K] w fun e w' => e = .returned (.int .i64 (K + l.length : Nat)) ∧ w'.ownsRow base 9 1 v l.length ((mks K l.length).map Value.string) ∧ w.grownBy w' v.ownBlock := by
  rcases own_zero_or o with ⟨hn, rfl⟩ | ⟨g, cap, rfl⟩
  · refine (markStringS_none w K none 0).mono ?_
    rintro e w' ⟨rfl, rfl⟩
    obtain rfl : l = [] := List.eq_nil_of_length_eq_zero hn
    exact ⟨rfl, o, grw_refl _ _⟩
  · exact markStringS_some w l K _ base g cap hK0 hK rfl o
theorem markIntS_any (w : World) (l : List Int) (K : Nat) (base : Nat) (v : Value) (hK0 : 0 < K) (hK : K + l.length ≤ 50000000) (o : w.ownsRow base 3 1 v l.length (l.map (Value.int .i64))) :
    Calls Tryz.prog 37 #[v, .int .i64 K] w fun e w' => e = .returned (.int .i64 (K + l.length : Nat)) ∧ w'.ownsRow base 3 1 v l.length ((mki K l.length).map (Value.int .i64)) ∧ w.grownBy w' v.ownBlock := by
  rcases own_zero_or o with ⟨hn, rfl⟩ | ⟨g, cap, rfl⟩
  · refine (markIntS_none w K none 0).mono ?_
    rintro e w' ⟨rfl, rfl⟩
    obtain rfl : l = [] := List.eq_nil_of_length_eq_zero hn
    exact ⟨rfl, o, grw_refl _ _⟩
  · exact markIntS_some w l K _ base g cap hK0 hK rfl o

end Go.Proofs.YtdgbmihokecmhaaGreatDoor

namespace Go.Proofs.YtdgbmihokecmhaaGreatDoor
open Go.RowKit
set_option linter.unusedVariables false

/-- From the last kid on: where the nodes below a node begin. -/
def wkB (S : List Int) : List Int → Int → Option Int
  | [], a => some a
  | k :: r, a => if k = a - 1 ∧ S.getD k.toNat 0 ≠ 0 then wkB S r (a - S.getD k.toNat 0) else none
def szNd (S : List Int) (i : Nat) (ks : List Int) : Int := match wkB S ks.reverse i with | some a => (i : Int) - a + 1 | none => 0
def szs (ns : List Nd) : List Int := ns.foldl (fun S N => S ++ [szNd S S.length N.ks]) []
theorem szs_app (ns : List Nd) (N : Nd) : szs (ns ++ [N]) = szs ns ++ [szNd (szs ns) (szs ns).length N.ks] := by simp [szs]
theorem rev_ind {α : Type} {p : List α → Prop} (h0 : p []) (h1 : ∀ a x, p a → p (a ++ [x])) (l : List α) : p l := by
  rw [← List.reverse_reverse l]
  induction l.reverse with
  | nil => exact h0
  | cons x r ih => rw [List.reverse_cons]; exact h1 _ x ih
theorem szs_len : ∀ (ns : List Nd), (szs ns).length = ns.length := by
  intro ns
  refine rev_ind (p := fun ns => (szs ns).length = ns.length) rfl (fun a N ih => ?_) ns
  rw [szs_app]; simp [ih]
structure WkIs (S : List Int) (l : List Int) (a : Int) (R : Option Int) : Prop where
  out : wkB S l a = R
/-- All sizes are between 0 and one more than the place. -/
def SzOk (S : List Int) : Prop := ∀ (j : Nat) z, S[j]? = some z → 0 ≤ z ∧ z ≤ (j : Int) + 1
theorem wkB_bd {S : List Int} (hS : SzOk S) : ∀ (l : List Int) (a b : Int), (∀ k ∈ l, 0 ≤ k) → 0 ≤ a → wkB S l a = some b → 0 ≤ b ∧ b ≤ a
  | [], a, b, _, h0, h => by simp [wkB] at h; omega
  | k :: r, a, b, hk, h0, h => by
    rw [wkB] at h
    split at h
    · rename_i hc
      have hk0 := hk k (by simp)
      have hz : 0 ≤ S.getD k.toNat 0 ∧ S.getD k.toNat 0 ≤ k + 1 := by
        rw [List.getD_eq_getElem?_getD]
        cases hs : S[k.toNat]? with
        | none => simp; omega
        | some z => have := hS _ z hs; simp; omega
      have := wkB_bd hS r _ b (fun z hz => hk z (by simp [hz])) (by omega) h
      omega
    · cases h
theorem szNd_bd {S : List Int} (hS : SzOk S) (i : Nat) (ks : List Int) (hk : ∀ k ∈ ks, 0 ≤ k) : 0 ≤ szNd S i ks ∧ szNd S i ks ≤ (i : Int) + 1 := by
  unfold szNd
  cases h : wkB S ks.reverse i with
  | none => simp; omega
  | some b =>
    have := wkB_bd hS ks.reverse i b (fun k hk' => hk k (by simpa using hk')) (by omega) h
    simp; omega
theorem szs_ok (ns : List Nd) : (∀ N ∈ ns, ∀ k ∈ N.ks, 0 ≤ k) → SzOk (szs ns) := by
  refine rev_ind (p := fun ns => (∀ N ∈ ns, ∀ k ∈ N.ks, 0 ≤ k) → SzOk (szs ns)) (fun _ j z h => by simp [szs] at h) (fun a N ih hk => ?_) ns
  have iha := ih (fun M hM => hk M (by simp [hM]))
  intro j z h
  rw [szs_app] at h
  rcases Nat.lt_or_ge j (szs a).length with g | g
  · rw [List.getElem?_append_left g] at h; exact iha j z h
  · rw [List.getElem?_append_right g] at h
    obtain ⟨h1, h2⟩ := List.getElem?_eq_some_iff.1 h
    simp at h1 h2
    subst h2
    obtain rfl : j = (szs a).length := by omega
    exact szNd_bd iha _ _ (fun k hk' => hk N (by simp) k hk')
theorem set_fill1 (A : List Int) (n k : Nat) (z : Int) (hA : A.length = k) (hk : k < n) : (A.map (Value.int .i64) ++ List.replicate (n - k) (Value.int .i64 0)).set k (.int .i64 z) = (A ++ [z]).map (Value.int .i64) ++ List.replicate (n - (k + 1)) (Value.int .i64 0) := by
  have hl : (A.map (Value.int .i64)).length = k := by rw [List.length_map, hA]
  rw [List.set_append_right _ _ (by omega), hl, Nat.sub_self, show n - k = (n - (k + 1)) + 1 by omega, List.replicate_succ, List.set_cons_zero]
  simp

set_option maxRecDepth 100000 in
set_option maxHeartbeats 6400000 in
theorem l2sizes_any (w : World) (v : Value) (ns : List Nd) (h : NdsAt w v ns) (hl : ns.length ≤ 3000) (hN : ∀ N ∈ ns, N.ks.length ≤ 1048576) (hk : ∀ (i : Nat) N, ns[i]? = some N → ∀ k ∈ N.ks, 0 ≤ k ∧ k < (i : Int)) :
    Calls Tryz.prog 28 #[.agg #[v]] w fun e w' => ∃ g, e = .returned (.slice (some ⟨g, 0, none⟩) ns.length ns.length) ∧ w'.ownsRow w.heap.size 3 1 (.slice (some ⟨g, 0, none⟩) ns.length ns.length) ns.length ((szs ns).map (Value.int .i64)) ∧ Below w.heap.size w w' := by
  obtain ⟨a, c, rfl⟩ := h.form
  obtain ⟨n, hn⟩ : ∃ n, ns.length = n := ⟨_, rfl⟩
  have HN : Hid (ns.length = n) := hn
  have HA : Hid (NdsAt w (.slice a n c) ns) := by rw [← hn]; exact h
  have HS : Hid ((∀ N ∈ ns, N.ks.length ≤ 1048576) ∧ (∀ (i : Nat) N, ns[i]? = some N → ∀ k ∈ N.ks, 0 ≤ k ∧ k < (i : Int)) ∧ ∀ k, SzOk (szs (ns.take k))) := ⟨hN, hk, fun k => szs_ok _ (fun N hN z hz => by
    obtain ⟨i, hi, e⟩ := List.getElem_of_mem (List.mem_of_mem_take hN)
    exact (hk i N (by rw [List.getElem?_eq_getElem hi, e]) z hz).1)⟩
  rw [hn] at hl ⊢
  clear h hn hN hk
  obtain ⟨i0, hi, hz0, hz1, hz2⟩ := info_parts infoInt
  go_enter Tryz.func28, Tryz.ntmps28
  go_wp2_with (at_make; refine wpList_make_full _ rfl _ _ 64 rfl w.heap.size 3 i0 (.int .i64 0) 1 Tryz.underlying64 hi hz0 hz1 .i64 .i64 _ _ n rfl rfl rfl rfl (by rw [hz2]; omega) (by unfold maxLen; omega) (by simp) ?_; intro w0 hown0 hgrow0; have hb0 : Below (w.alloc (.cells #[.slice a n c] 30)).heap.size (w.alloc (.cells #[.slice a n c] 30)) w0 := ⟨hgrow0.os, hgrow0.tape, hgrow0.output, hgrow0.size, fun k hk => hgrow0.block k hk (by simp)⟩; have zc : w0.cell? ⟨w.heap.size, 0, none⟩ = some (.slice a n c) := by { rw [cell_of_row _ _ _ _ _ _ ((hb0.block _ (by simp)).trans (heap_alloc_new w _))]; rfl })
  have bw0 : Below w.heap.size w w0 := ((Below.refl _ w).alloc (Nat.le_refl _) _).trans (hb0.mono (by simp))
  rw [World.size_alloc, show (madeCells (Value.int .i64 0).cells (n * 1)).toList = List.replicate n (Value.int .i64 0) by rw [Nat.mul_one]; exact toList_madeCells_one _ n] at hown0
  have hs0 : w.heap.size + 1 < w0.heap.size := (hown0.lt (w.heap.size + 1) rfl).2
  clear zc hb0 hgrow0
  go_loopw [17] (fun vi wr => ∃ k : Nat, k ≤ n ∧ vi = .int .i64 k ∧ Hid (wr.ownsRow w.heap.size 3 1 (.slice (some ⟨w.heap.size + 1, 0, none⟩) n n) n ((szs (ns.take k)).map (Value.int .i64) ++ List.replicate (n - k) (.int .i64 0))) ∧ Below w.heap.size w wr) (fun vi _ => n - (intOf vi).toNat)
  case atStart => exact ⟨0, Nat.zero_le _, rfl, hown0, bw0⟩
  case round =>
    obtain ⟨k, hk, rfl, HO, hb⟩ := hrel
    clear hown0 bw0 hs0
    by_cases hlt : k < n
    · obtain ⟨N, hsk⟩ := some_at HN.out hlt
      have hkl := HS.out.1 N (List.mem_of_getElem? hsk)
      have hkr := HS.out.2.1 k N hsk
      have hok := HS.out.2.2 k
      obtain ⟨a', rfl, vn, vk, hNd⟩ := (HA.out.below hb).get hsk
      have hki : (k : Int) < (n : Int) := by omega
      have hk0 : (0 : Int) ≤ (k : Int) := by omega
      obtain ⟨c0, c1, c2, c3, c4, c5, c6, c7, c8, hnn, hkk⟩ := hNd
      obtain ⟨av, cv, rfl⟩ := hnn.form
      obtain ⟨ak, ck, rfl⟩ := hkk.form
      obtain ⟨S, hSd⟩ : ∃ S, szs (ns.take k) = S := ⟨_, rfl⟩
      have hSl : S.length = k := by rw [← hSd, szs_len, List.length_take, HN.out]; omega
      have hnx : szs (ns.take (k + 1)) = S ++ [szNd S k N.ks] := by
        rw [List.take_add_one, hsk]
        show szs (ns.take k ++ [N]) = _
        rw [szs_app, hSd, hSl]
      rw [hSd] at HO hok
      obtain ⟨L, hL⟩ : ∃ L, N.ks.length = L := ⟨_, rfl⟩
      rw [hL] at c8 hkl
      have hkk' : IntsAt wr (.slice ak L ck) N.ks := by rw [← hL]; exact hkk
      have HF : Hid (N.ks.length = L ∧ IntsAt wr (.slice ak L ck) N.ks ∧ (∀ z ∈ N.ks, 0 ≤ z ∧ z < (k : Int)) ∧ SzOk S ∧ S.length = k ∧ szs (ns.take (k + 1)) = S ++ [szNd S k N.ks]) := ⟨hL, hkk', hkr, hok, hSl, hnx⟩
      have HW0 : WkIs S (N.ks.take L).reverse k (wkB S N.ks.reverse k) := ⟨by rw [← hL, List.take_length]⟩
      obtain ⟨RR, hRR⟩ : ∃ RR, wkB S N.ks.reverse k = RR := ⟨_, rfl⟩
      rw [hRR] at HW0
      have HRR : Hid (wkB S N.ks.reverse k = RR) := hRR
      generalize N.nm.length = L1 at c7
      clear hsk hnn hkk hkk' hkr hok hSl hnx hSd hL hRR
      go_wp2_with fail
      have hbA : Below wr.heap.size wr (wr.alloc (.cells #[.int .i64 N.k, .int .i64 N.f, .int .i64 N.t, .int .i64 N.l, .int .i64 N.op, .int .i64 N.n, .string N.x, .slice av L1 cv, .slice ak L ck] 67)) := (Below.refl _ wr).alloc (Nat.le_refl _) _
      have d8 : (wr.alloc (.cells #[.int .i64 N.k, .int .i64 N.f, .int .i64 N.t, .int .i64 N.l, .int .i64 N.op, .int .i64 N.n, .string N.x, .slice av L1 cv, .slice ak L ck] 67)).cell? ⟨wr.heap.size, 8, none⟩ = some (.slice ak L ck) := by rw [cell_of_row _ _ _ _ _ _ (heap_alloc_new wr _)]; rfl
      have o1 := own_keep HO.out hbA
      generalize wr.alloc (.cells #[.int .i64 N.k, .int .i64 N.f, .int .i64 N.t, .int .i64 N.l, .int .i64 N.op, .int .i64 N.n, .string N.x, .slice av L1 cv, .slice ak L ck] 67) = W1 at hbA d8 o1 ⊢
      have HI : Hid (IntsAt W1 (.slice ak L ck) N.ks) := HF.out.2.1.below hbA
      have HO1 : Hid (W1.ownsRow w.heap.size 3 1 (.slice (some ⟨w.heap.size + 1, 0, none⟩) n n) n (S.map (Value.int .i64) ++ List.replicate (n - k) (.int .i64 0))) := o1
      have hbW : Below w.heap.size w W1 := hb.trans (hbA.mono hb.size)
      have hfz := o1.frozenAt k
      have hck : W1.cell? ⟨w.heap.size + 1, k, none⟩ = some (.int .i64 0) := by
        rw [o1.cellAt k (by omega), List.getElem?_append_right (by rw [List.length_map, HF.out.2.2.2.2.1]; exact Nat.le_refl _), List.length_map, HF.out.2.2.2.2.1, Nat.sub_self, List.getElem?_replicate, if_pos (by omega)]
      clear HO o1 c0 c1 c2 c3 c4 c5 c6 c7 c8 hb hbA
      go_loop [6, 7, 8] (fun va vo vj => ∃ (m : Nat) (A : Int), va = .int .i64 A ∧ vo = .bool true ∧ vj = .int .i64 ((m : Int) - 1) ∧ m ≤ L ∧ 0 ≤ A ∧ A ≤ (k : Int) ∧ WkIs S (N.ks.take m).reverse A RR) (fun _ _ vj => (intOf vj + 1).toNat)
      case atStart => exact ⟨L, k, rfl, rfl, rfl, Nat.le_refl _, by omega, by omega, HW0⟩
      case round =>
        obtain ⟨m, A, rfl, rfl, rfl, hm, hA0, hA1, HW⟩ := hrel
        clear HW0
        have hw := HW.out
        cases m with
        | zero =>
          have hz : szNd S k N.ks = (k : Int) - A + 1 := by
            unfold szNd
            rw [HRR.out]
            rw [List.take_zero, List.reverse_nil, wkB] at hw
            rw [← hw]
          have HZ : Hid (szNd S k N.ks = (k : Int) - A + 1) := hz
          have hneg : ¬ (0 : Int) ≤ ((0 : Nat) : Int) - 1 := by omega
          have o2 := (HO1.out.stored k (.int .i64 ((k : Int) - A + 1))).1
          rw [set_fill1 S n k _ HF.out.2.2.2.2.1 hlt] at o2
          have HO2 : Hid ((W1.setCell ⟨w.heap.size + 1, k, none⟩ (.int .i64 ((k : Int) - A + 1))).ownsRow w.heap.size 3 1 (.slice (some ⟨w.heap.size + 1, 0, none⟩) n n) n ((S ++ [(k : Int) - A + 1]).map (Value.int .i64) ++ List.replicate (n - (k + 1)) (.int .i64 0))) := o2
          clear hw HW hz o2
          go_wp2_with fail
          refine ⟨⟨k + 1, by omega, by go_num, ?_, hbW.setCell (by simp) _⟩, by simp [intOf]; omega⟩
          show World.ownsRow _ _ _ _ _ _ _
          rw [HF.out.2.2.2.2.2, HZ.out]
          exact HO2.out
        | succ m =>
          obtain ⟨z, hz⟩ := some_at HF.out.1 (show m < L by omega)
          obtain ⟨b', hak, hcz⟩ := HI.out.get hz
          subst hak
          obtain ⟨hz0', hz1'⟩ := HF.out.2.2.1 z (List.mem_of_getElem? hz)
          rw [List.take_add_one, hz] at hw
          simp only [Option.toList_some, List.reverse_append, List.reverse_cons, List.reverse_nil, List.nil_append, List.singleton_append] at hw
          rw [wkB] at hw
          obtain ⟨q, rfl⟩ := Int.eq_ofNat_of_zero_le hz0'
          have hq : q < k := by omega
          obtain ⟨sz, hsz⟩ := some_at HF.out.2.2.2.2.1 hq
          have hbd := HF.out.2.2.2.1 q sz hsz
          have hcq : W1.cell? ⟨w.heap.size + 1, q, none⟩ = some (.int .i64 sz) := by
            rw [HO1.out.cellAt q (by omega), List.getElem?_append_left (by rw [List.length_map, HF.out.2.2.2.2.1]; exact hq), List.getElem?_map, hsz]; rfl
          have hgd : S.getD q 0 = sz := by rw [List.getD_eq_getElem?_getD, hsz]; rfl
          simp only [Int.toNat_natCast, hgd] at hw
          have em : (((m + 1 : Nat)) : Int) - 1 = (m : Int) := by omega
          rw [em]
          have hm0 : (0 : Int) ≤ (m : Int) := by omega
          have hmL : (m : Int) < (L : Int) := by omega
          have hqn : (q : Int) < (n : Int) := by omega
          have hq0 : (0 : Int) ≤ (q : Int) := by omega
          by_cases hc : (q : Int) = A - 1 ∧ sz ≠ 0
          · rw [if_pos hc] at hw
            have HW2 : WkIs S (N.ks.take m).reverse (A - sz) RR := ⟨hw⟩
            have hc2 : ¬ sz = 0 := hc.2
            have hc1 := hc.1
            clear hw HW hz hsz hgd hc
            obtain rfl : A = (q : Int) + 1 := by omega
            clear hc1
            go_wp2_with fail
            go_round
            case rel => exact ⟨m, (q : Int) + 1 - sz, by go_num, rfl, by go_num, by omega, by omega, by omega, HW2⟩
            case measure => simp [intOf]
          · rw [if_neg hc] at hw
            have HZ : Hid (szNd S k N.ks = 0) := by
              show szNd S k N.ks = 0
              unfold szNd
              rw [HRR.out, ← hw]
            have HO2 : Hid (W1.ownsRow w.heap.size 3 1 (.slice (some ⟨w.heap.size + 1, 0, none⟩) n n) n ((szs (ns.take (k + 1))).map (Value.int .i64) ++ List.replicate (n - (k + 1)) (.int .i64 0))) := by
              have h1 := HO1.out
              show World.ownsRow _ _ _ _ _ _ _
              rw [HF.out.2.2.2.2.2, HZ.out, List.map_append]
              rw [show n - k = (n - (k + 1)) + 1 by omega, List.replicate_succ] at h1
              rw [List.append_assoc]
              exact h1
            by_cases hc1 : (q : Int) = A - 1
            · have hc2 : sz = 0 := by
                rcases Int.lt_trichotomy sz 0 with g | g | g
                · omega
                · exact g
                · exact absurd ⟨hc1, by omega⟩ hc
              subst hc2
              clear hw HW hz hsz hgd hc
              obtain rfl : A = (q : Int) + 1 := by omega
              clear hc1
              go_wp2_with fail
              exact ⟨⟨k + 1, by omega, by go_num, HO2, hbW⟩, by simp [intOf]; omega⟩
            · clear hw HW hz hsz hgd hc
              go_wp2_with fail
              exact ⟨⟨k + 1, by omega, by go_num, HO2, hbW⟩, by simp [intOf]; omega⟩
    · obtain rfl : k = n := by omega
      go_wp2_with fail
      go_ret
      refine ⟨_, rfl, ?_, hb⟩
      have h1 := HO.out
      rw [List.take_of_length_le (by rw [HN.out]; exact Nat.le_refl _), Nat.sub_self, List.replicate_zero, List.append_nil] at h1
      exact h1
end Go.Proofs.YtdgbmihokecmhaaGreatDoor
