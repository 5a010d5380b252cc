import Derived.Test.YtdaaiekepmlpoaaUMn
namespace Go.Proofs.Ytdaaiekepmlpoaa
open Go.RowKit
set_option linter.unusedVariables false

set_option maxHeartbeats 800000 in
theorem markNodeS_none (w : World) (K : Nat) (a1 : Option Addr) (c1 : Nat) :
    Calls Try.prog 24 #[.slice a1 0 c1, .int .i64 K] w fun e w' => e = .returned (.int .i64 K) ∧ w' = w := by
  go_enter Try.func24, Try.ntmps24
  go_wp2_with fail
  refine wp_loop_rounds 1 ?_
  rw [rounds_succ]
  go_wp2
  go_ret
  exact ⟨rfl, rfl⟩
theorem markNodeS_any (w : World) (L : List Mb) (K lo hi : Nat) (v : Value) (hK0 : 0 < K) (hK : cnt K (L.map Mb.N) ≤ 40000000) (hn : L.length ≤ 1048576) (o : MbsOwn w lo hi v L) :
    Calls Try.prog 24 #[v, .int .i64 K] w fun e w' => e = .returned (.int .i64 (cnt K (L.map Mb.N) : Nat)) ∧ MbsOwn w' lo hi v (mkMs K L) ∧ Mid lo hi w w' := by
  rcases own_zero_or o.row with ⟨h0, rfl⟩ | ⟨g, cap, rfl⟩
  · obtain rfl : L = [] := List.eq_nil_of_length_eq_zero h0
    refine (markNodeS_none w K none 0).mono ?_
    rintro e w' ⟨rfl, rfl⟩
    exact ⟨rfl, o, Mid.refl _ _ _⟩
  · exact markNodeS_some w L K lo hi _ g cap hK0 hK rfl hn o
set_option maxHeartbeats 800000 in
theorem markTree_any (w : World) (L : List Mb) (lo hi : Nat) (v : Value) (hK : cnt 1 (L.map Mb.N) ≤ 40000000) (hn : L.length ≤ 1048576) (hhi : hi ≤ w.heap.size) (o : MbsOwn w lo hi v L) :
    Calls Try.prog 12 #[.agg #[v], .int .i64 1] w fun e w' => e = .returned (.int .i64 (cnt 1 (L.map Mb.N) : Nat)) ∧ MbsOwn w' lo hi v (mkMs 1 L) ∧ Mid lo hi w w' := by
  have hb0 : ∀ o, Below w.heap.size w (w.alloc o) := fun o => (Below.refl _ w).alloc (Nat.le_refl _) o
  have km := fun ob => markNodeS_any (w.alloc ob) L 1 lo hi v (by omega) hK hn (o.below (hb0 ob))
  obtain ⟨a, c, rfl⟩ := own_form o.row
  generalize cnt 1 (L.map Mb.N) = R at km hK
  generalize L.length = n at km
  go_enter Try.func12, Try.ntmps12
  go_wp2_with (go_at_call 24; refine (km _).mono ?_; rintro e w4 ⟨rfl, o4, hg4⟩)
  go_ret
  refine ⟨rfl, o4, hg4.os, hg4.tape, hg4.output, Nat.le_trans (by simp) hg4.size, fun k hk hne => (hg4.block k (by simp; omega) hne).trans (Below.heap_alloc w _ k hk)⟩

set_option maxRecDepth 100000 in
set_option maxHeartbeats 6400000 in
theorem heldNodeS_any (w : World) (v : Value) (ns : List Nd) (K n : Nat) (hK0 : 0 < K) (hK : cnt K ns ≤ 40000000) (hl : ns.length = n) (hn : n ≤ 1048576) (h : NdsAt w v (mkNs K ns)) :
    Calls Try.prog 25 #[v, .int .i64 K] w fun e w' => e = .returned (.int .i64 (cnt K ns : Nat)) ∧ Below w.heap.size w w' := by
  obtain ⟨a, c, rfl⟩ := h.form
  rw [mkNs_len, hl] at h ⊢
  have HA : Hid (NdsAt w (.slice a n c) (mkNs K ns)) := h
  have HK : Hid (cnt K ns ≤ 40000000) := hK
  clear h hK
  go_enter Try.func25, Try.ntmps25
  go_wp2_with fail
  go_loopw [1, 5] (fun vk vi wr => ∃ k C : Nat, k ≤ n ∧ vi = .int .i64 k ∧ vk = .int .i64 C ∧ 0 < C ∧ Hid (cnt K (ns.take k) = C) ∧ Below w.heap.size w wr) (fun _ vi _ => n - (intOf vi).toNat)
  case atStart => exact ⟨0, K, Nat.zero_le _, rfl, rfl, hK0, rfl, Below.refl _ _⟩
  case round =>
    obtain ⟨k, C, hk, rfl, rfl, hC0, HC, hb⟩ := hrel
    by_cases hlt : k < n
    · have hki : (k : Int) < (n : Int) := by omega
      have hk0 : (0 : Int) ≤ (k : Int) := by omega
      obtain ⟨N, hx⟩ := some_at hl hlt
      have hcn : cnt K (ns.take (k + 1)) = nxt C N := by rw [take_at hx, cnt_app, HC.out]
      have hnx : nxt C N ≤ 40000000 := by
        have h1 := cnt_take ns K (k + 1)
        rw [hcn] at h1
        have := HK.out; omega
      have hat := mkNs_at ns K k N hx
      rw [HC.out] at hat
      obtain ⟨b, rfl, vn, vk, hNd⟩ := (HA.out.below hb).get hat
      obtain ⟨c0, c1, c2, c3, c4, c5, c6, c7, c8, hsn, hsk⟩ := hNd
      unfold mkNd at c0 c1 c2 c3 c4 c5 c6 hsn hsk
      simp only at c0 c1 c2 c3 c4 c5 c6 hsn hsk
      have q1 : ((C + 1 : Nat) : Int) = (C : Int) + 1 := by omega
      have q2 : ((C + 2 : Nat) : Int) = (C : Int) + 1 + 1 := by omega
      have q3 : ((C + 3 : Nat) : Int) = (C : Int) + 1 + 1 + 1 := by omega
      have q4 : ((C + 4 : Nat) : Int) = (C : Int) + 1 + 1 + 1 + 1 := by omega
      have q5 : ((C + 5 : Nat) : Int) = (C : Int) + 1 + 1 + 1 + 1 + 1 := by omega
      rw [q1] at c1
      rw [q2] at c2
      rw [q3] at c3
      rw [q4] at c4
      rw [q5] at c5
      unfold nxt at hcn hnx
      obtain ⟨L1, hL1⟩ : ∃ m, N.nm.length = m := ⟨_, rfl⟩
      obtain ⟨L2, hL2⟩ : ∃ m, N.ks.length = m := ⟨_, rfl⟩
      rw [hL1] at hsn hcn hnx
      rw [hL2] at hsk hcn hnx
      rw [hL1] at hsk
      have HCN : Hid (cnt K (ns.take (k + 1)) = C + 7 + L1 + L2) := hcn
      have km := fun w => markText_q ((C : Int) + 1 + 1 + 1 + 1 + 1 + 1) (C + 6) (by omega) (by omega) (by omega) w
      have hsn0 := hsn
      have hsk0 := hsk
      obtain ⟨an, en, rfl⟩ := hsn.form
      obtain ⟨ak, ek, rfl⟩ := hsk.form
      rw [mks_len] at hsn c7
      rw [mki_len] at hsk c8
      have HS : Hid (StrsAt wr (.slice an L1 en) (mks (C + 7) L1) ∧ IntsAt wr (.slice ak L2 ek) (mki (C + 7 + L1) L2)) := ⟨hsn, hsk⟩
      generalize mtI (C + 6) = M at c6 km
      clear hcn hx hat hsn hsk hsn0 hsk0 hL1 hL2 q1 q2 q3 q4 q5
      have hcz : (((C + 7 : Nat)) : Int) = (C : Int) + 1 + 1 + 1 + 1 + 1 + 1 + 1 := by omega
      have HCZ : Hid ((((C + 7 : Nat)) : Int) = (C : Int) + 1 + 1 + 1 + 1 + 1 + 1 + 1) := hcz
      clear hcz
      go_wp2_with fail
      go_region_held3 (fun w' => w'.cell? ⟨(b.add (k * 9)).block, (b.add (k * 9)).off + 6, none⟩ = some (.string M) ∧ w'.cell? ⟨(b.add (k * 9)).block, (b.add (k * 9)).off + 7, none⟩ = some (.slice an L1 en) ∧ w'.cell? ⟨(b.add (k * 9)).block, (b.add (k * 9)).off + 8, none⟩ = some (.slice ak L2 ek)) (first | go_keep | exact ⟨cell_kept hb4 c6, cell_kept hb4 c7, cell_kept hb4 c8⟩) ((go_at_call 31; refine (km _).mono ?_; rintro e w4 ⟨rfl, hb4⟩))
      have hbw : Below wr.heap.size wr w4 := (bel_drew1 (Below.refl _ wr)).trans hb4
      have kS := heldStringS_q ((C : Int) + 1 + 1 + 1 + 1 + 1 + 1 + 1) w4 (.slice an L1 en) (C + 7) L1 HCZ.out.symm (by omega) (by omega) (HS.out.1.below hbw)
      go_wp2_with (go_at_call 34; fail)
      refine kS.mono ?_
      rintro e w5 ⟨rfl, hb5⟩
      have hbv : Below wr.heap.size wr w5 := hbw.trans (hb5.mono hbw.size)
      have d8 := cell_kept hbv c8
      have kI := fun a ha => heldIntS_q a w5 (.slice ak L2 ek) (C + 7 + L1) L2 ha (by omega) (by omega) (HS.out.2.below hbv)
      obtain ⟨Z, hZ⟩ : ∃ Z : Int, ((C + 7 + L1 : Nat) : Int) = Z := ⟨_, rfl⟩
      have kI := kI Z hZ.symm
      have hZ1 : ¬ Z < 0 := by omega
      have hZ2 : Z ≤ 40000000 := by omega
      rw [hZ]
      clear hZ
      go_wp2_with (go_at_call 35; fail)
      refine kI.mono ?_
      rintro e w6 ⟨rfl, rfl⟩
      obtain ⟨Z6, hZ6⟩ : ∃ Z : Int, ((C + 7 + L1 + L2 : Nat) : Int) = Z := ⟨_, rfl⟩
      have hZ61 : ¬ Z6 < 0 := by omega
      have hZ62 : Z6 ≤ 40000000 := by omega
      rw [hZ6]
      have HZ6 : Hid (((C + 7 + L1 + L2 : Nat) : Int) = Z6) := hZ6
      clear hZ6
      go_wp2_with fail
      exact ⟨⟨k + 1, C + 7 + L1 + L2, by omega, by go_num, by rw [HZ6.out], by omega, HCN, hb.trans (hbv.mono hb.size)⟩, by simp [intOf]; omega⟩
    · obtain rfl : k = n := by omega
      go_wp2_with fail
      go_ret
      refine ⟨by rw [List.take_of_length_le (by omega)] at HC; rw [HC.out]; rfl, hb⟩
set_option maxHeartbeats 800000 in
theorem heldTree_any (w : World) (v : Value) (ns : List Nd) (hK : cnt 1 ns ≤ 40000000) (hn : ns.length ≤ 1048576) (h : NdsAt w v (mkNs 1 ns)) :
    Calls Try.prog 13 #[.agg #[v], .int .i64 1] w fun e w' => e = .returned (.int .i64 (cnt 1 ns : Nat)) ∧ Below w.heap.size w w' := by
  have hb0 : ∀ o, Below w.heap.size w (w.alloc o) := fun o => (Below.refl _ w).alloc (Nat.le_refl _) o
  have km := fun ob => heldNodeS_any (w.alloc ob) v ns 1 _ (by omega) hK rfl hn (h.below (hb0 ob))
  obtain ⟨a, c, rfl⟩ := h.form
  obtain ⟨R, hR⟩ : ∃ R : Int, ((cnt 1 ns : Nat) : Int) = R := ⟨_, rfl⟩
  have hneg : ¬ R < 0 := by omega
  rw [hR] at km ⊢
  generalize (mkNs 1 ns).length = n at km
  clear hR h
  go_enter Try.func13, Try.ntmps13
  go_wp2_with (go_at_call 25; refine (km _).mono ?_; rintro e w4 ⟨rfl, hb4⟩)
  go_ret
  exact ⟨rfl, (hb0 _).trans (hb4.mono (by simp))⟩
end Go.Proofs.Ytdaaiekepmlpoaa
