import Derived.Test.YtcnhhhfedakepaaGreatDoorMM11
import Derived.Test.YtcnhhhfedakepaaGreatDoorMM20
import Derived.Test.YtcnhhhfedakepaaGreatDoorMM06
import Derived.Lib.AppendStr
import Derived.Test.YtcnhhhfedakepaaGreatDoorMM12
namespace Go.Proofs.YtcnhhhfedakepaaGreatDoor
open Go.RowKit Go.Maps Go.WideMaps
open Go.Lib (strCells strCells_length wpList_append_own_string)
set_option linter.unusedVariables false

theorem strCells_app2 (a b : ByteArray) : strCells (a ++ b) = strCells a ++ strCells b := by
  unfold strCells
  rw [ByteArray.data_append, Array.toList_append, List.map_append]
theorem strCells_B8 (T : ByteArray) : strCells T = B8 (ints T.data.toList) := by
  unfold strCells B8 ints
  rw [List.map_map]; rfl
theorem conv_str {w : World} {base g n cap : Nat} {T : ByteArray} (hown : w.ownsRow base 5 1 (.slice (some ⟨g, 0, none⟩) n cap) n (strCells T)) :
    (convert 63 9 (.slice (some ⟨g, 0, none⟩) n cap)).run Tryz.prog w = .ok (.string T) w := by
  rw [strCells_B8] at hown
  rw [conv_own hown, strI_ints]
theorem own_lenN2 {W : World} {base e size n m c : Nat} {a : Option Addr} {xs : List Value} (h : W.ownsRow base e size (.slice a n c) m xs) : n = m := by
  obtain ⟨a', c', e⟩ := own_form h
  cases e; rfl
/-- What Dump is to give. -/
def dumpF (ns : List Nd) : ByteArray := if (treeF ns).1 = 0 then dumpB ns else ⟨#[]⟩

set_option maxRecDepth 100000 in
set_option maxHeartbeats 6400000 in
theorem specDump_any (w : World) (v : Value) (ns : List Nd) (h : NdsAt w v ns) (hl : ns.length ≤ 1048576) (sm : ∀ N ∈ ns, NdSmall N) (hi : ∀ N ∈ ns, NdInt N) (hz : (dumpB ns).size ≤ 274877906944) :
    Calls Tryz.prog 14 #[.agg #[v]] w fun e w' => e = .returned (.string (dumpF ns)) ∧ Below w.heap.size w w' := by
  obtain ⟨a, c, rfl⟩ := h.form
  obtain ⟨n, hn⟩ : ∃ n, ns.length = n := ⟨_, rfl⟩
  rw [hn] at h hl ⊢
  have hb0 : ∀ o, Below w.heap.size w (w.alloc o) := fun o => (Below.refl _ w).alloc (Nat.le_refl _) o
  have HH : Hid (NdsAt w (.slice a n c) ns ∧ (∀ N ∈ ns, NdSmall N) ∧ (∀ N ∈ ns, NdInt N) ∧ (dumpB ns).size ≤ 274877906944 ∧ ns.length = n) := ⟨h, sm, hi, hz, hn⟩
  have kt := fun o => treeok_any (w.alloc o) (.slice a n c) ns (h.below (hb0 o)) (by omega) sm
  obtain ⟨F1, hF1⟩ : ∃ F1, (treeF ns).1 = F1 := ⟨_, rfl⟩
  obtain ⟨F2, hF2⟩ : ∃ F2, (treeF ns).2 = F2 := ⟨_, rfl⟩
  rw [hF1, hF2] at kt
  have HF : Hid ((treeF ns).1 = F1) := hF1
  clear h sm hi hz hn hF1 hF2
  go_enter Tryz.func14, Tryz.ntmps14
  go_wp2_with (go_at_call 17; fail)
  have B0 := heap_alloc_new w (.cells #[.slice a n c] 30)
  have hs0 : (w.alloc (.cells #[.slice a n c] 30)).heap.size = w.heap.size + 1 := World.size_alloc _ _
  refine (kt _).mono ?_
  rintro e w1 ⟨rfl, hb1⟩
  have B1 := (hb1.block _ (by omega)).trans B0
  have hbw1 : Below w.heap.size w w1 := (hb0 _).trans (hb1.mono (by omega))
  clear B0 hb1 kt
  by_cases h0 : F1 = 0
  · subst h0
    have c1 := one_cell1 B1
    have hlt1 := lt_of_block B1
    have e1 : ((0 : Int) != 0) = false := rfl
    go_wp2_with fail
    have hb12 : Below w1.heap.size w1 (w1.alloc (.cells #[.int .i64 0, .int .i64 F2] 40)) := (Below.refl _ w1).alloc (Nat.le_refl _) _
    generalize w1.alloc (.cells #[.int .i64 0, .int .i64 F2] 40) = W2 at hb12 ⊢
    have H2 : Hid (Below w.heap.size w W2) := hbw1.trans (hb12.mono hbw1.size)
    have HND := nodeB_of HF.out
    have HX : Hid (∀ (i : Nat) N, ns[i]? = some N → N.x.size ≤ 4000) := fun i N hN => txt_of (HND i N hN)
    obtain ⟨j0, ji, jz0, jz1, jz2⟩ := info_parts (show (Tryz.prog.info? 5).map (fun i => (i.zero, i.size, i.bytes)) = some (some (.int .u8 0), 1, 1) by kernel_rfl)
    clear HND hb12 c1 hlt1 B1 hbw1 hs0 e1
    go_loopw [4, 15] (fun vo vi wr => ∃ k : Nat, k ≤ n ∧ vi = .int .i64 k ∧ (∃ av cv, ∃ m : Nat, vo = .slice av m cv) ∧ Hid (wr.ownsRow W2.heap.size 5 1 vo (dumpB (ns.take k)).size (strCells (dumpB (ns.take k))) ∧ Below W2.heap.size W2 wr)) (fun _ vi _ => n - (intOf vi).toNat)
    case atStart => exact ⟨0, by omega, rfl, ⟨none, 0, 0, rfl⟩, World.ownsRow_nil _ _ _ _, Below.refl _ _⟩
    case round =>
      obtain ⟨k, hk, rfl, ⟨av, cv, m, rfl⟩, HS⟩ := hrel
      by_cases hlt : k < n
      · obtain ⟨N, hN⟩ := some_at HH.out.2.2.2.2 hlt
        have bw : Below w.heap.size w wr := H2.out.trans (HS.out.2.mono H2.out.size)
        obtain ⟨a2, ha2, vn2, vk2, hd2⟩ := (HH.out.1.below bw).get hN
        subst ha2
        obtain ⟨d0, d1, d2, d3, d4, d5, d6, d7, d8, hn2, hk2⟩ := hd2
        obtain ⟨an, cn, rfl⟩ := hn2.form
        obtain ⟨ak, ck, rfl⟩ := hk2.form
        have sm := HH.out.2.1 N (List.mem_of_getElem? hN)
        have hI := HH.out.2.2.1 N (List.mem_of_getElem? hN)
        have ht := dumpB_take ns k N hN
        have hz2 := dumpB_size_take ns (k + 1)
        have hz3 := HH.out.2.2.2.1
        rw [ht] at hz2
        simp only [ByteArray.size_append] at hz2
        have hr : (dmpR N).size ≤ 1099511627776 := by omega
        have bo : ∀ o, Below wr.heap.size wr (wr.alloc o) := fun o => (Below.refl _ wr).alloc (Nat.le_refl _) o
        have kl := fun o => l5line_any (wr.alloc o) N _ _ (hn2.below (bo o)) (hk2.below (bo o)) hI (HX.out k N hN) sm.l1 sm.l2 hr
        obtain ⟨T, hT⟩ : ∃ T, dumpB (ns.take k) = T := ⟨_, rfl⟩
        obtain ⟨R, hR⟩ : ∃ R, dmpR N ++ nwlB = R := ⟨_, rfl⟩
        have hRz : R.size ≤ 274877906944 := by rw [← hR, ByteArray.size_append]; omega
        have hTR : T.size + R.size ≤ 274877906944 := by rw [← hR, ← hT, ByteArray.size_append]; omega
        rw [hT] at HS
        rw [hT, hR] at ht
        rw [hR] at kl
        have HT : Hid (dumpB (ns.take (k + 1)) = T ++ R) := ht
        have hmt : m = T.size := own_lenN2 HS.out.1
        subst hmt
        have hki : (k : Int) < (n : Int) := by omega
        have hk0 : (0 : Int) ≤ (k : Int) := by omega
        unfold vNd at kl
        obtain ⟨L1, hL1⟩ : ∃ n, N.nm.length = n := ⟨_, rfl⟩
        obtain ⟨L2, hL2⟩ : ∃ n, N.ks.length = n := ⟨_, rfl⟩
        rw [hL1] at kl d7
        rw [hL2] at kl d8
        clear ht hz2 hz3 hr hT hR sm hI hN bw hn2 hk2 hL1 hL2
        go_wp2_with (go_at_call 29; fail)
        refine (kl _).mono ?_
        rintro e w3 ⟨rfl, hb3⟩
        have hb03 := (bo _).trans (hb3.mono (bo _).size)
        have ho3 := own_keep HS.out.1 hb03
        have hb23 := HS.out.2.trans (hb03.mono HS.out.2.size)
        have hs23 := hb23.size
        clear kl hb3 bo d0 d1 d2 d3 d4 d5 d6 d7 d8
        go_wp2_with (at_builtin; refine wpList_append_own_string _ rfl _ _ 63 9 rfl W2.heap.size 5 j0 Tryz.underlying63 Tryz.underlying9 ji jz0 jz1 jz2 _ _ _ rfl ho3 R rfl (by unfold maxLen; omega) (by omega) (by omega) ?_; intro v' w5 ho5 hg5 hn5; obtain ⟨av5, cap5, rfl⟩ := own_form ho5)
        refine ⟨⟨k + 1, by omega, by go_num, ⟨_, _, _, rfl⟩, by rw [HT.out, ByteArray.size_append, strCells_app2]; exact ho5, hb23.grown hg5 (by omega) (fun k hk => (ho3.lt k hk).1)⟩, by simp [intOf]; omega⟩
      · obtain rfl : k = n := by omega
        have hT : ns.take k = ns := List.take_of_length_le (by rw [HH.out.2.2.2.2]; exact Nat.le_refl _)
        rw [hT] at HS
        have HD : Hid (dumpF ns = dumpB ns) := by show _ = _; unfold dumpF; rw [if_pos HF.out]
        have bw : Below w.heap.size w wr := H2.out.trans (HS.out.2.mono H2.out.size)
        have hpos : 1 ≤ (dumpB ns).size := by
          obtain ⟨N, l, hl⟩ : ∃ N l, ns = N :: l := by
            cases ns with
            | nil => have := HF.out; simp [treeF, badHead] at this
            | cons N l => exact ⟨N, l, rfl⟩
          rw [hl]
          show 1 ≤ ((dmpR N ++ nwlB) ++ dumpB l).size
          rw [ByteArray.size_append, ByteArray.size_append]
          show 1 ≤ (dmpR N).size + 1 + _
          omega
        obtain ⟨D, hD⟩ : ∃ D, dumpB ns = D := ⟨_, rfl⟩
        rw [hD] at HS HD hpos
        rcases own_zero_or HS.out.1 with ⟨h0, _⟩ | ⟨g, cap, e⟩
        · omega
        · cases e
          have kc := conv_str HS.out.1
          clear hT hD
          go_wp2_with fail
          go_ret
          exact ⟨by rw [HD.out]; rfl, bw⟩
  · have e1 : (F1 != 0) = true := by rw [bne_iff_ne]; exact h0
    have c1 := one_cell1 B1
    have HE : Hid (dumpF ns = ⟨#[]⟩) := by show _ = _; unfold dumpF; rw [if_neg (by rw [HF.out]; exact h0)]
    clear h0
    go_wp2_with fail
    go_ret
    exact ⟨by rw [HE.out]; rfl, hbw1.trans (((Below.refl _ w1).alloc (Nat.le_refl _) _).mono hbw1.size)⟩
end Go.Proofs.YtcnhhhfedakepaaGreatDoor

namespace Go.Proofs.YtcnhhhfedakepaaGreatDoor
open Go.RowKit Go.Maps Go.WideMaps
set_option linter.unusedVariables false

theorem Bu.below {B b : Nat} {T : ByteArray} {W W' : World} (h : Bu B b T W) (hb : Below W.heap.size W W') : Bu B b T W' := by
  have key : ∀ p, Lib.BuilderAtF 71 5 B b p (Lib.strCells T) W → Lib.BuilderAtF 71 5 B b p (Lib.strCells T) W' := by
    rintro p ⟨h1, v, h2, h3, h4⟩
    exact ⟨h1, v, (hb.block _ (lt_of_block h2)).trans h2, h3.kept (row := none) ⟨hb.os, hb.tape, hb.output, hb.size, fun k hk _ => hb.block k hk⟩ (by cases v.ownBlock <;> simp), h4⟩
  rcases h with h | h
  · exact .inl (key _ h)
  · exact .inr (key _ h)

theorem code_of (W : World) (F1 F2 : Int) : (Instr.field 40 (.agg #[.int .i64 F1, .int .i64 F2]) 0).run Tryz.prog W = .ok (.int .i64 F1) W := by
  simp [Instr.field, run_underlying Tryz.underlying40, asAgg, part, Tryz.isAgg3]
set_option maxRecDepth 100000 in
set_option maxHeartbeats 6400000 in
theorem implDump_any (w : World) (v : Value) (ns : List Nd) (h : NdsAt w v ns) (hl : ns.length ≤ 1048576) (sm : ∀ N ∈ ns, NdSmall N) (hi : ∀ N ∈ ns, NdInt N) (hz : (dumpB ns).size ≤ 274877906944) (hp : PowAt w)
    (kt0 : ∀ W, Below w.heap.size w W → Calls Tryz.prog 30 #[.agg #[v]] W fun e w' => e = .returned (.agg #[.int .i64 (treeF ns).1, .int .i64 (treeF ns).2]) ∧ Below W.heap.size W w') :
    Calls Tryz.prog 15 #[.agg #[v]] w fun e w' => e = .returned (.string (dumpF ns)) ∧ Below w.heap.size w w' := by
  obtain ⟨a, c, rfl⟩ := h.form
  obtain ⟨n, hn⟩ : ∃ n, ns.length = n := ⟨_, rfl⟩
  rw [hn] at h hl kt0 ⊢
  have hb0 : ∀ o, Below w.heap.size w (w.alloc o) := fun o => (Below.refl _ w).alloc (Nat.le_refl _) o
  have HH : Hid (NdsAt w (.slice a n c) ns ∧ (∀ N ∈ ns, NdSmall N) ∧ (∀ N ∈ ns, NdInt N) ∧ (dumpB ns).size ≤ 274877906944 ∧ ns.length = n ∧ PowAt w) := ⟨h, sm, hi, hz, hn, hp⟩
  have kt := fun o => kt0 (w.alloc o) (hb0 o)
  obtain ⟨F1, hF1⟩ : ∃ F1, (treeF ns).1 = F1 := ⟨_, rfl⟩
  obtain ⟨F2, hF2⟩ : ∃ F2, (treeF ns).2 = F2 := ⟨_, rfl⟩
  rw [hF1, hF2] at kt
  have HF : Hid ((treeF ns).1 = F1) := hF1
  clear h sm hi hz hn hF1 hF2 hp kt0
  have kf := fun W => code_of W F1 F2
  go_enter Tryz.func15, Tryz.ntmps15
  go_wp2_with (go_at_call 30; fail)
  have B0 := heap_alloc_new w (.cells #[.slice a n c] 30)
  have hs0 : (w.alloc (.cells #[.slice a n c] 30)).heap.size = w.heap.size + 1 := World.size_alloc _ _
  refine (kt _).mono ?_
  rintro e w1 ⟨rfl, hb1⟩
  have B1 := (hb1.block _ (by omega)).trans B0
  have hbw1 : Below w.heap.size w w1 := (hb0 _).trans (hb1.mono (by omega))
  clear B0 hb1 kt
  by_cases h0 : F1 = 0
  · subst h0
    have c1 := one_cell1 B1
    have hlt1 := lt_of_block B1
    have e1 : ((0 : Int) != 0) = false := rfl
    go_wp2_with fail
    have H1 : Hid (Below w.heap.size w w1 ∧ Bu w1.heap.size w1.heap.size ⟨#[]⟩ (w1.alloc (.cells #[.pointer none, .slice none 0 0] 71))) := ⟨hbw1, new_bu _ w1 (Nat.le_refl _)⟩
    have hb12 : Below w1.heap.size w1 (w1.alloc (.cells #[.pointer none, .slice none 0 0] 71)) := (Below.refl _ w1).alloc (Nat.le_refl _) _
    have HND := nodeB_of HF.out
    have HX : Hid (∀ (i : Nat) N, ns[i]? = some N → N.x.size ≤ 4000) := fun i N hN => txt_of (HND i N hN)
    generalize w1.alloc (.cells #[.pointer none, .slice none 0 0] 71) = W2 at hb12 H1 ⊢
    have H2 : Hid (Below w1.heap.size w1 W2) := hb12
    clear HND hb12 c1 hlt1 B1 hbw1 hs0 e1
    go_loopw [13] (fun vi wr => ∃ k : Nat, k ≤ n ∧ vi = .int .i64 k ∧ Hid (Bu w1.heap.size w1.heap.size (dumpB (ns.take k)) wr ∧ Below w1.heap.size w1 wr)) (fun vi _ => n - (intOf vi).toNat)
    case atStart => exact ⟨0, by omega, rfl, H1.out.2, H2.out⟩
    case round =>
      obtain ⟨k, hk, rfl, HS⟩ := hrel
      by_cases hlt : k < n
      · obtain ⟨N, hN⟩ := some_at HH.out.2.2.2.2.1 hlt
        have bw : Below w.heap.size w wr := H1.out.1.trans (HS.out.2.mono H1.out.1.size)
        obtain ⟨a2, ha2, vn2, vk2, hd2⟩ := (HH.out.1.below bw).get hN
        subst ha2
        obtain ⟨d0, d1, d2, d3, d4, d5, d6, d7, d8, hn2, hk2⟩ := hd2
        obtain ⟨an, cn, rfl⟩ := hn2.form
        obtain ⟨ak, ck, rfl⟩ := hk2.form
        have sm := HH.out.2.1 N (List.mem_of_getElem? hN)
        have hI := HH.out.2.2.1 N (List.mem_of_getElem? hN)
        have ht := dumpB_take ns k N hN
        have hz2 := dumpB_size_take ns (k + 1)
        have hz3 := HH.out.2.2.2.1
        rw [ht] at hz2
        simp only [ByteArray.size_append] at hz2
        have hr : (dmpR N).size ≤ 1099511627776 := by omega
        have bo : ∀ o, Below wr.heap.size wr (wr.alloc o) := fun o => (Below.refl _ wr).alloc (Nat.le_refl _) o
        have kl := fun o => rowText_any (wr.alloc o) N _ _ (hn2.below (bo o)) (hk2.below (bo o)) hI (HX.out k N hN) sm.l1 sm.l2 hr (HH.out.2.2.2.2.2.below (bw.trans ((bo o).mono bw.size)))
        obtain ⟨T, hT⟩ : ∃ T, dumpB (ns.take k) = T := ⟨_, rfl⟩
        obtain ⟨R, hR⟩ : ∃ R, dmpR N = R := ⟨_, rfl⟩
        have hTR : T.size + R.size + 1 ≤ 274877906944 := by rw [← hR, ← hT]; have : nwlB.size = 1 := rfl; omega
        rw [hT] at HS
        rw [hT, hR] at ht
        rw [hR] at kl
        have HT : Hid (dumpB (ns.take (k + 1)) = T ++ (R ++ nwlB)) := ht
        have hki : (k : Int) < (n : Int) := by omega
        have hk0 : (0 : Int) ≤ (k : Int) := by omega
        unfold vNd at kl
        obtain ⟨L1, hL1⟩ : ∃ n, N.nm.length = n := ⟨_, rfl⟩
        obtain ⟨L2, hL2⟩ : ∃ n, N.ks.length = n := ⟨_, rfl⟩
        rw [hL1] at kl d7
        rw [hL2] at kl d8
        clear ht hz2 hz3 hr hT hR sm hI hN bw hn2 hk2 hL1 hL2
        go_wp2_with (go_at_call 32; fail)
        refine (kl _).mono ?_
        rintro e w3 ⟨rfl, hb3⟩
        have hb03 := (bo _).trans (hb3.mono (bo _).size)
        have H3 : Hid (Bu w1.heap.size w1.heap.size T w3 ∧ Below w1.heap.size w1 w3) := ⟨HS.out.1.below hb03, HS.out.2.trans (hb03.mono HS.out.2.size)⟩
        clear kl hb3 bo d0 d1 d2 d3 d4 d5 d6 d7 d8 hb03
        go_wp2_with (go_at_call 31; fail)
        refine (write_any _ _ T R _ H3.out.1 (by omega) H3.out.2.size).mono ?_
        rintro e w4 ⟨rfl, b4, hb4⟩
        have H4 : Hid (Bu w1.heap.size w1.heap.size (T ++ R) w4 ∧ Below w1.heap.size w1 w4) := ⟨b4, H3.out.2.trans hb4⟩
        clear b4 hb4
        go_wp2_with (go_at_call 31; fail)
        refine (write_any _ _ (T ++ R) nwlB _ H4.out.1 (by rw [ByteArray.size_append]; show T.size + R.size + 1 ≤ _; omega) H4.out.2.size).mono ?_
        rintro e w5 ⟨rfl, b5, hb5⟩
        have H5 : Hid (Bu w1.heap.size w1.heap.size (dumpB (ns.take (k + 1))) w5 ∧ Below w1.heap.size w1 w5) := ⟨by rw [HT.out, ← ByteArray.append_assoc]; exact b5, H4.out.2.trans hb5⟩
        clear b5 hb5
        go_wp2_with fail
        exact ⟨⟨k + 1, by omega, by go_num, H5⟩, by simp [intOf]; omega⟩
      · obtain rfl : k = n := by omega
        have hT : ns.take k = ns := List.take_of_length_le (by rw [HH.out.2.2.2.2.1]; exact Nat.le_refl _)
        rw [hT] at HS
        have HD : Hid (dumpF ns = dumpB ns) := by show _ = _; unfold dumpF; rw [if_pos HF.out]
        clear hT
        go_wp2_with (go_at_call 33; fail)
        refine (string_any _ _ _ _ HS.out.1 HS.out.2.size).mono ?_
        rintro e w6 ⟨rfl, b6, hb6⟩
        have bw : Below w.heap.size w w6 := H1.out.1.trans ((HS.out.2.trans hb6).mono H1.out.1.size)
        clear b6 hb6
        go_wp2_with fail
        go_ret
        exact ⟨by rw [HD.out]; rfl, bw⟩
  · have e1 : (F1 != 0) = true := by rw [bne_iff_ne]; exact h0
    have HE : Hid (dumpF ns = ⟨#[]⟩) := by show _ = _; unfold dumpF; rw [if_neg (by rw [HF.out]; exact h0)]
    clear h0
    go_wp2_with fail
    go_ret
    exact ⟨by rw [HE.out]; rfl, hbw1⟩
end Go.Proofs.YtcnhhhfedakepaaGreatDoor
