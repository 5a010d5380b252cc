import Derived.Test.YtdgbmihokecmhaaGreatDoorMM07
import Derived.Test.YtdgbmihokecmhaaGreatDoorMM20
import Derived.Test.YtdgbmihokecmhaaGreatDoorMM21
import Derived.Test.YtdgbmihokecmhaaGreatDoorMM22
import Derived.Test.YtdgbmihokecmhaaGreatDoorMM16
import Derived.Deep.AppendLies
import Derived.Maps.AppendAt
namespace Go.Proofs.YtdgbmihokecmhaaGreatDoor
open Go.RowKit
set_option linter.unusedVariables false

theorem bytes_ne {s t : ByteArray} (h : s ≠ t) : (s.toList == t.toList) = false := by
  rw [beq_eq_false_iff_ne]
  intro e
  apply h
  rw [ByteArray.toList_eq, ByteArray.toList_eq] at e
  cases s; cases t
  simp only at e
  congr 1
  exact Array.toList_inj.1 e
theorem bytes_eq {s t : ByteArray} (h : s = t) : (s.toList == t.toList) = true := by subst h; simp

set_option maxRecDepth 100000 in
set_option maxHeartbeats 3200000 in
theorem equalS_any (w : World) (v1 v2 : Value) (l1 l2 : List ByteArray) (h1 : StrsAt w v1 l1) (h2 : StrsAt w v2 l2) (hl : l1.length ≤ 1048576) (hl2 : l2.length ≤ 1048576) :
    Calls Tryz.prog 61 #[v1, v2] w fun e w' => e = .returned (.bool (decide (l1 = l2))) ∧ Below w.heap.size w w' := by
  obtain ⟨a1, c1, rfl⟩ := h1.form
  obtain ⟨a2, c2, rfl⟩ := h2.form
  by_cases hne : l1.length = l2.length
  · obtain ⟨R, hR⟩ : ∃ R, decide (l1 = l2) = R := ⟨_, rfl⟩
    rw [hR]
    obtain ⟨n, hn⟩ : ∃ n, l1.length = n := ⟨_, rfl⟩
    have hn2 : l2.length = n := by rw [← hne]; exact hn
    have HN : Hid (l1.length = n ∧ l2.length = n ∧ decide (l1 = l2) = R) := ⟨hn, hn2, hR⟩
    have HA : Hid (StrsAt w (.slice a1 n c1) l1 ∧ StrsAt w (.slice a2 n c2) l2) := ⟨by rw [← hn]; exact h1, by rw [← hn2]; exact h2⟩
    rw [hn] at hl ⊢
    rw [hn2]
    clear h1 h2 hn hn2 hR hne hl2
    go_enter Tryz.func61, Tryz.ntmps61
    go_wp2_with fail
    go_loopw [13] (fun vi wr => ∃ k : Nat, k ≤ n ∧ vi = .int .i64 k ∧ Hid (∀ j, j < k → l1[j]? = l2[j]?) ∧ Below w.heap.size w wr) (fun vi _ => n - (intOf vi).toNat)
    case atStart => exact ⟨0, by omega, rfl, fun j hj => by omega, Below.refl _ _⟩
    case round =>
      obtain ⟨k, hk, rfl, HE, hb⟩ := hrel
      by_cases hlt : k < n
      · obtain ⟨s, hsk⟩ := some_at HN.out.1 hlt
        obtain ⟨t, htk⟩ := some_at HN.out.2.1 hlt
        obtain ⟨b1, rfl, d1⟩ := (HA.out.1.below hb).get hsk
        obtain ⟨b2, rfl, d2⟩ := (HA.out.2.below hb).get htk
        have hki : (k : Int) < (n : Int) := by omega
        have hk0 : (0 : Int) ≤ (k : Int) := by omega
        by_cases hst : s = t
        · subst hst
          have HE2 : Hid (∀ j, j < k + 1 → l1[j]? = l2[j]?) := fun j hj => by
            rcases Nat.lt_or_ge j k with g | g
            · exact HE.out j g
            · obtain rfl : j = k := by omega
              rw [hsk, htk]
          clear hsk htk
          go_wp2_with fail
          go_quiet (fail)
          go_wp2_with fail
          exact ⟨⟨k + 1, by omega, by go_num, HE2, bel_drew hb _⟩, by simp [intOf]; omega⟩
        · have HRf : Hid (R = false) := by
            show R = false
            rw [← HN.out.2.2]
            refine decide_eq_false fun e => hst ?_
            rw [e, htk] at hsk
            exact (Option.some.inj hsk).symm
          have hbl : (s.toList == t.toList) = false := bytes_ne hst
          clear hsk htk
          go_wp2_with fail
          go_quiet (fail)
          go_wp2_with fail
          go_ret
          exact ⟨by rw [HRf.out]; rfl, bel_drew hb _⟩
      · obtain rfl : k = n := by omega
        have HRt : Hid (R = true) := by
          show R = true
          rw [← HN.out.2.2]
          refine decide_eq_true (List.ext_getElem? fun j => ?_)
          rcases Nat.lt_or_ge j k with g | g
          · exact HE.out j g
          · rw [List.getElem?_eq_none (by rw [HN.out.1]; exact g), List.getElem?_eq_none (by rw [HN.out.2.1]; exact g)]
        go_wp2_with fail
        go_ret
        exact ⟨by rw [HRt.out]; rfl, hb⟩
  · rw [decide_eq_false (fun e => hne (by rw [e]))]
    have hni : ¬ (l1.length : Int) = (l2.length : Int) := by omega
    generalize l1.length = n1 at hni hl ⊢
    generalize l2.length = n2 at hni hl2 ⊢
    clear h1 h2 hne
    go_enter Tryz.func61, Tryz.ntmps61
    go_wp2
    go_ret
    exact ⟨rfl, Below.refl _ _⟩

/-- Two nodes, field by field but for Kind, places and kids. -/
def sameB (M N : Nd) : Bool := decide (M.op = N.op ∧ M.n = N.n ∧ M.x = N.x ∧ M.nm = N.nm)
set_option maxRecDepth 100000 in
set_option maxHeartbeats 3200000 in
theorem sameFields_any (w : World) (M N : Nd) (vm vl vn vk : Value) (hm : StrsAt w vm M.nm) (hn : StrsAt w vn N.nm) (hl : ∃ a n c, vl = .slice a n c) (hk : ∃ a n c, vk = .slice a n c) (hl1 : M.nm.length ≤ 1048576) (hl2 : N.nm.length ≤ 1048576) :
    Calls Tryz.prog 46 #[vNd M vm vl, vNd N vn vk] w fun e w' => e = .returned (.bool (sameB M N)) ∧ Below w.heap.size w w' := by
  have hbb : ∀ o1 o2, Below w.heap.size w ((w.alloc o1).alloc o2) := fun o1 o2 => ((Below.refl _ w).alloc (Nat.le_refl _) o1).alloc (by simp) o2
  have ke := fun o1 o2 => equalS_any ((w.alloc o1).alloc o2) vm vn M.nm N.nm (hm.below (hbb o1 o2)) (hn.below (hbb o1 o2)) hl1 hl2
  obtain ⟨a1, e1, rfl⟩ := hm.form
  obtain ⟨a2, e2, rfl⟩ := hn.form
  obtain ⟨a3, n3, e3, rfl⟩ := hl
  obtain ⟨a4, n4, e4, rfl⟩ := hk
  unfold vNd sameB
  generalize M.nm.length = L1 at ke ⊢
  generalize N.nm.length = L2 at ke ⊢
  by_cases g1 : M.op = N.op
  · by_cases g2 : M.n = N.n
    · by_cases g3 : M.x = N.x
      · have e : decide (M.op = N.op ∧ M.n = N.n ∧ M.x = N.x ∧ M.nm = N.nm) = decide (M.nm = N.nm) := by
          by_cases g4 : M.nm = N.nm
          · rw [decide_eq_true g4, decide_eq_true ⟨g1, g2, g3, g4⟩]
          · rw [decide_eq_false g4, decide_eq_false (fun g => g4 g.2.2.2)]
        rw [e]
        have q3 := bytes_eq g3
        generalize decide (M.nm = N.nm) = R at ke ⊢
        clear e g3 hm hn
        obtain ⟨mk, mf, mt, ml, mop, mn, mx, mnm, mks⟩ := M
        obtain ⟨nk, nf, nt, nl, nop, nn, nx, nnm, nks⟩ := N
        simp only at g1 g2 q3 ⊢
        go_enter Tryz.func46, Tryz.ntmps46
        go_wp2_with (go_at_call 61; refine (ke _ _).mono ?_; rintro e w3 ⟨rfl, hb3⟩)
        go_ret
        exact ⟨rfl, (hbb _ _).trans (hb3.mono (by simp; omega))⟩
      · rw [decide_eq_false (fun g => g3 g.2.2.1)]
        have q3 := bytes_ne g3
        clear g3 hm hn ke
        obtain ⟨mk, mf, mt, ml, mop, mn, mx, mnm, mks⟩ := M
        obtain ⟨nk, nf, nt, nl, nop, nn, nx, nnm, nks⟩ := N
        simp only at g1 g2 q3 ⊢
        go_enter Tryz.func46, Tryz.ntmps46
        go_wp2
        go_ret
        exact ⟨rfl, hbb _ _⟩
    · rw [decide_eq_false (fun g => g2 g.2.1)]
      clear hm hn ke
      obtain ⟨mk, mf, mt, ml, mop, mn, mx, mnm, mks⟩ := M
      obtain ⟨nk, nf, nt, nl, nop, nn, nx, nnm, nks⟩ := N
      simp only at g1 g2 ⊢
      go_enter Tryz.func46, Tryz.ntmps46
      go_wp2
      go_ret
      exact ⟨rfl, hbb _ _⟩
  · rw [decide_eq_false (fun g => g1 g.1)]
    clear hm hn ke
    obtain ⟨mk, mf, mt, ml, mop, mn, mx, mnm, mks⟩ := M
    obtain ⟨nk, nf, nt, nl, nop, nn, nx, nnm, nks⟩ := N
    simp only at g1 ⊢
    go_enter Tryz.func46, Tryz.ntmps46
    go_wp2
    go_ret
    exact ⟨rfl, hbb _ _⟩
end Go.Proofs.YtdgbmihokecmhaaGreatDoor

namespace Go.Proofs.YtdgbmihokecmhaaGreatDoor
open Go.RowKit Go.Maps Go.WideMaps
set_option linter.unusedVariables false

theorem rowOf_any (w : World) (b : Nat) (N : Nd) (vn kv : Value) (num : Int) (hn : ∃ a n c, vn = .slice a n c) (h : InBox w b N vn num kv) :
    Calls Tryz.prog 47 #[nodeV N.k b] w fun e w' => e = .returned (vNd (rowN N (cls N.k)) (rowV vn (cls N.k)) (.slice none 0 0)) ∧ Below w.heap.size w w' := by
  obtain ⟨a1, n1, e1, rfl⟩ := hn
  unfold InBox at h
  unfold nodeV
  rcases cls_lt N.k with hc | hc | hc | hc | hc | hc | hc
  · rw [hc] at h ⊢; exact rowOf0 w b N.k N.f N.t N.l num kv a1 n1 e1 h
  · rw [hc] at h ⊢; exact rowOf1 w b N.k N.f N.t N.l num kv N.n h
  · rw [hc] at h ⊢; exact rowOf2 w b N.k N.f N.t N.l num kv N.n h
  · rw [hc] at h ⊢; exact rowOf3 w b N.k N.f N.t N.l num kv N.x h
  · rw [hc] at h ⊢; exact rowOf4 w b N.k N.f N.t N.l num kv N.op h
  · rw [hc] at h ⊢
    refine (rowOf5 w b N.k N.f N.t N.l num kv a1 n1 e1 (decide (N.op = 1)) h).mono ?_
    rintro e w' ⟨rfl, hb⟩
    refine ⟨?_, hb⟩
    unfold vNd rowN rowV
    simp
  · rw [hc] at h ⊢; exact rowOf6 w b N.k N.f N.t N.l num kv h
/-- What the tables ask of a node's fields, by its type. -/
def ffB (N : Nd) (L : Nat) : Nat → Bool
  | 0 => decide (1 ≤ (N.nm.length : Int) ∧ (N.nm.length : Int) ≤ mostN N.k) && nmsB N.nm N.nm.length 0
  | 1 => decide (1 ≤ N.n ∧ N.n < (L : Int))
  | 2 => true
  | 3 => txB N.k N.x
  | 4 => if N.k = 30 then (decide ((19 : Int) ≤ N.op) && decide (N.op ≤ 22)) else (decide ((1 : Int) ≤ N.op) && decide (N.op ≤ 18))
  | 5 => nmsB N.nm N.nm.length 0
  | _ => true
theorem fieldsFit_any (w : World) (lb mb : Nat) (vs : Value) (h : Lk w lb mb vs) (b : Nat) (N : Nd) (vn : Value) (num : Int) (ak : Option Addr) (L ck : Nat) (hL : L ≤ 1048576) (hn : StrsAt w vn N.nm) (hl : N.nm.length ≤ 1048576) (hs : ∀ s ∈ N.nm, s.size ≤ 1048576) (hx : N.x.size ≤ 1048576) (hb : InBox w b N vn num (.slice ak L ck)) :
    Calls Tryz.prog 48 #[.pointer (some ⟨lb, 0, none⟩), nodeV N.k b] w fun e w' => e = .returned (.bool (ffB N L (cls N.k))) ∧ Below w.heap.size w w' := by
  unfold InBox at hb
  unfold nodeV
  have same : ∀ {R : Bool}, (Calls Tryz.prog 48 #[.pointer (some ⟨lb, 0, none⟩), .iface (ptT (cls N.k)) (.pointer (some ⟨b, 0, none⟩))] w fun e w' => e = .returned (.bool R) ∧ w' = w) → (Calls Tryz.prog 48 #[.pointer (some ⟨lb, 0, none⟩), .iface (ptT (cls N.k)) (.pointer (some ⟨b, 0, none⟩))] w fun e w' => e = .returned (.bool R) ∧ Below w.heap.size w w') := fun hh => hh.mono fun e w' ⟨h1, h2⟩ => ⟨h1, h2 ▸ Below.refl _ _⟩
  rcases cls_lt N.k with hc | hc | hc | hc | hc | hc | hc
  · refine same ?_; rw [hc] at hb ⊢; exact ff0 w lb mb vs h b N.k N.f N.t N.l num _ vn N.nm hn hl hs hb
  · rw [hc] at hb ⊢; exact ff1 w lb b N.k N.f N.t N.l num N.n ak L ck hL hb
  · refine same ?_; rw [hc] at hb ⊢; exact ff2 w lb b
  · rw [hc] at hb ⊢; exact ff3 w lb mb vs h b N.k N.f N.t N.l num _ N.x (by omega) hb
  · refine same ?_; rw [hc] at hb ⊢; exact ff4 w lb b N.k N.f N.t N.l num N.op _ hb
  · refine same ?_; rw [hc] at hb ⊢; exact ff5 w lb mb vs h b N.k N.f N.t N.l num _ vn (decide (N.op = 1)) N.nm hn hl hs hb
  · refine same ?_; rw [hc] at hb ⊢; exact ff6 w lb b
theorem InBox.cells {W : World} {b : Nat} {N : Nd} {vn kv : Value} {num : Int} (h : InBox W b N vn num kv) : W.cell? ⟨b, 0, none⟩ = some (.int .i64 N.k) ∧ W.cell? ⟨b, 1, none⟩ = some (.int .i64 N.f) ∧ W.cell? ⟨b, 2, none⟩ = some (.int .i64 N.t) ∧ W.cell? ⟨b, 4, none⟩ = some (.int .i64 num) ∧ W.cell? ⟨b, 5, none⟩ = some kv ∧ ∀ j, W.frozen? ⟨b, j, none⟩ = false := by
  unfold InBox at h
  refine ⟨?_, ?_, ?_, ?_, ?_, fun j => frozen_of_row _ _ _ _ _ h⟩
  · rw [cell_of_row _ _ _ _ _ _ h]; simp
  · rw [cell_of_row _ _ _ _ _ _ h]; simp
  · rw [cell_of_row _ _ _ _ _ _ h]; simp
  · rw [cell_of_row _ _ _ _ _ _ h]; simp
  · rw [cell_of_row _ _ _ _ _ _ h]; simp
def kfB (N : Nd) (ks : List Int) : Bool := if cls N.k = 1 then kmatch (setW N.n.toNat) ks else rkB N.k ks
theorem kidsFit_any (w : World) (b : Nat) (N : Nd) (vn kv : Value) (num : Int) (ks : List Int) (hk : KidsAt w kv ks) (hl : ks.length ≤ 1048576) (htab : ∀ W, Below w.heap.size w W → Lib.TabIs Tryz.prog W "strings.asciiSpace" .u8 Lib.asciiSpaceTab) (hb : InBox w b N vn num kv) (hn : cls N.k = 1 → 0 ≤ N.n ∧ N.n ≤ 200) :
    Calls Tryz.prog 49 #[nodeV N.k b] w fun e w' => e = .returned (.bool (kfB N ks)) ∧ Below w.heap.size w w' := by
  unfold kfB
  by_cases hc : cls N.k = 1
  · rw [if_pos hc]
    obtain ⟨h0, h1⟩ := hn hc
    unfold InBox at hb
    unfold nodeV
    rw [hc] at hb ⊢
    have e : N.n = ((N.n.toNat : Nat) : Int) := by omega
    refine kidsFit_set w b N.k N.f N.t N.l num N.n.toNat (by omega) kv ks hk hl htab ?_
    rw [← e]
    exact hb
  · rw [if_neg hc]
    obtain ⟨c0, _, _, _, c5, _⟩ := hb.cells
    exact kidsFit_oth w b N.k hc kv ks hk hl (htab w (Below.refl _ _)) c0 c5
end Go.Proofs.YtdgbmihokecmhaaGreatDoor

namespace Go.Proofs.YtdgbmihokecmhaaGreatDoor
open Go.RowKit Go.Maps Go.WideMaps
set_option linter.unusedVariables false

/-- A node that the program has made: its block, the names and the kids that it holds. -/
structure Im where
  N : Nd
  b : Nat
  vn : Value
  kv : Value
def nV (x : Im) : Value := nodeV x.N.k x.b
def kidsIn (L : List Im) (ks : List Int) : List Value := ks.map fun z => match L[z.toNat]? with | some y => nV y | none => .nilIface
/-- The nodes that the program has made so far. -/
structure NsAt (W : World) (base : Nat) (vs : Value) (L : List Im) : Prop where
  row : W.ownsRow base 44 1 vs L.length (L.map nV)
  box : ∀ (i : Nat) x, L[i]? = some x → InBox W x.b x.N x.vn i x.kv
  kid : ∀ (i : Nat) x, L[i]? = some x → W.ownsRow base 44 1 x.kv x.N.ks.length (kidsIn (L.take i) x.N.ks)
  far : ∀ x ∈ L, x.kv.ownBlock = none ∨ x.kv.ownBlock ≠ vs.ownBlock
  rng : ∀ (i : Nat) x z, L[i]? = some x → z ∈ x.N.ks → 0 ≤ z ∧ z < (i : Int)
theorem InBox.below {W W' : World} {b : Nat} {N : Nd} {vn kv : Value} {num : Int} (h : InBox W b N vn num kv) (hb : Below W.heap.size W W') : InBox W' b N vn num kv := (hb.block _ (lt_of_block h)).trans h
theorem NsAt.below {W W' : World} {base : Nat} {vs : Value} {L : List Im} (h : NsAt W base vs L) (hb : Below W.heap.size W W') : NsAt W' base vs L :=
  ⟨own_keep h.row hb, fun i x hx => (h.box i x hx).below hb, fun i x hx => own_keep (h.kid i x hx) hb, h.far, h.rng⟩
theorem blk_ne {W : World} {a b : Nat} {c1 c2 : Array Value} {t1 t2 : TypeId} {f1 f2 : Nat × Nat} (h1 : W.heap[a]? = some (.cells c1 t1 f1)) (h2 : W.heap[b]? = some (.cells c2 t2 f2)) (ht : t1 ≠ t2) : a ≠ b := by
  rintro rfl
  have e := h1.symm.trans h2
  simp only [Option.some.injEq, Obj.cells.injEq] at e
  exact ht e.2.1
theorem stT_ne (c : Nat) : stT c ≠ 44 ∧ stT c ≠ 74 ∧ stT c ≠ 67 := by
  unfold stT
  split <;> decide
theorem map_ne {W : World} {mb b : Nat} {cs : Array Value} {t : TypeId} {f : Nat × Nat} (h : W.ownsMap Tryz.prog 9 (plainElem (H := Unit) Tryz.prog 3) mb 22 (wkD 22)) (h2 : W.heap[b]? = some (.cells cs t f)) : mb ≠ b := by
  rintro rfl
  obtain ⟨es, clock, hh, rest⟩ := h
  rw [h2] at hh
  cases hh
/-- A block of the lists of nodes. -/
def IsRow (W : World) (g : Nat) : Prop := ∃ cs, W.heap[g]? = some (.cells cs 44 (0, 0))
theorem own_isRow {W : World} {base n g : Nat} {v : Value} {xs : List Value} (h : W.ownsRow base 44 1 v n xs) (hg : v.ownBlock = some g) : IsRow W g ∧ base ≤ g := by
  rcases own_zero_or h with ⟨_, rfl⟩ | ⟨g', c, rfl⟩
  · simp [Value.ownBlock] at hg
  · obtain rfl : g' = g := by simpa [Value.ownBlock] using hg
    rcases h.2 with ⟨h1, _⟩ | ⟨g2, cap, cur, h1, h2, h3, _⟩
    · cases h1
    · cases h1; exact ⟨⟨cur, h3⟩, h2⟩
/-- What stands while a node is made. -/
structure AdSt (w0 : World) (lb mb p bn : Nat) (vs : Value) (L : List Im) (N : Nd) (vn vk kv : Value) (j : Nat) (W : World) : Prop where
  lk : Lk W lb mb vs
  ns : NsAt W w0.heap.size vs L
  rb : NdBox p W 67 N vn vk
  bx : InBox W bn N vn L.length kv
  kr : W.ownsRow w0.heap.size 44 1 kv j (kidsIn L (N.ks.take j))
  fr : kv.ownBlock = none ∨ kv.ownBlock ≠ vs.ownBlock
  fo : ∀ x ∈ L, x.kv.ownBlock = none ∨ x.kv.ownBlock ≠ kv.ownBlock
  bl : Below w0.heap.size w0 W
  lo : w0.heap.size ≤ lb ∧ w0.heap.size ≤ bn ∧ w0.heap.size ≤ p
theorem AdSt.below {w0 : World} {lb mb p bn : Nat} {vs : Value} {L : List Im} {N : Nd} {vn vk kv : Value} {j : Nat} {W W' : World} (h : AdSt w0 lb mb p bn vs L N vn vk kv j W) (hb : Below W.heap.size W W') : AdSt w0 lb mb p bn vs L N vn vk kv j W' :=
  ⟨h.lk.below hb, h.ns.below hb, h.rb.below hb, h.bx.below hb, own_keep h.kr hb, h.fr, h.fo, h.bl.trans (hb.mono h.bl.size), h.lo⟩
/-- A list of nodes that is none of these has grown, then the kids of the node are it. -/
theorem AdSt.kid {w0 : World} {lb mb p bn : Nat} {vs : Value} {L : List Im} {N : Nd} {vn vk kv : Value} {j : Nat} {W W' : World} (he : Errs w0) (h : AdSt w0 lb mb p bn vs L N vn vk kv j W) (hg : W.grownBy W' kv.ownBlock) {g cap H : Nat} (ho : W'.ownsRow w0.heap.size 44 1 (.slice (some ⟨g, 0, none⟩) (j + 1) cap) (j + 1) (kidsIn L (N.ks.take (j + 1)))) (hat : kv.ownBlock = some g ∨ g = H) (hH : W.heap.size = H) :
    InBox W' bn N vn L.length kv ∧ AdSt w0 lb mb p bn vs L N vn vk (.slice (some ⟨g, 0, none⟩) (j + 1) cap) (j + 1) (W'.setCell ⟨bn, 5, none⟩ (.slice (some ⟨g, 0, none⟩) (j + 1) cap)) := by
  have hrow : ∀ k, kv.ownBlock = some k → IsRow W k ∧ w0.heap.size ≤ k := fun k hk => own_isRow h.kr hk
  have keep : ∀ {b : Nat} {cs : Array Value} {t : TypeId}, W.heap[b]? = some (.cells cs t (0, 0)) → t ≠ 44 → W'.heap[b]? = some (.cells cs t (0, 0)) := fun hb ht =>
    (hg.block _ (lt_of_block hb) (fun e => by obtain ⟨⟨c, hc⟩, _⟩ := hrow _ e.symm; exact blk_ne hb hc ht rfl)).trans hb
  have bx' : InBox W' bn N vn L.length kv := keep h.bx (stT_ne _).1
  have bel' : Below w0.heap.size w0 W' := h.bl.grown hg h.bl.size (fun k hk => (hrow k hk).2)
  have hs : Below w0.heap.size w0 (W'.setCell ⟨bn, 5, none⟩ (.slice (some ⟨g, 0, none⟩) (j + 1) cap)) := bel'.setCell h.lo.2.1 _
  have set : ∀ {b : Nat} {cs : Array Value} {t : TypeId}, W'.heap[b]? = some (.cells cs t (0, 0)) → t ≠ stT (cls N.k) → (W'.setCell ⟨bn, 5, none⟩ (.slice (some ⟨g, 0, none⟩) (j + 1) cap)).heap[b]? = some (.cells cs t (0, 0)) := fun hb ht =>
    (heap_setCell_other _ _ _ _ (fun e => by exact blk_ne hb bx' ht e)).trans hb
  have setr : ∀ {v : Value} {n : Nat} {xs : List Value}, W'.ownsRow w0.heap.size 44 1 v n xs → (W'.setCell ⟨bn, 5, none⟩ (.slice (some ⟨g, 0, none⟩) (j + 1) cap)).ownsRow w0.heap.size 44 1 v n xs := fun ho =>
    ho.kept (row := some bn) ⟨rfl, rfl, rfl, by simp [World.setCell], fun k hk hne => heap_setCell_other _ _ _ _ (fun e => hne (by rw [e]))⟩ (by
      cases hv : Value.ownBlock _ with
      | none => exact .inl rfl
      | some k => exact .inr (fun e => by obtain ⟨⟨c, hc⟩, _⟩ := own_isRow ho hv; obtain rfl := Option.some.inj e; exact blk_ne bx' hc (stT_ne _).1 rfl))
  have vsk : vs.ownBlock = none ∨ vs.ownBlock ≠ kv.ownBlock := by
    rcases h.fr with e | e
    · cases hv : vs.ownBlock with
      | none => exact .inl rfl
      | some k => rw [e]; exact .inr (by simp)
    · exact .inr (Ne.symm e)
  have fresh : ∀ k, k < W.heap.size → kv.ownBlock ≠ some k → some g ≠ some k := fun k hk hne e => by
    obtain rfl := Option.some.inj e
    rcases hat with e2 | e2
    · exact hne e2
    · omega
  refine ⟨bx', ⟨⟨set (keep h.lk.b (by decide)) (Ne.symm (stT_ne _).2.1), ?_, he.keep hs⟩, ⟨setr (h.ns.row.kept hg vsk), ?_, ?_, h.ns.far, h.ns.rng⟩, set (keep h.rb (by decide)) (Ne.symm (stT_ne _).2.2), ?_, setr ho, ?_, ?_, hs, h.lo⟩⟩
  · have hm := wd_keep h.lk.m (hg.block _ h.lk.m.lt (fun e => by obtain ⟨⟨c, hc⟩, _⟩ := hrow _ e.symm; exact map_ne h.lk.m hc rfl))
    exact wd_keep hm (heap_setCell_other _ _ _ _ (fun e => by exact map_ne hm bx' e))
  · intro i x hx
    have hb := keep (h.ns.box i x hx) (stT_ne _).1
    by_cases hne : x.b = bn
    · exfalso
      have e1 := h.ns.box i x hx
      have e2 := h.bx
      unfold InBox at e1 e2
      rw [hne, e2] at e1
      have e3 := congrArg (fun o => match o with | some (Obj.cells c _ _) => c[4]? | _ => none) e1
      simp at e3
      have hil : i < L.length := (List.getElem?_eq_some_iff.1 hx).1
      omega
    · exact (heap_setCell_other _ _ _ _ hne).trans hb
  · intro i x hx
    exact setr ((h.ns.kid i x hx).kept hg (h.fo x (List.mem_of_getElem? hx)))
  · unfold InBox at bx' ⊢
    have := heap_setCell_same W' bn 5 _ _ (.slice (some ⟨g, 0, none⟩) (j + 1) cap) bx'
    rw [this]
    simp
  · refine .inr fun e => ?_
    have hvb := e.symm
    have hlt := (h.ns.row.lt g hvb).2
    exact fresh g hlt (by rcases vsk with e2 | e2; rw [e2] at hvb; cases hvb; rw [hvb] at e2; exact Ne.symm e2) rfl
  · intro x hx
    cases hxk : x.kv.ownBlock with
    | none => exact .inl rfl
    | some k =>
      refine .inr fun e => ?_
      obtain ⟨i, hi, ei⟩ := List.getElem_of_mem hx
      have hlt := ((h.ns.kid i x (by rw [List.getElem?_eq_getElem hi, ei])).lt k hxk).2
      refine fresh k hlt ?_ e.symm
      rcases h.fo x hx with e2 | e2
      · rw [hxk] at e2; cases e2
      · rw [hxk] at e2; exact Ne.symm e2
end Go.Proofs.YtdgbmihokecmhaaGreatDoor

namespace Go.Proofs.YtdgbmihokecmhaaGreatDoor
open Go.RowKit Go.Maps Go.WideMaps
set_option linter.unusedVariables false

theorem AdSt.start {w0 w W : World} {lb mb p bn : Nat} {vs : Value} {L : List Im} {N : Nd} {vn vk : Value} (he : Errs w0) (hL : NsAt w w0.heap.size vs L) (hw : w.heap.size ≤ bn) (hlbn : lb ≠ bn) (hpbn : p ≠ bn) (lk : Lk W lb mb vs) (ns : NsAt W w0.heap.size vs L) (rb : NdBox p W 67 N vn vk) (bx : InBox W bn N vn 0 (.slice none 0 0)) (bl : Below w0.heap.size w0 W) (lo : w0.heap.size ≤ lb ∧ w0.heap.size ≤ bn ∧ w0.heap.size ≤ p) :
    AdSt w0 lb mb p bn vs L N vn vk (.slice none 0 0) 0 (W.setCell ⟨bn, 4, none⟩ (.int .i64 L.length)) := by
  have hs : Below w0.heap.size w0 (W.setCell ⟨bn, 4, none⟩ (.int .i64 L.length)) := bl.setCell lo.2.1 _
  have oth : ∀ {b : Nat}, b ≠ bn → (W.setCell ⟨bn, 4, none⟩ (.int .i64 L.length)).heap[b]? = W.heap[b]? := fun hne => heap_setCell_other _ _ _ _ hne
  have setr : ∀ {v : Value} {n : Nat} {xs : List Value}, W.ownsRow w0.heap.size 44 1 v n xs → (W.setCell ⟨bn, 4, none⟩ (.int .i64 L.length)).ownsRow w0.heap.size 44 1 v n xs := fun ho =>
    ho.kept (row := some bn) ⟨rfl, rfl, rfl, by simp [World.setCell], fun k hk hne => heap_setCell_other _ _ _ _ (fun e => hne (by rw [e]))⟩ (by
      cases hv : Value.ownBlock _ with
      | none => exact .inl rfl
      | some k => exact .inr (fun e => by obtain ⟨⟨c, hc⟩, _⟩ := own_isRow ho hv; obtain rfl := Option.some.inj e; exact blk_ne bx hc (stT_ne _).1 rfl))
  refine ⟨⟨(oth hlbn).trans lk.b, wd_keep lk.m (oth (fun e => map_ne lk.m bx e)), he.keep hs⟩, ⟨setr ns.row, fun i x hx => ?_, fun i x hx => setr (ns.kid i x hx), ns.far, ns.rng⟩, (oth hpbn).trans rb, ?_, ?_, .inl rfl, fun x hx => ?_, hs, lo⟩
  · have := lt_of_block (hL.box i x hx)
    exact (oth (by omega)).trans (ns.box i x hx)
  · unfold InBox at bx ⊢
    have := heap_setCell_same W bn 4 _ _ (.int .i64 L.length) bx
    rw [this]
    simp
  · rw [List.take_zero]; exact World.ownsRow_nil _ _ _ _
  · cases x.kv.ownBlock with
    | none => exact .inl rfl
    | some k => exact .inr (by simp [Value.ownBlock])

theorem add_zero_at (g m : Nat) : (⟨g, 0, none⟩ : Addr).add m = ⟨g, m, none⟩ := by unfold Addr.add; split <;> simp_all
theorem kidsIn_take {L : List Im} {ks : List Int} {x : Im} (h : ∀ z ∈ ks, 0 ≤ z ∧ z < (L.length : Int)) : kidsIn (L ++ [x]) ks = kidsIn L ks := by
  unfold kidsIn
  apply List.map_congr_left
  intro z hz
  have := h z hz
  rw [List.getElem?_append_left (by omega)]
/-- The node is hung behind the others. -/
theorem AdSt.done {w0 : World} {lb mb p bn : Nat} {vs : Value} {L : List Im} {N : Nd} {vn vk kv : Value} {W W' : World} (he : Errs w0) (h : AdSt w0 lb mb p bn vs L N vn vk kv N.ks.length W) (hr : ∀ z ∈ N.ks, 0 ≤ z ∧ z < (L.length : Int)) {vs' : Value} (hg : W.grownBy W' vs.ownBlock) (ho : W'.ownsRow w0.heap.size 44 1 vs' (L.length + 1) (L.map nV ++ [nodeV N.k bn])) (hat : vs'.ownBlock = vs.ownBlock ∨ vs'.ownBlock = some W.heap.size) :
    W'.heap[lb]? = some (.cells #[.map (some mb), vs] 74 (0, 0)) ∧
    Lk (W'.setCell ⟨lb, 1, none⟩ vs') lb mb vs' ∧ NsAt (W'.setCell ⟨lb, 1, none⟩ vs') w0.heap.size vs' (L ++ [⟨N, bn, vn, kv⟩]) ∧ InBox (W'.setCell ⟨lb, 1, none⟩ vs') bn N vn L.length kv ∧ Below w0.heap.size w0 (W'.setCell ⟨lb, 1, none⟩ vs') := by
  have hrow : ∀ k, vs.ownBlock = some k → IsRow W k ∧ w0.heap.size ≤ k := fun k hk => own_isRow h.ns.row hk
  have keep : ∀ {b : Nat} {cs : Array Value} {t : TypeId}, W.heap[b]? = some (.cells cs t (0, 0)) → t ≠ 44 → W'.heap[b]? = some (.cells cs t (0, 0)) := fun hb ht =>
    (hg.block _ (lt_of_block hb) (fun e => by obtain ⟨⟨c, hc⟩, _⟩ := hrow _ e.symm; exact blk_ne hb hc ht rfl)).trans hb
  have lb' := keep h.lk.b (by decide)
  have bel' : Below w0.heap.size w0 W' := h.bl.grown hg h.bl.size (fun k hk => (hrow k hk).2)
  have hs : Below w0.heap.size w0 (W'.setCell ⟨lb, 1, none⟩ vs') := bel'.setCell h.lo.1 _
  have set : ∀ {b : Nat} {cs : Array Value} {t : TypeId}, W'.heap[b]? = some (.cells cs t (0, 0)) → t ≠ 74 → (W'.setCell ⟨lb, 1, none⟩ vs').heap[b]? = some (.cells cs t (0, 0)) := fun hb ht =>
    (heap_setCell_other _ _ _ _ (fun e => by exact blk_ne hb lb' ht e)).trans hb
  have setr : ∀ {v : Value} {n : Nat} {xs : List Value}, W'.ownsRow w0.heap.size 44 1 v n xs → (W'.setCell ⟨lb, 1, none⟩ vs').ownsRow w0.heap.size 44 1 v n xs := fun ho =>
    ho.kept (row := some lb) ⟨rfl, rfl, rfl, by simp [World.setCell], fun k hk hne => heap_setCell_other _ _ _ _ (fun e => hne (by rw [e]))⟩ (by
      cases hv : Value.ownBlock _ with
      | none => exact .inl rfl
      | some k => exact .inr (fun e => by obtain ⟨⟨c, hc⟩, _⟩ := own_isRow ho hv; obtain rfl := Option.some.inj e; exact blk_ne lb' hc (by decide) rfl))
  have bx' : InBox (W'.setCell ⟨lb, 1, none⟩ vs') bn N vn L.length kv := set (keep h.bx (stT_ne _).1) (stT_ne _).2.1
  have hm := wd_keep h.lk.m (hg.block _ h.lk.m.lt (fun e => by obtain ⟨⟨c, hc⟩, _⟩ := hrow _ e.symm; exact map_ne h.lk.m hc rfl))
  have hfull : kidsIn L (N.ks.take N.ks.length) = kidsIn L N.ks := by rw [List.take_length]
  have hkr := h.kr
  rw [hfull] at hkr
  have fv : ∀ {v : Value} {n : Nat} {xs : List Value}, W.ownsRow w0.heap.size 44 1 v n xs → (v.ownBlock = none ∨ v.ownBlock ≠ vs.ownBlock) → (v.ownBlock = none ∨ v.ownBlock ≠ vs'.ownBlock) := fun ho hv => by
    rcases hv with e | e
    · exact .inl e
    · rename_i v n xs
      cases hb : v.ownBlock with
      | none => exact .inl rfl
      | some k =>
        have := (ho.lt k hb).2
        rcases hat with e2 | e2
        · rw [e2, ← hb]; exact .inr e
        · rw [e2]; exact .inr (by simp only [ne_eq, Option.some.injEq]; omega)
  refine ⟨lb', ⟨heap_setCell_same W' lb 1 _ _ _ lb', wd_keep hm (heap_setCell_other _ _ _ _ (fun e => by exact map_ne hm lb' e)), he.keep hs⟩, ⟨?_, ?_, ?_, ?_, ?_⟩, bx', hs⟩
  · rw [List.length_append, List.map_append]; exact setr ho
  · intro i x hx
    rcases Nat.lt_or_ge i L.length with g | g
    · rw [List.getElem?_append_left g] at hx
      exact set (keep (h.ns.box i x hx) (stT_ne _).1) (stT_ne _).2.1
    · rw [List.getElem?_append_right g] at hx
      obtain ⟨h1, h2⟩ := List.getElem?_eq_some_iff.1 hx
      simp at h1 h2
      subst h2
      obtain rfl : i = L.length := by omega
      exact bx'
  · intro i x hx
    rcases Nat.lt_or_ge i L.length with g | g
    · rw [List.getElem?_append_left g] at hx
      rw [List.take_append_of_le_length (by omega)]
      exact setr ((h.ns.kid i x hx).kept hg (h.ns.far x (List.mem_of_getElem? hx)))
    · rw [List.getElem?_append_right g] at hx
      obtain ⟨h1, h2⟩ := List.getElem?_eq_some_iff.1 hx
      simp at h1 h2
      subst h2
      obtain rfl : i = L.length := by omega
      rw [List.take_left]
      exact setr (hkr.kept hg h.fr)
  · intro x hx
    rcases List.mem_append.1 hx with hx | hx
    · obtain ⟨i, hi, ei⟩ := List.getElem_of_mem hx
      exact fv (h.ns.kid i x (by rw [List.getElem?_eq_getElem hi, ei])) (h.ns.far x hx)
    · obtain rfl := List.mem_singleton.1 hx
      exact fv hkr h.fr
  · intro i x z hx hz
    rcases Nat.lt_or_ge i L.length with g | g
    · rw [List.getElem?_append_left g] at hx
      exact h.ns.rng i x z hx hz
    · rw [List.getElem?_append_right g] at hx
      obtain ⟨h1, h2⟩ := List.getElem?_eq_some_iff.1 hx
      simp at h1 h2
      subst h2
      obtain rfl : i = L.length := by omega
      exact hr z hz

/-- The Kinds of the kids of a node. -/
def kinds (ns : List Nd) (ks : List Int) : List Int := ks.map fun z => (ns.getD z.toNat zNd).k
theorem NsAt.kids {W : World} {base : Nat} {vs : Value} {L : List Im} (h : NsAt W base vs L) {ns : List Nd} (hns : L.map Im.N = ns.take L.length) {i : Nat} {x : Im} (hx : L[i]? = some x) : KidsAt W x.kv (kinds ns x.N.ks) := by
  have hk := h.kid i x hx
  have hl : (kinds ns x.N.ks).length = x.N.ks.length := by simp [kinds]
  have hil : i < L.length := (List.getElem?_eq_some_iff.1 hx).1
  rcases own_zero_or hk with ⟨hn, e⟩ | ⟨g, cap, e⟩
  · exact .inl ⟨List.eq_nil_of_length_eq_zero (by omega), _, _, e⟩
  · rw [e] at hk ⊢
    refine .inr ⟨⟨g, 0, none⟩, cap, by rw [hl], ?_, fun j k hj => ?_⟩
    · rw [hl]
      rcases hk.2 with ⟨h1, _⟩ | ⟨g2, cap2, cur, h1, _, _, h4, _⟩
      · cases h1
      · cases h1; exact h4
    · unfold kinds at hj
      rw [List.getElem?_map] at hj
      cases hz : x.N.ks[j]? with
      | none => rw [hz] at hj; cases hj
      | some z =>
        rw [hz] at hj
        obtain rfl := Option.some.inj hj
        obtain ⟨z0, z1⟩ := h.rng i x z hx (List.mem_of_getElem? hz)
        obtain ⟨y, hy⟩ : ∃ y, L[z.toNat]? = some y := ⟨L[z.toNat]'(by omega), List.getElem?_eq_getElem _⟩
        have hyk : (ns.getD z.toNat zNd) = y.N := by
          have e1 : (L.map Im.N)[z.toNat]? = some y.N := by rw [List.getElem?_map, hy]; rfl
          rw [hns, List.getElem?_take, if_pos (by omega)] at e1
          rw [List.getD_eq_getElem?_getD, e1]; rfl
        have hjl : j < x.N.ks.length := (List.getElem?_eq_some_iff.1 hz).1
        refine ⟨y.b, ?_, ?_⟩
        · rw [add_zero_at, hk.cellAt j (by omega)]
          unfold kidsIn
          rw [List.getElem?_map, hz]
          simp only [Option.map_some]
          rw [List.getElem?_take, if_pos (by omega), hy, hyk]
          rfl
        · show W.cell? ⟨y.b, 0, none⟩ = some (.int .i64 (ns.getD z.toNat zNd).k)
          rw [hyk]; exact (h.box _ y hy).cells.1
end Go.Proofs.YtdgbmihokecmhaaGreatDoor
