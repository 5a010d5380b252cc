import Derived.Test.YtcnhhhfedakepaaGreatDoorMM10
import Derived.Test.YtcnhhhfedakepaaGreatDoorMM06
import Derived.Test.YtcnhhhfedakepaaGreatDoorMM05
import Derived.Shelf.Strings.BuilderK
import Derived.Shelf.Strings.Builder2
import Derived.Shelf.Strings.Builder1
import Derived.Shelf.Strings.OnBuilder
import Derived.Shelf.Small.Wraps
import Derived.Shelf.Strings.BuilderF
import Derived.Shelf.Strconv.Itoa0
import Derived.Shelf.Strconv.Itoa1
import Derived.Shelf.LaysM
import Derived.Shelf.Strconv.Itoa2
import Derived.Shelf.Strconv.Itoa3
import Derived.Shelf.Strconv.Itoa4
import Derived.Shelf.Strconv.ParseIntEmpty
import Derived.Shelf.Strconv.Clone
import Derived.Shelf.Strconv.SyntaxError
import Derived.Shelf.LaysC
import Derived.Shelf.Strconv.ToError
import Derived.Shelf.Strconv.Lower
import Derived.Shelf.Strconv.ParseUint10
import Derived.Shelf.Strconv.ParseUint10Empty
import Derived.Shelf.Strconv.ParseUint10Any
import Derived.Shelf.Strconv.ParseInt10
import Derived.Shelf.Strconv.RangeError
import Derived.Shelf.Strconv.ToErrorRange
import Derived.Shelf.Strconv.ParseUintEmpty
import Derived.Shelf.Strconv.ParseUint10b64
import Derived.Shelf.Strconv.ParseUint10b32
import Derived.Shelf.Strconv.ParseUint10b16
import Derived.Shelf.Strconv.ParseUint10b8
import Derived.Shelf.Strconv.ParseUint10At
import Derived.Shelf.Strconv.ParseInt10At64
import Derived.Shelf.Strconv.ParseInt10At32
import Derived.Shelf.Strconv.ParseInt10At16
import Derived.Shelf.Strconv.ParseInt10At8
import Derived.Shelf.Strconv.ParseInt10All
import Derived.Shelf.Strconv.ParseIntPublic10
import Derived.Shelf.Strconv.ErrVarParseInt
import Derived.Ground.MpProg
import Derived.Shelf.Pu.ParseUintPublic10
import Derived.Shelf.Pu.ErrVarParseUint
import Derived.Shelf.Strings.Prefix
import Derived.Shelf.Strings.Fields
import Derived.Shelf.Unicode.Latin
import Derived.Shelf.Bits.Mul64
import Derived.Shelf.Strings.Repeat
import Derived.Shelf.Unicode.Is16White
import Derived.Shelf.Unicode.IsSpaceAny
import Derived.Shelf.Unicode.Is16Any
import Derived.Shelf.Unicode.Is32Any
import Derived.Shelf.Unicode.ExclAny
import Derived.Shelf.Slices.Equal
import Derived.Shelf.Slices.Empties2
import Derived.Test.YtcnhhhfedakepaaGreatDoorProg
import Derived.Test.YtcnhhhfedakepaaGreatDoorMM03
import Derived.Lib.Join
import Derived.Deep.RegionHeld3
namespace Go.Proofs.YtcnhhhfedakepaaGreatDoor
open Go.RowKit Go.Maps Go.WideMaps
set_option linter.unusedVariables false

/-- Numbers, each ahead of a space. -/
def hdAll : List Int → ByteArray
  | [] => ⟨#[]⟩
  | z :: l => (decB z ++ spcB) ++ hdAll l
theorem hdAll_app (a b : List Int) : hdAll (a ++ b) = hdAll a ++ hdAll b := by
  induction a with
  | nil => exact (emp_app _).symm
  | cons s l ih => show (decB s ++ spcB) ++ hdAll (l ++ b) = ((decB s ++ spcB) ++ hdAll l) ++ hdAll b; rw [ih, ByteArray.append_assoc (b := hdAll l)]
theorem hdAll_take (l : List Int) (k : Nat) (z : Int) (h : l[k]? = some z) : hdAll (l.take (k + 1)) = hdAll (l.take k) ++ (decB z ++ spcB) := by
  rw [List.take_add_one, h, hdAll_app]
  show hdAll (l.take k) ++ ((decB z ++ spcB) ++ ⟨#[]⟩) = _
  rw [app_emp]
def six (N : Nd) : List Int := [N.k, N.f, N.t, N.l, N.op, N.n]
theorem hd_six (N : Nd) : hdAll (six N) = headB N := by
  unfold six headB
  simp only [hdAll, emp_app, app_emp, ByteArray.append_assoc]
theorem hdAll_size (l : List Int) (h : ∀ z ∈ l, -9223372036854775808 ≤ z ∧ z ≤ 9223372036854775807) : (hdAll l).size ≤ 22 * l.length := by
  induction l with
  | nil => exact Nat.le_refl _
  | cons s l ih =>
    have h1 := ih fun z hz => h z (List.mem_cons_of_mem _ hz)
    have h2 := decB_size s (h s (List.mem_cons_self)).1 (h s (List.mem_cons_self)).2
    have s1 : spcB.size = 1 := rfl
    show ((decB s ++ spcB) ++ hdAll l).size ≤ 22 * (l.length + 1)
    rw [ByteArray.size_append, ByteArray.size_append]
    omega
theorem six_int {N : Nd} (h : NdInt N) : ∀ z ∈ six N, -9223372036854775808 ≤ z ∧ z ≤ 9223372036854775807 := fun z hz => by
  unfold six at hz
  simp only [List.mem_cons, List.not_mem_nil, or_false] at hz
  rcases hz with rfl | rfl | rfl | rfl | rfl | rfl
  · exact h.k
  · exact h.f
  · exact h.t
  · exact h.l
  · exact h.op
  · exact h.n
/-- What l5line holds. -/
structure LnSt (w : World) (N : Nd) (vn vk : Value) (W : World) : Prop where
  bx : NdBox w.heap.size W 67 N vn vk
  bl : Below w.heap.size w W
theorem LnSt.below {w : World} {N : Nd} {vn vk : Value} {W W' : World} (h : LnSt w N vn vk W) (hb : Below W.heap.size W W') : LnSt w N vn vk W' :=
  ⟨h.bx.below hb, h.bl.trans (hb.mono h.bl.size)⟩

set_option maxRecDepth 100000 in
set_option maxHeartbeats 12800000 in
theorem l5line_any (w : World) (N : Nd) (vn vk : Value) (hn : StrsAt w vn N.nm) (hk : IntsAt w vk N.ks) (hI : NdInt N) (hx : N.x.size ≤ 4000) (h1 : N.nm.length ≤ 1048576) (h2 : N.ks.length ≤ 1048576) (hr : (dmpR N).size ≤ 1099511627776) :
    Calls Tryz.prog 29 #[vNd N vn vk] w fun e w' => e = .returned (.string (dmpR N ++ nwlB)) ∧ Below w.heap.size w w' := by
  obtain ⟨a1, c1, rfl⟩ := hn.form
  obtain ⟨a2, c2, rfl⟩ := hk.form
  obtain ⟨L1, hL1⟩ : ∃ n, N.nm.length = n := ⟨_, rfl⟩
  obtain ⟨L2, hL2⟩ : ∃ n, N.ks.length = n := ⟨_, rfl⟩
  rw [hL1] at hn h1 ⊢
  rw [hL2] at hk h2 ⊢
  have HH : Hid (StrsAt w (.slice a1 L1 c1) N.nm ∧ IntsAt w (.slice a2 L2 c2) N.ks ∧ NdInt N ∧ (dmpR N).size ≤ 1099511627776 ∧ N.nm.length = L1 ∧ N.ks.length = L2) := ⟨hn, hk, hI, hr, hL1, hL2⟩
  unfold vNd
  clear hn hk hI hr hL1 hL2
  go_enter Tryz.func29, Tryz.ntmps29
  go_wp2_with fail
  have B0 := heap_alloc_new w (.cells #[.int .i64 N.k, .int .i64 N.f, .int .i64 N.t, .int .i64 N.l, .int .i64 N.op, .int .i64 N.n, .string N.x, .slice a1 L1 c1, .slice a2 L2 c2] 67)
  have hb01 : Below w.heap.size w (w.alloc (.cells #[.int .i64 N.k, .int .i64 N.f, .int .i64 N.t, .int .i64 N.l, .int .i64 N.op, .int .i64 N.n, .string N.x, .slice a1 L1 c1, .slice a2 L2 c2] 67)) := (Below.refl _ w).alloc (Nat.le_refl _) _
  have hs1 : (w.alloc (.cells #[.int .i64 N.k, .int .i64 N.f, .int .i64 N.t, .int .i64 N.l, .int .i64 N.op, .int .i64 N.n, .string N.x, .slice a1 L1 c1, .slice a2 L2 c2] 67)).heap.size = w.heap.size + 1 := World.size_alloc _ _
  generalize w.alloc (.cells #[.int .i64 N.k, .int .i64 N.f, .int .i64 N.t, .int .i64 N.l, .int .i64 N.op, .int .i64 N.n, .string N.x, .slice a1 L1 c1, .slice a2 L2 c2] 67) = W1 at B0 hb01 hs1 ⊢
  have B1 := heap_alloc_new W1 (.cells #[.int .i64 N.k, .int .i64 N.f, .int .i64 N.t, .int .i64 N.l, .int .i64 N.op, .int .i64 N.n] 2)
  have hb12 : Below W1.heap.size W1 (W1.alloc (.cells #[.int .i64 N.k, .int .i64 N.f, .int .i64 N.t, .int .i64 N.l, .int .i64 N.op, .int .i64 N.n] 2)) := (Below.refl _ W1).alloc (Nat.le_refl _) _
  generalize W1.alloc (.cells #[.int .i64 N.k, .int .i64 N.f, .int .i64 N.t, .int .i64 N.l, .int .i64 N.op, .int .i64 N.n] 2) = W2 at B1 hb12 ⊢
  rw [hs1] at B1
  have st2 : LnSt w N (.slice a1 L1 c1) (.slice a2 L2 c2) W2 := LnSt.below ⟨B0, hb01⟩ hb12
  have c6 : ∀ (j : Nat) z, (six N)[j]? = some z → W2.cell? ⟨w.heap.size + 1, j, none⟩ = some (.int .i64 z) := fun j z hz => by
    rw [cell_of_row _ _ _ _ _ _ B1]
    unfold six at hz
    match j, hz with
    | 0, hz => simp at hz; subst hz; rfl
    | 1, hz => simp at hz; subst hz; rfl
    | 2, hz => simp at hz; subst hz; rfl
    | 3, hz => simp at hz; subst hz; rfl
    | 4, hz => simp at hz; subst hz; rfl
    | 5, hz => simp at hz; subst hz; rfl
    | (j + 6), hz => simp at hz
  have H2 : Hid (LnSt w N (.slice a1 L1 c1) (.slice a2 L2 c2) W2 ∧ (∀ (j : Nat) z, (six N)[j]? = some z → W2.cell? ⟨w.heap.size + 1, j, none⟩ = some (.int .i64 z)) ∧ w.heap.size + 1 < W2.heap.size) := ⟨st2, c6, lt_of_block B1⟩
  clear B0 B1 hb01 hb12 hs1 st2 c6
  go_loopw [3, 24] (fun vo vi wr => ∃ k : Nat, k ≤ 6 ∧ vi = .int .i64 k ∧ vo = .string (hdAll ((six N).take k)) ∧ Hid (Below W2.heap.size W2 wr)) (fun _ vi _ => 6 - (intOf vi).toNat)
  case atStart => exact ⟨0, by omega, rfl, rfl, Below.refl _ _⟩
  case round =>
    obtain ⟨k, hk, rfl, rfl, HB⟩ := hrel
    by_cases hlt : k < 6
    · obtain ⟨z, hz⟩ := some_at (show (six N).length = 6 from rfl) hlt
      have cz := cell_kept HB.out (H2.out.2.1 k z hz)
      have hzi := six_int HH.out.2.2.1 z (List.mem_of_getElem? hz)
      have ht := hdAll_take (six N) k z hz
      have hsz : (hdAll ((six N).take k)).size ≤ 132 := by
        have := hdAll_size ((six N).take k) (fun y hy => six_int HH.out.2.2.1 y (List.mem_of_mem_take hy))
        have h6 : ((six N).take k).length ≤ 6 := by rw [List.length_take]; omega
        omega
      have hdz := decB_size z hzi.1 hzi.2
      have HT : Hid (hdAll ((six N).take (k + 1)) = hdAll ((six N).take k) ++ (decB z ++ spcB)) := ht
      have kd := fun W => l1decimal_any z hzi.1 hzi.2 W
      have hki : (k : Int) < 6 := by omega
      have hk0 : (0 : Int) ≤ (k : Int) := by omega
      generalize hdAll ((six N).take k) = o at HT hsz ⊢
      generalize decB z = d at kd hdz HT
      clear ht hz hzi
      go_wp2_with (go_at_call 46; refine (kd _).mono ?_; rintro e w3 ⟨rfl, hb3⟩)
      exact ⟨⟨k + 1, by omega, by go_num, by rw [HT.out]; rfl, HB.out.trans (hb3.mono HB.out.size)⟩, by simp [intOf]; omega⟩
    · obtain rfl : k = 6 := by omega
      obtain ⟨w3, rfl⟩ : ∃ w3, w3 = wr := ⟨wr, rfl⟩
      rw [show (six N).take 6 = six N from rfl, hd_six]
      have st3 := H2.out.1.below HB.out
      have hq := fun W => specQuote N.x hx W
      have hl := fun W => l1decimal_any (L1 : Int) (by omega) (by omega) W
      have hsq := quoB_size N.x
      have hsl := decB_size (L1 : Int) (by omega) (by omega)
      have hsh : (headB N).size ≤ 132 := by rw [← hd_six]; have := hdAll_size (six N) (six_int HH.out.2.2.1); have e6 : (six N).length = 6 := rfl; omega
      have HR : Hid (dmpR N = (((headB N ++ ((quoB N.x ++ spcB) ++ decB L1)) ++ spAll N.nm) ++ (spcB ++ decB L2)) ++ spAll (N.ks.map decB)) := by
        show dmpR N = _
        unfold dmpR
        rw [HH.out.2.2.2.2.1, HH.out.2.2.2.2.2]
      change ∀ W, Calls Tryz.prog 47 #[.string N.x] W fun e w' => e = .returned (.string (quoB N.x)) ∧ Below W.heap.size W w' at hq
      obtain ⟨x0, x1, x2, x3, x4, x5, x6, x7, x8, xz⟩ := nd_cells st3.bx
      have HST : Hid (LnSt w N (.slice a1 L1 c1) (.slice a2 L2 c2) w3) := st3
      have sX : ∀ W, Below w3.heap.size w3 W → W.cell? ⟨w.heap.size, 6, none⟩ = some (.string N.x) ∧ W.cell? ⟨w.heap.size, 7, none⟩ = some (.slice a1 L1 c1) ∧ Below w3.heap.size w3 W := fun W hW => ⟨cell_kept hW x6, cell_kept hW x7, hW⟩
      have bD : Below w3.heap.size w3 w3.drew := bel_drew1 (Below.refl _ _)
      generalize headB N = A0 at HR hsh ⊢
      generalize quoB N.x = X at hq hsq HR
      generalize decB (L1 : Int) = D1 at hl hsl HR
      have f1 : ¬ 9223372036854775807 < X.size + 1 := by omega
      have f2 : ¬ 9223372036854775807 < X.size + 1 + D1.size := by omega
      have f3 : ¬ 9223372036854775807 < A0.size + (X.size + 1 + D1.size) := by omega
      clear x0 x1 x2 x3 x4 x5 x8 xz st3 HB
      go_wp2_with fail
      go_region_held3 (fun W' => W'.cell? ⟨w.heap.size, 6, none⟩ = some (.string N.x) ∧ W'.cell? ⟨w.heap.size, 7, none⟩ = some (.slice a1 L1 c1) ∧ Below w3.heap.size w3 W') (first | exact sX _ bD | exact sX _ (bD.trans (hbq.mono bD.size)) | exact sX _ (bD.trans (hbd.mono bD.size)) | exact sX _ ((bD.trans (hbq.mono bD.size)).trans (hbd.mono (bD.trans (hbq.mono bD.size)).size)) | exact sX _ ((bD.trans (hbd.mono bD.size)).trans (hbq.mono (bD.trans (hbd.mono bD.size)).size)) | go_keep) (first | (go_at_call 47; refine (hq _).mono ?_; rintro e wq ⟨rfl, hbq⟩) | (go_at_call 46; refine (hl _).mono ?_; rintro e wd ⟨rfl, hbd⟩))
      all_goals first
        | (have h4 : Below w3.heap.size w3 wd := (bD.trans (hbq.mono bD.size)).trans (hbd.mono (bD.trans (hbq.mono bD.size)).size); obtain ⟨w4, rfl⟩ : ∃ w4, w4 = wd := ⟨_, rfl⟩)
        | (have h4 : Below w3.heap.size w3 wq := (bD.trans (hbd.mono bD.size)).trans (hbq.mono (bD.trans (hbd.mono bD.size)).size); obtain ⟨w4, rfl⟩ : ∃ w4, w4 = wq := ⟨_, rfl⟩)
      all_goals (
        have HS4 : Hid (LnSt w N (.slice a1 L1 c1) (.slice a2 L2 c2) w4) := HST.out.below h4
        have HA : Hid (dmpR N = (((A0 ++ ((X ++ spcB) ++ D1)) ++ spAll N.nm) ++ (spcB ++ decB L2)) ++ spAll (N.ks.map decB)) := HR.out
        change Hid (dmpR N = (((A0 ++ ((X ++ { data := #[32] }) ++ D1)) ++ spAll N.nm) ++ (spcB ++ decB L2)) ++ spAll (N.ks.map decB)) at HA
        obtain ⟨A1, hA1⟩ : ∃ A1, A0 ++ ((X ++ { data := #[32] }) ++ D1) = A1 := ⟨_, rfl⟩
        rw [hA1] at HA ⊢
        have hz0 : (dmpR N).size ≤ 1099511627776 := HH.out.2.2.2.1
        rw [HA.out] at hz0
        simp only [ByteArray.size_append] at hz0
        have HZ : Hid (A1.size + (spAll N.nm).size + (spcB.size + (decB L2).size) + (spAll (N.ks.map decB)).size ≤ 1099511627776) := hz0
        obtain ⟨y0, y1, y2, y3, y4, y5, y6, y7, y8, yz⟩ := nd_cells HS4.out.bx
        clear hz0 hA1 h4 hbq hbd x6 x7 sX bD f1 f2 f3 hsq hsl hsh hq hl HST HR
        go_wp2_with fail
        go_loopw [3, 48] (fun vo vi wr => ∃ k : Nat, k ≤ L1 ∧ vi = .int .i64 k ∧ vo = .string (A1 ++ spAll (N.nm.take k)) ∧ Hid (Below w4.heap.size w4 wr)) (fun _ vi _ => L1 - (intOf vi).toNat)
        case atStart => exact ⟨0, by omega, rfl, by rw [List.take_zero, show A1 ++ spAll [] = A1 from app_emp A1], Below.refl _ _⟩
        case round =>
          obtain ⟨k, hk, rfl, rfl, HB⟩ := hrel
          by_cases hlt : k < L1
          · obtain ⟨y, hy⟩ := some_at HH.out.2.2.2.2.1 hlt
            have bw : Below w.heap.size w wr := HS4.out.bl.trans (HB.out.mono HS4.out.bl.size)
            obtain ⟨a', rfl, cy⟩ := (HH.out.1.below bw).get hy
            have ht := spAll_take N.nm k y hy
            have hz2 := spAll_size_take N.nm (k + 1)
            have hz := HZ.out
            have HT : Hid (spAll (N.nm.take (k + 1)) = spAll (N.nm.take k) ++ (spcB ++ y)) := ht
            rw [ht] at hz2
            simp only [ByteArray.size_append] at hz2
            have hzy : y.size ≤ 1099511627776 := by omega
            obtain ⟨o, ho⟩ : ∃ o, A1 ++ spAll (N.nm.take k) = o := ⟨_, rfl⟩
            have hzo : o.size ≤ 1099511627776 := by rw [← ho, ByteArray.size_append]; omega
            have HO : Hid (A1 ++ spAll (N.nm.take k) = o) := ho
            rw [ho]
            have hki : (k : Int) < (L1 : Int) := by omega
            have hk0 : (0 : Int) ≤ (k : Int) := by omega
            clear ht hz2 hz ho hy bw y0 y1 y2 y3 y4 y5 y6 y7 y8 yz
            go_wp2_with fail
            exact ⟨⟨k + 1, by omega, by go_num, by rw [HT.out]; show Value.string (o ++ (spcB ++ y)) = _; rw [← HO.out, ByteArray.append_assoc], HB⟩, by simp [intOf]; omega⟩
          · obtain rfl : k = L1 := by omega
            obtain ⟨w5, rfl⟩ : ∃ w5, w5 = wr := ⟨wr, rfl⟩
            rw [List.take_of_length_le (by rw [HH.out.2.2.2.2.1]; exact Nat.le_refl _)]
            have z8 := cell_kept HB.out y8
            have kl := fun W => l1decimal_any (L2 : Int) (by omega) (by omega) W
            have hsl := decB_size (L2 : Int) (by omega) (by omega)
            obtain ⟨A2, hA2⟩ : ∃ A2, A1 ++ spAll N.nm = A2 := ⟨_, rfl⟩
            have hz := HZ.out
            have hz2 : A2.size ≤ 1099511627776 := by rw [← hA2, ByteArray.size_append]; omega
            have HZ2 : Hid (A2.size + (1 + (decB L2).size) + (spAll (N.ks.map decB)).size ≤ 1099511627776) := by show _ ≤ _; rw [← hA2, ByteArray.size_append]; exact hz
            rw [hA2] at HA ⊢
            have HS5 : Hid (LnSt w N (.slice a1 k c1) (.slice a2 L2 c2) w5) := HS4.out.below HB.out
            generalize decB (L2 : Int) = D2 at kl hsl HA HZ2
            clear y0 y1 y2 y3 y4 y5 y6 y7 y8 yz hz hA2 HZ HS4 HB
            go_wp2_with (go_at_call 46; fail)
            refine (kl _).mono ?_
            rintro e w6 ⟨rfl, hb6⟩
            have HS6 : Hid (LnSt w N (.slice a1 k c1) (.slice a2 L2 c2) w6) := HS5.out.below hb6
            have z86 := cell_kept hb6 z8
            obtain ⟨A3, hA3⟩ : ∃ A3, A2 ++ (spcB ++ D2) = A3 := ⟨_, rfl⟩
            have hA3' : A2 ++ ({ data := #[32] } ++ D2) = A3 := hA3
            have HZ3 : Hid (A3.size + (spAll (N.ks.map decB)).size ≤ 1099511627776) := by
              show _ ≤ _
              have := HZ2.out
              have s1 : spcB.size = 1 := rfl
              rw [← hA3, ByteArray.size_append, ByteArray.size_append, s1]
              omega
            rw [hA3] at HA
            clear kl hb6 z8 hA3
            go_wp2_with fail
            try rw [hA3']
            clear hA3'
            go_loopw [3, 67] (fun vo vi wr => ∃ j : Nat, j ≤ L2 ∧ vi = .int .i64 j ∧ vo = .string (A3 ++ spAll ((N.ks.map decB).take j)) ∧ Hid (Below w6.heap.size w6 wr)) (fun _ vi _ => L2 - (intOf vi).toNat)
            case atStart => exact ⟨0, by omega, rfl, by rw [List.take_zero, show A3 ++ spAll [] = A3 from app_emp A3], Below.refl _ _⟩
            case round =>
              obtain ⟨j, hj, rfl, rfl, HB⟩ := hrel
              by_cases hlt : j < L2
              · obtain ⟨z, hz⟩ := some_at HH.out.2.2.2.2.2 hlt
                have bw : Below w.heap.size w wr := HS6.out.bl.trans (HB.out.mono HS6.out.bl.size)
                obtain ⟨a', rfl, cz⟩ := (HH.out.2.1.below bw).get hz
                have hzi := HH.out.2.2.1.ks z (List.mem_of_getElem? hz)
                have hzm : (N.ks.map decB)[j]? = some (decB z) := by rw [List.getElem?_map, hz]; rfl
                have ht := spAll_take (N.ks.map decB) j (decB z) hzm
                have hz2 := spAll_size_take (N.ks.map decB) (j + 1)
                have hz3 := HZ3.out
                have HT : Hid (spAll ((N.ks.map decB).take (j + 1)) = spAll ((N.ks.map decB).take j) ++ (spcB ++ decB z)) := ht
                rw [ht] at hz2
                simp only [ByteArray.size_append] at hz2
                have kd := fun W => l1decimal_any z hzi.1 hzi.2 W
                have hdz := decB_size z hzi.1 hzi.2
                obtain ⟨o, ho⟩ : ∃ o, A3 ++ spAll ((N.ks.map decB).take j) = o := ⟨_, rfl⟩
                have hzo : o.size ≤ 1099511627776 := by rw [← ho, ByteArray.size_append]; omega
                have HO : Hid (A3 ++ spAll ((N.ks.map decB).take j) = o) := ho
                rw [ho]
                generalize decB z = d at kd hdz HT
                have hji : (j : Int) < (L2 : Int) := by omega
                have hj0 : (0 : Int) ≤ (j : Int) := by omega
                clear ht hz2 hz3 ho hz hzm bw hzi z86
                go_wp2_with (go_at_call 46; refine (kd _).mono ?_; rintro e w7 ⟨rfl, hb7⟩)
                exact ⟨⟨j + 1, by omega, by go_num, by rw [HT.out]; show Value.string (o ++ (spcB ++ d)) = _; rw [← HO.out, ByteArray.append_assoc], HB.out.trans (hb7.mono HB.out.size)⟩, by simp [intOf]; omega⟩
              · obtain rfl : j = L2 := by omega
                rw [List.take_of_length_le (by rw [List.length_map, HH.out.2.2.2.2.2]; exact Nat.le_refl _), ← HA.out]
                have hr := HH.out.2.2.2.1
                have bw : Below w.heap.size w wr := HS6.out.bl.trans (HB.out.mono HS6.out.bl.size)
                obtain ⟨R, hR⟩ : ∃ R, dmpR N = R := ⟨_, rfl⟩
                have HRR : Hid (dmpR N = R) := hR
                rw [hR] at hr ⊢
                clear z86 hR
                go_wp2_with fail
                go_ret
                exact ⟨by rw [HRR.out]; rfl, bw⟩)
end Go.Proofs.YtcnhhhfedakepaaGreatDoor

namespace Go.Proofs.YtcnhhhfedakepaaGreatDoor
open Go.RowKit Go.Maps Go.WideMaps
set_option linter.unusedVariables false

/-- A strings.Builder, as the library's laws say it. -/
abbrev BuF (B b : Nat) (bs : List Value) (w : World) : Prop := Lib.IsBuilderF 71 5 B b bs w
abbrev BuA (B b : Nat) (bs : List Value) (w : World) : Prop := Lib.BuilderAtF 71 5 B b (.pointer (some ⟨b, 0, none⟩)) bs w

set_option maxRecDepth 100000 in
set_option maxHeartbeats 3200000 in
theorem copyCheck_fresh (b : Nat) (w : World) (h0 : w.cell? ⟨b, 0, none⟩ = some (.pointer none)) (hsh : w.shape? b = some (71, 2)) (hfz : w.frozen? ⟨b, 0, none⟩ = false) :
    Calls Tryz.prog 48 #[.pointer (some ⟨b, 0, none⟩)] w fun e w' => e = .returned (.tuple #[]) ∧ w' = w.setCell ⟨b, 0, none⟩ (.pointer (some ⟨b, 0, none⟩)) := by
  obtain ⟨j, hj, hjs⟩ := Option.map_eq_some_iff.1 (show (Tryz.prog.info? 71).map (·.size) = some 2 by kernel_rfl)
  have k1 := Lib.run_to_unsafe (P := Tryz.prog) (w := w) ⟨b, 0, none⟩ Tryz.underlying69 Tryz.underlying117 hj (by rw [hjs]; decide) hsh (Nat.zero_lt_succ 1)
  have k2 := Lib.run_from_unsafe (P := Tryz.prog) (w := w) ⟨b, 0, none⟩ Tryz.underlying117 Tryz.underlying69 hj hsh (by kernel_rfl)
  have k3 : ∀ x, (callFunc 69 #[x]).run Tryz.prog w = .ok (.value x) w := fun x => by
    rw [run_callFunc_extern Tryz.func69 (by kernel_rfl) (by kernel_rfl) (by kernel_rfl) (e := Extern.AbiNoEscape.same) (by kernel_rfl), Lib.run_noEscape]
    rfl
  go_enter Tryz.func48, Tryz.ntmps48
  go_wp2
  go_end0
  exact ⟨rfl, rfl⟩
set_option maxRecDepth 100000 in
set_option maxHeartbeats 3200000 in
theorem copyCheck_used (b : Nat) (w : World) (h0 : w.cell? ⟨b, 0, none⟩ = some (.pointer (some ⟨b, 0, none⟩))) (hsh : w.shape? b = some (71, 2)) :
    Calls Tryz.prog 48 #[.pointer (some ⟨b, 0, none⟩)] w fun e w' => e = .returned (.tuple #[]) ∧ w' = w := by
  obtain ⟨j, hj, hjs⟩ := Option.map_eq_some_iff.1 (show (Tryz.prog.info? 71).map (·.size) = some 2 by kernel_rfl)
  have k1 := Lib.run_neq_ptr_same (P := Tryz.prog) w ⟨b, 0, none⟩ Tryz.underlying69 hj
  go_enter Tryz.func48, Tryz.ntmps48
  go_wp2
  go_end0
  exact ⟨rfl, rfl⟩
theorem copyCheck_any (B b : Nat) (bs : List Value) (w : World) (h : BuF B b bs w) :
    Calls Tryz.prog 48 #[.pointer (some ⟨b, 0, none⟩)] w fun e w' => e = .returned (.tuple #[]) ∧ BuA B b bs w' ∧ Below B w w' := by
  rcases h with h | h
  · refine (copyCheck_fresh b w h.cell0 h.shape h.frozen0).mono ?_
    rintro e w' ⟨rfl, rfl⟩
    exact ⟨rfl, h.used _, (Below.refl B w).setCell (p := ⟨b, 0, none⟩) h.1 _⟩
  · refine (copyCheck_used b w h.cell0 h.shape).mono ?_
    rintro e w' ⟨rfl, rfl⟩
    exact ⟨rfl, h, Below.refl B _⟩
set_option maxRecDepth 100000 in
set_option maxHeartbeats 3200000 in
theorem writeString_any (B b : Nat) (bs : List Value) (s : ByteArray) (w : World) (h : BuF B b bs w) (hlen : bs.length + s.size ≤ 140737488355328) (hBw : B ≤ w.heap.size) :
    Calls Tryz.prog 31 #[.pointer (some ⟨b, 0, none⟩), .string s] w fun e w' => e = .returned (.tuple #[.int .i64 s.size, .nilIface]) ∧ BuA B b (bs ++ Lib.strCells s) w' ∧ Below B w w' := by
  obtain ⟨i0, hi, hz0, hz1, hz2⟩ := info_parts (show (Tryz.prog.info? 5).map (fun i => (i.zero, i.size, i.bytes)) = some (some (.int .u8 0), 1, 1) by kernel_rfl)
  go_enter Tryz.func31, Tryz.ntmps31
  go_wp2_with (go_at_call 48; refine (copyCheck_any B b bs _ h).mono ?_)
  rintro e w1 ⟨rfl, h1, hb1⟩
  obtain ⟨hB, v, hbk, hown, hne⟩ := h1
  have c0 : w1.cell? ⟨b, 0, none⟩ = some (.pointer (some ⟨b, 0, none⟩)) := by rw [Lib.cell_of_heap hbk]; rfl
  have c1 : w1.cell? ⟨b, 1, none⟩ = some v := by rw [Lib.cell_of_heap hbk]; rfl
  have hsz1 := hb1.size
  go_wp2_with (at_builtin; refine Lib.wpList_append_own_stringF _ rfl _ _ 63 9 rfl B 5 i0 Tryz.underlying63 Tryz.underlying9 hi hz0 hz1 hz2 _ _ _ rfl hown s rfl (by unfold maxLen; omega) (by omega) (by omega) ?_)
  intro v' w2 hown' hgrow _
  have hlt : b < w1.heap.size := lt_of_block hbk
  have hb2 : w2.heap[b]? = some (.cells #[.pointer (some ⟨b, 0, none⟩), v] 71 (0, 0)) := by
    rw [hgrow.block b hlt (fun e => hne e.symm)]
    exact hbk
  have d0 : w2.cell? ⟨b, 0, none⟩ = some (.pointer (some ⟨b, 0, none⟩)) := by rw [Lib.cell_of_heap hb2]; rfl
  have d1 : w2.cell? ⟨b, 1, none⟩ = some v := by rw [Lib.cell_of_heap hb2]; rfl
  have f1 : w2.frozen? ⟨b, 1, none⟩ = false := Lib.frozen_of_heap hb2 1
  obtain ⟨ao, n', cap, rfl⟩ : ∃ ao n' cap, v' = .slice ao n' cap := by
    rcases hown'.2 with ⟨hv, _⟩ | ⟨g, cap, cur, fz, hv, _⟩
    · exact ⟨_, _, _, hv⟩
    · exact ⟨_, _, _, hv⟩
  go_wp2
  go_ret2
  refine ⟨rfl, ?_, ?_⟩
  · exact Lib.BuilderAtF.put (T := 71) (e := 5) hB hb2 (bs' := bs ++ Lib.strCells s) (by simpa [Lib.strCells_length] using hown') (by decide)
  · exact (hb1.grown hgrow (by omega) (fun k hk => (hown.lt k hk).1)).setCell (p := ⟨b, 1, none⟩) hB _
end Go.Proofs.YtcnhhhfedakepaaGreatDoor

namespace Go.Proofs
open Go.Shelf
def Tryz.lays170_ren : Go.Shelf.Ren := ⟨fun | 170 => 102 | n => n, fun | 70 => 69 | 3 => 3 | 0 => 0 | 72 => 71 | 37 => 63 | 5 => 5 | n => n, fun | n => n⟩
theorem Tryz.lays170 : Go.Proofs.Lays.n170 Tryz.prog Tryz.lays170_ren := {
  mixed := by kernel_rfl
  f170 := Tryz.func102.trans (congrArg some (by kernel_rfl))
  t0 := Tryz.underlying0
  a0 := Tryz.isAgg0
  z0 := Tryz.sizeOf0
  v0 := Tryz.zeroValue0
  t3 := Tryz.underlying3
  a3 := Tryz.isAgg3
  z3 := Tryz.sizeOf3
  v3 := Tryz.zeroValue3
  t37 := Tryz.underlying63
  a37 := Tryz.isAgg63
  z37 := Tryz.sizeOf63
  v37 := Tryz.zeroValue63
  t70 := Tryz.underlying69
  a70 := Tryz.isAgg69
  z70 := Tryz.sizeOf69
  v70 := Tryz.zeroValue69
  t72 := Tryz.underlying71
  a72 := Tryz.isAgg71
  z72 := Tryz.sizeOf71
  v72 := Tryz.zeroValue71 }
def Tryz.lays169_ren : Go.Shelf.Ren := ⟨fun | 169 => 33 | n => n, fun | 70 => 69 | 9 => 9 | 0 => 0 | 72 => 71 | 37 => 63 | 127 => 101 | 3 => 3 | 5 => 5 | n => n, fun | n => n⟩
theorem Tryz.lays169 : Go.Proofs.Lays.n169 Tryz.prog Tryz.lays169_ren := {
  mixed := by kernel_rfl
  f169 := Tryz.func33.trans (congrArg some (by kernel_rfl))
  t0 := Tryz.underlying0
  a0 := Tryz.isAgg0
  z0 := Tryz.sizeOf0
  v0 := Tryz.zeroValue0
  t3 := Tryz.underlying3
  a3 := Tryz.isAgg3
  z3 := Tryz.sizeOf3
  v3 := Tryz.zeroValue3
  t9 := Tryz.underlying9
  a9 := Tryz.isAgg9
  z9 := Tryz.sizeOf9
  v9 := Tryz.zeroValue9
  t37 := Tryz.underlying63
  a37 := Tryz.isAgg63
  z37 := Tryz.sizeOf63
  v37 := Tryz.zeroValue63
  t70 := Tryz.underlying69
  a70 := Tryz.isAgg69
  z70 := Tryz.sizeOf69
  v70 := Tryz.zeroValue69
  t72 := Tryz.underlying71
  a72 := Tryz.isAgg71
  z72 := Tryz.sizeOf71
  v72 := Tryz.zeroValue71
  t127 := Tryz.underlying101
  a127 := Tryz.isAgg101
  z127 := Tryz.sizeOf101
  v127 := Tryz.zeroValue101 }
theorem Tryz.Builder_Extra_169 : Builder.Extra Tryz.prog Tryz.lays169_ren := {
  sizeBuilder := by kernel_rfl
  liesBuilder := by kernel_rfl
  t5 := Tryz.underlying5
  a5 := Tryz.isAgg5
  z5 := Tryz.sizeOf5
  v5 := Tryz.zeroValue5
  infoByte := by kernel_rfl
  cellsByte := by kernel_rfl
  sizeByte := by kernel_rfl
  neB5 := by decide }
def Tryz.lays241_ren : Go.Shelf.Ren := ⟨fun | 241 => 93 | 277 => 111 | n => n, fun | 70 => 69 | 3 => 3 | 0 => 0 | 72 => 71 | 37 => 63 | 5 => 5 | n => n, fun | n => n⟩
theorem Tryz.lays241 : Go.Proofs.Lays.n241 Tryz.prog Tryz.lays241_ren := {
  mixed := by kernel_rfl
  f241 := Tryz.func93.trans (congrArg some (by kernel_rfl))
  f277 := Tryz.func111.trans (congrArg some (by kernel_rfl))
  t0 := Tryz.underlying0
  a0 := Tryz.isAgg0
  z0 := Tryz.sizeOf0
  v0 := Tryz.zeroValue0
  t3 := Tryz.underlying3
  a3 := Tryz.isAgg3
  z3 := Tryz.sizeOf3
  v3 := Tryz.zeroValue3
  t37 := Tryz.underlying63
  a37 := Tryz.isAgg63
  z37 := Tryz.sizeOf63
  v37 := Tryz.zeroValue63
  t70 := Tryz.underlying69
  a70 := Tryz.isAgg69
  z70 := Tryz.sizeOf69
  v70 := Tryz.zeroValue69
  t72 := Tryz.underlying71
  a72 := Tryz.isAgg71
  z72 := Tryz.sizeOf71
  v72 := Tryz.zeroValue71 }
theorem Tryz.Builder_Extra_241 : Builder.Extra Tryz.prog Tryz.lays241_ren := {
  sizeBuilder := by kernel_rfl
  liesBuilder := by kernel_rfl
  t5 := Tryz.underlying5
  a5 := Tryz.isAgg5
  z5 := Tryz.sizeOf5
  v5 := Tryz.zeroValue5
  infoByte := by kernel_rfl
  cellsByte := by kernel_rfl
  sizeByte := by kernel_rfl
  neB5 := by decide }
open Go.RowKit in
theorem Tryz.Builder_grow_fresh (B b n : Nat) (w : World) (hB : B ≤ b) (hbk : w.heap[b]? = some (.cells #[.pointer (some ⟨b, 0, none⟩), .slice none 0 0] 71 (0, 0))) (hBw : B ≤ w.heap.size) (hn : n ≤ 281474976710656) :
    Calls Tryz.prog 93 #[.pointer (some ⟨b, 0, none⟩), .int .i64 n] w fun e w' => e = .returned (.tuple #[]) ∧ (Lib.BuilderAt 71 5 B b (.pointer (some ⟨b, 0, none⟩)) [] w' ∧ Below B w w') := Any.Builder_grow_fresh Tryz.lays241 Tryz.Builder_Extra_241 B b n w hB hbk hBw hn
open Go.RowKit in
theorem Tryz.Builder_Len_f (B b : Nat) (bs : List Value) (w : World) (h : Lib.IsBuilderF 71 5 B b bs w) :
    Calls Tryz.prog 102 #[.pointer (some ⟨b, 0, none⟩)] w fun e w' => e = .returned (.int .i64 bs.length) ∧ w' = w := Any.Builder_Len_f Tryz.lays170 B b bs w h
open Go.RowKit in
theorem Tryz.Builder_String_any_k (B b : Nat) (l : List UInt8) (w : World) (h : Lib.IsBuilderF 71 5 B b (Lib.byteCells l) w) (hBw : B ≤ w.heap.size) :
    Calls Tryz.prog 33 #[.pointer (some ⟨b, 0, none⟩)] w fun e w' => e = .returned (.string ⟨l.toArray⟩) ∧ (Lib.IsBuilderF 71 5 B b (Lib.byteCells l) w' ∧ Below B w w' ∧ Lib.OthersKept 5 (some b) w w') := Any.Builder_String_any_k Tryz.lays169 Tryz.Builder_Extra_169 B b l w h hBw
def Tryz.laysM171_ren : Go.Shelf.Ren := ⟨fun | 171 => 49 | 243 => 70 | 246 => 71 | 283 => 89 | 284 => 90 | 285 => 91 | 286 => 92 | 129 => 107 | 317 => 106 | 318 => 108 | 319 => 109 | 320 => 110 | 337 => 128 | 338 => 129 | n => n, fun | 3 => 3 | 9 => 9 | 2 => 2 | 4 => 4 | 171 => 153 | 0 => 0 | 53 => 154 | 37 => 63 | 5 => 5 | 173 => 157 | 212 => 173 | 51 => 174 | 20 => 20 | 213 => 175 | 46 => 116 | 232 => 205 | 233 => 206 | n => n, fun | 17 => 1 | 18 => 5 | 19 => 6 | n => n⟩
theorem Tryz.laysM171 : Go.Proofs.LaysM.n171 Tryz.prog Tryz.laysM171_ren := {
  mixed := by kernel_rfl
  f129 := Tryz.func107.trans (congrArg some (by kernel_rfl))
  f171 := Tryz.func49.trans (congrArg some (by kernel_rfl))
  f243 := Tryz.func70.trans (congrArg some (by kernel_rfl))
  f246 := Tryz.func71.trans (congrArg some (by kernel_rfl))
  f283 := Tryz.func89.trans (congrArg some (by kernel_rfl))
  f284 := Tryz.func90.trans (congrArg some (by kernel_rfl))
  f285 := Tryz.func91.trans (congrArg some (by kernel_rfl))
  f286 := Tryz.func92.trans (congrArg some (by kernel_rfl))
  f317 := Tryz.func106.trans (congrArg some (by kernel_rfl))
  f318 := Tryz.func108.trans (congrArg some (by kernel_rfl))
  f319 := Tryz.func109.trans (congrArg some (by kernel_rfl))
  f320 := Tryz.func110.trans (congrArg some (by kernel_rfl))
  f337 := Tryz.func128.trans (congrArg some (by kernel_rfl))
  f338 := Tryz.func129.trans (congrArg some (by kernel_rfl))
  t0 := Tryz.underlying0
  a0 := Tryz.isAgg0
  z0 := Tryz.sizeOf0
  v0 := Tryz.zeroValue0
  t2 := Tryz.underlying2
  a2 := Tryz.isAgg2
  z2 := Tryz.sizeOf2
  v2 := Tryz.zeroValue2
  t3 := Tryz.underlying3
  a3 := Tryz.isAgg3
  z3 := Tryz.sizeOf3
  v3 := Tryz.zeroValue3
  t4 := Tryz.underlying4
  a4 := Tryz.isAgg4
  z4 := Tryz.sizeOf4
  v4 := Tryz.zeroValue4
  t5 := Tryz.underlying5
  a5 := Tryz.isAgg5
  z5 := Tryz.sizeOf5
  v5 := Tryz.zeroValue5
  t9 := Tryz.underlying9
  a9 := Tryz.isAgg9
  z9 := Tryz.sizeOf9
  v9 := Tryz.zeroValue9
  t20 := Tryz.underlying20
  a20 := Tryz.isAgg20
  z20 := Tryz.sizeOf20
  v20 := Tryz.zeroValue20
  t37 := Tryz.underlying63
  a37 := Tryz.isAgg63
  z37 := Tryz.sizeOf63
  v37 := Tryz.zeroValue63
  t46 := Tryz.underlying116
  a46 := Tryz.isAgg116
  z46 := Tryz.sizeOf116
  v46 := Tryz.zeroValue116
  t51 := Tryz.underlying174
  a51 := Tryz.isAgg174
  z51 := Tryz.sizeOf174
  v51 := Tryz.zeroValue174
  t53 := Tryz.underlying154
  a53 := Tryz.isAgg154
  z53 := Tryz.sizeOf154
  v53 := Tryz.zeroValue154
  t171 := Tryz.underlying153
  a171 := Tryz.isAgg153
  z171 := Tryz.sizeOf153
  v171 := Tryz.zeroValue153
  t173 := Tryz.underlying157
  a173 := Tryz.isAgg157
  z173 := Tryz.sizeOf157
  v173 := Tryz.zeroValue157
  t212 := Tryz.underlying173
  a212 := Tryz.isAgg173
  z212 := Tryz.sizeOf173
  v212 := Tryz.zeroValue173
  t213 := Tryz.underlying175
  a213 := Tryz.isAgg175
  z213 := Tryz.sizeOf175
  t232 := Tryz.underlying205
  a232 := Tryz.isAgg205
  z232 := Tryz.sizeOf205
  v232 := Tryz.zeroValue205
  t233 := Tryz.underlying206
  a233 := Tryz.isAgg206
  z233 := Tryz.sizeOf206
  v233 := Tryz.zeroValue206
  g17 := by kernel_rfl
  g18 := by kernel_rfl
  g19 := by kernel_rfl
  i0 := by kernel_rfl
  i2 := by kernel_rfl
  i3 := by kernel_rfl
  i4 := by kernel_rfl
  i5 := by kernel_rfl
  i9 := by kernel_rfl
  i20 := by kernel_rfl
  i37 := by kernel_rfl
  i46 := by kernel_rfl
  i51 := by kernel_rfl
  i53 := by kernel_rfl
  i171 := by kernel_rfl
  i173 := by kernel_rfl
  i212 := by kernel_rfl
  i232 := by kernel_rfl
  i233 := by kernel_rfl
  m17 := by kernel_rfl
  m18 := by kernel_rfl
  m19 := by kernel_rfl }
open Go.RowKit Go.Sort Go.Lib in
theorem Tryz.strconv_Itoa (n : Int) (h0 : -9223372036854775808 ≤ n) (h1 : n ≤ 9223372036854775807) (w : World) (htab : Lib.TabIs Tryz.prog w "internal/strconv.uint64pow10" .u64 Lib.pow10Tab) :
    Calls Tryz.prog 49 #[.int .i64 n] w fun e w' => e = .returned (.string ⟨(Lib.itoa n).toArray⟩) ∧ ∃ k os, w' = grow (w.drewN k) os := Any.strconv_Itoa Tryz.laysM171 n h0 h1 w htab
end Go.Proofs

namespace Go.Proofs.YtcnhhhfedakepaaGreatDoor
open Go.RowKit Go.Maps Go.WideMaps
set_option linter.unusedVariables false

set_option maxRecDepth 100000 in
set_option maxHeartbeats 3200000 in
/-- Grow at a new builder. -/
theorem grow_new (B b n : Nat) (w : World) (hB : B ≤ b) (hbk : w.heap[b]? = some (.cells #[.pointer none, .slice none 0 0] 71 (0, 0))) (hBw : B ≤ w.heap.size) (hn : n ≤ 281474976710656) (h0 : 0 < n) :
    Calls Tryz.prog 73 #[.pointer (some ⟨b, 0, none⟩), .int .i64 n] w fun e w' => e = .returned (.tuple #[]) ∧ BuA B b [] w' ∧ Below B w w' := by
  have hbk1 : (w.setCell ⟨b, 0, none⟩ (.pointer (some ⟨b, 0, none⟩))).heap[b]? = some (.cells #[.pointer (some ⟨b, 0, none⟩), .slice none 0 0] 71 (0, 0)) := heap_setCell_same _ b 0 _ _ _ hbk
  have hb1 : Below B w (w.setCell ⟨b, 0, none⟩ (.pointer (some ⟨b, 0, none⟩))) := (Below.refl B w).setCell (p := ⟨b, 0, none⟩) hB _
  have kc := copyCheck_fresh b w (by rw [Lib.cell_of_heap hbk]; rfl) (by simp [World.shape?, hbk]) (Lib.frozen_of_heap hbk 0)
  have hn0 : ¬ (n : Int) < 0 := by omega
  have hn1 : (0 : Int) < (n : Int) := by omega
  go_enter Tryz.func73, Tryz.ntmps73
  go_wp2_with (go_at_call 48; refine kc.mono ?_; rintro e w1 ⟨rfl, rfl⟩)
  generalize w.setCell ⟨b, 0, none⟩ (.pointer (some ⟨b, 0, none⟩)) = W1 at hbk1 hb1 ⊢
  have c1 : W1.cell? ⟨b, 1, none⟩ = some (.slice none 0 0) := by rw [Lib.cell_of_heap hbk1]; rfl
  have hs1 := hb1.size
  clear kc
  go_region_held3 (fun w' => w'.cell? ⟨b, 1, none⟩ = some (.slice none 0 0)) (first | go_keep | exact c1) (fail)
  have kg := Tryz.Builder_grow_fresh B b n W1.drew hB hbk1 (by simpa using (show B ≤ W1.heap.size by omega)) hn
  go_wp2_with (go_at_call 93; refine kg.mono ?_; rintro e w2 ⟨rfl, h2, hb2⟩)
  all_goals first
    | (rename_i hx; rw [IntKind.wrap_i64] at hx; omega)
    | skip
  go_end0
  exact ⟨rfl, Lib.BuilderAtF.of h2, (⟨hb1.os, hb1.tape, hb1.output, hb1.size, hb1.block⟩ : Below B w W1.drew).trans hb2⟩
/-- A builder that holds the text T. -/
def Bu (B b : Nat) (T : ByteArray) (w : World) : Prop := BuF B b (Lib.strCells T) w
theorem strCells_app (a b : ByteArray) : Lib.strCells (a ++ b) = Lib.strCells a ++ Lib.strCells b := by
  unfold Lib.strCells
  rw [ByteArray.data_append, Array.toList_append, List.map_append]
theorem write_any (B b : Nat) (T s : ByteArray) (w : World) (h : Bu B b T w) (hlen : T.size + s.size ≤ 140737488355328) (hBw : B ≤ w.heap.size) :
    Calls Tryz.prog 31 #[.pointer (some ⟨b, 0, none⟩), .string s] w fun e w' => e = .returned (.tuple #[.int .i64 s.size, .nilIface]) ∧ Bu B b (T ++ s) w' ∧ Below B w w' := by
  refine (writeString_any B b _ s w h (by rw [Lib.strCells_length]; exact hlen) hBw).mono ?_
  rintro e w' ⟨rfl, h1, h2⟩
  exact ⟨rfl, .inr (by rw [strCells_app]; exact h1), h2⟩
theorem string_any (B b : Nat) (T : ByteArray) (w : World) (h : Bu B b T w) (hBw : B ≤ w.heap.size) :
    Calls Tryz.prog 33 #[.pointer (some ⟨b, 0, none⟩)] w fun e w' => e = .returned (.string T) ∧ Bu B b T w' ∧ Below B w w' := by
  refine (Tryz.Builder_String_any_k B b T.data.toList w h hBw).mono ?_
  rintro e w' ⟨rfl, h1, h2, _⟩
  exact ⟨rfl, h1, h2⟩
theorem new_bu (B : Nat) (w : World) (hB : B ≤ w.heap.size) : Bu B w.heap.size ⟨#[]⟩ (w.alloc (.cells #[.pointer none, .slice none 0 0] 71)) :=
  .inl ⟨hB, .slice none 0 0, heap_alloc_new w _, World.ownsRowF_of (World.ownsRow_nil _ _ _ _), by simp [Value.ownBlock]⟩
theorem Bu.lt {B b : Nat} {T : ByteArray} {w : World} (h : Bu B b T w) : b < w.heap.size := by
  rcases h with ⟨_, v, h, _⟩ | ⟨_, v, h, _⟩
  · exact lt_of_block h
  · exact lt_of_block h
end Go.Proofs.YtcnhhhfedakepaaGreatDoor
