import Derived.Test.YtcnhhhfedakepaaGreatDoorMM24
import Derived.DataElems
import Derived.Shelf.Strings.Builder1
import Derived.Shelf.Strings.Builder2
import Derived.Shelf.Strings.OnBuilder
import Derived.Shelf.Small.Wraps
import Derived.Shelf.Strings.BuilderF
import Derived.Shelf.Strings.BuilderK
import Derived.Shelf.Strconv.Itoa0
import Derived.Shelf.Strconv.Itoa1
import Derived.Shelf.LaysM
import Derived.Shelf.Strconv.Itoa2
import Derived.Shelf.Strconv.Itoa3
import Derived.Shelf.Strconv.Itoa4
import Derived.Shelf.Strconv.ParseIntEmpty
import Derived.Shelf.Strconv.Clone
import Derived.Shelf.Strconv.SyntaxError
import Derived.Shelf.LaysC
import Derived.Shelf.Strconv.ToError
import Derived.Shelf.Strconv.Lower
import Derived.Shelf.Strconv.ParseUint10
import Derived.Shelf.Strconv.ParseUint10Empty
import Derived.Shelf.Strconv.ParseUint10Any
import Derived.Shelf.Strconv.ParseInt10
import Derived.Shelf.Strconv.RangeError
import Derived.Shelf.Strconv.ToErrorRange
import Derived.Shelf.Strconv.ParseUintEmpty
import Derived.Shelf.Strconv.ParseUint10b64
import Derived.Shelf.Strconv.ParseUint10b32
import Derived.Shelf.Strconv.ParseUint10b16
import Derived.Shelf.Strconv.ParseUint10b8
import Derived.Shelf.Strconv.ParseUint10At
import Derived.Shelf.Strconv.ParseInt10At64
import Derived.Shelf.Strconv.ParseInt10At32
import Derived.Shelf.Strconv.ParseInt10At16
import Derived.Shelf.Strconv.ParseInt10At8
import Derived.Shelf.Strconv.ParseInt10All
import Derived.Shelf.Strconv.ParseIntPublic10
import Derived.Shelf.Strconv.ErrVarParseInt
import Derived.Ground.MpProg
import Derived.Shelf.Pu.ParseUintPublic10
import Derived.Shelf.Pu.ErrVarParseUint
import Derived.Shelf.Strings.Prefix
import Derived.Shelf.Strings.Fields
import Derived.Shelf.Unicode.Latin
import Derived.Shelf.Bits.Mul64
import Derived.Shelf.Strings.Repeat
import Derived.Shelf.Unicode.Is16White
import Derived.Shelf.Unicode.IsSpaceAny
import Derived.Shelf.Unicode.Is16Any
import Derived.Shelf.Unicode.Is32Any
import Derived.Shelf.Unicode.ExclAny
import Derived.Shelf.Slices.Equal
import Derived.Shelf.Slices.Empties2
import Derived.Test.YtcnhhhfedakepaaGreatDoorProg
import Derived.Test.YtcnhhhfedakepaaGreatDoorMM03
import Derived.Test.YtcnhhhfedakepaaGreatDoorMM11
import Derived.Lib.Repeat
import Derived.Sort.LoopGhostIn
namespace Go.Proofs.YtcnhhhfedakepaaGreatDoor
open Go.RowKit
set_option linter.unusedVariables false

theorem kmatch_next {i f : Nat} {ws : List (Nat × Nat)} {ks : List Int} {R : Bool} (h : KmIs ((i, f) :: ws) ks R) (hn : ¬ (tkN i f ks = 0 ∧ f = 0)) : KmIs ws (ks.drop (tkN i f ks)) R := by
  have := h.out
  rw [kmatch, if_neg hn] at this
  exact ⟨this⟩
theorem kmatch_stop {i f : Nat} {ws : List (Nat × Nat)} {ks : List Int} {R : Bool} (h : KmIs ((i, f) :: ws) ks R) (hn : tkN i f ks = 0 ∧ f = 0) : R = false := by
  have := h.out
  rw [kmatch, if_pos hn] at this
  exact this.symm
theorem drop_cons {α : Type} {L : List α} {k : Nat} {x : α} (h : L[k]? = some x) : L.drop k = x :: L.drop (k + 1) := by
  have hk := (List.getElem?_eq_some_iff.1 h)
  rw [List.drop_eq_getElem_cons hk.1, hk.2]

theorem KidsAt.sl {W : World} {a : Option Addr} {L c t : Nat} {ks : List Int} (h : KidsAt W (.slice a L c) ks) (hL : ks.length = L) (ht : t ≤ L) : KidsAt W (.slice (if c = t then a else Option.map (fun x => x.add t) a) (L - t) (c - t)) (ks.drop t) := by
  subst hL
  rcases h with ⟨rfl, a', c', e⟩ | ⟨a', c', e, hc, hall⟩
  · exact .inl ⟨by simp, _, _, by rw [show ([] : List Int).length - t = 0 by simp]⟩
  · cases e
    by_cases hcl : t = ks.length
    · exact .inl ⟨by rw [List.drop_of_length_le (by omega)], _, _, by rw [show ks.length - t = 0 by omega]⟩
    · refine .inr ⟨a'.add t, c - t, ?_, by rw [List.length_drop]; omega, fun j k hk => ?_⟩
      · rw [if_neg (by omega), List.length_drop]; rfl
      · rw [List.getElem?_drop] at hk
        rw [Addr.add_add]
        exact hall (t + j) k hk

set_option maxRecDepth 100000 in
set_option maxHeartbeats 12800000 in
theorem kidsMatch_any (w : World) (row : ByteArray) (ws : List (Nat × Nat)) (v : Value) (ks : List Int) (hrow : Lib.fields row.data.toList = ws.map fun x => wordL x.1 x.2) (hws : ∀ x ∈ ws, x.1 < 10 ∧ x.2 < 3) (hsz : row.size < 4294967281) (hascii : ∀ (j : Nat) b, row.data.toList[j]? = some b → b.toNat < 128) (htab : Lib.TabIs Tryz.prog w "strings.asciiSpace" .u8 Lib.asciiSpaceTab) (hk : KidsAt w v ks) (hl : ks.length ≤ 1048576) (hwl : ws.length ≤ 1048576) :
    Calls Tryz.prog 86 #[.string row, v] w fun e w' => e = .returned (.bool (kmatch ws ks)) ∧ Below w.heap.size w w' := by
  have kf := Tryz.strings_Fields row w hsz hascii htab
  rw [hrow] at kf
  obtain ⟨R, hR⟩ : ∃ R, kmatch ws ks = R := ⟨_, rfl⟩
  rw [hR]
  have HR : KmIs ws ks R := ⟨hR⟩
  have hB : Below w.heap.size w (w.alloc (.cells ((ws.map fun x => wordL x.1 x.2).map fun l => Value.string ⟨l.toArray⟩).toArray 9)) := (Below.refl _ w).alloc (Nat.le_refl _) _
  have hK1 := hk.below hB
  have hC : ∀ m i f, ws[m]? = some (i, f) → (w.alloc (.cells ((ws.map fun x => wordL x.1 x.2).map fun l => Value.string ⟨l.toArray⟩).toArray 9)).cell? ⟨w.heap.size, m, none⟩ = some (.string (wS i f)) := fun m i f hm => by
    rw [cell_of_row _ _ _ _ _ _ (heap_alloc_new w _)]
    simp [hm, wS]
  obtain ⟨n, hn⟩ : ∃ n, ws.length = n := ⟨_, rfl⟩
  have HN : Hid (ws.length = n) := hn
  have HW : Hid (∀ x ∈ ws, x.1 < 10 ∧ x.2 < 3) := hws
  have hlen : (ws.map fun x => wordL x.1 x.2).length = n := by rw [List.length_map, hn]
  rw [hlen] at kf
  rw [hn] at hwl
  obtain ⟨a0, c0, rfl⟩ := hk.form
  have HL : Hid (ks.length ≤ 1048576) := hl
  clear hR hrow hws hsz hascii htab hk hn hlen hl
  generalize w.alloc (.cells ((ws.map fun x => wordL x.1 x.2).map fun l => Value.string ⟨l.toArray⟩).toArray 9) = W1 at kf hB hK1 hC
  have HC : Hid (∀ m i f, ws[m]? = some (i, f) → W1.cell? ⟨w.heap.size, m, none⟩ = some (.string (wS i f))) := hC
  have HK1 : Hid (KidsAt W1 (.slice a0 ks.length c0) ks) := hK1
  clear hC hK1
  generalize hlk : ks.length = lk at HK1 ⊢
  go_enter Tryz.func86, Tryz.ntmps86
  go_wp2_with (go_at_call 103; fail)
  refine kf.mono ?_
  rintro e w2 ⟨rfl, rfl⟩
  clear kf
  go_wp2_with fail
  go_loop [1, 14] (fun v1 vi => ∃ (m : Nat) (ks' : List Int), m ≤ n ∧ vi = .int .i64 m ∧ Hid (KidsAt w2 v1 ks' ∧ ks'.length ≤ 1048576) ∧ KmIs (ws.drop m) ks' R) (fun _ vi => n - (intOf vi).toNat)
  case atStart => exact ⟨0, ks, Nat.zero_le _, rfl, ⟨HK1.out, HL.out⟩, HR⟩
  case round =>
    obtain ⟨m, ks', hm, rfl, HK, HM⟩ := hrel
    clear HR HK1
    obtain ⟨a1, c1, rfl⟩ := HK.out.1.form
    by_cases hlt : m < n
    · have hki : (m : Int) < (n : Int) := by omega
      have hk0 : (0 : Int) ≤ (m : Int) := by omega
      obtain ⟨⟨i, f⟩, hwm⟩ := some_at HN.out hlt
      obtain ⟨hi, hf⟩ := HW.out _ (List.mem_of_getElem? hwm)
      simp only at hi hf
      have hcm := HC.out m i f hwm
      have HMM : Hid (KmIs ((i, f) :: ws.drop (m + 1)) ks' R) := by rw [drop_cons hwm] at HM; exact HM
      have kA := fun w => cutA i f hi hf w
      have kB := fun w => cutB i f hi hf w
      have kM := fun k w => mayStand_any i hi k w
      obtain ⟨L, hL⟩ : ∃ L, ks'.length = L := ⟨_, rfl⟩
      have HLL : Hid (ks'.length = L) := hL
      have hL2 := HK.out.2
      rw [hL] at hL2
      have HKK : Hid (KidsAt w2 (.slice a1 L c1) ks') := by rw [← hL]; exact HK.out.1
      rw [hL]
      have htle := tkN_le i f ks'
      have htat := tkN_at i f ks'
      obtain ⟨T, hT⟩ : ∃ T, tkN i f ks' = T := ⟨_, rfl⟩
      rw [hT] at htle htat
      rw [hL] at htle
      have HT : Hid (tkN i f ks' = T) := hT
      have HTA : Hid (∀ t, t ≤ T → (t < T ↔ (f = 1 ∨ t = 0) ∧ ∃ k, ks'[t]? = some k ∧ ms i k = true)) := htat
      clear hwm HM HK hL hT htat
      generalize wS i f = S0 at hcm kA
      generalize wS1 i f = S1 at kA kB
      generalize wB i = S2 at kB kM
      rcases (show f = 0 ∨ f = 1 ∨ f = 2 by omega) with rfl | rfl | rfl
      · go_wp2_with (go_at_call 104; fail)
        refine (kA _).mono ?_
        rintro e w3 ⟨rfl, rfl⟩
        go_wp2_with (go_at_call 104; fail)
        refine (kB _).mono ?_
        rintro e w3 ⟨rfl, rfl⟩
        clear kA kB hcm
        go_wp2_with fail
        go_loop [10] (fun vt => ∃ t : Nat, vt = .int .i64 t ∧ t ≤ T) (fun vt => T - (intOf vt).toNat)
        case atStart => exact ⟨0, rfl, Nat.zero_le _⟩
        case round =>
          obtain ⟨t, rfl, ht⟩ := hrel
          have hta := HTA.out t ht
          have ht0 : (0 : Int) ≤ (t : Int) := by omega
          by_cases hgo : t < T
          · obtain ⟨hft, k, hkt, hmk⟩ := hta.1 hgo
            obtain ⟨a', b, rfl, e1, e2⟩ := HKK.out.get hkt
            have htl : (t : Int) < (L : Int) := by omega
            obtain rfl : t = 0 := by rcases hft with h | h; exact absurd h (by decide); exact h
            rw [show a'.add 0 = a' from by unfold Addr.add; rw [if_pos rfl]] at e1
            have kM2 := fun w => kM k w
            rw [hmk] at kM2
            have hmt := fun w => methK k b w
            have kh := fun w => head_any b w
            unfold nodeV at e1
            generalize ptT (cls k) = tp at e1 hmt
            clear hkt hmk kM hta
            go_wp2_with (first | (go_at_call 105; refine (kM2 _).mono ?_; rintro e w3 ⟨rfl, rfl⟩) | (go_at_call 172; refine (kh _).mono ?_; rintro e w3 ⟨rfl, rfl⟩))
            go_round
            case rel => exact ⟨0 + 1, by go_num, by omega⟩
            case measure => simp [intOf]; omega
          · obtain rfl : t = T := by omega
            by_cases h0 : t = 0
            · subst h0
              by_cases htl : 0 < L
              · have htli : (0 : Int) < (L : Int) := by omega
                obtain ⟨k, hkt⟩ := some_at HLL.out htl
                have hmk : ms i k = false := by
                  cases h : ms i k
                  · rfl
                  · exact absurd (hta.2 ⟨.inr rfl, k, hkt, h⟩) (by omega)
                obtain ⟨a', b, e0, e1, e2⟩ := HKK.out.get hkt
                subst e0
                rw [show a'.add 0 = a' from by unfold Addr.add; rw [if_pos rfl]] at e1
                have kM2 := fun w => kM k w
                rw [hmk] at kM2
                have hmt := fun w => methK k b w
                have kh := fun w => head_any b w
                unfold nodeV at e1
                generalize ptT (cls k) = tp at e1 hmt
                clear hkt hmk kM hta
                go_wp2_with (first | (go_at_call 105; refine (kM2 _).mono ?_; rintro e w4 ⟨rfl, rfl⟩) | (go_at_call 172; refine (kh _).mono ?_; rintro e w4 ⟨rfl, rfl⟩))
                go_ret
                exact ⟨by rw [kmatch_stop HMM.out ⟨HT.out, rfl⟩]; rfl, hB⟩
              · have htli : ¬ (0 : Int) < (L : Int) := by omega
                clear hta kM
                go_wp2_with fail
                go_ret
                exact ⟨by rw [kmatch_stop HMM.out ⟨HT.out, rfl⟩]; rfl, hB⟩
            · have HNX : Hid (KmIs (ws.drop (m + 1)) (ks'.drop t) R) := by
                have h := kmatch_next HMM.out (by rw [HT.out]; omega)
                rw [HT.out] at h
                exact h
              have HKD : Hid (KidsAt w3 (.slice (if c1 = t then a1 else Option.map (fun x => x.add t) a1) (L - t) (c1 - t)) (ks'.drop t) ∧ (ks'.drop t).length ≤ 1048576) := ⟨HKK.out.sl HLL.out (by omega), by rw [List.length_drop, HLL.out]; omega⟩
              have hti0 : ¬ (t : Int) = 0 := by omega
              by_cases htl : t < L
              · have htli : (t : Int) < (L : Int) := by omega
                clear hta kM
                go_wp2_with fail
                exact ⟨⟨m + 1, ks'.drop t, by omega, by go_num, HKD.out, HNX.out⟩, by simp [intOf]; omega⟩
              · have htli : ¬ (t : Int) < (L : Int) := by omega
                clear hta kM
                go_wp2_with fail
                exact ⟨⟨m + 1, ks'.drop t, by omega, by go_num, HKD.out, HNX.out⟩, by simp [intOf]; omega⟩
      · go_wp2_with (go_at_call 104; fail)
        refine (kA _).mono ?_
        rintro e w3 ⟨rfl, rfl⟩
        go_wp2_with (go_at_call 104; fail)
        refine (kB _).mono ?_
        rintro e w3 ⟨rfl, rfl⟩
        clear kA kB hcm
        go_wp2_with fail
        go_loop [10] (fun vt => ∃ t : Nat, vt = .int .i64 t ∧ t ≤ T) (fun vt => T - (intOf vt).toNat)
        case atStart => exact ⟨0, rfl, Nat.zero_le _⟩
        case round =>
          obtain ⟨t, rfl, ht⟩ := hrel
          have hta := HTA.out t ht
          have ht0 : (0 : Int) ≤ (t : Int) := by omega
          by_cases hgo : t < T
          · obtain ⟨hft, k, hkt, hmk⟩ := hta.1 hgo
            obtain ⟨a', b, rfl, e1, e2⟩ := HKK.out.get hkt
            have htl : (t : Int) < (L : Int) := by omega
            have kM2 := fun w => kM k w
            rw [hmk] at kM2
            have hmt := fun w => methK k b w
            have kh := fun w => head_any b w
            unfold nodeV at e1
            generalize ptT (cls k) = tp at e1 hmt
            clear hkt hmk kM hta
            go_wp2_with (first | (go_at_call 105; refine (kM2 _).mono ?_; rintro e w3 ⟨rfl, rfl⟩) | (go_at_call 172; refine (kh _).mono ?_; rintro e w3 ⟨rfl, rfl⟩))
            go_round
            case rel => exact ⟨t + 1, by go_num, by omega⟩
            case measure => simp [intOf]; omega
          · obtain rfl : t = T := by omega
            by_cases h0 : t = 0
            · subst h0
              have HNX : Hid (KmIs (ws.drop (m + 1)) ks' R) := by
                have h := kmatch_next HMM.out (by rw [HT.out]; omega)
                rw [HT.out, List.drop_zero] at h
                exact h
              have HKD : Hid (KidsAt w3 (.slice a1 L c1) ks' ∧ ks'.length ≤ 1048576) := ⟨HKK.out, by rw [HLL.out]; exact hL2⟩
              by_cases htl : 0 < L
              · have htli : (0 : Int) < (L : Int) := by omega
                obtain ⟨k, hkt⟩ := some_at HLL.out htl
                have hmk : ms i k = false := by
                  cases h : ms i k
                  · rfl
                  · exact absurd (hta.2 ⟨.inl (by first | rfl | trivial), k, hkt, h⟩) (by omega)
                obtain ⟨a', b, e0, e1, e2⟩ := HKK.out.get hkt
                subst e0
                rw [show a'.add 0 = a' from by unfold Addr.add; rw [if_pos rfl]] at e1
                have kM2 := fun w => kM k w
                rw [hmk] at kM2
                have hmt := fun w => methK k b w
                have kh := fun w => head_any b w
                unfold nodeV at e1
                generalize ptT (cls k) = tp at e1 hmt
                clear hkt hmk kM hta
                go_wp2_with (first | (go_at_call 105; refine (kM2 _).mono ?_; rintro e w4 ⟨rfl, rfl⟩) | (go_at_call 172; refine (kh _).mono ?_; rintro e w4 ⟨rfl, rfl⟩))
                exact ⟨⟨m + 1, ks', by omega, by go_num, HKD.out, HNX.out⟩, by simp [intOf]; omega⟩
              · have htli : ¬ (0 : Int) < (L : Int) := by omega
                clear hta kM
                go_wp2_with fail
                exact ⟨⟨m + 1, ks', by omega, by go_num, HKD.out, HNX.out⟩, by simp [intOf]; omega⟩
            · have HNX : Hid (KmIs (ws.drop (m + 1)) (ks'.drop t) R) := by
                have h := kmatch_next HMM.out (by rw [HT.out]; omega)
                rw [HT.out] at h
                exact h
              have HKD : Hid (KidsAt w3 (.slice (if c1 = t then a1 else Option.map (fun x => x.add t) a1) (L - t) (c1 - t)) (ks'.drop t) ∧ (ks'.drop t).length ≤ 1048576) := ⟨HKK.out.sl HLL.out (by omega), by rw [List.length_drop, HLL.out]; omega⟩
              have hti0 : ¬ (t : Int) = 0 := by omega
              by_cases htl : t < L
              · have htli : (t : Int) < (L : Int) := by omega
                obtain ⟨k, hkt⟩ := some_at HLL.out htl
                have hmk : ms i k = false := by
                  cases h : ms i k
                  · rfl
                  · exact absurd (hta.2 ⟨.inl (by first | rfl | trivial), k, hkt, h⟩) (by omega)
                obtain ⟨a', b, e0, e1, e2⟩ := HKK.out.get hkt
                subst e0
                have kM2 := fun w => kM k w
                rw [hmk] at kM2
                have hmt := fun w => methK k b w
                have kh := fun w => head_any b w
                unfold nodeV at e1
                generalize ptT (cls k) = tp at e1 hmt
                clear hkt hmk kM hta
                go_wp2_with (first | (go_at_call 105; refine (kM2 _).mono ?_; rintro e w4 ⟨rfl, rfl⟩) | (go_at_call 172; refine (kh _).mono ?_; rintro e w4 ⟨rfl, rfl⟩))
                exact ⟨⟨m + 1, ks'.drop t, by omega, by go_num, HKD.out, HNX.out⟩, by simp [intOf]; omega⟩
              · have htli : ¬ (t : Int) < (L : Int) := by omega
                clear hta kM
                go_wp2_with fail
                exact ⟨⟨m + 1, ks'.drop t, by omega, by go_num, HKD.out, HNX.out⟩, by simp [intOf]; omega⟩
      · go_wp2_with (go_at_call 104; fail)
        refine (kA _).mono ?_
        rintro e w3 ⟨rfl, rfl⟩
        go_wp2_with (go_at_call 104; fail)
        refine (kB _).mono ?_
        rintro e w3 ⟨rfl, rfl⟩
        clear kA kB hcm
        go_wp2_with fail
        go_loop [10] (fun vt => ∃ t : Nat, vt = .int .i64 t ∧ t ≤ T) (fun vt => T - (intOf vt).toNat)
        case atStart => exact ⟨0, rfl, Nat.zero_le _⟩
        case round =>
          obtain ⟨t, rfl, ht⟩ := hrel
          have hta := HTA.out t ht
          have ht0 : (0 : Int) ≤ (t : Int) := by omega
          by_cases hgo : t < T
          · obtain ⟨hft, k, hkt, hmk⟩ := hta.1 hgo
            obtain ⟨a', b, rfl, e1, e2⟩ := HKK.out.get hkt
            have htl : (t : Int) < (L : Int) := by omega
            obtain rfl : t = 0 := by rcases hft with h | h; exact absurd h (by decide); exact h
            rw [show a'.add 0 = a' from by unfold Addr.add; rw [if_pos rfl]] at e1
            have kM2 := fun w => kM k w
            rw [hmk] at kM2
            have hmt := fun w => methK k b w
            have kh := fun w => head_any b w
            unfold nodeV at e1
            generalize ptT (cls k) = tp at e1 hmt
            clear hkt hmk kM hta
            go_wp2_with (first | (go_at_call 105; refine (kM2 _).mono ?_; rintro e w3 ⟨rfl, rfl⟩) | (go_at_call 172; refine (kh _).mono ?_; rintro e w3 ⟨rfl, rfl⟩))
            go_round
            case rel => exact ⟨0 + 1, by go_num, by omega⟩
            case measure => simp [intOf]; omega
          · obtain rfl : t = T := by omega
            by_cases h0 : t = 0
            · subst h0
              have HNX : Hid (KmIs (ws.drop (m + 1)) ks' R) := by
                have h := kmatch_next HMM.out (by rw [HT.out]; omega)
                rw [HT.out, List.drop_zero] at h
                exact h
              have HKD : Hid (KidsAt w3 (.slice a1 L c1) ks' ∧ ks'.length ≤ 1048576) := ⟨HKK.out, by rw [HLL.out]; exact hL2⟩
              by_cases htl : 0 < L
              · have htli : (0 : Int) < (L : Int) := by omega
                obtain ⟨k, hkt⟩ := some_at HLL.out htl
                have hmk : ms i k = false := by
                  cases h : ms i k
                  · rfl
                  · exact absurd (hta.2 ⟨.inr rfl, k, hkt, h⟩) (by omega)
                obtain ⟨a', b, e0, e1, e2⟩ := HKK.out.get hkt
                subst e0
                rw [show a'.add 0 = a' from by unfold Addr.add; rw [if_pos rfl]] at e1
                have kM2 := fun w => kM k w
                rw [hmk] at kM2
                have hmt := fun w => methK k b w
                have kh := fun w => head_any b w
                unfold nodeV at e1
                generalize ptT (cls k) = tp at e1 hmt
                clear hkt hmk kM hta
                go_wp2_with (first | (go_at_call 105; refine (kM2 _).mono ?_; rintro e w4 ⟨rfl, rfl⟩) | (go_at_call 172; refine (kh _).mono ?_; rintro e w4 ⟨rfl, rfl⟩))
                exact ⟨⟨m + 1, ks', by omega, by go_num, HKD.out, HNX.out⟩, by simp [intOf]; omega⟩
              · have htli : ¬ (0 : Int) < (L : Int) := by omega
                clear hta kM
                go_wp2_with fail
                exact ⟨⟨m + 1, ks', by omega, by go_num, HKD.out, HNX.out⟩, by simp [intOf]; omega⟩
            · have HNX : Hid (KmIs (ws.drop (m + 1)) (ks'.drop t) R) := by
                have h := kmatch_next HMM.out (by rw [HT.out]; omega)
                rw [HT.out] at h
                exact h
              have HKD : Hid (KidsAt w3 (.slice (if c1 = t then a1 else Option.map (fun x => x.add t) a1) (L - t) (c1 - t)) (ks'.drop t) ∧ (ks'.drop t).length ≤ 1048576) := ⟨HKK.out.sl HLL.out (by omega), by rw [List.length_drop, HLL.out]; omega⟩
              have hti0 : ¬ (t : Int) = 0 := by omega
              by_cases htl : t < L
              · have htli : (t : Int) < (L : Int) := by omega
                clear hta kM
                go_wp2_with fail
                exact ⟨⟨m + 1, ks'.drop t, by omega, by go_num, HKD.out, HNX.out⟩, by simp [intOf]; omega⟩
              · have htli : ¬ (t : Int) < (L : Int) := by omega
                clear hta kM
                go_wp2_with fail
                exact ⟨⟨m + 1, ks'.drop t, by omega, by go_num, HKD.out, HNX.out⟩, by simp [intOf]; omega⟩
    · obtain rfl : m = n := by omega
      have hfin := HM.out
      rw [List.drop_of_length_le (by rw [HN.out]; exact Nat.le_refl _), kmatch] at hfin
      have hlz : ((ks'.length : Int) == 0) = R := by
        rw [← hfin]
        cases ks' with
        | nil => rfl
        | cons x r => simp; omega
      have HZ : Hid (((ks'.length : Int) == 0) = R) := hlz
      clear hlz hfin HM
      generalize ks'.length = L at HZ ⊢
      go_wp2_with fail
      go_ret
      exact ⟨by rw [← HZ.out]; rfl, hB⟩
end Go.Proofs.YtcnhhhfedakepaaGreatDoor

namespace Go.Proofs.YtcnhhhfedakepaaGreatDoor
open Go.RowKit
set_option linter.unusedVariables false

/-- The row of kids of a Kind: its text, its words. -/
def rowB : Int → ByteArray
  | 1 => { data := #[115, 116, 97, 116, 42] }
  | 2 => { data := #[101, 120, 112, 114, 42] }
  | 3 => { data := #[101, 120, 112, 114] }
  | 4 => { data := #[102, 110] }
  | 6 => { data := #[99, 97, 108, 108] }
  | 7 => { data := #[101, 120, 112, 114, 32, 98, 108, 111, 99, 107, 32, 101, 108, 115, 101, 63] }
  | 8 => { data := #[101, 120, 112, 114, 32, 98, 108, 111, 99, 107] }
  | 9 => { data := #[101, 120, 112, 114, 32, 101, 120, 112, 114, 32, 101, 120, 112, 114, 63, 32, 98, 108, 111, 99, 107] }
  | 10 => { data := #[101, 120, 112, 114, 32, 98, 108, 111, 99, 107] }
  | 11 => { data := #[] }
  | 12 => { data := #[] }
  | 13 => { data := #[101, 120, 112, 114, 42] }
  | 14 => { data := #[98, 108, 111, 99, 107, 32, 98, 108, 111, 99, 107] }
  | 15 => { data := #[101, 120, 112, 114] }
  | 16 => { data := #[99, 97, 108, 108] }
  | 20 => { data := #[] }
  | 21 => { data := #[] }
  | 22 => { data := #[] }
  | 23 => { data := #[] }
  | 24 => { data := #[] }
  | 25 => { data := #[] }
  | 26 => { data := #[] }
  | 27 => { data := #[] }
  | 28 => { data := #[101, 120, 112, 114, 32, 101, 120, 112, 114] }
  | 29 => { data := #[101, 120, 112, 114, 32, 101, 120, 112, 114] }
  | 30 => { data := #[101, 120, 112, 114] }
  | 31 => { data := #[101, 120, 112, 114, 32, 101, 120, 112, 114] }
  | 32 => { data := #[98, 97, 115, 101, 32, 101, 120, 112, 114] }
  | 33 => { data := #[98, 97, 115, 101] }
  | 34 => { data := #[98, 97, 115, 101, 32, 101, 120, 112, 114, 42] }
  | 35 => { data := #[101, 110, 116, 114, 121, 42] }
  | 36 => { data := #[98, 108, 111, 99, 107] }
  | 37 => { data := #[109, 97, 110, 121] }
  | 40 => { data := #[101, 120, 112, 114] }
  | 41 => { data := #[101, 120, 112, 114, 32, 101, 120, 112, 114] }
  | 42 => { data := #[101, 120, 112, 114] }
  | _ => { data := #[] }
def rowW : Int → Option (List (Nat × Nat))
  | 1 => some [(0, 1)]
  | 2 => some [(3, 1)]
  | 3 => some [(3, 0)]
  | 4 => some [(8, 0)]
  | 6 => some [(6, 0)]
  | 7 => some [(3, 0), (1, 0), (2, 2)]
  | 8 => some [(3, 0), (1, 0)]
  | 9 => some [(3, 0), (3, 0), (3, 2), (1, 0)]
  | 10 => some [(3, 0), (1, 0)]
  | 11 => some []
  | 12 => some []
  | 13 => some [(3, 1)]
  | 14 => some [(1, 0), (1, 0)]
  | 15 => some [(3, 0)]
  | 16 => some [(6, 0)]
  | 20 => some []
  | 21 => some []
  | 22 => some []
  | 23 => some []
  | 24 => some []
  | 25 => some []
  | 26 => some []
  | 27 => some []
  | 28 => some [(3, 0), (3, 0)]
  | 29 => some [(3, 0), (3, 0)]
  | 30 => some [(3, 0)]
  | 31 => some [(3, 0), (3, 0)]
  | 32 => some [(4, 0), (3, 0)]
  | 33 => some [(4, 0)]
  | 34 => some [(4, 0), (3, 1)]
  | 35 => some [(9, 1)]
  | 36 => some [(1, 0)]
  | 37 => some [(7, 0)]
  | 40 => some [(3, 0)]
  | 41 => some [(3, 0), (3, 0)]
  | 42 => some [(3, 0)]
  | _ => none
def knownL : List Int := [1, 2, 3, 4, 6, 7, 8, 9, 10, 11, 12, 13, 14, 15, 16, 20, 21, 22, 23, 24, 25, 26, 27, 28, 29, 30, 31, 32, 33, 34, 35, 36, 37, 40, 41, 42]
set_option maxHeartbeats 3200000 in
theorem rowW_no (k : Int) (h : k ∉ knownL) : rowW k = none ∧ rowB k = { data := #[] } := by
  simp only [knownL, List.mem_cons, List.not_mem_nil, or_false, not_or] at h
  obtain ⟨n1, n2, n3, n4, n6, n7, n8, n9, n10, n11, n12, n13, n14, n15, n16, n20, n21, n22, n23, n24, n25, n26, n27, n28, n29, n30, n31, n32, n33, n34, n35, n36, n37, n40, n41, n42⟩ := h
  constructor
  · unfold rowW; split <;> first | rfl | contradiction
  · unfold rowB; split <;> first | rfl | contradiction
theorem rowW_yes (k : Int) (h : k ∈ knownL) : ∃ ws, rowW k = some ws ∧ Lib.fields (rowB k).data.toList = ws.map (fun x => wordL x.1 x.2) ∧ (∀ x ∈ ws, x.1 < 10 ∧ x.2 < 3) ∧ (rowB k).size < 100 ∧ (∀ (j : Nat) b, (rowB k).data.toList[j]? = some b → b.toNat < 128) ∧ ws.length < 10 := by
  have hall : ∀ (l : List UInt8), (l.all fun b => decide (b.toNat < 128)) = true → ∀ (j : Nat) b, l[j]? = some b → b.toNat < 128 := fun l hl j b hb => by simpa using List.all_eq_true.1 hl b (List.mem_of_getElem? hb)
  simp only [knownL, List.mem_cons, List.not_mem_nil, or_false] at h
  rcases h with rfl | rfl | rfl | rfl | rfl | rfl | rfl | rfl | rfl | rfl | rfl | rfl | rfl | rfl | rfl | rfl | rfl | rfl | rfl | rfl | rfl | rfl | rfl | rfl | rfl | rfl | rfl | rfl | rfl | rfl | rfl | rfl | rfl | rfl | rfl | rfl
  all_goals exact ⟨_, rfl, rfl, by decide, by decide, hall _ (by decide), by decide⟩
set_option maxRecDepth 100000 in
set_option maxHeartbeats 6400000 in
theorem kidsRow0 (k : Int) (w : World) (h : k = 1 ∨ k = 2 ∨ k = 3 ∨ k = 4 ∨ k = 6 ∨ k = 7 ∨ k = 8 ∨ k = 9 ∨ k = 10) : Calls Tryz.prog 87 #[.int .i64 k] w fun e w' => e = .returned (.tuple #[.string (rowB k), .bool true]) ∧ w' = w := by
  rcases h with rfl | rfl | rfl | rfl | rfl | rfl | rfl | rfl | rfl
  all_goals
    simp only [rowB]
    go_enter Tryz.func87, Tryz.ntmps87
    go_wp2
    go_ret2
    exact ⟨rfl, rfl⟩
set_option maxRecDepth 100000 in
set_option maxHeartbeats 6400000 in
theorem kidsRow1 (k : Int) (w : World) (h : k = 11 ∨ k = 12 ∨ k = 13 ∨ k = 14 ∨ k = 15 ∨ k = 16 ∨ k = 20 ∨ k = 21 ∨ k = 22) : Calls Tryz.prog 87 #[.int .i64 k] w fun e w' => e = .returned (.tuple #[.string (rowB k), .bool true]) ∧ w' = w := by
  rcases h with rfl | rfl | rfl | rfl | rfl | rfl | rfl | rfl | rfl
  all_goals
    simp only [rowB]
    go_enter Tryz.func87, Tryz.ntmps87
    go_wp2
    go_ret2
    exact ⟨rfl, rfl⟩
set_option maxRecDepth 100000 in
set_option maxHeartbeats 6400000 in
theorem kidsRow2 (k : Int) (w : World) (h : k = 23 ∨ k = 24 ∨ k = 25 ∨ k = 26 ∨ k = 27 ∨ k = 28 ∨ k = 29 ∨ k = 30 ∨ k = 31) : Calls Tryz.prog 87 #[.int .i64 k] w fun e w' => e = .returned (.tuple #[.string (rowB k), .bool true]) ∧ w' = w := by
  rcases h with rfl | rfl | rfl | rfl | rfl | rfl | rfl | rfl | rfl
  all_goals
    simp only [rowB]
    go_enter Tryz.func87, Tryz.ntmps87
    go_wp2
    go_ret2
    exact ⟨rfl, rfl⟩
set_option maxRecDepth 100000 in
set_option maxHeartbeats 6400000 in
theorem kidsRow3 (k : Int) (w : World) (h : k = 32 ∨ k = 33 ∨ k = 34 ∨ k = 35 ∨ k = 36 ∨ k = 37 ∨ k = 40 ∨ k = 41 ∨ k = 42) : Calls Tryz.prog 87 #[.int .i64 k] w fun e w' => e = .returned (.tuple #[.string (rowB k), .bool true]) ∧ w' = w := by
  rcases h with rfl | rfl | rfl | rfl | rfl | rfl | rfl | rfl | rfl
  all_goals
    simp only [rowB]
    go_enter Tryz.func87, Tryz.ntmps87
    go_wp2
    go_ret2
    exact ⟨rfl, rfl⟩
set_option maxRecDepth 100000 in
set_option maxHeartbeats 6400000 in
theorem kidsRowNo (k : Int) (w : World) (h : k ∉ knownL) : Calls Tryz.prog 87 #[.int .i64 k] w fun e w' => e = .returned (.tuple #[.string { data := #[] }, .bool false]) ∧ w' = w := by
  simp only [knownL, List.mem_cons, List.not_mem_nil, or_false, not_or] at h
  obtain ⟨n1, n2, n3, n4, n6, n7, n8, n9, n10, n11, n12, n13, n14, n15, n16, n20, n21, n22, n23, n24, n25, n26, n27, n28, n29, n30, n31, n32, n33, n34, n35, n36, n37, n40, n41, n42⟩ := h
  go_enter Tryz.func87, Tryz.ntmps87
  go_wp2
  go_ret2
  exact ⟨rfl, rfl⟩
theorem kidsRow_any (k : Int) (w : World) : Calls Tryz.prog 87 #[.int .i64 k] w fun e w' => e = .returned (.tuple #[.string (rowB k), .bool (rowW k).isSome]) ∧ w' = w := by
  by_cases h : k ∈ knownL
  · obtain ⟨ws, h1, _⟩ := rowW_yes k h
    rw [h1, Option.isSome_some]
    simp only [knownL, List.mem_cons, List.not_mem_nil, or_false] at h
    rcases (show (k = 1 ∨ k = 2 ∨ k = 3 ∨ k = 4 ∨ k = 6 ∨ k = 7 ∨ k = 8 ∨ k = 9 ∨ k = 10) ∨ (k = 11 ∨ k = 12 ∨ k = 13 ∨ k = 14 ∨ k = 15 ∨ k = 16 ∨ k = 20 ∨ k = 21 ∨ k = 22) ∨ (k = 23 ∨ k = 24 ∨ k = 25 ∨ k = 26 ∨ k = 27 ∨ k = 28 ∨ k = 29 ∨ k = 30 ∨ k = 31) ∨ (k = 32 ∨ k = 33 ∨ k = 34 ∨ k = 35 ∨ k = 36 ∨ k = 37 ∨ k = 40 ∨ k = 41 ∨ k = 42) by omega) with h | h | h | h
    · exact kidsRow0 k w h
    · exact kidsRow1 k w h
    · exact kidsRow2 k w h
    · exact kidsRow3 k w h
  · obtain ⟨h1, h2⟩ := rowW_no k h
    rw [h1, h2]
    exact kidsRowNo k w h
end Go.Proofs.YtcnhhhfedakepaaGreatDoor

namespace Go.Proofs
open Go.Shelf
def Tryz.lays212_ren : Go.Shelf.Ren := ⟨fun | 212 => 100 | 263 => 121 | 264 => 122 | n => n, fun | 46 => 116 | 51 => 174 | 146 => 185 | 53 => 154 | 148 => 187 | n => n, fun | n => n⟩
theorem Tryz.lays212 : Go.Proofs.Lays.n212 Tryz.prog Tryz.lays212_ren := {
  mixed := by kernel_rfl
  f212 := Tryz.func100.trans (congrArg some (by kernel_rfl))
  f263 := Tryz.func121.trans (congrArg some (by kernel_rfl))
  f264 := Tryz.func122.trans (congrArg some (by kernel_rfl))
  t46 := Tryz.underlying116
  a46 := Tryz.isAgg116
  z46 := Tryz.sizeOf116
  v46 := Tryz.zeroValue116
  t51 := Tryz.underlying174
  a51 := Tryz.isAgg174
  z51 := Tryz.sizeOf174
  v51 := Tryz.zeroValue174
  t53 := Tryz.underlying154
  a53 := Tryz.isAgg154
  z53 := Tryz.sizeOf154
  v53 := Tryz.zeroValue154
  t146 := Tryz.underlying185
  a146 := Tryz.isAgg185
  z146 := Tryz.sizeOf185
  v146 := Tryz.zeroValue185
  t148 := Tryz.underlying187
  a148 := Tryz.isAgg187
  z148 := Tryz.sizeOf187
  v148 := Tryz.zeroValue187 }
open Go.RowKit Go.Lib in
theorem Tryz.bits_Mul (x y : Nat) (hx : x < 18446744073709551616) (hy : y < 18446744073709551616) (w : World) :
    Calls Tryz.prog 100 #[.int .u64 x, .int .u64 y] w fun e w' => e = .returned (.tuple #[.int .u64 ((x * y / 18446744073709551616 : Nat) : Int), .int .u64 ((x * y % 18446744073709551616 : Nat) : Int)]) ∧ w' = w := Any.bits_Mul Tryz.lays212 x y hx hy w
end Go.Proofs

namespace Go.Proofs.YtcnhhhfedakepaaGreatDoor
open Go.RowKit Go.Maps Go.WideMaps
set_option linter.unusedVariables false

def tgtB : ByteArray := { data := #[116, 97, 114, 103, 101, 116, 32] }
def repB (q : Nat) : ByteArray := ⟨(Lib.repeatL [116, 97, 114, 103, 101, 116, 32] q).toArray⟩
theorem repB_size (q : Nat) : (repB q).size = 7 * q := by
  have e : (repB q).size = (Lib.repeatL [116, 97, 114, 103, 101, 116, 32] q).length := by simp [repB, ByteArray.size]
  rw [e, Lib.repeatL_length]; simp; omega
theorem repB_add (a b : Nat) : repB (a + b) = repB a ++ repB b := by
  apply ByteArray.ext
  rw [ByteArray.data_append]
  show (Lib.repeatL _ (a + b)).toArray = (Lib.repeatL _ a).toArray ++ (Lib.repeatL _ b).toArray
  rw [Lib.repeatL_add]
  simp
theorem repB_one : repB 1 = tgtB := rfl
theorem repB_take (q d : Nat) (h : d ≤ q) : (repB q).extract 0 (7 * d) = repB d := by
  obtain ⟨r, rfl⟩ := Nat.exists_eq_add_of_le h
  rw [repB_add]
  apply ByteArray.ext
  rw [ByteArray.data_extract, ByteArray.data_append]
  have hs : (repB d).data.size = 7 * d := repB_size d
  rw [← hs]
  apply Array.ext'
  simp
  apply List.take_of_length_le
  rw [Array.length_toList]
  exact Nat.le_refl _
theorem min3 (ts : Array TypeId) (t : TypeId) (x y z c : Int) (W : World) (h : (if z < (if y < x then y else x) then z else (if y < x then y else x)) = c) :
    (Builtin.min_ ts t #[.int .i64 x, .int .i64 y, .int .i64 z]).run Tryz.prog W = .ok (.int .i64 c) W := by
  rw [← h]
  simp [Builtin.min_, Builtin.min2]

set_option maxRecDepth 100000 in
set_option maxHeartbeats 3200000 in
theorem repeat_main (m : Nat) (w : World) (hn : m + 2 ≤ 200) :
    Calls Tryz.prog 85 #[.string { data := #[116, 97, 114, 103, 101, 116, 32] }, .int .i64 ((m + 2 : Nat) : Int)] w fun e w' => e = .returned (.string (repB (m + 2))) ∧ Below w.heap.size w w' := by
  have hMul := Tryz.bits_Mul 7 (m + 2) (by omega) (by omega) w
  rw [Nat.div_eq_of_lt (by omega : 7 * (m + 2) < 18446744073709551616), Nat.mod_eq_of_lt (by omega : 7 * (m + 2) < 18446744073709551616)] at hMul
  obtain ⟨n, hN⟩ : ∃ n, 7 * (m + 2) = n := ⟨_, rfl⟩
  rw [hN] at hMul
  have HN : Hid (7 * (m + 2) = n) := hN
  have n0 : ¬ (9223372036854775807 : Int) < (n : Int) := by omega
  have n1 : ¬ (8192 : Int) < (n : Int) := by omega
  have n2 : ((n : Int) == 0) = false := by rw [beq_eq_false_iff_ne]; omega
  have n3 : (n : Int) ≤ 1400 := by omega
  have n4 : 14 ≤ n := by omega
  have m0 : ((m : Int) + 2 == 0) = false := by rw [beq_eq_false_iff_ne]; omega
  have m1 : ((m : Int) + 2 == 1) = false := by rw [beq_eq_false_iff_ne]; omega
  have m2 : ¬ (m : Int) + 2 < 0 := by omega
  clear hN
  go_enter Tryz.func85, Tryz.ntmps85
  go_wp2_with (first | (go_at_call 100; refine hMul.mono ?_; rintro e w' ⟨rfl, rfl⟩) | (go_at_call 73; fail))
  obtain ⟨w0, rfl⟩ : ∃ w0, w0 = w' := ⟨_, rfl⟩
  have kg := grow_new w0.heap.size w0.heap.size n (w0.alloc (.cells #[.pointer none, .slice none 0 0] 71)) (Nat.le_refl _) (heap_alloc_new w0 _) (by simp) (by omega) (by omega)
  refine kg.mono ?_
  rintro e w2 ⟨rfl, h2, hb2⟩
  have hbA : Below w0.heap.size w0 (w0.alloc (.cells #[.pointer none, .slice none 0 0] 71)) := (Below.refl _ w0).alloc (Nat.le_refl _) _
  have bw2 : Below w0.heap.size w0 w2 := hbA.trans hb2
  have b2 : Bu w0.heap.size w0.heap.size ⟨#[]⟩ w2 := .inr h2
  have kw := write_any w0.heap.size w0.heap.size ⟨#[]⟩ tgtB w2 b2 (by decide) bw2.size
  rw [show (⟨#[]⟩ : ByteArray) ++ tgtB = repB 1 from rfl] at kw
  have HB2 : Hid (Below w0.heap.size w0 w2) := bw2
  clear kg h2 hb2 hbA b2 bw2 hMul
  go_wp2_with (go_at_call 31; fail)
  refine kw.mono ?_
  rintro e w3 ⟨rfl, b3, hb3⟩
  have H3 : Hid (Bu w0.heap.size w0.heap.size (repB 1) w3 ∧ Below w0.heap.size w0 w3) := ⟨b3, HB2.out.trans hb3⟩
  clear kw b3 hb3
  go_wp2_with fail
  go_loopg [] (m + 1) (fun g wx => ∃ q : Nat, 1 ≤ q ∧ q + g = m + 2 ∧ Hid (Bu w0.heap.size w0.heap.size (repB q) wx ∧ Below w0.heap.size w0 wx))
  case atStart => exact ⟨1, Nat.le_refl _, by omega, H3⟩
  case round =>
    obtain ⟨q, hq1, hqg, HQ⟩ := hrel
    have cLen := Tryz.Builder_Len_f w0.heap.size w0.heap.size _ wr HQ.out.1
    rw [Lib.strCells_length, repB_size] at cLen
    have cStr := string_any w0.heap.size w0.heap.size _ wr HQ.out.1 HQ.out.2.size
    obtain ⟨Q, hQ⟩ : ∃ Q, 7 * q = Q := ⟨_, rfl⟩
    have HQQ : Hid (7 * q = Q) := hQ
    rw [hQ] at cLen
    obtain ⟨S, hS⟩ : ∃ S, repB q = S := ⟨_, rfl⟩
    have HS : Hid (repB q = S) := hS
    have hSz : S.size = Q := by rw [← hS, repB_size, hQ]
    rw [hS] at cStr
    clear hQ hS
    cases gk with
    | zero =>
      obtain rfl : q = m + 2 := by omega
      have hQn : ¬ ((Q : Int) < (n : Int)) := by have := HN.out; have := HQQ.out; omega
      go_wp2_with (first | (go_at_call 102; refine cLen.mono ?_; rintro e w4 ⟨rfl, hw⟩; rw [hw]) | (go_at_call 33; refine cStr.mono ?_; rintro e w5 ⟨rfl, b5, hb5⟩))
      go_ret
      exact ⟨by rw [HS.out]; rfl, HQ.out.2.trans hb5⟩
    | succ g =>
      obtain ⟨d, hd⟩ : ∃ d, min (m + 2 - q) q = d := ⟨_, rfl⟩
      have hd1 : 1 ≤ d := by omega
      have hdq : d ≤ q := by omega
      have hdm : q + d ≤ m + 2 := by omega
      obtain ⟨C, hC⟩ : ∃ C, 7 * d = C := ⟨_, rfl⟩
      have hQn : (Q : Int) < (n : Int) := by have := HN.out; have := HQQ.out; omega
      have hCQ : C ≤ Q := by have := HQQ.out; omega
      have hsum : Q + C ≤ n := by have := HN.out; have := HQQ.out; omega
      have hmin : ∀ (ts : Array TypeId) (t : TypeId) (W : World), (Builtin.min_ ts t #[.int .i64 ((n : Int) - (Q : Int)), .int .i64 (Q : Int), .int .i64 (n : Int)]).run Tryz.prog W = .ok (.int .i64 (C : Int)) W := fun ts t W => min3 ts t _ _ _ _ W (by
        have := HN.out; have := HQQ.out
        split <;> split <;> omega)
      have HC : Hid (7 * d = C ∧ S.extract 0 C = repB d) := ⟨hC, by rw [← hC, ← HS.out]; exact repB_take q d hdq⟩
      have hC0 : (0 : Int) ≤ (C : Int) := by omega
      have hCS : (C : Int) ≤ (S.size : Int) := by omega
      clear hd hC
      go_wp2_with (first | (go_at_call 102; refine cLen.mono ?_; rintro e w4 ⟨rfl, hw⟩; rw [hw]) | (go_at_call 33; refine cStr.mono ?_; rintro e w5 ⟨rfl, b5, hb5⟩))
      rw [HC.out.2]
      have bw5 := HQ.out.2.trans hb5
      refine (write_any w0.heap.size w0.heap.size S (repB d) w5 b5 (by rw [hSz, repB_size, HC.out.1]; omega) bw5.size).mono ?_
      rintro e w6 ⟨rfl, b6, hb6⟩
      have H6 : Hid (Bu w0.heap.size w0.heap.size (repB (q + d)) w6 ∧ Below w0.heap.size w0 w6) := ⟨by rw [repB_add, HS.out]; exact b6, bw5.trans hb6⟩
      clear b5 hb5 b6 hb6 bw5
      go_wp2_with fail
      go_roundg (m + 2 - (q + d))
      case measure => omega
      case rel => exact ⟨q + d, by omega, by omega, H6⟩
set_option maxRecDepth 100000 in
set_option maxHeartbeats 3200000 in
/-- strings.Repeat of the text that the program asks for. -/
theorem repeat_tgt (n : Nat) (w : World) (hn : n ≤ 200) :
    Calls Tryz.prog 85 #[.string { data := #[116, 97, 114, 103, 101, 116, 32] }, .int .i64 (n : Int)] w fun e w' => e = .returned (.string ⟨(Lib.repeatL [116, 97, 114, 103, 101, 116, 32] n).toArray⟩) ∧ Below w.heap.size w w' := by
  match n, hn with
  | 0, _ =>
    go_enter Tryz.func85, Tryz.ntmps85
    go_wp2_with fail
    go_ret
    exact ⟨rfl, Below.refl _ _⟩
  | 1, _ =>
    go_enter Tryz.func85, Tryz.ntmps85
    go_wp2_with fail
    go_ret
    exact ⟨rfl, Below.refl _ _⟩
  | m + 2, hn => exact repeat_main m w hn
end Go.Proofs.YtcnhhhfedakepaaGreatDoor
