import Derived.Test.YtdgbmihokecmhaaGreatDoorMM21
import Derived.DataElems
import Derived.Shelf.Strings.Builder1
import Derived.Shelf.Strings.Builder2
import Derived.Shelf.Small.Wraps
import Derived.Shelf.Strings.BuilderF
import Derived.Shelf.Strings.BuilderK
import Derived.Shelf.Strconv.Itoa0
import Derived.Shelf.Strconv.Itoa1
import Derived.Shelf.LaysM
import Derived.Shelf.Strconv.Itoa2
import Derived.Shelf.Strconv.Itoa3
import Derived.Shelf.Strconv.ParseIntEmpty
import Derived.Shelf.Strconv.Clone
import Derived.Shelf.Strconv.SyntaxError
import Derived.Shelf.LaysC
import Derived.Shelf.Strconv.ToError
import Derived.Shelf.Strconv.Lower
import Derived.Shelf.Strconv.ParseUint10
import Derived.Shelf.Strconv.ParseUint10Empty
import Derived.Shelf.Strconv.ParseUint10Any
import Derived.Shelf.Strconv.ParseInt10
import Derived.Shelf.Strconv.RangeError
import Derived.Shelf.Strconv.ToErrorRange
import Derived.Shelf.Strconv.ParseUintEmpty
import Derived.Shelf.Strconv.ParseUint10b64
import Derived.Shelf.Strconv.ParseUint10b32
import Derived.Shelf.Strconv.ParseUint10b16
import Derived.Shelf.Strconv.ParseUint10b8
import Derived.Shelf.Strconv.ParseUint10At
import Derived.Shelf.Strconv.ParseInt10At64
import Derived.Shelf.Strconv.ParseInt10At32
import Derived.Shelf.Strconv.ParseInt10At16
import Derived.Shelf.Strconv.ParseInt10At8
import Derived.Shelf.Strconv.ParseInt10All
import Derived.Shelf.Strconv.ParseIntPublic10
import Derived.Shelf.Strconv.ErrVarParseInt
import Derived.Ground.MpProg
import Derived.Shelf.Pu.ParseUintPublic10
import Derived.Shelf.Pu.ErrVarParseUint
import Derived.Shelf.Strings.Prefix
import Derived.Shelf.Strings.Fields
import Derived.Shelf.Unicode.Latin
import Derived.Shelf.Bits.Mul64
import Derived.Shelf.Strings.Repeat
import Derived.Shelf.Unicode.Is16White
import Derived.Shelf.Unicode.IsSpaceAny
import Derived.Shelf.Unicode.Is16Any
import Derived.Shelf.Unicode.Is32Any
import Derived.Shelf.Unicode.ExclAny
import Derived.Shelf.Slices.Equal
import Derived.Shelf.Slices.Empties2
import Derived.Test.YtdgbmihokecmhaaGreatDoorProg
import Derived.Test.YtdgbmihokecmhaaGreatDoorMM03
import Derived.Test.YtdgbmihokecmhaaGreatDoorMM20
namespace Go.Proofs.YtdgbmihokecmhaaGreatDoor
open Go.RowKit
set_option linter.unusedVariables false

theorem kmatch_next {i f : Nat} {ws : List (Nat × Nat)} {ks : List Int} {R : Bool} (h : KmIs ((i, f) :: ws) ks R) (hn : ¬ (tkN i f ks = 0 ∧ f = 0)) : KmIs ws (ks.drop (tkN i f ks)) R := by
  have := h.out
  rw [kmatch, if_neg hn] at this
  exact ⟨this⟩
theorem kmatch_stop {i f : Nat} {ws : List (Nat × Nat)} {ks : List Int} {R : Bool} (h : KmIs ((i, f) :: ws) ks R) (hn : tkN i f ks = 0 ∧ f = 0) : R = false := by
  have := h.out
  rw [kmatch, if_pos hn] at this
  exact this.symm
theorem drop_cons {α : Type} {L : List α} {k : Nat} {x : α} (h : L[k]? = some x) : L.drop k = x :: L.drop (k + 1) := by
  have hk := (List.getElem?_eq_some_iff.1 h)
  rw [List.drop_eq_getElem_cons hk.1, hk.2]

theorem KidsAt.sl {W : World} {a : Option Addr} {L c t : Nat} {ks : List Int} (h : KidsAt W (.slice a L c) ks) (hL : ks.length = L) (ht : t ≤ L) : KidsAt W (.slice (if c = t then a else Option.map (fun x => x.add t) a) (L - t) (c - t)) (ks.drop t) := by
  subst hL
  rcases h with ⟨rfl, a', c', e⟩ | ⟨a', c', e, hc, hall⟩
  · exact .inl ⟨by simp, _, _, by rw [show ([] : List Int).length - t = 0 by simp]⟩
  · cases e
    by_cases hcl : t = ks.length
    · exact .inl ⟨by rw [List.drop_of_length_le (by omega)], _, _, by rw [show ks.length - t = 0 by omega]⟩
    · refine .inr ⟨a'.add t, c - t, ?_, by rw [List.length_drop]; omega, fun j k hk => ?_⟩
      · rw [if_neg (by omega), List.length_drop]; rfl
      · rw [List.getElem?_drop] at hk
        rw [Addr.add_add]
        exact hall (t + j) k hk

set_option maxRecDepth 100000 in
set_option maxHeartbeats 12800000 in
theorem kidsMatch_any (w : World) (row : ByteArray) (ws : List (Nat × Nat)) (v : Value) (ks : List Int) (hrow : Lib.fields row.data.toList = ws.map fun x => wordL x.1 x.2) (hws : ∀ x ∈ ws, x.1 < 10 ∧ x.2 < 3) (hsz : row.size < 4294967281) (hascii : ∀ (j : Nat) b, row.data.toList[j]? = some b → b.toNat < 128) (htab : Lib.TabIs Tryz.prog w "strings.asciiSpace" .u8 Lib.asciiSpaceTab) (hk : KidsAt w v ks) (hl : ks.length ≤ 1048576) (hwl : ws.length ≤ 1048576) :
    Calls Tryz.prog 66 #[.string row, v] w fun e w' => e = .returned (.bool (kmatch ws ks)) ∧ Below w.heap.size w w' := by
  have kf := Tryz.strings_Fields row w hsz hascii htab
  rw [hrow] at kf
  obtain ⟨R, hR⟩ : ∃ R, kmatch ws ks = R := ⟨_, rfl⟩
  rw [hR]
  have HR : KmIs ws ks R := ⟨hR⟩
  have hB : Below w.heap.size w (w.alloc (.cells ((ws.map fun x => wordL x.1 x.2).map fun l => Value.string ⟨l.toArray⟩).toArray 9)) := (Below.refl _ w).alloc (Nat.le_refl _) _
  have hK1 := hk.below hB
  have hC : ∀ m i f, ws[m]? = some (i, f) → (w.alloc (.cells ((ws.map fun x => wordL x.1 x.2).map fun l => Value.string ⟨l.toArray⟩).toArray 9)).cell? ⟨w.heap.size, m, none⟩ = some (.string (wS i f)) := fun m i f hm => by
    rw [cell_of_row _ _ _ _ _ _ (heap_alloc_new w _)]
    simp [hm, wS]
  obtain ⟨n, hn⟩ : ∃ n, ws.length = n := ⟨_, rfl⟩
  have HN : Hid (ws.length = n) := hn
  have HW : Hid (∀ x ∈ ws, x.1 < 10 ∧ x.2 < 3) := hws
  have hlen : (ws.map fun x => wordL x.1 x.2).length = n := by rw [List.length_map, hn]
  rw [hlen] at kf
  rw [hn] at hwl
  obtain ⟨a0, c0, rfl⟩ := hk.form
  have HL : Hid (ks.length ≤ 1048576) := hl
  clear hR hrow hws hsz hascii htab hk hn hlen hl
  generalize w.alloc (.cells ((ws.map fun x => wordL x.1 x.2).map fun l => Value.string ⟨l.toArray⟩).toArray 9) = W1 at kf hB hK1 hC
  have HC : Hid (∀ m i f, ws[m]? = some (i, f) → W1.cell? ⟨w.heap.size, m, none⟩ = some (.string (wS i f))) := hC
  have HK1 : Hid (KidsAt W1 (.slice a0 ks.length c0) ks) := hK1
  clear hC hK1
  generalize hlk : ks.length = lk at HK1 ⊢
  go_enter Tryz.func66, Tryz.ntmps66
  go_wp2_with (go_at_call 81; fail)
  refine kf.mono ?_
  rintro e w2 ⟨rfl, rfl⟩
  clear kf
  go_wp2_with fail
  go_loop [1, 14] (fun v1 vi => ∃ (m : Nat) (ks' : List Int), m ≤ n ∧ vi = .int .i64 m ∧ Hid (KidsAt w2 v1 ks' ∧ ks'.length ≤ 1048576) ∧ KmIs (ws.drop m) ks' R) (fun _ vi => n - (intOf vi).toNat)
  case atStart => exact ⟨0, ks, Nat.zero_le _, rfl, ⟨HK1.out, HL.out⟩, HR⟩
  case round =>
    obtain ⟨m, ks', hm, rfl, HK, HM⟩ := hrel
    clear HR HK1
    obtain ⟨a1, c1, rfl⟩ := HK.out.1.form
    by_cases hlt : m < n
    · have hki : (m : Int) < (n : Int) := by omega
      have hk0 : (0 : Int) ≤ (m : Int) := by omega
      obtain ⟨⟨i, f⟩, hwm⟩ := some_at HN.out hlt
      obtain ⟨hi, hf⟩ := HW.out _ (List.mem_of_getElem? hwm)
      simp only at hi hf
      have hcm := HC.out m i f hwm
      have HMM : Hid (KmIs ((i, f) :: ws.drop (m + 1)) ks' R) := by rw [drop_cons hwm] at HM; exact HM
      have kA := fun w => cutA i f hi hf w
      have kB := fun w => cutB i f hi hf w
      have kM := fun k w => mayStand_any i hi k w
      obtain ⟨L, hL⟩ : ∃ L, ks'.length = L := ⟨_, rfl⟩
      have HLL : Hid (ks'.length = L) := hL
      have hL2 := HK.out.2
      rw [hL] at hL2
      have HKK : Hid (KidsAt w2 (.slice a1 L c1) ks') := by rw [← hL]; exact HK.out.1
      rw [hL]
      have htle := tkN_le i f ks'
      have htat := tkN_at i f ks'
      obtain ⟨T, hT⟩ : ∃ T, tkN i f ks' = T := ⟨_, rfl⟩
      rw [hT] at htle htat
      rw [hL] at htle
      have HT : Hid (tkN i f ks' = T) := hT
      have HTA : Hid (∀ t, t ≤ T → (t < T ↔ (f = 1 ∨ t = 0) ∧ ∃ k, ks'[t]? = some k ∧ ms i k = true)) := htat
      clear hwm HM HK hL hT htat
      generalize wS i f = S0 at hcm kA
      generalize wS1 i f = S1 at kA kB
      generalize wB i = S2 at kB kM
      rcases (show f = 0 ∨ f = 1 ∨ f = 2 by omega) with rfl | rfl | rfl
      · go_wp2_with (go_at_call 82; fail)
        refine (kA _).mono ?_
        rintro e w3 ⟨rfl, rfl⟩
        go_wp2_with (go_at_call 82; fail)
        refine (kB _).mono ?_
        rintro e w3 ⟨rfl, rfl⟩
        clear kA kB hcm
        go_wp2_with fail
        go_loop [10] (fun vt => ∃ t : Nat, vt = .int .i64 t ∧ t ≤ T) (fun vt => T - (intOf vt).toNat)
        case atStart => exact ⟨0, rfl, Nat.zero_le _⟩
        case round =>
          obtain ⟨t, rfl, ht⟩ := hrel
          have hta := HTA.out t ht
          have ht0 : (0 : Int) ≤ (t : Int) := by omega
          by_cases hgo : t < T
          · obtain ⟨hft, k, hkt, hmk⟩ := hta.1 hgo
            obtain ⟨a', b, rfl, e1, e2⟩ := HKK.out.get hkt
            have htl : (t : Int) < (L : Int) := by omega
            obtain rfl : t = 0 := by rcases hft with h | h; exact absurd h (by decide); exact h
            rw [show a'.add 0 = a' from by unfold Addr.add; rw [if_pos rfl]] at e1
            have kM2 := fun w => kM k w
            rw [hmk] at kM2
            have hmt := fun w => methK k b w
            have kh := fun w => head_any b w
            unfold nodeV at e1
            generalize ptT (cls k) = tp at e1 hmt
            clear hkt hmk kM hta
            go_wp2_with (first | (go_at_call 83; refine (kM2 _).mono ?_; rintro e w3 ⟨rfl, rfl⟩) | (go_at_call 160; refine (kh _).mono ?_; rintro e w3 ⟨rfl, rfl⟩))
            go_round
            case rel => exact ⟨0 + 1, by go_num, by omega⟩
            case measure => simp [intOf]; omega
          · obtain rfl : t = T := by omega
            by_cases h0 : t = 0
            · subst h0
              by_cases htl : 0 < L
              · have htli : (0 : Int) < (L : Int) := by omega
                obtain ⟨k, hkt⟩ := some_at HLL.out htl
                have hmk : ms i k = false := by
                  cases h : ms i k
                  · rfl
                  · exact absurd (hta.2 ⟨.inr rfl, k, hkt, h⟩) (by omega)
                obtain ⟨a', b, e0, e1, e2⟩ := HKK.out.get hkt
                subst e0
                rw [show a'.add 0 = a' from by unfold Addr.add; rw [if_pos rfl]] at e1
                have kM2 := fun w => kM k w
                rw [hmk] at kM2
                have hmt := fun w => methK k b w
                have kh := fun w => head_any b w
                unfold nodeV at e1
                generalize ptT (cls k) = tp at e1 hmt
                clear hkt hmk kM hta
                go_wp2_with (first | (go_at_call 83; refine (kM2 _).mono ?_; rintro e w4 ⟨rfl, rfl⟩) | (go_at_call 160; refine (kh _).mono ?_; rintro e w4 ⟨rfl, rfl⟩))
                go_ret
                exact ⟨by rw [kmatch_stop HMM.out ⟨HT.out, rfl⟩]; rfl, hB⟩
              · have htli : ¬ (0 : Int) < (L : Int) := by omega
                clear hta kM
                go_wp2_with fail
                go_ret
                exact ⟨by rw [kmatch_stop HMM.out ⟨HT.out, rfl⟩]; rfl, hB⟩
            · have HNX : Hid (KmIs (ws.drop (m + 1)) (ks'.drop t) R) := by
                have h := kmatch_next HMM.out (by rw [HT.out]; omega)
                rw [HT.out] at h
                exact h
              have HKD : Hid (KidsAt w3 (.slice (if c1 = t then a1 else Option.map (fun x => x.add t) a1) (L - t) (c1 - t)) (ks'.drop t) ∧ (ks'.drop t).length ≤ 1048576) := ⟨HKK.out.sl HLL.out (by omega), by rw [List.length_drop, HLL.out]; omega⟩
              have hti0 : ¬ (t : Int) = 0 := by omega
              by_cases htl : t < L
              · have htli : (t : Int) < (L : Int) := by omega
                clear hta kM
                go_wp2_with fail
                exact ⟨⟨m + 1, ks'.drop t, by omega, by go_num, HKD.out, HNX.out⟩, by simp [intOf]; omega⟩
              · have htli : ¬ (t : Int) < (L : Int) := by omega
                clear hta kM
                go_wp2_with fail
                exact ⟨⟨m + 1, ks'.drop t, by omega, by go_num, HKD.out, HNX.out⟩, by simp [intOf]; omega⟩
      · go_wp2_with (go_at_call 82; fail)
        refine (kA _).mono ?_
        rintro e w3 ⟨rfl, rfl⟩
        go_wp2_with (go_at_call 82; fail)
        refine (kB _).mono ?_
        rintro e w3 ⟨rfl, rfl⟩
        clear kA kB hcm
        go_wp2_with fail
        go_loop [10] (fun vt => ∃ t : Nat, vt = .int .i64 t ∧ t ≤ T) (fun vt => T - (intOf vt).toNat)
        case atStart => exact ⟨0, rfl, Nat.zero_le _⟩
        case round =>
          obtain ⟨t, rfl, ht⟩ := hrel
          have hta := HTA.out t ht
          have ht0 : (0 : Int) ≤ (t : Int) := by omega
          by_cases hgo : t < T
          · obtain ⟨hft, k, hkt, hmk⟩ := hta.1 hgo
            obtain ⟨a', b, rfl, e1, e2⟩ := HKK.out.get hkt
            have htl : (t : Int) < (L : Int) := by omega
            have kM2 := fun w => kM k w
            rw [hmk] at kM2
            have hmt := fun w => methK k b w
            have kh := fun w => head_any b w
            unfold nodeV at e1
            generalize ptT (cls k) = tp at e1 hmt
            clear hkt hmk kM hta
            go_wp2_with (first | (go_at_call 83; refine (kM2 _).mono ?_; rintro e w3 ⟨rfl, rfl⟩) | (go_at_call 160; refine (kh _).mono ?_; rintro e w3 ⟨rfl, rfl⟩))
            go_round
            case rel => exact ⟨t + 1, by go_num, by omega⟩
            case measure => simp [intOf]; omega
          · obtain rfl : t = T := by omega
            by_cases h0 : t = 0
            · subst h0
              have HNX : Hid (KmIs (ws.drop (m + 1)) ks' R) := by
                have h := kmatch_next HMM.out (by rw [HT.out]; omega)
                rw [HT.out, List.drop_zero] at h
                exact h
              have HKD : Hid (KidsAt w3 (.slice a1 L c1) ks' ∧ ks'.length ≤ 1048576) := ⟨HKK.out, by rw [HLL.out]; exact hL2⟩
              by_cases htl : 0 < L
              · have htli : (0 : Int) < (L : Int) := by omega
                obtain ⟨k, hkt⟩ := some_at HLL.out htl
                have hmk : ms i k = false := by
                  cases h : ms i k
                  · rfl
                  · exact absurd (hta.2 ⟨.inl (by first | rfl | trivial), k, hkt, h⟩) (by omega)
                obtain ⟨a', b, e0, e1, e2⟩ := HKK.out.get hkt
                subst e0
                rw [show a'.add 0 = a' from by unfold Addr.add; rw [if_pos rfl]] at e1
                have kM2 := fun w => kM k w
                rw [hmk] at kM2
                have hmt := fun w => methK k b w
                have kh := fun w => head_any b w
                unfold nodeV at e1
                generalize ptT (cls k) = tp at e1 hmt
                clear hkt hmk kM hta
                go_wp2_with (first | (go_at_call 83; refine (kM2 _).mono ?_; rintro e w4 ⟨rfl, rfl⟩) | (go_at_call 160; refine (kh _).mono ?_; rintro e w4 ⟨rfl, rfl⟩))
                exact ⟨⟨m + 1, ks', by omega, by go_num, HKD.out, HNX.out⟩, by simp [intOf]; omega⟩
              · have htli : ¬ (0 : Int) < (L : Int) := by omega
                clear hta kM
                go_wp2_with fail
                exact ⟨⟨m + 1, ks', by omega, by go_num, HKD.out, HNX.out⟩, by simp [intOf]; omega⟩
            · have HNX : Hid (KmIs (ws.drop (m + 1)) (ks'.drop t) R) := by
                have h := kmatch_next HMM.out (by rw [HT.out]; omega)
                rw [HT.out] at h
                exact h
              have HKD : Hid (KidsAt w3 (.slice (if c1 = t then a1 else Option.map (fun x => x.add t) a1) (L - t) (c1 - t)) (ks'.drop t) ∧ (ks'.drop t).length ≤ 1048576) := ⟨HKK.out.sl HLL.out (by omega), by rw [List.length_drop, HLL.out]; omega⟩
              have hti0 : ¬ (t : Int) = 0 := by omega
              by_cases htl : t < L
              · have htli : (t : Int) < (L : Int) := by omega
                obtain ⟨k, hkt⟩ := some_at HLL.out htl
                have hmk : ms i k = false := by
                  cases h : ms i k
                  · rfl
                  · exact absurd (hta.2 ⟨.inl (by first | rfl | trivial), k, hkt, h⟩) (by omega)
                obtain ⟨a', b, e0, e1, e2⟩ := HKK.out.get hkt
                subst e0
                have kM2 := fun w => kM k w
                rw [hmk] at kM2
                have hmt := fun w => methK k b w
                have kh := fun w => head_any b w
                unfold nodeV at e1
                generalize ptT (cls k) = tp at e1 hmt
                clear hkt hmk kM hta
                go_wp2_with (first | (go_at_call 83; refine (kM2 _).mono ?_; rintro e w4 ⟨rfl, rfl⟩) | (go_at_call 160; refine (kh _).mono ?_; rintro e w4 ⟨rfl, rfl⟩))
                exact ⟨⟨m + 1, ks'.drop t, by omega, by go_num, HKD.out, HNX.out⟩, by simp [intOf]; omega⟩
              · have htli : ¬ (t : Int) < (L : Int) := by omega
                clear hta kM
                go_wp2_with fail
                exact ⟨⟨m + 1, ks'.drop t, by omega, by go_num, HKD.out, HNX.out⟩, by simp [intOf]; omega⟩
      · go_wp2_with (go_at_call 82; fail)
        refine (kA _).mono ?_
        rintro e w3 ⟨rfl, rfl⟩
        go_wp2_with (go_at_call 82; fail)
        refine (kB _).mono ?_
        rintro e w3 ⟨rfl, rfl⟩
        clear kA kB hcm
        go_wp2_with fail
        go_loop [10] (fun vt => ∃ t : Nat, vt = .int .i64 t ∧ t ≤ T) (fun vt => T - (intOf vt).toNat)
        case atStart => exact ⟨0, rfl, Nat.zero_le _⟩
        case round =>
          obtain ⟨t, rfl, ht⟩ := hrel
          have hta := HTA.out t ht
          have ht0 : (0 : Int) ≤ (t : Int) := by omega
          by_cases hgo : t < T
          · obtain ⟨hft, k, hkt, hmk⟩ := hta.1 hgo
            obtain ⟨a', b, rfl, e1, e2⟩ := HKK.out.get hkt
            have htl : (t : Int) < (L : Int) := by omega
            obtain rfl : t = 0 := by rcases hft with h | h; exact absurd h (by decide); exact h
            rw [show a'.add 0 = a' from by unfold Addr.add; rw [if_pos rfl]] at e1
            have kM2 := fun w => kM k w
            rw [hmk] at kM2
            have hmt := fun w => methK k b w
            have kh := fun w => head_any b w
            unfold nodeV at e1
            generalize ptT (cls k) = tp at e1 hmt
            clear hkt hmk kM hta
            go_wp2_with (first | (go_at_call 83; refine (kM2 _).mono ?_; rintro e w3 ⟨rfl, rfl⟩) | (go_at_call 160; refine (kh _).mono ?_; rintro e w3 ⟨rfl, rfl⟩))
            go_round
            case rel => exact ⟨0 + 1, by go_num, by omega⟩
            case measure => simp [intOf]; omega
          · obtain rfl : t = T := by omega
            by_cases h0 : t = 0
            · subst h0
              have HNX : Hid (KmIs (ws.drop (m + 1)) ks' R) := by
                have h := kmatch_next HMM.out (by rw [HT.out]; omega)
                rw [HT.out, List.drop_zero] at h
                exact h
              have HKD : Hid (KidsAt w3 (.slice a1 L c1) ks' ∧ ks'.length ≤ 1048576) := ⟨HKK.out, by rw [HLL.out]; exact hL2⟩
              by_cases htl : 0 < L
              · have htli : (0 : Int) < (L : Int) := by omega
                obtain ⟨k, hkt⟩ := some_at HLL.out htl
                have hmk : ms i k = false := by
                  cases h : ms i k
                  · rfl
                  · exact absurd (hta.2 ⟨.inr rfl, k, hkt, h⟩) (by omega)
                obtain ⟨a', b, e0, e1, e2⟩ := HKK.out.get hkt
                subst e0
                rw [show a'.add 0 = a' from by unfold Addr.add; rw [if_pos rfl]] at e1
                have kM2 := fun w => kM k w
                rw [hmk] at kM2
                have hmt := fun w => methK k b w
                have kh := fun w => head_any b w
                unfold nodeV at e1
                generalize ptT (cls k) = tp at e1 hmt
                clear hkt hmk kM hta
                go_wp2_with (first | (go_at_call 83; refine (kM2 _).mono ?_; rintro e w4 ⟨rfl, rfl⟩) | (go_at_call 160; refine (kh _).mono ?_; rintro e w4 ⟨rfl, rfl⟩))
                exact ⟨⟨m + 1, ks', by omega, by go_num, HKD.out, HNX.out⟩, by simp [intOf]; omega⟩
              · have htli : ¬ (0 : Int) < (L : Int) := by omega
                clear hta kM
                go_wp2_with fail
                exact ⟨⟨m + 1, ks', by omega, by go_num, HKD.out, HNX.out⟩, by simp [intOf]; omega⟩
            · have HNX : Hid (KmIs (ws.drop (m + 1)) (ks'.drop t) R) := by
                have h := kmatch_next HMM.out (by rw [HT.out]; omega)
                rw [HT.out] at h
                exact h
              have HKD : Hid (KidsAt w3 (.slice (if c1 = t then a1 else Option.map (fun x => x.add t) a1) (L - t) (c1 - t)) (ks'.drop t) ∧ (ks'.drop t).length ≤ 1048576) := ⟨HKK.out.sl HLL.out (by omega), by rw [List.length_drop, HLL.out]; omega⟩
              have hti0 : ¬ (t : Int) = 0 := by omega
              by_cases htl : t < L
              · have htli : (t : Int) < (L : Int) := by omega
                clear hta kM
                go_wp2_with fail
                exact ⟨⟨m + 1, ks'.drop t, by omega, by go_num, HKD.out, HNX.out⟩, by simp [intOf]; omega⟩
              · have htli : ¬ (t : Int) < (L : Int) := by omega
                clear hta kM
                go_wp2_with fail
                exact ⟨⟨m + 1, ks'.drop t, by omega, by go_num, HKD.out, HNX.out⟩, by simp [intOf]; omega⟩
    · obtain rfl : m = n := by omega
      have hfin := HM.out
      rw [List.drop_of_length_le (by rw [HN.out]; exact Nat.le_refl _), kmatch] at hfin
      have hlz : ((ks'.length : Int) == 0) = R := by
        rw [← hfin]
        cases ks' with
        | nil => rfl
        | cons x r => simp; omega
      have HZ : Hid (((ks'.length : Int) == 0) = R) := hlz
      clear hlz hfin HM
      generalize ks'.length = L at HZ ⊢
      go_wp2_with fail
      go_ret
      exact ⟨by rw [← HZ.out]; rfl, hB⟩
end Go.Proofs.YtdgbmihokecmhaaGreatDoor

namespace Go.Proofs.YtdgbmihokecmhaaGreatDoor
open Go.RowKit
set_option linter.unusedVariables false

/-- The row of kids of a Kind: its text, its words. -/
def rowB : Int → ByteArray
  | 1 => { data := #[115, 116, 97, 116, 42] }
  | 2 => { data := #[101, 120, 112, 114, 42] }
  | 3 => { data := #[101, 120, 112, 114] }
  | 4 => { data := #[102, 110] }
  | 6 => { data := #[99, 97, 108, 108] }
  | 7 => { data := #[101, 120, 112, 114, 32, 98, 108, 111, 99, 107, 32, 101, 108, 115, 101, 63] }
  | 8 => { data := #[101, 120, 112, 114, 32, 98, 108, 111, 99, 107] }
  | 9 => { data := #[101, 120, 112, 114, 32, 101, 120, 112, 114, 32, 101, 120, 112, 114, 63, 32, 98, 108, 111, 99, 107] }
  | 10 => { data := #[101, 120, 112, 114, 32, 98, 108, 111, 99, 107] }
  | 11 => { data := #[] }
  | 12 => { data := #[] }
  | 13 => { data := #[101, 120, 112, 114, 42] }
  | 14 => { data := #[98, 108, 111, 99, 107, 32, 98, 108, 111, 99, 107] }
  | 15 => { data := #[101, 120, 112, 114] }
  | 16 => { data := #[99, 97, 108, 108] }
  | 20 => { data := #[] }
  | 21 => { data := #[] }
  | 22 => { data := #[] }
  | 23 => { data := #[] }
  | 24 => { data := #[] }
  | 25 => { data := #[] }
  | 26 => { data := #[] }
  | 27 => { data := #[] }
  | 28 => { data := #[101, 120, 112, 114, 32, 101, 120, 112, 114] }
  | 29 => { data := #[101, 120, 112, 114, 32, 101, 120, 112, 114] }
  | 30 => { data := #[101, 120, 112, 114] }
  | 31 => { data := #[101, 120, 112, 114, 32, 101, 120, 112, 114] }
  | 32 => { data := #[98, 97, 115, 101, 32, 101, 120, 112, 114] }
  | 33 => { data := #[98, 97, 115, 101] }
  | 34 => { data := #[98, 97, 115, 101, 32, 101, 120, 112, 114, 42] }
  | 35 => { data := #[101, 110, 116, 114, 121, 42] }
  | 36 => { data := #[98, 108, 111, 99, 107] }
  | 37 => { data := #[109, 97, 110, 121] }
  | 40 => { data := #[101, 120, 112, 114] }
  | 41 => { data := #[101, 120, 112, 114, 32, 101, 120, 112, 114] }
  | 42 => { data := #[101, 120, 112, 114] }
  | _ => { data := #[] }
def rowW : Int → Option (List (Nat × Nat))
  | 1 => some [(0, 1)]
  | 2 => some [(3, 1)]
  | 3 => some [(3, 0)]
  | 4 => some [(8, 0)]
  | 6 => some [(6, 0)]
  | 7 => some [(3, 0), (1, 0), (2, 2)]
  | 8 => some [(3, 0), (1, 0)]
  | 9 => some [(3, 0), (3, 0), (3, 2), (1, 0)]
  | 10 => some [(3, 0), (1, 0)]
  | 11 => some []
  | 12 => some []
  | 13 => some [(3, 1)]
  | 14 => some [(1, 0), (1, 0)]
  | 15 => some [(3, 0)]
  | 16 => some [(6, 0)]
  | 20 => some []
  | 21 => some []
  | 22 => some []
  | 23 => some []
  | 24 => some []
  | 25 => some []
  | 26 => some []
  | 27 => some []
  | 28 => some [(3, 0), (3, 0)]
  | 29 => some [(3, 0), (3, 0)]
  | 30 => some [(3, 0)]
  | 31 => some [(3, 0), (3, 0)]
  | 32 => some [(4, 0), (3, 0)]
  | 33 => some [(4, 0)]
  | 34 => some [(4, 0), (3, 1)]
  | 35 => some [(9, 1)]
  | 36 => some [(1, 0)]
  | 37 => some [(7, 0)]
  | 40 => some [(3, 0)]
  | 41 => some [(3, 0), (3, 0)]
  | 42 => some [(3, 0)]
  | _ => none
def knownL : List Int := [1, 2, 3, 4, 6, 7, 8, 9, 10, 11, 12, 13, 14, 15, 16, 20, 21, 22, 23, 24, 25, 26, 27, 28, 29, 30, 31, 32, 33, 34, 35, 36, 37, 40, 41, 42]
set_option maxHeartbeats 3200000 in
theorem rowW_no (k : Int) (h : k ∉ knownL) : rowW k = none ∧ rowB k = { data := #[] } := by
  simp only [knownL, List.mem_cons, List.not_mem_nil, or_false, not_or] at h
  obtain ⟨n1, n2, n3, n4, n6, n7, n8, n9, n10, n11, n12, n13, n14, n15, n16, n20, n21, n22, n23, n24, n25, n26, n27, n28, n29, n30, n31, n32, n33, n34, n35, n36, n37, n40, n41, n42⟩ := h
  constructor
  · unfold rowW; split <;> first | rfl | contradiction
  · unfold rowB; split <;> first | rfl | contradiction
theorem rowW_yes (k : Int) (h : k ∈ knownL) : ∃ ws, rowW k = some ws ∧ Lib.fields (rowB k).data.toList = ws.map (fun x => wordL x.1 x.2) ∧ (∀ x ∈ ws, x.1 < 10 ∧ x.2 < 3) ∧ (rowB k).size < 100 ∧ (∀ (j : Nat) b, (rowB k).data.toList[j]? = some b → b.toNat < 128) ∧ ws.length < 10 := by
  have hall : ∀ (l : List UInt8), (l.all fun b => decide (b.toNat < 128)) = true → ∀ (j : Nat) b, l[j]? = some b → b.toNat < 128 := fun l hl j b hb => by simpa using List.all_eq_true.1 hl b (List.mem_of_getElem? hb)
  simp only [knownL, List.mem_cons, List.not_mem_nil, or_false] at h
  rcases h with rfl | rfl | rfl | rfl | rfl | rfl | rfl | rfl | rfl | rfl | rfl | rfl | rfl | rfl | rfl | rfl | rfl | rfl | rfl | rfl | rfl | rfl | rfl | rfl | rfl | rfl | rfl | rfl | rfl | rfl | rfl | rfl | rfl | rfl | rfl | rfl
  all_goals exact ⟨_, rfl, rfl, by decide, by decide, hall _ (by decide), by decide⟩
set_option maxRecDepth 100000 in
set_option maxHeartbeats 6400000 in
theorem kidsRow0 (k : Int) (w : World) (h : k = 1 ∨ k = 2 ∨ k = 3 ∨ k = 4 ∨ k = 6 ∨ k = 7 ∨ k = 8 ∨ k = 9 ∨ k = 10) : Calls Tryz.prog 67 #[.int .i64 k] w fun e w' => e = .returned (.tuple #[.string (rowB k), .bool true]) ∧ w' = w := by
  rcases h with rfl | rfl | rfl | rfl | rfl | rfl | rfl | rfl | rfl
  all_goals
    simp only [rowB]
    go_enter Tryz.func67, Tryz.ntmps67
    go_wp2
    go_ret2
    exact ⟨rfl, rfl⟩
set_option maxRecDepth 100000 in
set_option maxHeartbeats 6400000 in
theorem kidsRow1 (k : Int) (w : World) (h : k = 11 ∨ k = 12 ∨ k = 13 ∨ k = 14 ∨ k = 15 ∨ k = 16 ∨ k = 20 ∨ k = 21 ∨ k = 22) : Calls Tryz.prog 67 #[.int .i64 k] w fun e w' => e = .returned (.tuple #[.string (rowB k), .bool true]) ∧ w' = w := by
  rcases h with rfl | rfl | rfl | rfl | rfl | rfl | rfl | rfl | rfl
  all_goals
    simp only [rowB]
    go_enter Tryz.func67, Tryz.ntmps67
    go_wp2
    go_ret2
    exact ⟨rfl, rfl⟩
set_option maxRecDepth 100000 in
set_option maxHeartbeats 6400000 in
theorem kidsRow2 (k : Int) (w : World) (h : k = 23 ∨ k = 24 ∨ k = 25 ∨ k = 26 ∨ k = 27 ∨ k = 28 ∨ k = 29 ∨ k = 30 ∨ k = 31) : Calls Tryz.prog 67 #[.int .i64 k] w fun e w' => e = .returned (.tuple #[.string (rowB k), .bool true]) ∧ w' = w := by
  rcases h with rfl | rfl | rfl | rfl | rfl | rfl | rfl | rfl | rfl
  all_goals
    simp only [rowB]
    go_enter Tryz.func67, Tryz.ntmps67
    go_wp2
    go_ret2
    exact ⟨rfl, rfl⟩
set_option maxRecDepth 100000 in
set_option maxHeartbeats 6400000 in
theorem kidsRow3 (k : Int) (w : World) (h : k = 32 ∨ k = 33 ∨ k = 34 ∨ k = 35 ∨ k = 36 ∨ k = 37 ∨ k = 40 ∨ k = 41 ∨ k = 42) : Calls Tryz.prog 67 #[.int .i64 k] w fun e w' => e = .returned (.tuple #[.string (rowB k), .bool true]) ∧ w' = w := by
  rcases h with rfl | rfl | rfl | rfl | rfl | rfl | rfl | rfl | rfl
  all_goals
    simp only [rowB]
    go_enter Tryz.func67, Tryz.ntmps67
    go_wp2
    go_ret2
    exact ⟨rfl, rfl⟩
set_option maxRecDepth 100000 in
set_option maxHeartbeats 6400000 in
theorem kidsRowNo (k : Int) (w : World) (h : k ∉ knownL) : Calls Tryz.prog 67 #[.int .i64 k] w fun e w' => e = .returned (.tuple #[.string { data := #[] }, .bool false]) ∧ w' = w := by
  simp only [knownL, List.mem_cons, List.not_mem_nil, or_false, not_or] at h
  obtain ⟨n1, n2, n3, n4, n6, n7, n8, n9, n10, n11, n12, n13, n14, n15, n16, n20, n21, n22, n23, n24, n25, n26, n27, n28, n29, n30, n31, n32, n33, n34, n35, n36, n37, n40, n41, n42⟩ := h
  go_enter Tryz.func67, Tryz.ntmps67
  go_wp2
  go_ret2
  exact ⟨rfl, rfl⟩
theorem kidsRow_any (k : Int) (w : World) : Calls Tryz.prog 67 #[.int .i64 k] w fun e w' => e = .returned (.tuple #[.string (rowB k), .bool (rowW k).isSome]) ∧ w' = w := by
  by_cases h : k ∈ knownL
  · obtain ⟨ws, h1, _⟩ := rowW_yes k h
    rw [h1, Option.isSome_some]
    simp only [knownL, List.mem_cons, List.not_mem_nil, or_false] at h
    rcases (show (k = 1 ∨ k = 2 ∨ k = 3 ∨ k = 4 ∨ k = 6 ∨ k = 7 ∨ k = 8 ∨ k = 9 ∨ k = 10) ∨ (k = 11 ∨ k = 12 ∨ k = 13 ∨ k = 14 ∨ k = 15 ∨ k = 16 ∨ k = 20 ∨ k = 21 ∨ k = 22) ∨ (k = 23 ∨ k = 24 ∨ k = 25 ∨ k = 26 ∨ k = 27 ∨ k = 28 ∨ k = 29 ∨ k = 30 ∨ k = 31) ∨ (k = 32 ∨ k = 33 ∨ k = 34 ∨ k = 35 ∨ k = 36 ∨ k = 37 ∨ k = 40 ∨ k = 41 ∨ k = 42) by omega) with h | h | h | h
    · exact kidsRow0 k w h
    · exact kidsRow1 k w h
    · exact kidsRow2 k w h
    · exact kidsRow3 k w h
  · obtain ⟨h1, h2⟩ := rowW_no k h
    rw [h1, h2]
    exact kidsRowNo k w h
end Go.Proofs.YtdgbmihokecmhaaGreatDoor

namespace Go.Proofs
open Go.Shelf
def Tryz.lays105_ren : Go.Shelf.Ren := ⟨fun | 105 => 65 | 212 => 75 | 99 => 76 | 165 => 77 | 166 => 78 | 170 => 79 | 169 => 80 | 263 => 93 | 264 => 94 | 206 => 95 | 240 => 96 | 241 => 97 | 276 => 113 | 277 => 114 | n => n, fun | 9 => 9 | 3 => 3 | 4 => 4 | 20 => 20 | 0 => 0 | 46 => 139 | 109 => 140 | 5 => 5 | 72 => 145 | 76 => 149 | 51 => 163 | 146 => 164 | 53 => 166 | 148 => 167 | 70 => 143 | 37 => 86 | 75 => 148 | 127 => 133 | 164 => 179 | 80 => 152 | n => n, fun | n => n⟩
theorem Tryz.lays105 : Go.Proofs.Lays.n105 Tryz.prog Tryz.lays105_ren := {
  mixed := by kernel_rfl
  f99 := Tryz.func76.trans (congrArg some (by kernel_rfl))
  f105 := Tryz.func65.trans (congrArg some (by kernel_rfl))
  f165 := Tryz.func77.trans (congrArg some (by kernel_rfl))
  f166 := Tryz.func78.trans (congrArg some (by kernel_rfl))
  f169 := Tryz.func80.trans (congrArg some (by kernel_rfl))
  f170 := Tryz.func79.trans (congrArg some (by kernel_rfl))
  f206 := Tryz.func95.trans (congrArg some (by kernel_rfl))
  f212 := Tryz.func75.trans (congrArg some (by kernel_rfl))
  f240 := Tryz.func96.trans (congrArg some (by kernel_rfl))
  f241 := Tryz.func97.trans (congrArg some (by kernel_rfl))
  f263 := Tryz.func93.trans (congrArg some (by kernel_rfl))
  f264 := Tryz.func94.trans (congrArg some (by kernel_rfl))
  f276 := Tryz.func113.trans (congrArg some (by kernel_rfl))
  f277 := Tryz.func114.trans (congrArg some (by kernel_rfl))
  t0 := Tryz.underlying0
  a0 := Tryz.isAgg0
  z0 := Tryz.sizeOf0
  v0 := Tryz.zeroValue0
  t3 := Tryz.underlying3
  a3 := Tryz.isAgg3
  z3 := Tryz.sizeOf3
  v3 := Tryz.zeroValue3
  t4 := Tryz.underlying4
  a4 := Tryz.isAgg4
  z4 := Tryz.sizeOf4
  v4 := Tryz.zeroValue4
  t5 := Tryz.underlying5
  a5 := Tryz.isAgg5
  z5 := Tryz.sizeOf5
  v5 := Tryz.zeroValue5
  t9 := Tryz.underlying9
  a9 := Tryz.isAgg9
  z9 := Tryz.sizeOf9
  v9 := Tryz.zeroValue9
  t20 := Tryz.underlying20
  a20 := Tryz.isAgg20
  z20 := Tryz.sizeOf20
  v20 := Tryz.zeroValue20
  t37 := Tryz.underlying86
  a37 := Tryz.isAgg86
  z37 := Tryz.sizeOf86
  v37 := Tryz.zeroValue86
  t46 := Tryz.underlying139
  a46 := Tryz.isAgg139
  z46 := Tryz.sizeOf139
  v46 := Tryz.zeroValue139
  t51 := Tryz.underlying163
  a51 := Tryz.isAgg163
  z51 := Tryz.sizeOf163
  v51 := Tryz.zeroValue163
  t53 := Tryz.underlying166
  a53 := Tryz.isAgg166
  z53 := Tryz.sizeOf166
  v53 := Tryz.zeroValue166
  t70 := Tryz.underlying143
  a70 := Tryz.isAgg143
  z70 := Tryz.sizeOf143
  v70 := Tryz.zeroValue143
  t72 := Tryz.underlying145
  a72 := Tryz.isAgg145
  z72 := Tryz.sizeOf145
  v72 := Tryz.zeroValue145
  t75 := Tryz.underlying148
  a75 := Tryz.isAgg148
  z75 := Tryz.sizeOf148
  v75 := Tryz.zeroValue148
  t76 := Tryz.underlying149
  a76 := Tryz.isAgg149
  z76 := Tryz.sizeOf149
  v76 := Tryz.zeroValue149
  t109 := Tryz.underlying140
  a109 := Tryz.isAgg140
  z109 := Tryz.sizeOf140
  v109 := Tryz.zeroValue140
  t127 := Tryz.underlying133
  a127 := Tryz.isAgg133
  z127 := Tryz.sizeOf133
  v127 := Tryz.zeroValue133
  t146 := Tryz.underlying164
  a146 := Tryz.isAgg164
  z146 := Tryz.sizeOf164
  v146 := Tryz.zeroValue164
  t148 := Tryz.underlying167
  a148 := Tryz.isAgg167
  z148 := Tryz.sizeOf167
  v148 := Tryz.zeroValue167
  t164 := Tryz.underlying179
  a164 := Tryz.isAgg179
  z164 := Tryz.sizeOf179
  v164 := Tryz.zeroValue179 }
theorem Tryz.Builder_Extra_105 : Builder.Extra Tryz.prog Tryz.lays105_ren := {
  sizeBuilder := by kernel_rfl
  liesBuilder := by kernel_rfl
  t5 := Tryz.underlying5
  a5 := Tryz.isAgg5
  z5 := Tryz.sizeOf5
  v5 := Tryz.zeroValue5
  infoByte := by kernel_rfl
  cellsByte := by kernel_rfl
  sizeByte := by kernel_rfl
  neB5 := by decide }
open Go.RowKit Go.Lib in
theorem Tryz.strings_Repeat (s : ByteArray) (c : Nat) (w : World) (hc : c ≤ 9223372036854775807) (hlen : s.size * c ≤ 140737488355328) :
    Calls Tryz.prog 65 #[.string s, .int .i64 c] w fun e w' => e = .returned (.string ⟨(Lib.repeatL s.data.toList c).toArray⟩) ∧ Below w.heap.size w w' := Any.strings_Repeat Tryz.lays105 Tryz.Builder_Extra_105 s c w hc hlen
end Go.Proofs

namespace Go.Proofs.YtdgbmihokecmhaaGreatDoor
open Go.RowKit
set_option linter.unusedVariables false

/-- The words of a row with n targets. -/
def setW (n : Nat) : List (Nat × Nat) := List.replicate n (5, 0) ++ [(3, 0), (3, 1)]
def setB (n : Nat) : ByteArray := ⟨(Lib.repeatL [116, 97, 114, 103, 101, 116, 32] n).toArray⟩ ++ { data := #[101, 120, 112, 114, 32, 101, 120, 112, 114, 42] }
theorem setB_list (n : Nat) : (setB n).data.toList = Lib.repeatL [116, 97, 114, 103, 101, 116, 32] n ++ [101, 120, 112, 114, 32, 101, 120, 112, 114, 42] := by
  unfold setB
  rw [ByteArray.data_append]
  simp
theorem setB_fields : ∀ n, Lib.fields (Lib.repeatL [116, 97, 114, 103, 101, 116, 32] n ++ [101, 120, 112, 114, 32, 101, 120, 112, 114, 42]) = (setW n).map fun x => wordL x.1 x.2
  | 0 => by decide
  | n + 1 => by
    have ih := setB_fields n
    have e : Lib.fields (Lib.repeatL [116, 97, 114, 103, 101, 116, 32] (n + 1) ++ [101, 120, 112, 114, 32, 101, 120, 112, 114, 42]) = [116, 97, 114, 103, 101, 116] :: Lib.fields (Lib.repeatL [116, 97, 114, 103, 101, 116, 32] n ++ [101, 120, 112, 114, 32, 101, 120, 112, 114, 42]) := by
      rw [Lib.repeatL]
      rfl
    rw [e, ih]
    rfl
theorem setB_ascii (n : Nat) : ∀ (j : Nat) b, (setB n).data.toList[j]? = some b → b.toNat < 128 := by
  rw [setB_list]
  have hall : ∀ (l : List UInt8), (l.all fun b => decide (b.toNat < 128)) = true → ∀ b ∈ l, b.toNat < 128 := fun l hl b hb => by simpa using List.all_eq_true.1 hl b hb
  have hr : ∀ n, ∀ b ∈ Lib.repeatL [116, 97, 114, 103, 101, 116, 32] n, b.toNat < 128 := by
    intro n
    induction n with
    | zero => intro b hb; simp [Lib.repeatL] at hb
    | succ n ih =>
      intro b hb
      rw [Lib.repeatL] at hb
      rcases List.mem_append.1 hb with hb | hb
      · exact hall _ (by decide) b hb
      · exact ih b hb
  intro j b hb
  rcases List.mem_append.1 (List.mem_of_getElem? hb) with h | h
  · exact hr n b h
  · exact hall _ (by decide) b h
theorem setB_size (n : Nat) : (setB n).size = 7 * n + 10 := by
  have h := congrArg List.length (setB_list n)
  rw [List.length_append, Lib.repeatL_length] at h
  simp at h
  have e : (setB n).size = (setB n).data.size := rfl
  omega
theorem setW_ok (n : Nat) : ∀ x ∈ setW n, x.1 < 10 ∧ x.2 < 3 := by
  intro x hx
  unfold setW at hx
  rcases List.mem_append.1 hx with hx | hx
  · rw [(List.mem_replicate.1 hx).2]; decide
  · simp at hx; rcases hx with rfl | rfl <;> decide

set_option maxRecDepth 100000 in
set_option maxHeartbeats 3200000 in
theorem kidsFit_set (w : World) (b : Nat) (nk nf nt nl num : Int) (n : Nat) (hn : n ≤ 200) (vk : Value) (ks : List Int) (hk : KidsAt w vk ks) (hl : ks.length ≤ 1048576) (htab : ∀ W, Below w.heap.size w W → Lib.TabIs Tryz.prog W "strings.asciiSpace" .u8 Lib.asciiSpaceTab)
    (hb : w.heap[b]? = some (.cells #[.int .i64 nk, .int .i64 nf, .int .i64 nt, .int .i64 nl, .int .i64 num, vk, .int .i64 (n : Int)] 108 (0, 0))) :
    Calls Tryz.prog 49 #[.iface 106 (.pointer (some ⟨b, 0, none⟩))] w fun e w' => e = .returned (.bool (kmatch (setW n) ks)) ∧ Below w.heap.size w w' := by
  have ha1 := fun w => as11 b w
  have kr := Tryz.strings_Repeat { data := #[116, 97, 114, 103, 101, 116, 32] } n w (by omega) (by show 7 * n ≤ _; omega)
  have km := fun W (hB : Below w.heap.size w W) => kidsMatch_any W (setB n) (setW n) vk ks (by rw [setB_list]; exact setB_fields n) (setW_ok n) (by rw [setB_size]; omega) (setB_ascii n) (htab W hB) (hk.below hB) hl (by unfold setW; rw [List.length_append, List.length_replicate]; simp; omega)
  obtain ⟨ak, ck, rfl⟩ := hk.form
  have c5 : w.cell? ⟨b, 5, none⟩ = some (.slice ak ks.length ck) := by rw [cell_of_row _ _ _ _ _ _ hb]; rfl
  have c6 : w.cell? ⟨b, 6, none⟩ = some (.int .i64 (n : Int)) := by rw [cell_of_row _ _ _ _ _ _ hb]; rfl
  have hsz : (({ data := #[101, 120, 112, 114, 32, 101, 120, 112, 114, 42] } : ByteArray)).size = 10 := rfl
  have hsr : ((⟨(Lib.repeatL [116, 97, 114, 103, 101, 116, 32] n).toArray⟩ : ByteArray)).size = 7 * n := by
    have e : ((⟨(Lib.repeatL [116, 97, 114, 103, 101, 116, 32] n).toArray⟩ : ByteArray)).size = (Lib.repeatL [116, 97, 114, 103, 101, 116, 32] n).length := by simp [ByteArray.size]
    rw [e, Lib.repeatL_length]; simp; omega
  unfold setB at km
  generalize kmatch (setW n) ks = R at km ⊢
  generalize ks.length = L at km c5
  generalize (⟨(Lib.repeatL [116, 97, 114, 103, 101, 116, 32] n).toArray⟩ : ByteArray) = SR at km kr hsr
  have HC5 : Hid (w.cell? ⟨b, 5, none⟩ = some (.slice ak L ck)) := c5
  clear hb hk htab c5
  go_enter Tryz.func49, Tryz.ntmps49
  go_wp2_with (go_at_call 65; fail)
  refine kr.mono ?_
  rintro e w2 ⟨rfl, hb2⟩
  have c5 := cell_kept hb2 HC5.out
  have km2 := km w2 hb2
  clear km kr
  go_wp2_with (go_at_call 66; fail)
  refine km2.mono ?_
  rintro e w3 ⟨rfl, hb3⟩
  go_wp2_with fail
  go_ret
  exact ⟨rfl, hb2.trans (hb3.mono hb2.size)⟩

theorem asS (k : Int) (h : cls k ≠ 1) (b : Nat) (w : World) : (Instr.typeAssert (.iface (ptT (cls k)) (.pointer (some ⟨b, 0, none⟩))) 44 106 true).run Tryz.prog w = .ok (.tuple #[.pointer none, .bool false]) w := by
  rcases cls_lt k with g | g | g | g | g | g | g
  · rw [g]; exact as01 b w
  · exact absurd g h
  · rw [g]; exact as21 b w
  · rw [g]; exact as31 b w
  · rw [g]; exact as41 b w
  · rw [g]; exact as51 b w
  · rw [g]; exact as61 b w
/-- What the row of a Kind says of its kids. -/
def rkB (k : Int) (ks : List Int) : Bool := match rowW k with | some ws => kmatch ws ks | none => false

set_option maxRecDepth 100000 in
set_option maxHeartbeats 3200000 in
theorem kidsFit_oth (w : World) (b : Nat) (k : Int) (hc : cls k ≠ 1) (vk : Value) (ks : List Int) (hk : KidsAt w vk ks) (hl : ks.length ≤ 1048576) (htab : Lib.TabIs Tryz.prog w "strings.asciiSpace" .u8 Lib.asciiSpaceTab)
    (c0 : w.cell? ⟨b, 0, none⟩ = some (.int .i64 k)) (c5 : w.cell? ⟨b, 5, none⟩ = some vk) :
    Calls Tryz.prog 49 #[nodeV k b] w fun e w' => e = .returned (.bool (rkB k ks)) ∧ Below w.heap.size w w' := by
  have ha1 := fun w => asS k hc b w
  have hmt := fun w => methK k b w
  have kh := fun w => head_any b w
  have kr := fun w => kidsRow_any k w
  unfold nodeV rkB
  by_cases hk2 : k ∈ knownL
  · obtain ⟨ws, h1, h2, h3, h4, h5, h6⟩ := rowW_yes k hk2
    have km := kidsMatch_any w (rowB k) ws vk ks h2 h3 (by omega) h5 htab hk hl (by omega)
    rw [h1] at kr ⊢
    simp only [Option.isSome_some] at kr ⊢
    obtain ⟨ak, ck, rfl⟩ := hk.form
    generalize ks.length = L at km c5
    generalize kmatch ws ks = R at km ⊢
    generalize rowB k = S at km kr
    generalize ptT (cls k) = tp at ha1 hmt ⊢
    clear hk htab h2 h3 h4 h5 h6 h1 hk2 hc
    go_enter Tryz.func49, Tryz.ntmps49
    go_wp2_with (first | (go_at_call 160; refine (kh _).mono ?_; rintro e w' ⟨rfl, rfl⟩) | (go_at_call 67; refine (kr _).mono ?_; rintro e w' ⟨rfl, rfl⟩) | (go_at_call 66; refine km.mono ?_; rintro e w3 ⟨rfl, hb3⟩))
    go_ret
    exact ⟨rfl, hb3⟩
  · obtain ⟨h1, h2⟩ := rowW_no k hk2
    rw [h1, h2] at kr
    rw [h1]
    simp only [Option.isSome_none] at kr ⊢
    generalize ptT (cls k) = tp at ha1 hmt ⊢
    clear hk htab hk2 hc h1 h2
    go_enter Tryz.func49, Tryz.ntmps49
    go_wp2_with (first | (go_at_call 160; refine (kh _).mono ?_; rintro e w' ⟨rfl, rfl⟩) | (go_at_call 67; refine (kr _).mono ?_; rintro e w' ⟨rfl, rfl⟩))
    go_ret
    exact ⟨rfl, Below.refl _ _⟩
end Go.Proofs.YtdgbmihokecmhaaGreatDoor
