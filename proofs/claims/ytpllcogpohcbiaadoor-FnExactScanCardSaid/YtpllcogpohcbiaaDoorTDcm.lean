import Derived.Test.YtpllcogpohcbiaaDoorTFmt
namespace Go.Proofs.YtpllcogpohcbiaaDoor
open Go.RowKit Go.Maps Go.WideMaps
set_option linter.unusedVariables false

def ints (d : List UInt8) : List Int := d.map fun b => (b.toNat : Int)
theorem strI_ints (d : List UInt8) : strI (ints d) = ⟨d.toArray⟩ := by
  have key : ∀ (d : List UInt8) (x : ByteArray), (ints d).foldl (fun r n => r.push (UInt8.ofNat n.toNat)) x = ⟨x.data ++ d.toArray⟩ := by
    intro d
    induction d with
    | nil => intro x; simp [ints]
    | cons a r ih =>
      intro x
      show (ints r).foldl _ (x.push (UInt8.ofNat ((a.toNat : Int)).toNat)) = _
      rw [ih]
      have e : UInt8.ofNat ((a.toNat : Int)).toNat = a := by simp
      rw [e]
      simp [ByteArray.push]
  have := key d ByteArray.empty
  unfold strI
  rw [this]
  simp
def pre (c : Nat) : List Int := if c = 0 then [] else ints (Lib.decDigits c)
theorem pre_step (c : Nat) (h : c ≠ 0) : pre c = pre (c / 10) ++ [48 + ((c % 10 : Nat) : Int)] := by
  have h8 : ∀ k, k < 10 → (((UInt8.ofNat (48 + k)).toNat : Nat) : Int) = 48 + (k : Int) := fun k hk => by
    rw [UInt8.toNat_ofNat', Nat.mod_eq_of_lt (by omega)]; omega
  unfold pre
  rw [if_neg h]
  by_cases h10 : c < 10
  · rw [if_pos (by omega), Lib.decDigits, dif_pos h10, Nat.mod_eq_of_lt h10]
    show [(((UInt8.ofNat (48 + c)).toNat : Nat) : Int)] = _
    rw [h8 c h10]; rfl
  · rw [if_neg (by omega), Lib.decDigits, dif_neg h10]
    show List.map _ (_ ++ _) = _
    rw [List.map_append]
    show ints (Lib.decDigits (c / 10)) ++ [(((UInt8.ofNat (48 + c % 10)).toNat : Nat) : Int)] = _
    rw [h8 _ (by omega)]

set_option maxRecDepth 100000 in
set_option maxHeartbeats 3200000 in
theorem l1decimal_pos (N : Nat) (h0 : N ≠ 0) (h1 : N ≤ 9223372036854775807) (w : World) : Calls Tryd.prog 52 #[.int .i64 (N : Int)] w fun e w' => e = .returned (.string ⟨(Lib.decDigits N).toArray⟩) ∧ Below w.heap.size w w' := by
  obtain ⟨n, hn⟩ : ∃ n : Int, (N : Int) = n := ⟨_, rfl⟩
  rw [hn]
  have n0 : 0 < n := by omega
  have n1 : n ≤ 9223372036854775807 := by omega
  have nz : (n == 0) = false := by rw [beq_eq_false_iff_ne]; omega
  have nn : ¬ n < 0 := by omega
  have HN : Hid ((N : Int) = n) := hn
  clear hn
  go_enter Tryd.func52, Tryd.ntmps52
  go_wp2_with fail
  go_loopw [0, 4, 5] (fun vn vd v5 wr => ∃ (c : Int) (l : List Int), vn = .int .i64 c ∧ 0 ≤ c ∧ c ≤ 9223372036854775807 ∧ Hid (c.toNat < 10 ^ (19 - l.length) ∧ l.length ≤ 19 ∧ ints (Lib.decDigits N) = pre c.toNat ++ l.reverse) ∧ wr.ownsRow w.heap.size 5 1 vd l.length (B8 l) ∧ Below w.heap.size w wr) (fun vn _ _ _ => (intOf vn).toNat)
  case atStart =>
    refine ⟨n, [], rfl, by omega, n1, ⟨?_, by simp, ?_⟩, World.ownsRow_nil _ _ _ _, Below.refl _ _⟩
    · have : (10 : Nat) ^ (19 - ([] : List Int).length) = 10000000000000000000 := by decide
      rw [this]; omega
    · rw [show n.toNat = N by have := HN.out; omega]; unfold pre; rw [if_neg h0]; simp
  case round =>
    obtain ⟨c, l, rfl, c0, c1, HH, hown, hb⟩ := hrel
    by_cases hc : c = 0
    · subst hc
      obtain ⟨_, hl19, hfin⟩ := HH.out
      have hfin' : ints (Lib.decDigits N) = l.reverse := hfin
      have hlpos : 0 < l.length := by
        have e := congrArg List.length hfin'
        rw [List.length_reverse] at e
        have : 0 < (ints (Lib.decDigits N)).length := by
          rw [Lib.decDigits]
          split <;> simp [ints]
        omega
      have HL : Hid (strI l.reverse = ⟨(Lib.decDigits N).toArray⟩) := by show _ = _; rw [← hfin', strI_ints]
      rcases hown.2 with ⟨h, hz⟩ | ⟨g, cap, cur, hv, hg, hh, _, hmx, hsz, htk⟩
      · have : l = [] := by
          have hB : (B8 l).length = l.length := B8_len l
          have := hown.1
          simp at hz
          omega
        rw [this] at hlpos; simp at hlpos
      · have hcell : ∀ j, j < l.length → wr.cell? ⟨g, j, none⟩ = some (.int .u8 (l.getD j 0)) := fun j hj => by
          rw [cell_of_row _ _ _ _ _ _ hh]
          have e1 : (B8 l)[j]? = some (.int .u8 (l.getD j 0)) := by simp [B8, hj, List.getD]
          rw [← htk, List.getElem?_take] at e1
          split at e1
          · simpa using e1
          · cases e1
        have hglt : g < wr.heap.size := lt_of_block hh
        obtain ⟨Ln, hLn⟩ : ∃ Ln, l.length = Ln := ⟨_, rfl⟩
        rw [hLn] at hlpos hl19 hcell hv
        subst hv
        clear HH hfin hfin' hown hh htk hsz hmx
        have hrev : ∀ t, t < Ln → l.reverse.take (t + 1) = l.reverse.take t ++ [l.getD (Ln - 1 - t) 0] := fun t ht => by
          have e : l.reverse[t]? = some (l.getD (Ln - 1 - t) 0) := by
            rw [List.getElem?_reverse (by omega), List.getD, hLn, List.getElem?_eq_getElem (by omega)]
            rfl
          rw [List.take_add_one, e]; rfl
        have hsz : ∀ t, t ≤ Ln → (strI (l.reverse.take t)).size = t := fun t ht => by
          have : ∀ x : List Int, (strI x).size = x.length := by
            intro x
            induction x with
            | nil => rfl
            | cons a b ih => rw [show a :: b = [a] ++ b from rfl, strI_app, ByteArray.size_append, ih, List.length_append]; rfl
          rw [this, List.length_take, List.length_reverse]; omega
        have HREV : Hid (∀ t, t < Ln → l.reverse.take (t + 1) = l.reverse.take t ++ [l.getD (Ln - 1 - t) 0]) := hrev
        have HLL : Hid (l.length = Ln) := hLn
        clear hrev hLn
        go_wp2_with fail
        go_loopw [6, 7] (fun out i wq => ∃ t : Nat, t ≤ Ln ∧ i = .int .i64 ((Ln : Int) - 1 - (t : Int)) ∧ out = .string (strI (l.reverse.take t)) ∧ Below wr.heap.size wr wq) (fun _ i _ => (intOf i + 1).toNat)
        case atStart => exact ⟨0, by omega, by first | rfl | (congr 1; omega), rfl, Below.refl _ _⟩
        case round =>
          obtain ⟨t, ht, rfl, rfl, hbq⟩ := hrel
          have hs1 := hsz t ht
          by_cases htl : t < Ln
          · obtain ⟨I, hI⟩ : ∃ I : Nat, Ln - 1 - t = I := ⟨_, rfl⟩
            have hci := (cell_below hbq hglt).trans (hcell I (by omega))
            have HT := HREV.out t htl
            rw [hI] at HT
            have HS : Hid (strI (l.reverse.take t) ++ strI [l.getD I 0] = strI (l.reverse.take (t + 1))) := by show _ = _; rw [HT, strI_app]
            generalize l.getD I 0 = x at hci HS
            have hcv := fun w => conv_own (own_first w x)
            have hs2 : (strI [x]).size = 1 := rfl
            have hii : (Ln : Int) - 1 - (t : Int) = (I : Int) := by omega
            have hIl : I < Ln := by omega
            generalize strI (l.reverse.take t) = o at hs1 HS ⊢
            rw [hii]
            clear hsz HT hcell
            go_wp2
            go_roundw
            case rel => exact ⟨t + 1, by omega, by first | rfl | (congr 1; omega), by rw [HS.out], hbq.alloc hbq.size _⟩
            case measure => simp [intOf]
          · obtain rfl : t = Ln := by omega
            have hneg : ¬ (0 : Int) ≤ (t : Int) - 1 - (t : Int) := by omega
            rw [List.take_of_length_le (by rw [List.length_reverse, HLL.out]; exact Nat.le_refl _)]
            have HR := HL.out
            generalize strI l.reverse = o at HR ⊢
            subst HR
            clear hs1 hsz HL HREV
            go_wp2
            go_ret
            exact ⟨rfl, hb.trans (hbq.mono hb.size)⟩
    · have hcz : (c == 0) = false := by rw [beq_eq_false_iff_ne]; exact hc
      have hcn : (c != 0) = true := by rw [bne_iff_ne]; exact hc
      have hm : ¬ c % 10 < 0 := by omega
      have hl19 : l.length ≤ 18 := by
        obtain ⟨e1, e2, _⟩ := HH.out
        rcases Nat.lt_or_ge l.length 19 with h | h
        · omega
        · rw [show 19 - l.length = 0 by omega] at e1; simp at e1; omega
      have HN2 : Hid ((c / 10).toNat < 10 ^ (19 - (l ++ [48 + c % 10]).length) ∧ (l ++ [48 + c % 10]).length ≤ 19 ∧ ints (Lib.decDigits N) = pre (c / 10).toNat ++ (l ++ [48 + c % 10]).reverse) := by
        obtain ⟨e1, e2, e3⟩ := HH.out
        have el : (l ++ [48 + c % 10]).length = l.length + 1 := by simp
        refine ⟨?_, by omega, ?_⟩
        · rw [el]
          have e4 : 10 ^ (19 - l.length) = 10 ^ (19 - (l.length + 1)) * 10 := by rw [← Nat.pow_succ]; congr 1; omega
          rw [e4] at e1
          have : (c / 10).toNat = c.toNat / 10 := by omega
          rw [this]
          omega
        · rw [e3, pre_step c.toNat (by omega), show (c / 10).toNat = c.toNat / 10 by omega, show ((c.toNat % 10 : Nat) : Int) = c % 10 by omega]
          simp
      clear HH
      go_wp2_with (at_builtin; refine ap_law rfl (.tmp 20) (.tmp 24) rfl w.heap.size u4 l.length l rfl hown hb.size (by omega) [48 + c % 10] 1 rfl (by decide) (by decide) _ rfl rfl ?_; intro g cap w1 hown1 hb1)
      go_roundw
      case rel => exact ⟨c / 10, l ++ [48 + c % 10], by first | rfl | (congr 1; omega), by omega, by omega, HN2, by rw [List.length_append]; exact hown1, hb.trans (hb1.mono (by omega))⟩
      case measure => simp [intOf]; omega
end Go.Proofs.YtpllcogpohcbiaaDoor
