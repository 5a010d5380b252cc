import Derived.Test.YtdaaiekepmlpoaaQImpl
import Derived.Test.YtdaaiekepmlpoaaUEq
namespace Go.Proofs.Ytdaaiekepmlpoaa
open Go.RowKit
set_option linter.unusedVariables false

def mkT : Nat → Nat → ByteArray → ByteArray
  | 0, _, o => o
  | f + 1, c, o => if c = 0 then o else mkT f (c / 10) (strI [48 + ((c % 10 : Nat) : Int)] ++ o)
def mtI (k : Nat) : ByteArray := { data := #[109] } ++ mkT k k { data := #[] }
structure MkIs (f c : Nat) (o R : ByteArray) : Prop where
  out : mkT f c o = R

set_option maxRecDepth 100000 in
set_option maxHeartbeats 1600000 in
theorem markText_any (N : Nat) (h0 : 0 < N) (h1 : N ≤ 100000000) (w : World) : Calls Try.prog 31 #[.int .i64 (N : Int)] w fun e w' => e = .returned (.string (mtI N)) ∧ Below w.heap.size w w' := by
  unfold mtI
  obtain ⟨R, hR⟩ : ∃ R, mkT N N { data := #[] } = R := ⟨_, rfl⟩
  rw [hR]
  have HR : MkIs N N { data := #[] } R := ⟨hR⟩
  clear hR
  have hN : ¬ (N : Int) ≤ 0 := by omega
  go_enter Try.func31, Try.ntmps31
  go_wp2_with fail
  go_loopw [0, 3] (fun vk vo wr => ∃ (c f : Nat) (o : ByteArray), vk = .int .i64 c ∧ vo = .string o ∧ c ≤ f ∧ o.size + c ≤ N ∧ MkIs f c o R ∧ Below w.heap.size w wr) (fun vk _ _ => (intOf vk).toNat)
  case atStart => exact ⟨N, N, { data := #[] }, rfl, rfl, Nat.le_refl _, by simp [ByteArray.size], HR, Below.refl _ _⟩
  case round =>
    obtain ⟨c, f, o, rfl, rfl, hcf, ho, HK, hb⟩ := hrel
    have hst := HK.out
    clear HK
    by_cases hc : c = 0
    · subst hc
      have HS : Hid (o = R) := by
        cases f with
        | zero => exact hst
        | succ f => rw [mkT, if_pos rfl] at hst; exact hst
      have hs1 : (({ data := #[109] } : ByteArray)).size = 1 := rfl
      clear hst
      go_wp2
      go_ret
      exact ⟨by rw [← HS.out]; rfl, hb⟩
    · obtain ⟨f, rfl⟩ : ∃ g, f = g + 1 := ⟨f - 1, by omega⟩
      rw [mkT, if_neg hc] at hst
      have hci : (0 : Int) < (c : Int) := by omega
      have e1 : ((c % 10 : Nat) : Int) = (c : Int) % 10 := by omega
      rw [e1] at hst
      obtain ⟨C, hC⟩ : ∃ C : Int, (c : Int) = C := ⟨_, rfl⟩
      have q1 : (c / 10 : Nat) = (C / 10).toNat := by omega
      have HS : MkIs f (c / 10) (strI [48 + C % 10] ++ o) R := ⟨by rw [← hC]; exact hst⟩
      rw [hC] at hci ⊢
      have hcv := fun w => conv_own (own_first w (48 + C % 10))
      have hs2 : (strI [48 + C % 10]).size = 1 := rfl
      have hC1 : C ≤ 100000000 := by omega
      have HC : Hid ((c : Int) = C) := hC
      clear hst e1 hC
      go_wp2_with fail
      have := HC.out
      exact ⟨⟨c / 10, f, _, by congr 1; omega, rfl, by omega, by rw [ByteArray.size_append, hs2]; omega, HS, hb.alloc hb.size _⟩, by simp [intOf]; omega⟩
theorem markText_q (a : Int) (N : Nat) (ha : a = (N : Int)) (h0 : 0 < N) (h1 : N ≤ 100000000) (w : World) : Calls Try.prog 31 #[.int .i64 a] w fun e w' => e = .returned (.string (mtI N)) ∧ Below w.heap.size w w' := by
  subst ha; exact markText_any N h0 h1 w

theorem own_form {W : World} {base e size n : Nat} {v : Value} {xs : List Value} (h : W.ownsRow base e size v n xs) : ∃ a cap, v = .slice a n cap := by
  rcases h.2 with ⟨rfl, hn⟩ | ⟨g, cap, cur, rfl, _⟩
  · exact ⟨none, 0, by rw [hn]⟩
  · exact ⟨_, _, rfl⟩
theorem grw_refl (w : World) (b : Option Nat) : w.grownBy w b := ⟨rfl, rfl, rfl, Nat.le_refl _, fun _ _ _ => rfl⟩
theorem grw_set {w0 w : World} {b : Nat} (h : w0.grownBy w (some b)) (i : Nat) (v : Value) : w0.grownBy (w.setCell ⟨b, i, none⟩ v) (some b) :=
  ⟨h.os, h.tape, h.output, by simpa [World.setCell] using h.size, fun k hk hne => by rw [heap_setCell_other _ _ _ _ (fun e => hne (by rw [e]))]; exact h.block k hk hne⟩
theorem grw_trans {x y z : World} {b : Option Nat} (h : x.grownBy y b) (k : y.grownBy z b) : x.grownBy z b :=
  ⟨k.os.trans h.os, k.tape.trans h.tape, k.output.trans h.output, Nat.le_trans h.size k.size, fun i hi hne => (k.block i (Nat.lt_of_lt_of_le hi h.size) hne).trans (h.block i hi hne)⟩
theorem grw_below {x y : World} (b : Option Nat) (h : Below x.heap.size x y) : x.grownBy y b := ⟨h.os, h.tape, h.output, h.size, fun k hk _ => h.block k hk⟩
theorem set_split {α : Type} (A l : List α) (k : Nat) (x : α) (hA : A.length = k) (hk : k < l.length) : (A ++ l.drop k).set k x = A ++ x :: l.drop (k + 1) := by
  rw [List.set_append_right _ _ (by omega), hA, Nat.sub_self, List.drop_eq_getElem_cons hk, List.set_cons_zero]

/-- What the law writes: texts, ints from K on. -/
def mks (K n : Nat) : List ByteArray := (List.range n).map fun j => mtI (K + j)
def mki (K n : Nat) : List Int := (List.range n).map fun j => ((K + j : Nat) : Int)
theorem mks_len (K n : Nat) : (mks K n).length = n := by simp [mks]
theorem mki_len (K n : Nat) : (mki K n).length = n := by simp [mki]
theorem mks_succ (K n : Nat) : mks K (n + 1) = mks K n ++ [mtI (K + n)] := by simp [mks, List.range_succ]
theorem mki_succ (K n : Nat) : mki K (n + 1) = mki K n ++ [((K + n : Nat) : Int)] := by simp [mki, List.range_succ]
theorem mks_at (K n i : Nat) (h : i < n) : (mks K n)[i]? = some (mtI (K + i)) := by simp [mks, h]
theorem mki_at (K n i : Nat) (h : i < n) : (mki K n)[i]? = some ((K + i : Nat) : Int) := by simp [mki, h]

set_option maxRecDepth 100000 in
set_option maxHeartbeats 3200000 in
theorem markStringS_some (w : World) (l : List ByteArray) (K : Nat) (n base g cap : Nat) (hK0 : 0 < K) (hK : K + n ≤ 50000000) (hl : l.length = n) (o : w.ownsRow base 9 1 (.slice (some ⟨g, 0, none⟩) n cap) n (l.map Value.string)) :
    Calls Try.prog 32 #[.slice (some ⟨g, 0, none⟩) n cap, .int .i64 K] w fun e w' => e = .returned (.int .i64 (K + n : Nat)) ∧ w'.ownsRow base 9 1 (.slice (some ⟨g, 0, none⟩) n cap) n ((mks K n).map Value.string) ∧ w.grownBy w' (some g) := by
  go_enter Try.func32, Try.ntmps32
  go_wp2_with fail
  go_loopw [1, 5] (fun vk vi wr => ∃ k : Nat, k ≤ n ∧ vi = .int .i64 k ∧ vk = .int .i64 (K + k : Nat) ∧ wr.ownsRow base 9 1 (.slice (some ⟨g, 0, none⟩) n cap) n ((mks K k ++ l.drop k).map Value.string) ∧ w.grownBy wr (some g)) (fun _ vi _ => n - (intOf vi).toNat)
  case atStart => exact ⟨0, Nat.zero_le _, rfl, rfl, o, grw_refl _ _⟩
  case round =>
    obtain ⟨k, hk, rfl, rfl, ho, hg⟩ := hrel
    clear o
    by_cases hlt : k < n
    · have hki : (k : Int) < (n : Int) := by omega
      have hk0 : (0 : Int) ≤ (k : Int) := by omega
      have km := fun w => markText_any (K + k) (by omega) (by omega) w
      have e7 := set_split (mks K k) l k (mtI (K + k)) (mks_len _ _) (by omega)
      obtain ⟨s, hs⟩ : ∃ s, (mks K k ++ l.drop k)[k]? = some s := ⟨(mks K k ++ l.drop k)[k]'(by simp [mks_len]; omega), List.getElem?_eq_getElem _⟩
      obtain ⟨M, hM⟩ : ∃ M, mtI (K + k) = M := ⟨_, rfl⟩
      rw [hM] at km e7
      have HM : Hid (mtI (K + k) = M) := hM
      clear hM
      have hcl : ((mks K k ++ l.drop k).map Value.string)[k]? = some (.string s) := by rw [List.getElem?_map, hs]; rfl
      obtain ⟨Z, hZ⟩ : ∃ Z : Int, ((K + k : Nat) : Int) = Z := ⟨_, rfl⟩
      have hZ1 : 0 ≤ Z := by omega
      have hZ2 : Z ≤ 50000000 := by omega
      have HZ : Hid (((K + k : Nat) : Int) = Z) := hZ
      rw [hZ] at km ⊢
      clear hZ hs
      go_wp2_with (go_at_call 31; refine (km _).mono ?_; rintro e w4 ⟨rfl, hb4⟩; have o6 := own_keep ho hb4; have f6 := o6.frozenAt k; have c6 : w4.cell? ⟨g, k, none⟩ = some (.string s) := (o6.cellAt k (by omega)).trans hcl)
      have o7 := (o6.stored k (.string M)).1
      rw [show ((mks K k ++ l.drop k).map Value.string).set k (.string M) = ((mks K k ++ l.drop k).set k M).map Value.string by rw [List.map_set], e7] at o7
      have hz := HZ.out
      refine ⟨⟨k + 1, by omega, by go_num, by congr 1; omega, ?_, ?_⟩, by simp [intOf]; omega⟩
      · rw [mks_succ, HM.out, List.append_assoc]; exact o7
      · exact grw_set (grw_trans hg (grw_below _ hb4)) _ _
    · obtain rfl : k = n := by omega
      go_wp2_with fail
      go_ret
      exact ⟨rfl, by rw [List.drop_of_length_le (by omega), List.append_nil] at ho; exact ho, hg⟩

set_option maxRecDepth 100000 in
set_option maxHeartbeats 3200000 in
theorem markIntS_some (w : World) (l : List Int) (K : Nat) (n base g cap : Nat) (hK0 : 0 < K) (hK : K + n ≤ 50000000) (hl : l.length = n) (o : w.ownsRow base 3 1 (.slice (some ⟨g, 0, none⟩) n cap) n (l.map (Value.int .i64))) :
    Calls Try.prog 33 #[.slice (some ⟨g, 0, none⟩) n cap, .int .i64 K] w fun e w' => e = .returned (.int .i64 (K + n : Nat)) ∧ w'.ownsRow base 3 1 (.slice (some ⟨g, 0, none⟩) n cap) n ((mki K n).map (Value.int .i64)) ∧ w.grownBy w' (some g) := by
  go_enter Try.func33, Try.ntmps33
  go_wp2_with fail
  go_loopw [1, 5] (fun vk vi wr => ∃ k : Nat, k ≤ n ∧ vi = .int .i64 k ∧ vk = .int .i64 (K + k : Nat) ∧ wr.ownsRow base 3 1 (.slice (some ⟨g, 0, none⟩) n cap) n ((mki K k ++ l.drop k).map (Value.int .i64)) ∧ w.grownBy wr (some g)) (fun _ vi _ => n - (intOf vi).toNat)
  case atStart => exact ⟨0, Nat.zero_le _, rfl, rfl, o, grw_refl _ _⟩
  case round =>
    obtain ⟨k, hk, rfl, rfl, ho, hg⟩ := hrel
    clear o
    by_cases hlt : k < n
    · have hki : (k : Int) < (n : Int) := by omega
      have hk0 : (0 : Int) ≤ (k : Int) := by omega
      have e7 := set_split (mki K k) l k (((K + k : Nat) : Int)) (mki_len _ _) (by omega)
      obtain ⟨s, hs⟩ : ∃ s, (mki K k ++ l.drop k)[k]? = some s := ⟨(mki K k ++ l.drop k)[k]'(by simp [mki_len]; omega), List.getElem?_eq_getElem _⟩
      have hcl : ((mki K k ++ l.drop k).map (Value.int .i64))[k]? = some (.int .i64 s) := by rw [List.getElem?_map, hs]; rfl
      obtain ⟨Z, hZ⟩ : ∃ Z : Int, ((K + k : Nat) : Int) = Z := ⟨_, rfl⟩
      have hZ1 : 0 ≤ Z := by omega
      have hZ2 : Z ≤ 50000000 := by omega
      have HZ : Hid (((K + k : Nat) : Int) = Z) := hZ
      rw [hZ] at e7 ⊢
      have f6 := ho.frozenAt k
      have c6 : wr.cell? ⟨g, k, none⟩ = some (.int .i64 s) := (ho.cellAt k (by omega)).trans hcl
      have o7 := (ho.stored k (.int .i64 Z)).1
      rw [show ((mki K k ++ l.drop k).map (Value.int .i64)).set k (.int .i64 Z) = ((mki K k ++ l.drop k).set k Z).map (Value.int .i64) by rw [List.map_set], e7] at o7
      clear hZ hs hcl
      go_wp2_with fail
      have hz := HZ.out
      refine ⟨⟨k + 1, by omega, by go_num, by congr 1; omega, ?_, ?_⟩, by simp [intOf]; omega⟩
      · rw [mki_succ, hz, List.append_assoc]; exact o7
      · exact grw_set hg _ _
    · obtain rfl : k = n := by omega
      go_wp2_with fail
      go_ret
      exact ⟨rfl, by rw [List.drop_of_length_le (by omega), List.append_nil] at ho; exact ho, hg⟩

set_option maxHeartbeats 800000 in
theorem markStringS_none (w : World) (K : Nat) (a1 : Option Addr) (c1 : Nat) :
    Calls Try.prog 32 #[.slice a1 0 c1, .int .i64 K] w fun e w' => e = .returned (.int .i64 K) ∧ w' = w := by
  go_enter Try.func32, Try.ntmps32
  go_wp2_with fail
  refine wp_loop_rounds 1 ?_
  rw [rounds_succ]
  go_wp2
  go_ret
  exact ⟨rfl, rfl⟩
set_option maxHeartbeats 800000 in
theorem markIntS_none (w : World) (K : Nat) (a1 : Option Addr) (c1 : Nat) :
    Calls Try.prog 33 #[.slice a1 0 c1, .int .i64 K] w fun e w' => e = .returned (.int .i64 K) ∧ w' = w := by
  go_enter Try.func33, Try.ntmps33
  go_wp2_with fail
  refine wp_loop_rounds 1 ?_
  rw [rounds_succ]
  go_wp2
  go_ret
  exact ⟨rfl, rfl⟩
theorem own_zero_or {W : World} {base e size n : Nat} {v : Value} {xs : List Value} (h : W.ownsRow base e size v n xs) : (n = 0 ∧ v = .slice none 0 0) ∨ ∃ g cap, v = .slice (some ⟨g, 0, none⟩) n cap := by
  rcases h.2 with ⟨rfl, hn⟩ | ⟨g, cap, cur, rfl, _⟩
  · exact .inl ⟨hn, rfl⟩
  · exact .inr ⟨_, _, rfl⟩
theorem markStringS_any (w : World) (l : List ByteArray) (K : Nat) (base : Nat) (v : Value) (hK0 : 0 < K) (hK : K + l.length ≤ 50000000) (o : w.ownsRow base 9 1 v l.length (l.map Value.string)) :
    Calls Try.prog 32 #[v, .int .i64 K] w fun e w' => e = .returned (.int .i64 (K + l.length : Nat)) ∧ w'.ownsRow base 9 1 v l.length ((mks K l.length).map Value.string) ∧ w.grownBy w' v.ownBlock := by
  rcases own_zero_or o with ⟨hn, rfl⟩ | ⟨g, cap, rfl⟩
  · refine (markStringS_none w K none 0).mono ?_
    rintro e w' ⟨rfl, rfl⟩
    obtain rfl : l = [] := List.eq_nil_of_length_eq_zero hn
    exact ⟨rfl, o, grw_refl _ _⟩
  · exact markStringS_some w l K _ base g cap hK0 hK rfl o
theorem markIntS_any (w : World) (l : List Int) (K : Nat) (base : Nat) (v : Value) (hK0 : 0 < K) (hK : K + l.length ≤ 50000000) (o : w.ownsRow base 3 1 v l.length (l.map (Value.int .i64))) :
    Calls Try.prog 33 #[v, .int .i64 K] w fun e w' => e = .returned (.int .i64 (K + l.length : Nat)) ∧ w'.ownsRow base 3 1 v l.length ((mki K l.length).map (Value.int .i64)) ∧ w.grownBy w' v.ownBlock := by
  rcases own_zero_or o with ⟨hn, rfl⟩ | ⟨g, cap, rfl⟩
  · refine (markIntS_none w K none 0).mono ?_
    rintro e w' ⟨rfl, rfl⟩
    obtain rfl : l = [] := List.eq_nil_of_length_eq_zero hn
    exact ⟨rfl, o, grw_refl _ _⟩
  · exact markIntS_some w l K _ base g cap hK0 hK rfl o

set_option maxRecDepth 100000 in
set_option maxHeartbeats 3200000 in
theorem heldStringS_any (w : World) (v : Value) (K n : Nat) (hK0 : 0 < K) (hK : K + n ≤ 50000000) (h : StrsAt w v (mks K n)) :
    Calls Try.prog 34 #[v, .int .i64 K] w fun e w' => e = .returned (.int .i64 (K + n : Nat)) ∧ Below w.heap.size w w' := by
  obtain ⟨a, c, rfl⟩ := h.form
  rw [mks_len] at h ⊢
  have HA : Hid (StrsAt w (.slice a n c) (mks K n)) := h
  clear h
  go_enter Try.func34, Try.ntmps34
  go_wp2_with fail
  go_loopw [1, 5] (fun vk vi wr => ∃ k : Nat, k ≤ n ∧ vi = .int .i64 k ∧ vk = .int .i64 (K + k : Nat) ∧ Below w.heap.size w wr) (fun _ vi _ => n - (intOf vi).toNat)
  case atStart => exact ⟨0, Nat.zero_le _, rfl, rfl, Below.refl _ _⟩
  case round =>
    obtain ⟨k, hk, rfl, rfl, hb⟩ := hrel
    by_cases hlt : k < n
    · have hki : (k : Int) < (n : Int) := by omega
      have hk0 : (0 : Int) ≤ (k : Int) := by omega
      have km := fun w => markText_any (K + k) (by omega) (by omega) w
      obtain ⟨b, rfl, hck⟩ := (HA.out.below hb).get (mks_at K n k hlt)
      generalize mtI (K + k) = M at km hck
      obtain ⟨Z, hZ⟩ : ∃ Z : Int, ((K + k : Nat) : Int) = Z := ⟨_, rfl⟩
      have hZ1 : 0 ≤ Z := by omega
      have hZ2 : Z ≤ 50000000 := by omega
      have HZ : Hid (((K + k : Nat) : Int) = Z) := hZ
      rw [hZ] at km ⊢
      clear hZ
      go_wp2_with fail
      go_region_held3 (fun w' => w'.cell? (b.add k) = some (.string M)) (first | go_keep | exact cell_kept hb4 hck) ((go_at_call 31; refine (km _).mono ?_; rintro e w4 ⟨rfl, hb4⟩))
      go_wp2_with fail
      have hz := HZ.out
      exact ⟨⟨k + 1, by omega, by go_num, by congr 1; omega, (bel_drew1 hb).trans (hb4.mono hb.size)⟩, by simp [intOf]; omega⟩
    · obtain rfl : k = n := by omega
      go_wp2_with fail
      go_ret
      exact ⟨rfl, hb⟩

set_option maxRecDepth 100000 in
set_option maxHeartbeats 3200000 in
theorem heldIntS_any (w : World) (v : Value) (K n : Nat) (hK0 : 0 < K) (hK : K + n ≤ 50000000) (h : IntsAt w v (mki K n)) :
    Calls Try.prog 35 #[v, .int .i64 K] w fun e w' => e = .returned (.int .i64 (K + n : Nat)) ∧ w' = w := by
  obtain ⟨a, c, rfl⟩ := h.form
  rw [mki_len] at h ⊢
  have HA : Hid (IntsAt w (.slice a n c) (mki K n)) := h
  clear h
  go_enter Try.func35, Try.ntmps35
  go_wp2_with fail
  go_loop [1, 5] (fun vk vi => ∃ k : Nat, k ≤ n ∧ vi = .int .i64 k ∧ vk = .int .i64 (K + k : Nat)) (fun _ vi => n - (intOf vi).toNat)
  case atStart => exact ⟨0, Nat.zero_le _, rfl, rfl⟩
  case round =>
    obtain ⟨k, hk, rfl, rfl⟩ := hrel
    by_cases hlt : k < n
    · have hki : (k : Int) < (n : Int) := by omega
      have hk0 : (0 : Int) ≤ (k : Int) := by omega
      obtain ⟨b, rfl, hck⟩ := HA.out.get (mki_at K n k hlt)
      obtain ⟨Z, hZ⟩ : ∃ Z : Int, ((K + k : Nat) : Int) = Z := ⟨_, rfl⟩
      have hZ1 : 0 ≤ Z := by omega
      have hZ2 : Z ≤ 50000000 := by omega
      have HZ : Hid (((K + k : Nat) : Int) = Z) := hZ
      rw [hZ] at hck ⊢
      clear hZ
      go_wp2_with fail
      go_round
      case rel => have hz := HZ.out; exact ⟨k + 1, by omega, by go_num, by congr 1; omega⟩
      case measure => simp [intOf]; omega
    · obtain rfl : k = n := by omega
      go_wp2_with fail
      go_ret
      exact ⟨rfl, rfl⟩
end Go.Proofs.Ytdaaiekepmlpoaa
