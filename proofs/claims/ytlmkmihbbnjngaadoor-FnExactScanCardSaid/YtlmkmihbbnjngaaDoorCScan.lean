import Derived.Test.YtlmkmihbbnjngaaDoorZPure
import Derived.Test.YtlmkmihbbnjngaaDoorTIntOf
import Derived.Deep.RegionHeld3
import Derived.RangeFuncBox
import Derived.Laws.OwnMore
import Derived.Test.YtlmkmihbbnjngaaDoorYScan
import Derived.Test.YtlmkmihbbnjngaaDoorKLaid
import Derived.Test.YtlmkmihbbnjngaaDoorTie
import Derived.Test.YtlmkmihbbnjngaaDoorCards
import Derived.SevenTiedAt
import Derived.Lib.SmallJoins
namespace Go.Proofs.YtlmkmihbbnjngaaDoor
open Go.RowKit
set_option linter.unusedVariables false

def mkT : Nat → Nat → ByteArray → ByteArray
  | 0, _, o => o
  | f + 1, c, o => if c = 0 then o else mkT f (c / 10) (strI [48 + ((c % 10 : Nat) : Int)] ++ o)
def mtI (k : Nat) : ByteArray := { data := #[109] } ++ mkT k k { data := #[] }
structure MkIs (f c : Nat) (o R : ByteArray) : Prop where
  out : mkT f c o = R

set_option maxRecDepth 100000 in
set_option maxHeartbeats 1600000 in
theorem markText_any (N : Nat) (h0 : 0 < N) (h1 : N ≤ 1000000) (w : World) : Calls Tryd.prog 36 #[.int .i64 (N : Int)] w fun e w' => e = .returned (.string (mtI N)) ∧ Below w.heap.size w w' := by
  unfold mtI
  obtain ⟨R, hR⟩ : ∃ R, mkT N N { data := #[] } = R := ⟨_, rfl⟩
  rw [hR]
  have HR : MkIs N N { data := #[] } R := ⟨hR⟩
  clear hR
  have hN : ¬ (N : Int) ≤ 0 := by omega
  go_enter Tryd.func36, Tryd.ntmps36
  go_wp2_with fail
  go_loopw [0, 3] (fun vk vo wr => ∃ (c f : Nat) (o : ByteArray), vk = .int .i64 c ∧ vo = .string o ∧ c ≤ f ∧ o.size + c ≤ N ∧ MkIs f c o R ∧ Below w.heap.size w wr) (fun vk _ _ => (intOf vk).toNat)
  case atStart => exact ⟨N, N, { data := #[] }, rfl, rfl, Nat.le_refl _, by simp [ByteArray.size], HR, Below.refl _ _⟩
  case round =>
    obtain ⟨c, f, o, rfl, rfl, hcf, ho, HK, hb⟩ := hrel
    have hst := HK.out
    clear HK
    by_cases hc : c = 0
    · subst hc
      have HS : Hid (o = R) := by
        cases f with
        | zero => exact hst
        | succ f => rw [mkT, if_pos rfl] at hst; exact hst
      have hs1 : (({ data := #[109] } : ByteArray)).size = 1 := rfl
      clear hst
      go_wp2
      go_ret
      exact ⟨by rw [← HS.out]; rfl, hb⟩
    · obtain ⟨f, rfl⟩ : ∃ g, f = g + 1 := ⟨f - 1, by omega⟩
      rw [mkT, if_neg hc] at hst
      have hci : (0 : Int) < (c : Int) := by omega
      have e1 : ((c % 10 : Nat) : Int) = (c : Int) % 10 := by omega
      rw [e1] at hst
      obtain ⟨C, hC⟩ : ∃ C : Int, (c : Int) = C := ⟨_, rfl⟩
      have q1 : (c / 10 : Nat) = (C / 10).toNat := by omega
      have HS : MkIs f (c / 10) (strI [48 + C % 10] ++ o) R := ⟨by rw [← hC]; exact hst⟩
      rw [hC] at hci ⊢
      have hcv := fun w => conv_own (own_first w (48 + C % 10))
      have hs2 : (strI [48 + C % 10]).size = 1 := rfl
      have hC1 : C ≤ 1000000 := by omega
      have HC : Hid ((c : Int) = C) := hC
      clear hst e1 hC
      go_wp2_with fail
      have := HC.out
      exact ⟨⟨c / 10, f, _, by congr 1; omega, rfl, by omega, by rw [ByteArray.size_append, hs2]; omega, HS, hb.alloc hb.size _⟩, by simp [intOf]; omega⟩

theorem cTks_at (ts : List Tk) (i j : Nat) (T : Tk) (hT : ts[i]? = some T) (hj : j < 6) : (cTks ts)[i * 6 + j]? = (cTk T)[j]? := by
  induction ts generalizing i with
  | nil => simp at hT
  | cons a r ih =>
    have e : cTks (a :: r) = cTk a ++ cTks r := by simp [cTks]
    have la : (cTk a).length = 6 := rfl
    rw [e]
    cases i with
    | zero => simp at hT; subst hT; rw [List.getElem?_append_left (by omega)]; congr 1; omega
    | succ i =>
      rw [List.getElem?_append_right (by omega), la, show (i + 1) * 6 + j - 6 = i * 6 + j by omega]
      exact ih i (by simpa using hT)
theorem cTks_len (ts : List Tk) : (cTks ts).length = ts.length * 6 := by
  induction ts with
  | nil => rfl
  | cons a r ih =>
    have e : cTks (a :: r) = cTk a ++ cTks r := by simp [cTks]
    have la : (cTk a).length = 6 := rfl
    rw [e, List.length_append, ih, la, List.length_cons]; omega

set_option maxHeartbeats 1600000 in
theorem eqToken_any (T : Tk) (w : World) : Calls Tryd.prog 35 #[vTk T, vTk T] w fun e w' => e = .returned (.bool true) ∧ Below w.heap.size w w' := by
  obtain ⟨k, f, t, l, n, x⟩ := T
  unfold vTk
  simp only
  go_enter Tryd.func35, Tryd.ntmps35
  go_wp2
  go_ret
  exact ⟨rfl, ((Below.refl _ w).alloc (Nat.le_refl _) _).alloc (by simp) _⟩

theorem lt_of_own {W : World} {base e size g n cap : Nat} {xs : List Value} (h : W.ownsRow base e size (.slice (some ⟨g, 0, none⟩) n cap) n xs) : g < W.heap.size := (h.lt g rfl).2
/-- The cells of the token i, out of what the slice owns. -/
theorem tok_at {W : World} {base e g n cap : Nat} {ts : List Tk} (h : W.ownsRow base e 6 (.slice (some ⟨g, 0, none⟩) n cap) n (cTks ts)) (i : Nat) (T : Tk) (hT : ts[i]? = some T) (hi : i < n) :
    W.cell? ⟨g, i * 6, none⟩ = some (.int .i64 T.k) ∧ W.cell? ⟨g, i * 6 + 1, none⟩ = some (.int .i64 T.f) ∧ W.cell? ⟨g, i * 6 + 2, none⟩ = some (.int .i64 T.t) ∧ W.cell? ⟨g, i * 6 + 3, none⟩ = some (.int .i64 T.l) ∧ W.cell? ⟨g, i * 6 + 4, none⟩ = some (.int .i64 T.n) ∧ W.cell? ⟨g, i * 6 + 5, none⟩ = some (.string T.x) := by
  have c : ∀ j, j < 6 → W.cell? ⟨g, i * 6 + j, none⟩ = (cTk T)[j]? := fun j hj => by rw [h.cellAt (i * 6 + j) (by omega), cTks_at ts i j T hT hj]
  exact ⟨c 0 (by omega), c 1 (by omega), c 2 (by omega), c 3 (by omega), c 4 (by omega), c 5 (by omega)⟩
theorem own_kept {w w' : World} {base e size : Nat} {v : Value} {n : Nat} {xs : List Value} (h : w.ownsRow base e size v n xs) (hb : Below w.heap.size w w') : w'.ownsRow base e size v n xs :=
  h.kept (row := none) ⟨hb.os, hb.tape, hb.output, hb.size, fun k hk _ => hb.block k hk⟩ (by cases v.ownBlock <;> simp)

set_option maxRecDepth 100000 in
set_option maxHeartbeats 1600000 in
theorem eqTokenS_some (w : World) (ts : List Tk) (n b1 b2 g1 g2 c1 c2 : Nat) (hn : n ≤ 70000) (hl : ts.length = n) (o1 : w.ownsRow b1 30 6 (.slice (some ⟨g1, 0, none⟩) n c1) n (cTks ts)) (o2 : w.ownsRow b2 30 6 (.slice (some ⟨g2, 0, none⟩) n c2) n (cTks ts)) :
    Calls Tryd.prog 20 #[.slice (some ⟨g1, 0, none⟩) n c1, .slice (some ⟨g2, 0, none⟩) n c2] w fun e w' => e = .returned (.bool true) ∧ Below w.heap.size w w' := by
  go_enter Tryd.func20, Tryd.ntmps20
  go_wp2_with fail
  go_loopw [5] (fun i wr => ∃ k : Nat, k ≤ n ∧ i = .int .i64 k ∧ Below w.heap.size w wr) (fun i _ => n - (intOf i).toNat)
  case atStart => exact ⟨0, Nat.zero_le _, rfl, Below.refl _ _⟩
  case round =>
    obtain ⟨k, hk, rfl, hb⟩ := hrel
    by_cases hlt : k < n
    · have hki : (k : Int) < (n : Int) := by omega
      have hk0 : (0 : Int) ≤ (k : Int) := by omega
      obtain ⟨T, hT⟩ : ∃ T, ts[k]? = some T := ⟨ts[k], List.getElem?_eq_getElem (by omega)⟩
      obtain ⟨a0, a1, a2, a3, a4, a5⟩ := tok_at (own_kept o1 hb) k T hT hlt
      obtain ⟨d0, d1, d2, d3, d4, d5⟩ := tok_at (own_kept o2 hb) k T hT hlt
      have ke := fun w => eqToken_any T w
      obtain ⟨tk, tf, tt, tl, tn, tx⟩ := T
      unfold vTk at ke
      simp only at a0 a1 a2 a3 a4 a5 d0 d1 d2 d3 d4 d5 ke
      have hg1 : g1 < wr.heap.size := Nat.lt_of_lt_of_le (lt_of_own o1) hb.size
      have hg2 : g2 < wr.heap.size := Nat.lt_of_lt_of_le (lt_of_own o2) hb.size
      clear hT o1 o2
      go_wp2_with fail
      go_region_held3 (fun w' => w'.cell? ⟨g1, k * 6, none⟩ = some (.int .i64 tk) ∧ w'.cell? ⟨g1, k * 6 + 1, none⟩ = some (.int .i64 tf) ∧ w'.cell? ⟨g1, k * 6 + 2, none⟩ = some (.int .i64 tt) ∧ w'.cell? ⟨g1, k * 6 + 3, none⟩ = some (.int .i64 tl) ∧ w'.cell? ⟨g1, k * 6 + 4, none⟩ = some (.int .i64 tn) ∧ w'.cell? ⟨g1, k * 6 + 5, none⟩ = some (.string tx) ∧ w'.cell? ⟨g2, k * 6, none⟩ = some (.int .i64 tk) ∧ w'.cell? ⟨g2, k * 6 + 1, none⟩ = some (.int .i64 tf) ∧ w'.cell? ⟨g2, k * 6 + 2, none⟩ = some (.int .i64 tt) ∧ w'.cell? ⟨g2, k * 6 + 3, none⟩ = some (.int .i64 tl) ∧ w'.cell? ⟨g2, k * 6 + 4, none⟩ = some (.int .i64 tn) ∧ w'.cell? ⟨g2, k * 6 + 5, none⟩ = some (.string tx)) (first | go_keep | exact ⟨(cell_below hb4 hg1).trans a0, (cell_below hb4 hg1).trans a1, (cell_below hb4 hg1).trans a2, (cell_below hb4 hg1).trans a3, (cell_below hb4 hg1).trans a4, (cell_below hb4 hg1).trans a5, (cell_below hb4 hg2).trans d0, (cell_below hb4 hg2).trans d1, (cell_below hb4 hg2).trans d2, (cell_below hb4 hg2).trans d3, (cell_below hb4 hg2).trans d4, (cell_below hb4 hg2).trans d5⟩) ((go_at_call 35; refine (ke _).mono ?_; rintro e w4 ⟨rfl, hb4⟩))
      go_wp2_with fail
      go_roundw
      case rel => exact ⟨k + 1, by omega, by go_num, (show Below w.heap.size w wr.drew from ⟨hb.os, hb.tape, hb.output, hb.size, hb.block⟩).trans (hb4.mono hb.size)⟩
      case measure => simp [intOf]; omega
    · obtain rfl : k = n := by omega
      go_wp2_with fail
      go_ret
      exact ⟨rfl, hb⟩

theorem own_form {W : World} {base e size n : Nat} {v : Value} {xs : List Value} (h : W.ownsRow base e size v n xs) : ∃ a cap, v = .slice a n cap := by
  rcases h.2 with ⟨rfl, hn⟩ | ⟨g, cap, cur, rfl, _⟩
  · exact ⟨none, 0, by rw [hn]⟩
  · exact ⟨_, _, rfl⟩

set_option maxHeartbeats 800000 in
theorem eqTokenS_none (w : World) (a1 a2 : Option Addr) (c1 c2 : Nat) :
    Calls Tryd.prog 20 #[.slice a1 0 c1, .slice a2 0 c2] w fun e w' => e = .returned (.bool true) ∧ Below w.heap.size w w' := by
  go_enter Tryd.func20, Tryd.ntmps20
  go_wp2_with fail
  refine wp_loop_rounds 1 ?_
  rw [rounds_succ]
  go_wp2
  go_ret
  exact ⟨rfl, Below.refl _ _⟩

theorem eqTokenS_any (w : World) (ts : List Tk) (n b1 b2 : Nat) (v1 v2 : Value) (hn : n ≤ 70000) (hl : ts.length = n) (o1 : w.ownsRow b1 30 6 v1 n (cTks ts)) (o2 : w.ownsRow b2 30 6 v2 n (cTks ts)) :
    Calls Tryd.prog 20 #[v1, v2] w fun e w' => e = .returned (.bool true) ∧ Below w.heap.size w w' := by
  cases n with
  | zero =>
    obtain ⟨a1, c1, rfl⟩ := own_form o1
    obtain ⟨a2, c2, rfl⟩ := own_form o2
    exact eqTokenS_none w a1 a2 c1 c2
  | succ n =>
    obtain ⟨g1, c1, rfl⟩ := ownsRow_succ o1
    obtain ⟨g2, c2, rfl⟩ := ownsRow_succ o2
    exact eqTokenS_some w ts (n + 1) b1 b2 g1 g2 c1 c2 hn hl o1 o2

set_option maxHeartbeats 1600000 in
theorem eqScanned_any (ok : Bool) (at_ : Int) (w : World) (ts : List Tk) (n b1 b2 : Nat) (v1 v2 : Value) (hn : n ≤ 70000) (hl : ts.length = n) (o1 : w.ownsRow b1 30 6 v1 n (cTks ts)) (o2 : w.ownsRow b2 30 6 v2 n (cTks ts)) :
    Calls Tryd.prog 9 #[.agg #[.bool ok, .int .i64 at_, v1], .agg #[.bool ok, .int .i64 at_, v2]] w fun e w' => e = .returned (.bool true) ∧ Below w.heap.size w w' := by
  obtain ⟨a1, c1, rfl⟩ := own_form o1
  obtain ⟨a2, c2, rfl⟩ := own_form o2
  have ke := fun w h1 h2 => eqTokenS_any w ts n b1 b2 (.slice a1 n c1) (.slice a2 n c2) hn hl h1 h2
  cases ok
  all_goals
    go_enter Tryd.func9, Tryd.ntmps9
    go_wp2_with (go_at_call 20; refine (ke _ ((o1.alloc _).alloc _) ((o2.alloc _).alloc _)).mono ?_; rintro e w4 ⟨rfl, hb4⟩)
    go_ret
    exact ⟨rfl, (((Below.refl _ w).alloc (Nat.le_refl _) _).alloc (by simp) _).trans (hb4.mono (by simp; omega))⟩
end Go.Proofs.YtlmkmihbbnjngaaDoor

namespace Go.Proofs.YtlmkmihbbnjngaaDoor
open Go.RowKit
set_option linter.unusedVariables false

/-- What the law writes into the token i. -/
def mkTk (i : Nat) : Tk := ⟨1 + 6 * i, 1 + 6 * i + 1, 1 + 6 * i + 1 + 1, 1 + 6 * i + 1 + 1 + 1, 1 + 6 * i + 1 + 1 + 1 + 1, mtI (6 + 6 * i)⟩
def marks (n : Nat) : List Tk := (List.range n).map mkTk
theorem marks_len (n : Nat) : (marks n).length = n := by simp [marks]
theorem marks_at (n i : Nat) (h : i < n) : (marks n)[i]? = some (mkTk i) := by simp [marks, h]
theorem marks_step (ts : List Tk) (k : Nat) (h : k < ts.length) : (marks k ++ ts.drop k).set k (mkTk k) = marks (k + 1) ++ ts.drop (k + 1) := by
  rw [List.set_append_right _ _ (by rw [marks_len]; exact Nat.le_refl _), marks_len, Nat.sub_self, List.drop_eq_getElem_cons h, List.set_cons_zero]
  simp [marks, List.range_succ]
theorem cTks_cons (a : Tk) (r : List Tk) : cTks (a :: r) = cTk a ++ cTks r := by simp [cTks]
theorem cTks_set (T : Tk) : ∀ (L : List Tk) (i : Nat), i < L.length → (((((((cTks L).set (i * 6) (.int .i64 T.k)).set (i * 6 + 1) (.int .i64 T.f)).set (i * 6 + 2) (.int .i64 T.t)).set (i * 6 + 3) (.int .i64 T.l)).set (i * 6 + 4) (.int .i64 T.n)).set (i * 6 + 5) (.string T.x)) = cTks (L.set i T)
  | [], i, h => by simp at h
  | a :: r, 0, h => by
    rw [List.set_cons_zero, cTks_cons, cTks_cons]
    simp [cTk]
  | a :: r, i + 1, h => by
    have ih := cTks_set T r i (by simpa using h)
    rw [List.set_cons_succ, cTks_cons, cTks_cons, ← ih]
    have la : (cTk a).length = 6 := rfl
    have st : ∀ (xs : List Value) (j : Nat) (u : Value), (cTk a ++ xs).set ((i + 1) * 6 + j) u = cTk a ++ xs.set (i * 6 + j) u := fun xs j u => by
      rw [List.set_append_right _ _ (by omega), la, show (i + 1) * 6 + j - 6 = i * 6 + j by omega]
    have s0 := fun xs u => st xs 0 u
    simp only [Nat.add_zero] at s0
    rw [s0, st, st, st, st, st]
theorem set5_at (L : List Value) (k : Nat) (u0 u1 u2 u3 u4 : Value) : (((((L.set (k * 6) u0).set (k * 6 + 1) u1).set (k * 6 + 2) u2).set (k * 6 + 3) u3).set (k * 6 + 4) u4)[k * 6 + 5]? = L[k * 6 + 5]? := by
  rw [List.getElem?_set_ne (by omega), List.getElem?_set_ne (by omega), List.getElem?_set_ne (by omega), List.getElem?_set_ne (by omega), List.getElem?_set_ne (by omega)]
theorem markText_q (a : Int) (N : Nat) (ha : a = (N : Int)) (h0 : 0 < N) (h1 : N ≤ 1000000) (w : World) : Calls Tryd.prog 36 #[.int .i64 a] w fun e w' => e = .returned (.string (mtI N)) ∧ Below w.heap.size w w' := by
  subst ha; exact markText_any N h0 h1 w

set_option maxRecDepth 100000 in
set_option maxHeartbeats 3200000 in
theorem markTokenS_some (w : World) (ts : List Tk) (n base g cap : Nat) (hn : n ≤ 70000) (hl : ts.length = n) (o : w.ownsRow base 30 6 (.slice (some ⟨g, 0, none⟩) n cap) n (cTks ts)) :
    Calls Tryd.prog 21 #[.slice (some ⟨g, 0, none⟩) n cap, .int .i64 1] w fun e w' => e = .returned (.int .i64 (1 + 6 * n)) ∧ w'.ownsRow base 30 6 (.slice (some ⟨g, 0, none⟩) n cap) n (cTks (marks n)) ∧ w.grownBy w' (some g) := by
  go_enter Tryd.func21, Tryd.ntmps21
  go_wp2_with fail
  go_loopw [1, 5] (fun vk vi wr => ∃ k : Nat, k ≤ n ∧ vi = .int .i64 k ∧ vk = .int .i64 (1 + 6 * k) ∧ wr.ownsRow base 30 6 (.slice (some ⟨g, 0, none⟩) n cap) n (cTks (marks k ++ ts.drop k)) ∧ w.grownBy wr (some g)) (fun _ vi _ => n - (intOf vi).toNat)
  case atStart => exact ⟨0, Nat.zero_le _, rfl, rfl, o, gr_refl _ _⟩
  case round =>
    obtain ⟨k, hk, rfl, rfl, ho, hg⟩ := hrel
    clear o
    by_cases hlt : k < n
    · have hki : (k : Int) < (n : Int) := by omega
      have hk0 : (0 : Int) ≤ (k : Int) := by omega
      obtain ⟨K, hK⟩ : ∃ K : Int, 1 + 6 * (k : Int) = K := ⟨_, rfl⟩
      obtain ⟨T, hT⟩ : ∃ T, (marks k ++ ts.drop k)[k]? = some T := ⟨(marks k ++ ts.drop k)[k]'(by simp [marks_len]; omega), List.getElem?_eq_getElem _⟩
      obtain ⟨a0, a1, a2, a3, a4, a5⟩ := tok_at ho k T hT hlt
      have fz := fun j => ho.frozenAt j
      have km := fun w => markText_q (K + 1 + 1 + 1 + 1 + 1) (6 + 6 * k) (by omega) (by omega) (by omega) w
      have hK0 : 1 ≤ K := by omega
      have hK1 : K ≤ 420001 := by omega
      have HK : Hid (1 + 6 * (k : Int) = K) := hK
      rw [hK]
      have o5 := (((((ho.stored (k * 6) (.int .i64 K)).1.stored (k * 6 + 1) (.int .i64 (K + 1))).1.stored (k * 6 + 2) (.int .i64 (K + 1 + 1))).1.stored (k * 6 + 3) (.int .i64 (K + 1 + 1 + 1))).1.stored (k * 6 + 4) (.int .i64 (K + 1 + 1 + 1 + 1))).1
      have x5 := fun u0 u1 u2 u3 u4 => set5_at (cTks (marks k ++ ts.drop k)) k u0 u1 u2 u3 u4 |>.trans (cTks_at _ k 5 T hT (by omega))
      obtain ⟨tk, tf, tt, tl, tn, tx⟩ := T
      simp only at a0 a1 a2 a3 a4 a5
      clear hT hK
      go_wp2_with (go_at_call 36; refine (km _).mono ?_; rintro e w4 ⟨rfl, hb4⟩; have o6 := own_kept o5 hb4; have f6 := o6.frozenAt (k * 6 + 5); have c6 : w4.cell? ⟨g, k * 6 + 5, none⟩ = some (.string tx) := (o6.cellAt (k * 6 + 5) (by omega)).trans (x5 _ _ _ _ _))
      have o7 := (o6.stored (k * 6 + 5) (.string (mtI (6 + 6 * k)))).1
      have hk7 := HK.out
      subst hk7
      have e7 := cTks_set (mkTk k) (marks k ++ ts.drop k) k (by rw [List.length_append, marks_len, List.length_drop]; omega)
      rw [marks_step ts k (by omega)] at e7
      refine ⟨⟨k + 1, by omega, by go_num, by congr 1 <;> omega, ?_, ?_⟩, by simp [intOf]; omega⟩
      · rw [← e7]; exact o7
      · refine gr_set (gr_trans (gr_set (gr_set (gr_set (gr_set (gr_set hg _ _) _ _) _ _) _ _) _ _) ⟨hb4.os, hb4.tape, hb4.output, hb4.size, fun k hk _ => hb4.block k hk⟩) _ _
    · obtain rfl : k = n := by omega
      go_wp2_with fail
      go_ret
      exact ⟨rfl, by rw [List.drop_of_length_le (by omega), List.append_nil] at ho; exact ho, hg⟩

set_option maxRecDepth 100000 in
set_option maxHeartbeats 3200000 in
theorem heldTokenS_some (w : World) (n base g cap : Nat) (hn : n ≤ 70000) (o : w.ownsRow base 30 6 (.slice (some ⟨g, 0, none⟩) n cap) n (cTks (marks n))) :
    Calls Tryd.prog 22 #[.slice (some ⟨g, 0, none⟩) n cap, .int .i64 1] w fun e w' => e = .returned (.int .i64 (1 + 6 * n)) ∧ Below w.heap.size w w' := by
  have hgw : g < w.heap.size := lt_of_own o
  go_enter Tryd.func22, Tryd.ntmps22
  go_wp2_with fail
  go_loopw [1, 5] (fun vk vi wr => ∃ k : Nat, k ≤ n ∧ vi = .int .i64 k ∧ vk = .int .i64 (1 + 6 * k) ∧ Below w.heap.size w wr) (fun _ vi _ => n - (intOf vi).toNat)
  case atStart => exact ⟨0, Nat.zero_le _, rfl, rfl, Below.refl _ _⟩
  case round =>
    obtain ⟨k, hk, rfl, rfl, hb⟩ := hrel
    by_cases hlt : k < n
    · have hki : (k : Int) < (n : Int) := by omega
      have hk0 : (0 : Int) ≤ (k : Int) := by omega
      obtain ⟨a0, a1, a2, a3, a4, a5⟩ := tok_at (own_kept o hb) k (mkTk k) (marks_at n k hlt) hlt
      unfold mkTk at a0 a1 a2 a3 a4 a5
      simp only at a0 a1 a2 a3 a4 a5
      obtain ⟨K, hK⟩ : ∃ K : Int, 1 + 6 * (k : Int) = K := ⟨_, rfl⟩
      have km := fun w => markText_q (K + 1 + 1 + 1 + 1 + 1) (6 + 6 * k) (by omega) (by omega) (by omega) w
      have hK0 : 1 ≤ K := by omega
      have hK1 : K ≤ 420001 := by omega
      have HK : Hid (1 + 6 * (k : Int) = K) := hK
      rw [hK] at a0 a1 a2 a3 a4 ⊢
      have hgr : g < wr.heap.size := Nat.lt_of_lt_of_le hgw hb.size
      generalize mtI (6 + 6 * k) = M at a5 km
      clear hK o
      go_wp2_with fail
      go_region_held3 (fun w' => w'.cell? ⟨g, k * 6 + 5, none⟩ = some (.string M)) (first | go_keep | exact (cell_below hb4 hgr).trans a5) ((go_at_call 36; refine (km _).mono ?_; rintro e w4 ⟨rfl, hb4⟩))
      go_wp2_with fail
      have hk7 := HK.out
      exact ⟨⟨k + 1, by omega, by go_num, by congr 1 <;> omega, (show Below w.heap.size w wr.drew from ⟨hb.os, hb.tape, hb.output, hb.size, hb.block⟩).trans (hb4.mono hb.size)⟩, by simp [intOf]; omega⟩
    · obtain rfl : k = n := by omega
      go_wp2_with fail
      go_ret
      exact ⟨rfl, hb⟩

set_option maxHeartbeats 800000 in
theorem markTokenS_none (w : World) (a1 : Option Addr) (c1 : Nat) :
    Calls Tryd.prog 21 #[.slice a1 0 c1, .int .i64 1] w fun e w' => e = .returned (.int .i64 1) ∧ w' = w := by
  go_enter Tryd.func21, Tryd.ntmps21
  go_wp2_with fail
  refine wp_loop_rounds 1 ?_
  rw [rounds_succ]
  go_wp2
  go_ret
  exact ⟨rfl, rfl⟩
set_option maxHeartbeats 800000 in
theorem heldTokenS_none (w : World) (a1 : Option Addr) (c1 : Nat) :
    Calls Tryd.prog 22 #[.slice a1 0 c1, .int .i64 1] w fun e w' => e = .returned (.int .i64 1) ∧ w' = w := by
  go_enter Tryd.func22, Tryd.ntmps22
  go_wp2_with fail
  refine wp_loop_rounds 1 ?_
  rw [rounds_succ]
  go_wp2
  go_ret
  exact ⟨rfl, rfl⟩

/-- Nothing has turned but the row that a slice owns. -/
def OwnOnly (v : Value) (w w' : World) : Prop := w.grownBy w' v.ownBlock
theorem markTokenS_any (w : World) (ts : List Tk) (n base : Nat) (v : Value) (hn : n ≤ 70000) (hl : ts.length = n) (o : w.ownsRow base 30 6 v n (cTks ts)) :
    Calls Tryd.prog 21 #[v, .int .i64 1] w fun e w' => e = .returned (.int .i64 (1 + 6 * n)) ∧ w'.ownsRow base 30 6 v n (cTks (marks n)) ∧ OwnOnly v w w' := by
  cases n with
  | zero =>
    obtain ⟨a1, c1, rfl⟩ := own_form o
    refine (markTokenS_none w a1 c1).mono ?_
    rintro e w' ⟨rfl, rfl⟩
    obtain rfl : ts = [] := List.eq_nil_of_length_eq_zero hl
    exact ⟨rfl, o, World.grownBy.refl _ _⟩
  | succ n =>
    obtain ⟨g1, c1, rfl⟩ := ownsRow_succ o
    exact markTokenS_some w ts (n + 1) base g1 c1 hn hl o
theorem heldTokenS_any (w : World) (n base : Nat) (v : Value) (hn : n ≤ 70000) (o : w.ownsRow base 30 6 v n (cTks (marks n))) :
    Calls Tryd.prog 22 #[v, .int .i64 1] w fun e w' => e = .returned (.int .i64 (1 + 6 * n)) ∧ Below w.heap.size w w' := by
  cases n with
  | zero =>
    obtain ⟨a1, c1, rfl⟩ := own_form o
    refine (heldTokenS_none w a1 c1).mono ?_
    rintro e w' ⟨rfl, rfl⟩
    exact ⟨rfl, Below.refl _ _⟩
  | succ n =>
    obtain ⟨g1, c1, rfl⟩ := ownsRow_succ o
    exact heldTokenS_some w (n + 1) base g1 c1 hn o

set_option maxHeartbeats 800000 in
theorem markScanned_any (ok : Bool) (at_ : Int) (w : World) (ts : List Tk) (n base : Nat) (v : Value) (hn : n ≤ 70000) (hl : ts.length = n) (o : w.ownsRow base 30 6 v n (cTks ts)) :
    Calls Tryd.prog 10 #[.agg #[.bool ok, .int .i64 at_, v], .int .i64 1] w fun e w' => e = .returned (.int .i64 (1 + 6 * n)) ∧ w'.ownsRow base 30 6 v n (cTks (marks n)) ∧ OwnOnly v w w' := by
  obtain ⟨a1, c1, rfl⟩ := own_form o
  have km := fun w h => markTokenS_any w ts n base (.slice a1 n c1) hn hl h
  go_enter Tryd.func10, Tryd.ntmps10
  go_wp2_with (go_at_call 21; refine (km _ (o.alloc _)).mono ?_; rintro e w4 ⟨rfl, o4, hg4⟩)
  go_ret
  refine ⟨rfl, o4, hg4.os, hg4.tape, hg4.output, Nat.le_trans (by simp) hg4.size, fun k hk hne => (hg4.block k (by simp; omega) hne).trans (Below.heap_alloc w _ k hk)⟩
set_option maxHeartbeats 800000 in
theorem heldScanned_any (ok : Bool) (at_ : Int) (w : World) (n base : Nat) (v : Value) (hn : n ≤ 70000) (o : w.ownsRow base 30 6 v n (cTks (marks n))) :
    Calls Tryd.prog 11 #[.agg #[.bool ok, .int .i64 at_, v], .int .i64 1] w fun e w' => e = .returned (.int .i64 (1 + 6 * n)) ∧ Below w.heap.size w w' := by
  obtain ⟨a1, c1, rfl⟩ := own_form o
  have km := fun w h => heldTokenS_any w n base (.slice a1 n c1) hn h
  have hneg : ¬ (1 + 6 * (n : Int)) < 0 := by omega
  go_enter Tryd.func11, Tryd.ntmps11
  go_wp2_with (go_at_call 22; refine (km _ (o.alloc _)).mono ?_; rintro e w4 ⟨rfl, hb4⟩)
  go_ret
  exact ⟨rfl, ((Below.refl _ w).alloc (Nat.le_refl _) _).trans (hb4.mono (by simp))⟩
end Go.Proofs.YtlmkmihbbnjngaaDoor

namespace Go.Proofs.YtlmkmihbbnjngaaDoor
open Go.RowKit Go.Maps Go.WideMaps
set_option linter.unusedVariables false

/-- What the law holds: the two answers in their boxes, the tokens that they own. -/
structure Lst (w : World) (ok : Bool) (at_ : Int) (n b0 b1 s0 s1 : Nat) (v0 v1 : Value) (t0 t1 : List Tk) (W : World) : Prop where
  bA : W.heap[b0]? = some (.cells #[.bool ok, .int .i64 at_, v0] 27 (0, 0))
  bB : W.heap[b1]? = some (.cells #[.bool ok, .int .i64 at_, v1] 27 (0, 0))
  o0 : W.ownsRow s0 30 6 v0 n (cTks t0)
  o1 : W.ownsRow s1 30 6 v1 n (cTks t1)
  bl : Below w.heap.size w W
theorem Lst.below {w : World} {ok : Bool} {at_ : Int} {n b0 b1 s0 s1 : Nat} {v0 v1 : Value} {t0 t1 : List Tk} {W W' : World} (h : Lst w ok at_ n b0 b1 s0 s1 v0 v1 t0 t1 W) (hb : Below W.heap.size W W') : Lst w ok at_ n b0 b1 s0 s1 v0 v1 t0 t1 W' :=
  ⟨(hb.block _ (lt_of_block h.bA)).trans h.bA, (hb.block _ (lt_of_block h.bB)).trans h.bB, own_kept h.o0 hb, own_kept h.o1 hb, h.bl.trans (hb.mono h.bl.size)⟩
theorem box_cells {b : Nat} {W : World} {ok : Bool} {at_ : Int} {v : Value} (h : W.heap[b]? = some (.cells #[.bool ok, .int .i64 at_, v] 27 (0, 0))) :
    W.cell? ⟨b, 0, none⟩ = some (.bool ok) ∧ W.cell? ⟨b, 1, none⟩ = some (.int .i64 at_) ∧ W.cell? ⟨b, 2, none⟩ = some v :=
  ⟨by rw [cell_of_row _ _ _ _ _ _ h]; rfl, by rw [cell_of_row _ _ _ _ _ _ h]; rfl, by rw [cell_of_row _ _ _ _ _ _ h]; rfl⟩

set_option maxRecDepth 100000 in
set_option maxHeartbeats 6400000 in
theorem scan_walk (s : ByteArray) (hsz : s.size ≤ 9223372036854775807) (w : World) (hL : Lay w) (h9 : 9 ≤ w.heap.size) :
    Calls Tryd.prog 4 #[.string s] w fun e w' => e = .returned (.bool true) ∧ Below w.heap.size w w' := by
  by_cases h1 : 1048576 < s.size
  · go_enter Tryd.func4, Tryd.ntmps4
    go_wp2
    go_ret
    exact ⟨rfl, Below.refl _ _⟩
  have hle : s.size ≤ 1048576 := by omega
  have ks := fun w => specScan_any s hle w
  have ki := fun w hL h9 => scan_any s w hL h9
  have hn := scR_len s
  obtain ⟨n, hln⟩ : ∃ n, (resTs (scR s)).length = n := ⟨_, rfl⟩
  rw [hln] at hn
  simp only [hln] at ks ki
  have HL : Hid ((resTs (scR s)).length = n) := hln
  clear hln
  generalize resTs (scR s) = ts at ks ki HL
  generalize resAt (scR s) = at_ at ks ki
  generalize (scR s).1 = ok at ks ki
  have HKS : Hid (∀ w, Calls Tryd.prog 8 #[.string s] w fun e w' => ∃ v, e = .returned (.agg #[.bool ok, .int .i64 at_, v]) ∧ w'.ownsRow w.heap.size 30 6 v n (cTks ts) ∧ Below w.heap.size w w') := ks
  have HKI : Hid (∀ w (hL : Lay w) (h9 : 9 ≤ w.heap.size), Calls Tryd.prog 7 #[.string s] w fun e w' => ∃ v, e = .returned (.agg #[.bool ok, .int .i64 at_, v]) ∧ w'.ownsRow w.heap.size 30 6 v n (cTks ts) ∧ Below w.heap.size w w') := ki
  clear ks ki
  go_enter Tryd.func4, Tryd.ntmps4
  go_wp2_with (go_at_call 8; fail)
  refine (HKS.out _).mono ?_
  rintro e w1 ⟨v0, rfl, o0, hb1⟩
  obtain ⟨a0, c0, rfl⟩ := own_form o0
  go_wp2_with (go_at_call 7; fail)
  have hA1 : (w1.alloc (.cells #[.bool ok, .int .i64 at_, .slice a0 n c0] 27)).heap[w1.heap.size]? = some (.cells #[.bool ok, .int .i64 at_, .slice a0 n c0] 27 (0, 0)) := heap_alloc_new w1 _
  have hs1 : (w1.alloc (.cells #[.bool ok, .int .i64 at_, .slice a0 n c0] 27)).heap.size = w1.heap.size + 1 := World.size_alloc _ _
  have hb1' : Below w.heap.size w (w1.alloc (.cells #[.bool ok, .int .i64 at_, .slice a0 n c0] 27)) := hb1.alloc hb1.size _
  have hlt0 : ∀ g, (Value.slice a0 n c0).ownBlock = some g → g < w1.heap.size := fun g hg => (o0.lt g hg).2
  have o01 := o0.alloc (.cells #[.bool ok, .int .i64 at_, .slice a0 n c0] 27)
  generalize w1.alloc (.cells #[.bool ok, .int .i64 at_, .slice a0 n c0] 27) = W1 at hA1 hs1 hb1' o01 ⊢
  have hw1 := hb1.size
  refine (HKI.out W1 (hL.below hb1' (Nat.le_refl _)) (by omega)).mono ?_
  rintro e w2 ⟨v1, rfl, o1, hb2⟩
  obtain ⟨a1, c1, rfl⟩ := own_form o1
  obtain ⟨p0, p1, p2⟩ := box_cells ((hb2.block _ (by omega)).trans hA1)
  have hlt1 : w1.heap.size < w2.heap.size := lt_of_block ((hb2.block _ (by omega)).trans hA1)
  have hne1 : w1.heap.size ≠ w2.heap.size := by omega
  have hv1 : ∀ g, (Value.slice a1 n c1).ownBlock = some g → w1.heap.size < g ∧ g < w2.heap.size := fun g hg => ⟨by have := (o1.lt g hg).1; omega, (o1.lt g hg).2⟩
  go_wp2_with (go_at_call 9; fail)
  have hLs : Lst w ok at_ n w1.heap.size w2.heap.size w.heap.size W1.heap.size (.slice a0 n c0) (.slice a1 n c1) ts ts (w2.alloc (.cells #[.bool ok, .int .i64 at_, .slice a1 n c1] 27)) :=
    ⟨(Below.heap_alloc w2 _ _ hlt1).trans ((hb2.block _ (by omega)).trans hA1), heap_alloc_new w2 _, (own_kept o01 hb2).alloc _, o1.alloc _, (hb1'.trans (hb2.mono (by omega))).alloc (by have := hb2.size; omega) _⟩
  generalize w2.alloc (.cells #[.bool ok, .int .i64 at_, .slice a1 n c1] 27) = W2 at hLs ⊢
  refine (eqScanned_any ok at_ W2 ts n _ _ _ _ (by omega) HL.out hLs.o1 hLs.o0).mono ?_
  rintro e w3 ⟨rfl, hb3⟩
  have hL3 := hLs.below hb3
  clear p0 p1 p2 hLs hb3 hA1 o01 o0 o1
  obtain ⟨q0, q1, q2⟩ := box_cells hL3.bB
  go_wp2_with (go_at_call 10; fail)
  refine (markScanned_any ok at_ w3 ts n _ _ (by omega) HL.out hL3.o1).mono ?_
  rintro e w4 ⟨rfl, om, hoo⟩
  have hL4 : Lst w ok at_ n w1.heap.size w2.heap.size w.heap.size W1.heap.size (.slice a0 n c0) (.slice a1 n c1) ts (marks n) w4 := by
    refine ⟨(hoo.block _ (lt_of_block hL3.bA) ?_).trans hL3.bA, (hoo.block _ (lt_of_block hL3.bB) ?_).trans hL3.bB, hL3.o0.kept hoo ?_, om, hL3.bl.grown hoo hL3.bl.size ?_⟩
    · intro e; have := hv1 _ e.symm; omega
    · intro e; have := hv1 _ e.symm; omega
    · cases hob : (Value.slice a0 n c0).ownBlock with
      | none => exact .inl rfl
      | some g => exact .inr fun e => by have h0 := hlt0 g hob; have h1 := hv1 g e.symm; omega
    · intro k e; have := hv1 k e; omega
  clear q0 q1 q2 hL3 om hoo
  obtain ⟨q0, q1, q2⟩ := box_cells hL4.bB
  have hnn : ¬ (1 + 6 * (n : Int)) < 0 := by omega
  go_wp2_with (go_at_call 11; fail)
  refine (heldScanned_any ok at_ w4 n _ _ (by omega) hL4.o1).mono ?_
  rintro e w5 ⟨rfl, hb5⟩
  have hL5 := hL4.below hb5
  clear q0 q1 q2 hL4 hb5
  go_wp2_with (go_at_call 7; fail)
  have h5s := hL5.bl.size
  refine (HKI.out w5 (hL.below hL5.bl (Nat.le_refl _)) (by omega)).mono ?_
  rintro e w6 ⟨v6, rfl, o6, hb6⟩
  have hL6 := hL5.below hb6
  obtain ⟨a6, c6, rfl⟩ := own_form o6
  obtain ⟨p0, p1, p2⟩ := box_cells hL6.bA
  have hlt6 : w1.heap.size < w6.heap.size := lt_of_block hL6.bA
  have hne6 : w1.heap.size ≠ w6.heap.size := by omega
  go_wp2_with (go_at_call 9; fail)
  have hL7 := hL6.below ((Below.refl _ w6).alloc (Nat.le_refl _) (.cells #[.bool ok, .int .i64 at_, .slice a6 n c6] 27))
  have o7 := o6.alloc (.cells #[.bool ok, .int .i64 at_, .slice a6 n c6] 27)
  generalize w6.alloc (.cells #[.bool ok, .int .i64 at_, .slice a6 n c6] 27) = W7 at hL7 o7 ⊢
  refine (eqScanned_any ok at_ W7 ts n _ _ _ _ (by omega) HL.out o7 hL7.o0).mono ?_
  rintro e w8 ⟨rfl, hb8⟩
  have hL8 := hL7.below hb8
  clear p0 p1 p2 hL7 hL6 hL5 hb8 o7 o6 hb6
  obtain ⟨q0, q1, q2⟩ := box_cells hL8.bB
  go_wp2_with (go_at_call 11; fail)
  refine (heldScanned_any ok at_ w8 n _ _ (by omega) hL8.o1).mono ?_
  rintro e w9 ⟨rfl, hb9⟩
  have hL9 := hL8.below hb9
  clear q0 q1 q2 hL8 hb9
  go_wp2_with fail
  go_ret
  exact ⟨rfl, hL9.bl⟩
end Go.Proofs.YtlmkmihbbnjngaaDoor

namespace Go.Proofs.YtlmkmihbbnjngaaDoor
open Go.ChangeShapes Go.WideShapes Go.ChangeAt Go.WideMaps Go.WideElems Go.RowKit
open Go.ChangeMaps (open_string shut_string)
set_option linter.unusedVariables false

theorem door_met_scan (os : Os) (args : Array Value) : laidMetH Tryd.prog Rows.fnExactScanRow.laid ((World.doorLaid Tryd.prog 77 os).forCall (fun _ _ => 0) ⟨#[], args, []⟩).memory :=
  laidMetH_of_parts3 (fuel := 8) (laidMet_of_run' 8 (by kernel_rfl) (by kernel_rfl)) (by kernel_rfl) (by kernel_rfl)

set_option maxRecDepth 100000 in
theorem lifted_scan (os : Os) (started : os.Started) (H : Type) (enc : TypeId × Value → H) :
    ReturnsInHanded {} Tryd.checked os 4 .any (fun w args => (Rows.fnExactScanSpec.pre enc Tryd.prog Tryd.f4 [] false w args ∧ laidMetH Tryd.prog Rows.fnExactScanRow.laid w) ∧ sizedMet enc Tryd.prog Tryd.f4 (OpenSpec.ofChange Rows.fnExactScanSpec) false w args)
      (Rows.fnExactScanSpec.post enc Tryd.prog Tryd.f4 false true false false) := by
  refine returnsInHanded_of_change_and (C := Tryd.checked) (X := fun w _ => laidMetH Tryd.prog Rows.fnExactScanRow.laid w) (fun _ _ _ hh h => h.of_heap hh) own started (by kernel_rfl) Tryd.func4
    (ChangeSpec.witness_shaped (enc := enc) (C := Tryd.checked) (os := os) (X := fun w _ => laidMetH Tryd.prog Rows.fnExactScanRow.laid w) false (World.doorLaid Tryd.prog 77 os) #[.string ⟨#[]⟩] 8 rfl (World.shaped_of_RefB (by kernel_rfl) (by kernel_rfl)) (by kernel_rfl) (by kernel_rfl) (by kernel_rfl) (door_met_scan os _)) ?_
  intro W base args ds gs before hval0 hW _ _ hL _
  have hval : ∀ (j : Nat) t v, Tryd.f4.params[j]? = some t → args[j]? = some v → Value.okWide Tryd.prog W .any base t v := hval0
  have hW' := hW
  obtain ⟨p, q, hA0, hV, rfl, hfz, hnd⟩ := hW
  have hA : DataW.TrodAll enc Tryd.prog W 0 (fun _ => true) true Tryd.f4.params.toList args.toList ds p := hA0
  rw [Tryd.params4] at hA hval
  obtain ⟨v0, vs0, d0, ds0, p0, q0, hargs, rfl, rfl, h0, r0⟩ := trodAll_cons hA
  obtain ⟨rfl, rfl, rfl⟩ := trodAll_nil r0
  obtain rfl : args = #[v0] := by cases args; simp_all
  obtain ⟨g1, g2, g3, rfl⟩ := trodVars3 hV
  have k0 := h0
  have lt0 : ∀ x ∈ p0, x.block < W.heap.size := by obtain ⟨m, hm⟩ := k0; exact DataW.trod_lt m _ _ _ hm
  obtain ⟨a0, rfl, rfl, rfl, w0⟩ := open_string Tryd.underlying9 (hval 0 9 v0 rfl rfl) h0
  have hLay := lay_of hL
  clear hA0 hval0
  have h8 : 9 ≤ W.heap.size := by
    have hb := hLay.brj
    unfold World.cell? at hb
    rcases Nat.lt_or_ge 8 W.heap.size with h | h
    · exact h
    · rw [Array.getElem?_eq_none h] at hb; simp at hb
  refine (scan_walk a0 (by unfold maxLen at w0; omega) W hLay h8).mono fun e W' ⟨he, bel⟩ => ?_
  subst he
  exact ⟨_, rfl, _, _, _, [], _, q, hW', trodAll_mk1 (shut_bool Tryd.underlying4 _), (trodAll_cons_mk (Below.trod laidOut (by kernel_rfl) (of_decide_eq_true (by kernel_rfl)) k0 bel lt0) trodAll_mk0), Below.trodVars laidOut bel (by kernel_rfl) hV, bel.frame _, fun h => by cases h⟩

theorem fnExactScan_row : Rows.FnExactScanSaid :=
  OpenClaim.holds_of_wide 4 Tryd.f4 rfl rfl rfl rfl rfl rfl rfl ⟨rfl, rfl, rfl, rfl, rfl⟩ rfl rfl rfl rfl rfl (by kernel_rfl) Tryd.func4 (by kernel_rfl)
    (of_decide_eq_true (by kernel_rfl)) (by unfold Func.isWrapper; first | (rw [if_pos (by decide +kernel)]; kernel_rfl) | (rw [if_neg (by decide +kernel)]; exact ⟨rfl, rfl⟩))
    (fun os started H enc _ => lifted_scan os started H enc)

theorem fnExactScan_holds : Rows.FnExactScanCardSaid :=
  Claim7.holds_tied_plain_at .later [] Rows.fnExactScanCard.laidKinds true Rows.fnExactScanCard.stood.harness true
    fnExactScan_row (fun _ h => by cases h) (by kernel_rfl) (fun _ h => by cases h) fnExactScan_row_tie rfl ⟨rfl, rfl⟩ (by kernel_rfl) rfl
    (fun f fn hf hfn => by
      obtain rfl : f = 4 := Option.some.inj ((show Tryd.prog.funcNamed Rows.fnExactScanRow.func = some 4 by kernel_rfl).symm.trans hf) |>.symm
      obtain rfl : fn = Tryd.f4 := (Option.some.inj (Tryd.func4.symm.trans hfn)).symm
      exact ⟨by kernel_rfl, fun j t ht => by
        rw [Tryd.params4] at ht
        have hm : t ∈ [9] := by simpa using Array.mem_of_getElem? ht
        have hall : ([9].all fun u => !Tryd.prog.wantsStandIn u) = true := by kernel_rfl
        exact (show Tryd.prog.wantsStandIn t = false by simpa using List.all_eq_true.1 hall t hm)⟩)
    (by kernel_rfl)
#print axioms fnExactScan_holds
end Go.Proofs.YtlmkmihbbnjngaaDoor
