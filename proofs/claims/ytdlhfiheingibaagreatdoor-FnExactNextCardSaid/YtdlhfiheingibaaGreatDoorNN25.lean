import Derived.Test.YtdlhfiheingibaaGreatDoorNN24
import Derived.Test.YtdlhfiheingibaaGreatDoorNN23
namespace Go.Proofs.YtdlhfiheingibaaGreatDoor
open Go.RowKit Go.Maps Go.WideMaps
set_option linter.unusedVariables false

/-- The Kind that the model gives a token that does not come to its end. -/
def badK (s : ByteArray) (p : Nat) : Int := if digB (bat s p) = true then (if bat s p = 48 ∧ bat s (p + 1) = 120 then 2 else 3) else if bat s p = 34 then 4 else 0
theorem numA_bad (s : ByteArray) (p : Nat) (h : (numN s p).2 = false) : ∃ (t n : Int) (x : ByteArray), numA s p = .agg #[.int .i64 (if bat s p = 48 ∧ bat s (p + 1) = 120 then 2 else 3), .int .i64 p, .int .i64 t, .int .i64 0, .int .i64 n, .string x] := by
  unfold numA
  unfold numN at h
  by_cases hx : bat s p = 48 ∧ bat s (p + 1) = 120
  · rw [if_pos hx] at h
    rw [if_pos hx, if_pos hx]
    unfold hxA
    rw [if_neg (by rw [h]; simp)]
    exact ⟨_, _, _, rfl⟩
  · rw [if_neg hx] at h
    rw [if_neg hx, if_neg hx]
    unfold nmA
    rw [if_neg (by rw [h]; simp)]
    exact ⟨_, _, _, rfl⟩
/-- What the model reads, its Kind told at every end. -/
def rdK (s : ByteArray) (p : Nat) : Int := if (rdI s p).ok = true then (rdI s p).k else badK s p
theorem fnd_lt (V : Array Value) (s : ByteArray) : ∀ (f k j : Nat), fnd V s f k = some j → j < k + f
  | 0, k, j, h => by simp [fnd] at h
  | f + 1, k, j, h => by
    rw [fnd] at h
    split at h
    · obtain rfl := Option.some.inj h; omega
    · have := fnd_lt V s f (k + 1) j h; omega
theorem rdI_k (s : ByteArray) (p : Nat) (h : (rdI s p).ok = true) : 1 ≤ (rdI s p).k ∧ (rdI s p).k ≤ 78 := by
  unfold rdI at h ⊢
  split
  · simp only
    unfold wdP
    cases hf : fnd wordV (s.extract p (nmE s (s.size + 1) p)) 22 0 with
    | none => simp
    | some k => have := fnd_lt _ _ _ _ _ hf; simp only; omega
  split
  · split
    · simp only
      unfold nuP
      split
      · simp
      · split <;> simp
    · rename_i h1 h2 h3
      rw [if_neg h1, if_pos h2, if_neg h3] at h
      cases h
  split
  · split
    · simp
    · rename_i h1 h2 h3 h4
      rw [if_neg h1, if_neg h2, if_pos h3, if_neg h4] at h
      cases h
  split
  · rename_i h1 h2 h3 h4
    rw [if_neg h1, if_neg h2, if_neg h3, if_pos h4] at h
    cases h
  · rename_i h1 h2 h3 h4
    have := skI_in (s.extract p s.size)
    simp only
    omega
theorem badK_in (s : ByteArray) (p : Nat) : 0 ≤ badK s p ∧ badK s p ≤ 4 := by
  unfold badK
  split
  · split <;> omega
  · split <;> omega

theorem l1read_all (s : ByteArray) (hm : s.size ≤ 70000) (p : Nat) (hp : p < s.size) (w : World) :
    Calls Tryz.prog 17 #[.string s, .int .i64 p] w fun e w' => ∃ t n x bad, e = .returned (.tuple #[.agg #[.int .i64 (rdK s p), .int .i64 p, .int .i64 t, .int .i64 0, .int .i64 n, .string x], .int .i64 bad]) ∧ RdOk (rdI s p) (rdK s p) t n x bad ∧ Below w.heap.size w w' := by
  cases hok0 : (rdI s p).ok with
  | true =>
    refine (l1read_any s hm p hp w).mono ?_
    rintro e w' ⟨k, t, n, x, bad, rfl, h, hb⟩
    obtain ⟨_, rfl, _⟩ := h.yes hok0
    have e : rdK s p = (rdI s p).k := by unfold rdK; rw [if_pos hok0]
    rw [e]
    exact ⟨_, _, _, _, rfl, h, hb⟩
  | false =>
    have e0 : rdK s p = badK s p := by unfold rdK; rw [if_neg (by rw [hok0]; simp)]
    rw [e0]
    have hno := hok0
    unfold rdI at hno
    have hl : ¬ lettB (bat s p) = true := fun h => by rw [if_pos h] at hno; cases hno
    rw [if_neg hl] at hno
    by_cases hd : digB (bat s p) = true
    · rw [if_pos hd] at hno
      have hn2 : (numN s p).2 = false := by
        cases hx : (numN s p).2 with
        | true => rw [if_pos hx] at hno; cases hno
        | false => rfl
      refine (l1read_dig s (by omega) p hp hd w).mono ?_
      rintro e w' ⟨rfl, hb⟩
      obtain ⟨t, n, x, e1⟩ := numA_bad s p hn2
      have e2 : badK s p = (if bat s p = 48 ∧ bat s (p + 1) = 120 then 2 else 3) := by unfold badK; rw [if_pos hd]
      rw [e1, e2, numF_bad s p hn2]
      refine ⟨_, _, _, _, rfl, ⟨fun h => (by rw [hok0] at h; cases h), fun h => ?_⟩, hb⟩
      unfold rdI
      rw [if_neg hl, if_pos hd, if_neg (by rw [hn2]; simp)]
    · rw [if_neg hd] at hno
      by_cases h34 : bat s p = 34
      · have e2 : badK s p = 4 := by unfold badK; rw [if_neg hd, if_pos h34]
        rw [e2]
        refine (l1read_str s hm p hp h34 w).mono ?_
        rintro e w' ⟨rfl, hb⟩
        have hrd : (rdI s p).ok = (rdStr s (s.size + 1) (p + 1) []).1 ∧ (rdI s p).a = (rdStr s (s.size + 1) (p + 1) []).2.1 := by
          unfold rdI
          rw [if_neg hl, if_neg hd, if_pos h34]
          cases hx : (rdStr s (s.size + 1) (p + 1) []).1 with
          | true => rw [if_pos rfl]; exact ⟨rfl, rfl⟩
          | false => rw [if_neg (by simp)]; exact ⟨rfl, rfl⟩
        rw [hok0] at hrd
        generalize hG : rdStr s (s.size + 1) (p + 1) [] = G at hrd
        obtain ⟨ok, a, c⟩ := G
        simp only at hrd
        obtain ⟨h1, h2⟩ := hrd
        subst h1
        refine ⟨_, _, _, _, rfl, ⟨fun h => (by rw [hok0] at h; cases h), fun h => ?_⟩, hb⟩
        rw [h2]
        rfl
      · rw [if_neg h34] at hno
        have e2 : badK s p = 0 := by unfold badK; rw [if_neg hd, if_neg h34]
        rw [e2]
        have hsk : skI (s.extract p s.size) = 0 := by
          by_cases hx : skI (s.extract p s.size) = 0
          · exact hx
          · rw [if_neg hx] at hno; cases hno
        have hb0 : bat (s.extract p s.size) 0 = bat s p := ext_bat s p s.size 0 (Nat.le_refl _) (by omega)
        have h10 : ¬ bat s p = 10 := fun h10 => by
          have hk : skI (s.extract p s.size) = 7 := by unfold skI; rw [hb0, h10]; rfl
          rw [hk] at hsk; exact absurd hsk (by decide)
        have hs := sg_same (s.extract p s.size) (by rw [hb0]; exact h10)
        unfold SgSame at hs
        refine (l1read_sgn s hm p hp h10 (by simpa using hl) (by simpa using hd) h34 w).mono ?_
        rintro e w' ⟨rfl, hb⟩
        generalize sgFq (fun x => Lib.hasPrefix (s.extract p s.size).data.toList x.data.toList) 30 0 = Q at hs
        cases Q with
        | none =>
          refine ⟨_, _, _, _, rfl, ⟨fun h => (by rw [hok0] at h; cases h), fun h => ?_⟩, hb⟩
          unfold rdI
          rw [if_neg hl, if_neg hd, if_neg h34, if_pos hsk]
        | some j =>
          obtain ⟨e1, _, e3, _⟩ := (show _ ∧ _ ∧ _ ∧ _ from hs)
          exact absurd hsk e3
end Go.Proofs.YtdlhfiheingibaaGreatDoor

namespace Go.Proofs.YtdlhfiheingibaaGreatDoor
open Go.RowKit Go.Maps Go.WideMaps
set_option linter.unusedVariables false

/-- The stack behind a token of a Kind, if it can stand. -/
def fedF (st : List Int) (k : Int) : List Int × Bool := if 0 < k then feedL st k else (st, false)
/-- The model's walk over a text: its tokens, the stack behind them, the place of the fault (-1: none). -/
def wlk (s : ByteArray) : Nat → List Int → Nat → Int → List Tk → List Tk × List Int × Int
  | 0, st, _, _, _ => ([], st, 0)
  | f + 1, st, p, l, out =>
    if s.size ≤ p then (out ++ [⟨6, (s.size : Nat), (s.size : Nat), l, 0, ⟨#[]⟩⟩], st, -1)
    else if rdK s p = 7 then
      (if (feedL st 5).2 = true then wlk s f (feedL st 5).1 (blk s (s.size + 1) (rdI s p).a) (l + 1) (out ++ [⟨5, (p : Nat), ((rdI s p).a : Nat), l, (rdI s p).n, (rdI s p).x⟩]) else wlk s f st (blk s (s.size + 1) (rdI s p).a) (l + 1) out)
    else if (fedF st (rdK s p)).2 = true then
      (if (rdI s p).ok = true then wlk s f (feedL st (rdK s p)).1 (blk s (s.size + 1) (rdI s p).a) l (out ++ [⟨rdK s p, (p : Nat), ((rdI s p).a : Nat), l, (rdI s p).n, (rdI s p).x⟩]) else ([], st, ((rdI s p).a : Nat)))
    else ([], st, (wrongF s p (mayL st) : Nat))
def walkF (s : ByteArray) : List Tk × List Int × Int := wlk s (s.size + 1) [100, 6] (blk s (s.size + 1) 0) 1 []
structure WkIs (s : ByteArray) (f : Nat) (st : List Int) (p : Nat) (l : Int) (out : List Tk) (R : List Tk × List Int × Int) : Prop where
  out : wlk s f st p l out = R
theorem rdK_in (s : ByteArray) (p : Nat) : 0 ≤ rdK s p ∧ rdK s p ≤ 78 := by
  unfold rdK
  split
  · rename_i h; have := rdI_k s p h; omega
  · have := badK_in s p; omega
theorem rdK7 (s : ByteArray) (p : Nat) (h : rdK s p = 7) : (rdI s p).ok = true ∧ (rdI s p).k = 7 := by
  unfold rdK at h
  split at h
  · rename_i g; exact ⟨g, h⟩
  · have := badK_in s p; omega
end Go.Proofs.YtdlhfiheingibaaGreatDoor

namespace Go.Proofs.YtdlhfiheingibaaGreatDoor
open Go.RowKit Go.Maps Go.WideMaps
set_option linter.unusedVariables false

theorem infoTkX : (Tryz.prog.info? 45).map (fun i => (i.zero, i.size, i.bytes)) = some (some (.agg #[.int .i64 0, .int .i64 0, .int .i64 0, .int .i64 0, .int .i64 0, .string ⟨#[]⟩]), 6, 56) := by kernel_rfl
/-- An append leaves what is of another type. -/
theorem app_keep {W w5 : World} {o : Obj} {base e size n : Nat} {v : Value} {xs : List Value} (ho : W.ownsRow base e size v n xs) (hg : (W.alloc o).grownBy w5 v.ownBlock) {k : Nat} {cs : Array Value} {t : TypeId} {fr : Nat × Nat} (hk : W.heap[k]? = some (.cells cs t fr)) (ht : t ≠ e) : w5.heap[k]? = some (.cells cs t fr) := by
  refine (hg.block k (by simp; have := lt_of_block hk; omega) (fun e2 => ?_)).trans ((Below.heap_alloc _ _ _ (lt_of_block hk)).trans hk)
  have e3 : v.ownBlock = some k := e2.symm
  rcases ho.2 with ⟨h1, _⟩ | ⟨g3, cap3, cur, h1, _, h3, _⟩
  · rw [h1] at e3; simp [Value.ownBlock] at e3
  · rw [h1] at e3
    obtain rfl : g3 = k := by simpa [Value.ownBlock] using e3
    rw [hk] at h3
    simp only [Option.some.injEq, Obj.cells.injEq] at h3
    exact ht h3.2.1
theorem MAt.app {W w5 : World} {o : Obj} {base mb : Nat} {C : List (Int × Int)} (h : MAt W base mb C) {base2 e size n : Nat} {v : Value} {xs : List Value} (ho : W.ownsRow base2 e size v n xs) (hg : (W.alloc o).grownBy w5 v.ownBlock) (h1 : 30 ≠ e) (h2 : 75 ≠ e) : MAt w5 base mb C := by
  obtain ⟨v3, hv3, q1, q2⟩ := h.ex
  refine ⟨⟨v3, app_keep ho hg hv3 h1, q1, ?_⟩, h.lo⟩
  rcases q2 with q2 | ⟨g3, cap3, cur, hv, hg3, hc, rest⟩
  · exact .inl q2
  · exact .inr ⟨g3, cap3, cur, hv, hg3, app_keep ho hg hc h2, rest⟩

/-- A store into a block of another type. -/
theorem MAt.other {W : World} {base mb b : Nat} {C : List (Int × Int)} (h : MAt W base mb C) {cs : Array Value} {t : TypeId} {fr : Nat × Nat} (hb : W.heap[b]? = some (.cells cs t fr)) (h1 : t ≠ 30) (h2 : t ≠ 75) (j : Nat) (v : Value) : MAt (W.setCell ⟨b, j, none⟩ v) base mb C := by
  obtain ⟨v3, hv3, q1, q2⟩ := h.ex
  have ne : ∀ {k : Nat} {cs2 : Array Value} {t2 : TypeId} {fr2 : Nat × Nat}, W.heap[k]? = some (.cells cs2 t2 fr2) → t ≠ t2 → k ≠ b := fun hk ht e => by
    subst e
    rw [hb] at hk
    simp only [Option.some.injEq, Obj.cells.injEq] at hk
    exact ht hk.2.1
  refine ⟨⟨v3, (heap_setCell_other _ _ _ _ (ne hv3 h1)).trans hv3, q1, ?_⟩, h.lo⟩
  rcases q2 with q2 | ⟨g3, cap3, cur, hv, hg3, hc, rest⟩
  · exact .inl q2
  · exact .inr ⟨g3, cap3, cur, hv, hg3, (heap_setCell_other _ _ _ _ (ne hc h2)).trans hc, rest⟩
theorem own_setFar {W : World} {base e size n b : Nat} {v : Value} {xs : List Value} (h : W.ownsRow base e size v n xs) (hf : ∀ g, v.ownBlock = some g → g < b) (j : Nat) (u : Value) : (W.setCell ⟨b, j, none⟩ u).ownsRow base e size v n xs := by
  refine h.kept (row := some b) ⟨rfl, rfl, rfl, by simp [World.setCell], fun k hk hne => heap_setCell_other _ _ _ _ (fun e => hne (by rw [e]))⟩ ?_
  cases hv : v.ownBlock with
  | none => exact .inl rfl
  | some g => exact .inr (fun e => by have := hf g hv; obtain rfl := Option.some.inj e; omega)
/-- Between two tokens of the walk. -/
structure WkSt (w : World) (base mb : Nat) (s : ByteArray) (R : List Tk × List Int × Int) (p : Nat) (st : List Int) (top : Int) (C : List (Int × Int)) (l : Int) (out : List Tk) (f : Nat) (vo : Value) (W : World) : Prop where
  m : MAt W base mb C
  sk : StkOf C top st
  o : OkS st
  bl : Below base w W
  row : W.ownsRow base 45 6 vo out.length (cTks out)
  eq : wlk s f st p l out = R
  cl : 2 ≤ C.length ∧ C.length ≤ 2 + 20 * p
  ol : out.length ≤ p
  l0 : 1 ≤ l ∧ l ≤ (p : Int) + 1
theorem WkSt.below {w : World} {base mb : Nat} {s : ByteArray} {R : List Tk × List Int × Int} {p : Nat} {st : List Int} {top : Int} {C : List (Int × Int)} {l : Int} {out : List Tk} {f : Nat} {vo : Value} {W W' : World} (h : WkSt w base mb s R p st top C l out f vo W) (hb : Below W.heap.size W W') (hw : base ≤ W.heap.size) : WkSt w base mb s R p st top C l out f vo W' :=
  ⟨h.m.below hb, h.sk, h.o, h.bl.trans (hb.mono hw), own_keep h.row hb, h.eq, h.cl, h.ol, h.l0⟩
/-- What stands behind the walk. -/
def WalkPost (w : World) (base mb : Nat) (s : ByteArray) (R : List Tk × List Int × Int) (e : Ending) (w' : World) : Prop :=
  ∃ (a : Option Addr) (c : Nat) (top : Int) (C : List (Int × Int)), e = .returned (.tuple #[.slice a R.1.length c, .int .i64 top, .int .i64 R.2.2]) ∧ w'.ownsRow base 45 6 (.slice a R.1.length c) R.1.length (cTks R.1) ∧ MAt w' base mb C ∧ StkOf C top R.2.1 ∧ OkS R.2.1 ∧ Below base w w' ∧ 2 ≤ C.length ∧ C.length ≤ 2000000

set_option maxRecDepth 100000 in
set_option maxHeartbeats 12800000 in
theorem l3walk_any (w : World) (base mb : Nat) (s : ByteArray) (h : MAt w base mb []) (hm : s.size ≤ 70000) :
    Calls Tryz.prog 9 #[.pointer (some ⟨mb, 0, none⟩), .string s] w (WalkPost w base mb s (walkF s)) := by
  unfold walkF
  obtain ⟨R, hR⟩ : ∃ R, wlk s (s.size + 1) [100, 6] (blk s (s.size + 1) 0) 1 [] = R := ⟨_, rfl⟩
  rw [hR]
  have hw : base ≤ w.heap.size := by obtain ⟨v, h1, _⟩ := h.ex; have := lt_of_block h1; have := h.lo; omega
  have kb := begin_any w base mb h
  have k0 := fun w => l1blanks_any s (by omega) 0 (Nat.zero_le _) w
  have hbd := blk_bd s (s.size + 1) 0 (Nat.zero_le _)
  obtain ⟨P0, hP0⟩ : ∃ P0, blk s (s.size + 1) 0 = P0 := ⟨_, rfl⟩
  rw [hP0] at hR k0 hbd
  rw [show (((0 : Nat) : Int)) = 0 from rfl] at k0
  have HE : Hid (wlk s (s.size + 1) [100, 6] P0 1 [] = R) := hR
  clear hR h hP0
  go_enter Tryz.func9, Tryz.ntmps9
  go_wp2_with (go_at_call 15; fail)
  refine kb.mono ?_
  rintro e w1 ⟨rfl, m1, p1, b1⟩
  clear kb
  have st0 : WkSt w base mb s R P0 [100, 6] 1 [(6, -1), (100, 0)] 1 [] (s.size + 1) (.slice none 0 0) w1 := by
    refine ⟨m1, ⟨1, 0, rfl, rfl, 0, -1, rfl, rfl, rfl⟩, ?_, b1, World.ownsRow_nil _ _ _ _, HE.out, ⟨by simp, by simp⟩, by simp, ⟨by omega, by omega⟩⟩
    intro x hx
    simp at hx
    omega
  have HS0 : Hid (WkSt w base mb s R P0 [100, 6] 1 [(6, -1), (100, 0)] 1 [] (s.size + 1) (.slice none 0 0) w1) := st0
  clear st0 m1 p1 b1
  go_wp2_with (go_at_call 16; refine (k0 _).mono ?_; rintro e w' ⟨rfl, hw'⟩; subst w')
  clear k0
  obtain ⟨j0, ji, jz0, jz1, jz2⟩ := info_parts infoTkX
  go_loopw [7, 8, 9, 10] (fun vt vo vl va wr => ∃ (p : Nat) (st : List Int) (tp : Int) (C : List (Int × Int)) (l : Int) (out : List Tk) (f : Nat), va = .int .i64 p ∧ vl = .int .i64 l ∧ vt = .int .i64 tp ∧ (∃ a c, ∃ m : Nat, vo = .slice a m c) ∧ p ≤ s.size ∧ s.size < p + f ∧ Hid (WkSt w base mb s R p st tp C l out f vo wr)) (fun _ _ _ va _ => s.size + 1 - (intOf va).toNat)
  case atStart => exact ⟨P0, _, 1, _, 1, [], s.size + 1, rfl, rfl, rfl, ⟨_, _, _, rfl⟩, hbd.2, by omega, HS0⟩
  case round =>
    obtain ⟨p, st, tp, C, l, out, f, rfl, rfl, rfl, ⟨av, cv, mv, rfl⟩, hp, hf, HS⟩ := hrel
    clear HS0 HE
    obtain ⟨f, rfl⟩ : ∃ g, f = g + 1 := ⟨f - 1, by omega⟩
    obtain ⟨a9, c9, e9⟩ := own_form HS.out.row
    cases e9
    have hst := HS.out.eq
    rw [wlk] at hst
    have hbr : base ≤ wr.heap.size := Nat.le_trans hw HS.out.bl.size
    have hol := HS.out.ol
    by_cases hlt : p < s.size
    · rw [if_neg (by omega)] at hst
      have hpi : (p : Int) < (s.size : Int) := by omega
      have kr := fun w => l1read_all s hm p hlt w
      have hKin := rdK_in s p
      obtain ⟨K, hK⟩ : ∃ K, rdK s p = K := ⟨_, rfl⟩
      rw [hK] at kr hst hKin
      have HK : Hid (rdK s p = K) := hK
      obtain ⟨mv, hmv⟩ : ∃ mv, out.length = mv := ⟨_, rfl⟩
      have HM : Hid (out.length = mv) := hmv
      rw [hmv] at hol ⊢
      have HST : Hid ((if K = 7 then (if (feedL st 5).2 = true then wlk s f (feedL st 5).1 (blk s (s.size + 1) (rdI s p).a) (l + 1) (out ++ [⟨5, (p : Nat), ((rdI s p).a : Nat), l, (rdI s p).n, (rdI s p).x⟩]) else wlk s f st (blk s (s.size + 1) (rdI s p).a) (l + 1) out)
        else if (fedF st K).2 = true then (if (rdI s p).ok = true then wlk s f (feedL st K).1 (blk s (s.size + 1) (rdI s p).a) l (out ++ [⟨K, (p : Nat), ((rdI s p).a : Nat), l, (rdI s p).n, (rdI s p).x⟩]) else ([], st, ((rdI s p).a : Nat)))
        else ([], st, (wrongF s p (mayL st) : Nat))) = R) := hst
      clear hst hK hmv
      go_wp2_with (go_at_call 17; fail)
      refine (kr _).mono ?_
      rintro e w1 ⟨t, n, x, bad, rfl, hrd, hb1⟩
      have HS1 : Hid (WkSt w base mb s R p st tp C l out (f + 1) (.slice av out.length cv) w1) := HS.out.below hb1 hbr
      have hz1 := hb1.size
      have HRD : Hid (RdOk (rdI s p) K t n x bad) := hrd
      clear kr hb1 HS hrd
      obtain ⟨b1, hb1e⟩ : ∃ b1, w1.heap.size = b1 := ⟨_, rfl⟩
      go_upto_region 8 with fail
      have T2 : TkAt b1 (w1.alloc (.cells #[.int .i64 K, .int .i64 p, .int .i64 t, .int .i64 l, .int .i64 n, .string x] 45)) K p t l n x := by rw [← hb1e]; exact heap_alloc_new w1 _
      have HS2 : Hid (WkSt w base mb s R p st tp C l out (f + 1) (.slice av out.length cv) (w1.alloc (.cells #[.int .i64 K, .int .i64 p, .int .i64 t, .int .i64 l, .int .i64 n, .string x] 45))) := HS1.out.below (bel1 w1 _) (by omega)
      have hob : ∀ g, (Value.slice av mv cv).ownBlock = some g → g < b1 := fun g hg => by
        have hr := HS1.out.row
        rw [HM.out] at hr
        have := (hr.lt g hg).2
        omega
      have hb1m : b1 ≠ mb := by
        obtain ⟨vb, hvb, _⟩ := HS1.out.m.ex
        have := lt_of_block hvb
        omega
      have hsz2 : (w1.alloc (.cells #[.int .i64 K, .int .i64 p, .int .i64 t, .int .i64 l, .int .i64 n, .string x] 45)).heap.size = b1 + 1 := by rw [World.size_alloc, hb1e]
      generalize w1.alloc (.cells #[.int .i64 K, .int .i64 p, .int .i64 t, .int .i64 l, .int .i64 n, .string x] 45) = W2 at T2 HS2 hsz2 ⊢
      have hcl := HS2.out.cl.2
      have hcl2 := HS2.out.cl.1
      have hbb1 : base ≤ b1 := by omega
      have hl0 := HS2.out.l0
      obtain ⟨t0c, t1c, t2c, t3c, t4c, t5c, tfz⟩ := tk_cells T2
      clear HS1 hb1e hz1 hbr
      by_cases h7 : K = 7
      · subst h7
        obtain ⟨hok, hk7⟩ := rdK7 s p HK.out
        obtain ⟨hbad, hkk, ht, hn, hx, hdd⟩ := HRD.out.yes hok
        clear hkk hdd
        have hpos := rdI_pos s p hlt hok
        have hst := HST.out
        rw [if_pos rfl, ← hn, ← hx] at hst
        obtain ⟨A, hA⟩ : ∃ A, (rdI s p).a = A := ⟨_, rfl⟩
        rw [hA] at hst ht hpos
        subst hbad
        have kbl := fun w => l1blanks_any s (by omega) A (by omega) w
        have hPB := blk_bd s (s.size + 1) A (by omega)
        obtain ⟨PB, hPBe⟩ : ∃ PB, blk s (s.size + 1) A = PB := ⟨_, rfl⟩
        rw [hPBe] at hst kbl hPB
        rw [← ht] at kbl hst
        have hokR := feedL_ok HS2.out.o (show (1 : Int) ≤ 5 by omega) (by omega)
        have kf := feed_any W2 base mb C st tp 5 HS2.out.m HS2.out.sk HS2.out.o (by omega) (by omega) (by omega)
        obtain ⟨Res, hRes⟩ : ∃ Res, feedL st 5 = Res := ⟨_, rfl⟩
        rw [hRes] at kf hst hokR
        unfold FeedPost at kf
        obtain ⟨okB, hokB⟩ : ∃ b, Res.2 = b := ⟨_, rfl⟩
        rw [hokB] at kf hst
        have hA2 : p < A ∧ A ≤ s.size := ⟨hpos.1, hpos.2.1⟩
        clear hn hx hRes hokB hok hk7 hpos hA hPBe HK HRD HST ht
        go_wp2_with (go_at_call 18; fail)
        refine kf.mono ?_
        rintro e w3 ⟨tp3, D, rfl, m3, s3, hD, k3, b3⟩
        cases okB with
        | false =>
          rw [if_neg (by simp)] at hst
          have HEQ : Hid (wlk s f st PB (l + 1) out = R) := hst
          have T3 : TkAt b1 w3 7 p t l n x := k3.blk T2 (by decide) hb1m
          obtain ⟨vb, hvb, _⟩ := HS2.out.m.ex
          have row3 := k3.row hvb HS2.out.row (by decide) (by decide)
          have HS3 : Hid (WkSt w base mb s R PB st tp (C ++ D) (l + 1) out f (.slice av mv cv) w3) :=
            ⟨m3, HS2.out.sk.app D, HS2.out.o, HS2.out.bl.trans b3, by rw [← HM.out] at *; exact row3, HEQ.out, ⟨by rw [List.length_append]; omega, by rw [List.length_append]; omega⟩, by rw [HM.out]; omega, ⟨by omega, by omega⟩⟩
          obtain ⟨x0, x1, x2, x3, x4, x5, xf⟩ := tk_cells T3
          clear kf hst T2 T3 row3 hvb m3 s3 k3 b3 HS2 t0c t1c t2c t3c t4c t5c tfz
          go_wp2_with (go_at_call 16; refine (kbl _).mono ?_; rintro e w' ⟨rfl, hw'⟩; subst w')
          exact ⟨⟨PB, st, tp, C ++ D, l + 1, out, f, rfl, by go_num, rfl, ⟨_, _, _, rfl⟩, hPB.2, by omega, HS3⟩, by simp [intOf]; omega⟩
        | true =>
          rw [if_pos rfl] at hst
          have HEQ : Hid (wlk s f Res.1 PB (l + 1) (out ++ [⟨5, (p : Nat), t, l, n, x⟩]) = R) := hst
          clear hst
          have T3 : TkAt b1 w3 7 p t l n x := k3.blk T2 (by decide) hb1m
          obtain ⟨vb, hvb, _⟩ := HS2.out.m.ex
          have row3 := k3.row hvb HS2.out.row (by decide) (by decide)
          rw [HM.out] at row3
          have bl3 := HS2.out.bl.trans b3
          have hz3 := k3.size
          have T5 : TkAt b1 (w3.setCell ⟨b1, 0, none⟩ (.int .i64 5)) 5 p t l n x := T3.setKind 5
          have m5 := m3.other (j := 0) (v := .int .i64 5) (show w3.heap[b1]? = some (.cells _ _ _) from T3) (by decide) (by decide)
          have row5 := own_setFar (j := 0) (u := .int .i64 5) row3 hob
          have bl5 : Below base w (w3.setCell ⟨b1, 0, none⟩ (.int .i64 5)) := bl3.setCell (by simp; omega) _
          have H3 : Hid (StkOf (C ++ D) tp3 Res.1 ∧ D.length ≤ 20) := ⟨s3, hD⟩
          obtain ⟨x0, x1, x2, x3, x4, x5, xf⟩ := tk_cells T3
          clear kf T3 m3 row3 bl3 hvb s3 hD k3 b3
          go_upto_region 24 with fail
          generalize w3.setCell ⟨b1, 0, none⟩ (.int .i64 5) = W5 at T5 m5 row5 bl5 ⊢
          obtain ⟨y0, y1, y2, y3, y4, y5, yf⟩ := tk_cells T5
          have RW5 : Hid (W5.ownsRow base 45 6 (.slice av mv cv) mv (cTks out)) := row5
          have HT5 : Hid (TkAt b1 W5 5 p t l n x) := T5
          have hb1w : b1 < W5.heap.size := lt_of_block T5
          clear T5 row5 x0 x1 x2 x3 x4 x5 xf
          go_wp2_with (first | (at_builtin; refine wpList_append_own _ rfl _ _ 31 rfl base 45 j0 _ 6 56 Tryz.underlying31 ji jz0 jz1 jz2 rfl (by decide) _ _ _ rfl (RW5.out.alloc _) ⟨W5.heap.size, 0, none⟩ 1 1 [.int .i64 5, .int .i64 p, .int .i64 t, .int .i64 l, .int .i64 n, .string x] rfl rfl (World.news_of_block (cs := #[.int .i64 5, .int .i64 p, .int .i64 t, .int .i64 l, .int .i64 n, .string x]) (fr := (0, 0)) (heap_alloc_new W5 _)) (by intro u hu; simp at hu; rcases hu with rfl | rfl | rfl | rfl | rfl | rfl <;> rfl) (by unfold maxLen; omega) (by omega) (by simp; omega) ?_; intro v6 w6 ho6 hg6 hn6; obtain ⟨g6, c6, rfl⟩ := ownsRow_succ ho6; have T6 : TkAt b1 w6 5 p t l n x := (hg6.block b1 (by simp; omega) (fun e => by have := hob b1 e.symm; omega)).trans ((Below.heap_alloc _ _ _ hb1w).trans HT5.out); obtain ⟨q0, q1, q2, q3, q4, q5, qf⟩ := tk_cells T6) | (go_at_call 16; refine (kbl _).mono ?_; rintro e w' ⟨rfl, hw'⟩; subst w'))
          have m6 := m5.app RW5.out hg6 (by decide) (by decide)
          have b6 : Below base w w6 := (bl5.alloc (by omega) _).grown hg6 (by simp; omega) (fun k hk => (RW5.out.lt k hk).1)
          refine ⟨⟨PB, Res.1, tp3, C ++ D, l + 1, out ++ [⟨5, (p : Nat), t, l, n, x⟩], f, rfl, by go_num, rfl, ⟨_, _, _, rfl⟩, hPB.2, by omega, ⟨m6, H3.out.1, ?_, b6, ?_, ?_, ?_, ?_, ?_⟩⟩, by simp [intOf]; omega⟩
          · exact hokR
          · rw [List.length_append, HM.out, cTks_app]; exact ho6
          · exact HEQ.out
          · have := HS2.out.cl; have := H3.out.2; rw [List.length_append]; omega
          · rw [List.length_append, HM.out]; simp; omega
          · have := HS2.out.l0; omega
      · have hst := HST.out
        rw [if_neg h7] at hst
        have h7b : (K == 7) = false := beq_eq_false_iff_ne.2 h7
        by_cases h0 : K = 0
        · subst h0
          rw [show fedF st 0 = (st, false) from rfl, if_neg (by simp)] at hst
          have HFW : Hid ((([] : List Tk), st, ((wrongF s p (mayL st) : Nat) : Int)) = R) := hst
          clear hst HST HRD HK
          obtain ⟨ML, hML⟩ : ∃ ML, mayL st = ML := ⟨_, rfl⟩
          have hMl : ML.length ≤ 78 := by rw [← hML]; exact mayTo_len st 78
          have km := may_any W2 base mb C st tp HS2.out.m HS2.out.sk HS2.out.o (by omega) (by omega)
          rw [hML] at km
          have HF2 : Hid ((([] : List Tk), st, ((wrongF s p ML : Nat) : Int)) = R) := by rw [← hML]; exact HFW.out
          clear hML
          go_wp2_with (go_at_call 10; fail)
          refine km.mono ?_
          rintro e w7 ⟨am, cm, rfl, om, m7, k7, b7⟩
          have kw := l3wrong_any w7 s p _ ML (own_ints2 om) (by omega) hm hlt
          clear km
          go_wp2_with (go_at_call 19; refine kw.mono ?_; rintro e w8 ⟨rfl, hb8⟩)
          go_ret3
          refine ⟨none, 0, tp, C, ?_, ?_, m7.below hb8, ?_, ?_, ?_, ?_, ?_⟩
          · rw [← HF2.out]; rfl
          · rw [← HF2.out]; exact World.ownsRow_nil _ _ _ _
          · rw [← HF2.out]; exact HS2.out.sk
          · rw [← HF2.out]; exact HS2.out.o
          · exact (HS2.out.bl.trans b7).trans (hb8.mono (by have := k7.size; first | omega | (have := k3.size; omega)))
          · have := HS2.out.cl; omega
          · have := HS2.out.cl; omega
        · have hK0 : 0 < K := by omega
          have hfe : fedF st K = feedL st K := by unfold fedF; rw [if_pos hK0]
          rw [hfe] at hst
          have hokR := feedL_ok HS2.out.o (show (1 : Int) ≤ K by omega) hKin.2
          have kf := feed_any W2 base mb C st tp K HS2.out.m HS2.out.sk HS2.out.o (by omega) hKin.2 (by omega)
          obtain ⟨Res, hRes⟩ : ∃ Res, feedL st K = Res := ⟨_, rfl⟩
          rw [hRes] at kf hst hokR
          unfold FeedPost at kf
          obtain ⟨okB, hokB⟩ : ∃ b, Res.2 = b := ⟨_, rfl⟩
          rw [hokB] at kf hst
          clear hRes hokB hfe HST HK
          cases okB with
          | false =>
            rw [if_neg (by simp)] at hst
            have HFW : Hid ((([] : List Tk), st, ((wrongF s p (mayL st) : Nat) : Int)) = R) := hst
            clear hst HRD
            go_wp2_with (go_at_call 18; fail)
            refine kf.mono ?_
            rintro e w3 ⟨tp3, D, rfl, m3, s3, hD, k3, b3⟩
            have T3 : TkAt b1 w3 K p t l n x := k3.blk T2 (by decide) hb1m
            obtain ⟨x0, x1, x2, x3, x4, x5, xf⟩ := tk_cells T3
            clear kf
            obtain ⟨ML, hML⟩ : ∃ ML, mayL st = ML := ⟨_, rfl⟩
            have hMl : ML.length ≤ 78 := by rw [← hML]; exact mayTo_len st 78
            have km := may_any w3 base mb (C ++ D) st tp m3 (HS2.out.sk.app D) HS2.out.o (by rw [List.length_append]; omega) (by rw [List.length_append]; omega)
            rw [hML] at km
            have HF2 : Hid ((([] : List Tk), st, ((wrongF s p ML : Nat) : Int)) = R) := by rw [← hML]; exact HFW.out
            clear hML
            go_wp2_with (go_at_call 10; fail)
            refine km.mono ?_
            rintro e w7 ⟨am, cm, rfl, om, m7, k7, b7⟩
            have kw := l3wrong_any w7 s p _ ML (own_ints2 om) (by omega) hm hlt
            clear km
            go_wp2_with (go_at_call 19; refine kw.mono ?_; rintro e w8 ⟨rfl, hb8⟩)
            go_ret3
            refine ⟨none, 0, tp, C ++ D, ?_, ?_, m7.below hb8, ?_, ?_, ?_, ?_, ?_⟩
            · rw [← HF2.out]; rfl
            · rw [← HF2.out]; exact World.ownsRow_nil _ _ _ _
            · rw [← HF2.out]; exact (HS2.out.sk.app D)
            · rw [← HF2.out]; exact HS2.out.o
            · exact ((HS2.out.bl.trans b3).trans b7).trans (hb8.mono (by have := k7.size; first | omega | (have := k3.size; omega)))
            · have := HS2.out.cl; rw [List.length_append]; omega
            · have := HS2.out.cl; rw [List.length_append]; omega
          | true =>
            rw [if_pos rfl] at hst
            cases hokI : (rdI s p).ok with
            | false =>
              rw [hokI, if_neg (by simp)] at hst
              have hbad := HRD.out.no hokI
              have hb0 : ¬ bad < 0 := by omega
              have HFW : Hid ((([] : List Tk), st, bad) = R) := by rw [hbad]; exact hst
              clear hst HRD hbad hokI
              go_wp2_with (go_at_call 18; fail)
              refine kf.mono ?_
              rintro e w3 ⟨tp3, D, rfl, m3, s3, hD, k3, b3⟩
              have hb01 : (0 : Int) ≤ bad := by omega
              clear kf
              go_wp2_with fail
              go_ret3
              refine ⟨none, 0, tp, C ++ D, ?_, ?_, m3, ?_, ?_, HS2.out.bl.trans b3, ?_, ?_⟩
              · rw [← HFW.out]; rfl
              · rw [← HFW.out]; exact World.ownsRow_nil _ _ _ _
              · rw [← HFW.out]; exact HS2.out.sk.app D
              · rw [← HFW.out]; exact HS2.out.o
              · rw [List.length_append]; omega
              · rw [List.length_append]; omega
            | true =>
              rw [hokI, if_pos rfl] at hst
              obtain ⟨hbad, hkk, ht, hn, hx, hdd⟩ := HRD.out.yes hokI
              clear hkk hdd
              have hpos := rdI_pos s p hlt hokI
              rw [← hn, ← hx] at hst
              obtain ⟨A, hA⟩ : ∃ A, (rdI s p).a = A := ⟨_, rfl⟩
              rw [hA] at hst ht hpos
              subst hbad
              have kbl := fun w => l1blanks_any s (by omega) A (by omega) w
              have hPB := blk_bd s (s.size + 1) A (by omega)
              obtain ⟨PB, hPBe⟩ : ∃ PB, blk s (s.size + 1) A = PB := ⟨_, rfl⟩
              rw [hPBe] at hst kbl hPB
              rw [← ht] at kbl hst
              have hA2 : p < A ∧ A ≤ s.size := ⟨hpos.1, hpos.2.1⟩
              have HEQ : Hid (wlk s f Res.1 PB l (out ++ [⟨K, (p : Nat), t, l, n, x⟩]) = R) := hst
              clear hst hn hx hpos hA hPBe HRD ht hokI
              go_wp2_with (go_at_call 18; fail)
              refine kf.mono ?_
              rintro e w3 ⟨tp3, D, rfl, m3, s3, hD, k3, b3⟩
              have T3 : TkAt b1 w3 K p t l n x := k3.blk T2 (by decide) hb1m
              obtain ⟨vb, hvb, _⟩ := HS2.out.m.ex
              have row3 := k3.row hvb HS2.out.row (by decide) (by decide)
              rw [HM.out] at row3
              have bl3 := HS2.out.bl.trans b3
              have hz3 := k3.size
              have T5 : TkAt b1 (w3.setCell ⟨b1, 0, none⟩ (.int .i64 K)) K p t l n x := T3.setKind K
              have m5 := m3.other (j := 0) (v := .int .i64 K) (show w3.heap[b1]? = some (.cells _ _ _) from T3) (by decide) (by decide)
              have row5 := own_setFar (j := 0) (u := .int .i64 K) row3 hob
              have bl5 : Below base w (w3.setCell ⟨b1, 0, none⟩ (.int .i64 K)) := bl3.setCell (by simp; omega) _
              have H3 : Hid (StkOf (C ++ D) tp3 Res.1 ∧ D.length ≤ 20) := ⟨s3, hD⟩
              obtain ⟨x0, x1, x2, x3, x4, x5, xf⟩ := tk_cells T3
              clear kf T3 m3 row3 bl3 hvb s3 hD k3 b3
              go_upto_region 24 with fail
              generalize w3.setCell ⟨b1, 0, none⟩ (.int .i64 K) = W5 at T5 m5 row5 bl5 ⊢
              obtain ⟨y0, y1, y2, y3, y4, y5, yf⟩ := tk_cells T5
              have RW5 : Hid (W5.ownsRow base 45 6 (.slice av mv cv) mv (cTks out)) := row5
              have HT5 : Hid (TkAt b1 W5 K p t l n x) := T5
              have hb1w : b1 < W5.heap.size := lt_of_block T5
              clear T5 row5 x0 x1 x2 x3 x4 x5 xf
              go_wp2_with (first | (at_builtin; refine wpList_append_own _ rfl _ _ 31 rfl base 45 j0 _ 6 56 Tryz.underlying31 ji jz0 jz1 jz2 rfl (by decide) _ _ _ rfl (RW5.out.alloc _) ⟨W5.heap.size, 0, none⟩ 1 1 [.int .i64 K, .int .i64 p, .int .i64 t, .int .i64 l, .int .i64 n, .string x] rfl rfl (World.news_of_block (cs := #[.int .i64 K, .int .i64 p, .int .i64 t, .int .i64 l, .int .i64 n, .string x]) (fr := (0, 0)) (heap_alloc_new W5 _)) (by intro u hu; simp at hu; rcases hu with rfl | rfl | rfl | rfl | rfl | rfl <;> rfl) (by unfold maxLen; omega) (by omega) (by simp; omega) ?_; intro v6 w6 ho6 hg6 hn6; obtain ⟨g6, c6, rfl⟩ := ownsRow_succ ho6; have T6 : TkAt b1 w6 K p t l n x := (hg6.block b1 (by simp; omega) (fun e => by have := hob b1 e.symm; omega)).trans ((Below.heap_alloc _ _ _ hb1w).trans HT5.out); obtain ⟨q0, q1, q2, q3, q4, q5, qf⟩ := tk_cells T6) | (go_at_call 16; refine (kbl _).mono ?_; rintro e w' ⟨rfl, hw'⟩; subst w'))
              have m6 := m5.app RW5.out hg6 (by decide) (by decide)
              have b6 : Below base w w6 := (bl5.alloc (by omega) _).grown hg6 (by simp; omega) (fun k hk => (RW5.out.lt k hk).1)
              refine ⟨⟨PB, Res.1, tp3, C ++ D, l, out ++ [⟨K, (p : Nat), t, l, n, x⟩], f, rfl, rfl, rfl, ⟨_, _, _, rfl⟩, hPB.2, by omega, ⟨m6, H3.out.1, ?_, b6, ?_, ?_, ?_, ?_, ?_⟩⟩, by simp [intOf]; omega⟩
              · exact hokR
              · rw [List.length_append, HM.out, cTks_app]; exact ho6
              · exact HEQ.out
              · have := HS2.out.cl; have := H3.out.2; rw [List.length_append]; omega
              · rw [List.length_append, HM.out]; simp; omega
              · have := HS2.out.l0; omega
    · rw [if_pos (by omega)] at hst
      have hpe : p = s.size := by omega
      obtain ⟨mv, hmv⟩ : ∃ mv, out.length = mv := ⟨_, rfl⟩
      have HM : Hid (out.length = mv ∧ p = s.size) := ⟨hmv, hpe⟩
      have hrow := HS.out.row
      rw [hmv] at hol hrow ⊢
      have RW5 : Hid (wr.ownsRow base 45 6 (.slice av mv cv) mv (cTks out)) := hrow
      have HF : Hid ((out ++ [⟨6, (s.size : Nat), (s.size : Nat), l, 0, ⟨#[]⟩⟩], st, -1) = R) := hst
      have hpi : ¬ (p : Int) < (s.size : Int) := by omega
      clear hst hmv hrow hpe
      go_wp2_with (at_builtin; refine wpList_append_own _ rfl _ _ 31 rfl base 45 j0 _ 6 56 Tryz.underlying31 ji jz0 jz1 jz2 rfl (by decide) _ _ _ rfl (RW5.out.alloc _) ⟨wr.heap.size, 0, none⟩ 1 1 [.int .i64 6, .int .i64 s.size, .int .i64 s.size, .int .i64 l, .int .i64 0, .string ⟨#[]⟩] rfl rfl (World.news_of_block (cs := #[.int .i64 6, .int .i64 s.size, .int .i64 s.size, .int .i64 l, .int .i64 0, .string ⟨#[]⟩]) (fr := (0, 0)) (heap_alloc_new wr _)) (by intro u hu; simp at hu; rcases hu with rfl | rfl | rfl | rfl | rfl <;> rfl) (by unfold maxLen; omega) (by omega) (by simp; omega) ?_; intro v6 w6 ho6 hg6 hn6; obtain ⟨g6, c6, rfl⟩ := ownsRow_succ ho6)
      go_ret3
      have m6 := HS.out.m.app RW5.out hg6 (by decide) (by decide)
      have b6 : Below base w w6 := (HS.out.bl.alloc (by omega) _).grown hg6 (by simp; omega) (fun k hk => (RW5.out.lt k hk).1)
      have hl1 : R.1.length = mv + 1 := by rw [← HF.out, List.length_append, HM.out.1]; rfl
      refine ⟨some ⟨g6, 0, none⟩, c6, tp, C, ?_, ?_, m6, ?_, ?_, b6, HS.out.cl.1, ?_⟩
      · rw [hl1, ← HF.out]; rfl
      · rw [hl1, ← HF.out, cTks_app]; exact ho6
      · rw [← HF.out]; exact HS.out.sk
      · rw [← HF.out]; exact HS.out.o
      · have := HS.out.cl.2; omega
end Go.Proofs.YtdlhfiheingibaaGreatDoor

namespace Go.Proofs.YtdlhfiheingibaaGreatDoor
open Go.RowKit Go.Maps Go.WideMaps
set_option linter.unusedVariables false

/-- The model's Next. -/
def nextF (s : ByteArray) : List Int := if 65536 < s.size then [] else if 0 ≤ (walkF s).2.2 then [] else mayL (walkF s).2.1
theorem nextF_len (s : ByteArray) : (nextF s).length ≤ 78 := by
  unfold nextF
  split
  · simp
  split
  · simp
  · exact mayTo_len _ 78

set_option maxRecDepth 100000 in
set_option maxHeartbeats 6400000 in
theorem specNext_any (w : World) (s : ByteArray) (hs : s.size ≤ 9223372036854775807) :
    Calls Tryz.prog 4 #[.string s] w fun e w' => ∃ a c, e = .returned (.slice a (nextF s).length c) ∧ w'.ownsRow w.heap.size 3 1 (.slice a (nextF s).length c) (nextF s).length ((nextF s).map (Value.int .i64)) ∧ Below w.heap.size w w' := by
  unfold nextF
  by_cases h1 : 65536 < s.size
  · rw [if_pos h1]
    have hi : (65536 : Int) < (s.size : Int) := by omega
    go_enter Tryz.func4, Tryz.ntmps4
    go_wp2_with fail
    go_ret
    exact ⟨_, _, rfl, World.ownsRow_nil _ _ _ _, Below.refl _ _⟩
  · rw [if_neg h1]
    have hi : ¬ (65536 : Int) < (s.size : Int) := by omega
    have m1 : MAt (w.alloc (.cells #[.slice none 0 0] 30)) w.heap.size w.heap.size [] := ⟨⟨_, heap_alloc_new w _, World.ownsRow_nil _ _ _ _⟩, Nat.le_refl _⟩
    have kw := l3walk_any _ w.heap.size w.heap.size s m1 (by omega)
    have b1 := bel1 w (.cells #[.slice none 0 0] 30)
    obtain ⟨R, hR⟩ : ∃ R, walkF s = R := ⟨_, rfl⟩
    rw [hR] at kw ⊢
    have HB1 : Hid (Below w.heap.size w (w.alloc (.cells #[.slice none 0 0] 30))) := b1
    unfold WalkPost at kw
    obtain ⟨AT, hAT⟩ : ∃ AT, R.2.2 = AT := ⟨_, rfl⟩
    rw [hAT] at kw ⊢
    obtain ⟨n1, hn1⟩ : ∃ n1, R.1.length = n1 := ⟨_, rfl⟩
    rw [hn1] at kw
    obtain ⟨NL, hNL⟩ : ∃ NL, (if 0 ≤ AT then ([] : List Int) else mayL R.2.1) = NL := ⟨_, rfl⟩
    have HNL : Hid ((if 0 ≤ AT then ([] : List Int) else mayL R.2.1) = NL) := hNL
    rw [hNL]
    clear hR m1 b1 hAT hn1 hNL
    go_enter Tryz.func4, Tryz.ntmps4
    go_wp2_with (go_at_call 9; fail)
    generalize w.alloc (.cells #[.slice none 0 0] 30) = W1 at kw HB1 ⊢
    refine kw.mono ?_
    rintro e w2 ⟨a, c, tp, C, rfl, ho, m2, s2, o2, b2, hc1, hc2⟩
    have hbw : Below w.heap.size w w2 := HB1.out.trans (b2.mono (Nat.le_refl _))
    clear kw
    by_cases h0 : 0 ≤ AT
    · have e := HNL.out
      rw [if_pos h0] at e
      subst e
      clear ho m2 s2 o2
      go_wp2_with fail
      go_ret
      exact ⟨_, _, rfl, World.ownsRow_nil _ _ _ _, hbw⟩
    · have e := HNL.out
      rw [if_neg h0] at e
      have km := may_any w2 w.heap.size w.heap.size C R.2.1 tp m2 s2 o2 (by omega) (by omega)
      rw [e] at km
      have HBW : Hid (Below w.heap.size w w2) := hbw
      clear e ho m2 s2 o2 hbw
      go_wp2_with (go_at_call 10; refine km.mono ?_; rintro e w7 ⟨am, cm, rfl, om, m7, k7, b7⟩)
      go_ret
      exact ⟨_, _, rfl, own_le om HBW.out.size, HBW.out.trans (b7.mono (Nat.le_refl _))⟩
end Go.Proofs.YtdlhfiheingibaaGreatDoor
