import Derived.Test.YtdlhfiheingibaaGreatDoorNN23
import Derived.Test.YtdlhfiheingibaaGreatDoorNN25
namespace Go.Proofs.YtdlhfiheingibaaGreatDoor
open Go.RowKit Go.Maps Go.WideMaps
set_option linter.unusedVariables false

/-- The guard's stack and the model's walk, at the place p in line l. -/
structure WkAt (s : ByteArray) (R : List Tk × List Int × Int) (st stk : List Int) (p : Nat) (l : Int) (out : List Tk) (f : Nat) : Prop where
  sim : Sim st stk
  wk : WkIs s f stk (blk s (s.size + 1) p) l out R
  fu : s.size < blk s (s.size + 1) p + f
  len : st.length ≤ 45 * p + 2
  l0 : 0 ≤ l
  l1 : l ≤ (p : Int) + 1
  le : p ≤ s.size
  ol : out.length ≤ p
theorem WkAt.move {s : ByteArray} {R : List Tk × List Int × Int} {st stk : List Int} {p q : Nat} {l : Int} {out : List Tk} {f : Nat} (h : WkAt s R st stk p l out f) (hb : blk s (s.size + 1) p = blk s (s.size + 1) q) (hpq : p ≤ q) (hq : q ≤ s.size) : WkAt s R st stk q l out f :=
  ⟨h.sim, by rw [← hb]; exact h.wk, by rw [← hb]; exact h.fu, by have := h.len; omega, h.l0, by have := h.l1; omega, hq, by have := h.ol; omega⟩
/-- One round of the model's walk, at a token. -/
theorem WkAt.step {s : ByteArray} {R : List Tk × List Int × Int} {st stk : List Int} {p : Nat} {l : Int} {out : List Tk} {f : Nat} (h : WkAt s R st stk p l out f) (ht : TkAtP s p) : ∃ g, f = g + 1 ∧ s.size < p + 1 + g ∧
    (if rdK s p = 7 then
      (if (feedL stk 5).2 = true then wlk s g (feedL stk 5).1 (blk s (s.size + 1) (rdI s p).a) (l + 1) (out ++ [⟨5, (p : Nat), ((rdI s p).a : Nat), l, (rdI s p).n, (rdI s p).x⟩]) else wlk s g stk (blk s (s.size + 1) (rdI s p).a) (l + 1) out)
    else if (fedF stk (rdK s p)).2 = true then
      (if (rdI s p).ok = true then wlk s g (feedL stk (rdK s p)).1 (blk s (s.size + 1) (rdI s p).a) l (out ++ [⟨rdK s p, (p : Nat), ((rdI s p).a : Nat), l, (rdI s p).n, (rdI s p).x⟩]) else ([], stk, ((rdI s p).a : Nat)))
    else ([], stk, (wrongF s p (mayL stk) : Nat))) = R := by
  have hb := blk_tok s p ht.nb ht.nd
  have hf := h.fu
  have hw := h.wk.out
  rw [hb] at hf hw
  have hlt := ht.lt
  obtain ⟨g, rfl⟩ : ∃ g, f = g + 1 := ⟨f - 1, by omega⟩
  rw [wlk, if_neg (by omega)] at hw
  exact ⟨g, rfl, by omega, hw⟩
theorem rdI_d {s : ByteArray} {p : Nat} (h : (rdI s p).ok = true) : (rdI s p).d = if (rdI s p).k = 7 then 1 else 0 := by
  unfold rdI at h ⊢
  split
  · simp only
    unfold wdP
    cases hf : fnd wordV (s.extract p (nmE s (s.size + 1) p)) 22 0 with
    | none => simp
    | some k => simp only; rw [if_neg (by omega)]
  split
  · split
    · simp only
      unfold nuP
      split
      · simp
      · split <;> simp
    · rename_i h1 h2 h3
      rw [if_neg h1, if_pos h2, if_neg h3] at h
      cases h
  split
  · split
    · simp
    · rename_i h1 h2 h3 h4
      rw [if_neg h1, if_neg h2, if_pos h3, if_neg h4] at h
      cases h
  split
  · rename_i h1 h2 h3 h4
    rw [if_neg h1, if_neg h2, if_neg h3, if_pos h4] at h
    cases h
  · rfl
theorem rdK_ok {s : ByteArray} {p : Nat} (h : (rdI s p).ok = true) : rdK s p = (rdI s p).k := by unfold rdK; rw [if_pos h]
section
variable {s : ByteArray} {R : List Tk × List Int × Int} {st stk : List Int} {p : Nat} {l : Int} {out : List Tk} {f : Nat}
theorem WkAt.next (h : WkAt s R st stk p l out f) (ht : TkAtP s p) (hok : (rdI s p).ok = true) {st' stk' : List Int} {out' : List Tk} {g : Nat} (hg : s.size < p + 1 + g) (hs : Sim st' stk') (hl : st'.length ≤ st.length + 45) (ho : out'.length ≤ out.length + 1)
    (hw : wlk s g stk' (blk s (s.size + 1) (rdI s p).a) (l + (rdI s p).d) out' = R) : WkAt s R st' stk' (rdI s p).a (l + (rdI s p).d) out' g := by
  obtain ⟨a1, a2, a3, a4⟩ := rdI_pos s p ht.lt hok
  have hb := blk_bd s (s.size + 1) (rdI s p).a a2
  have h1 := h.len
  have h2 := h.l0
  have h3 := h.l1
  have h4 := h.ol
  exact ⟨hs, ⟨hw⟩, by omega, by omega, by omega, by omega, a2, by omega⟩
/-- A newline that is a separator. -/
theorem WkAt.sep (h : WkAt s R st stk p l out f) (ht : TkAtP s p) (hok : (rdI s p).ok = true) (hk : (rdI s p).k = 7) (hm : mayI st 5 = true) {st' : List Int} (hs : Sim st' (feedL stk 5).1) (hl : st'.length ≤ st.length + 45) :
    ∃ g, WkAt s R st' (feedL stk 5).1 (rdI s p).a (l + (rdI s p).d) (out ++ [⟨5, (p : Nat), ((rdI s p).a : Nat), l, (rdI s p).n, (rdI s p).x⟩]) g := by
  obtain ⟨g, rfl, hg, hw⟩ := h.step ht
  rw [rdK_ok hok, if_pos hk, if_pos (by rw [← h.sim.may (by decide) (by decide)]; exact hm)] at hw
  exact ⟨g, h.next ht hok hg hs hl (by simp) (by rw [rdI_d hok, if_pos hk]; exact hw)⟩
/-- A newline that is none. -/
theorem WkAt.skip (h : WkAt s R st stk p l out f) (ht : TkAtP s p) (hok : (rdI s p).ok = true) (hk : (rdI s p).k = 7) (hm : mayI st 5 = false) : ∃ g, WkAt s R st stk (rdI s p).a (l + (rdI s p).d) out g := by
  obtain ⟨g, rfl, hg, hw⟩ := h.step ht
  rw [rdK_ok hok, if_pos hk, if_neg (by rw [← h.sim.may (by decide) (by decide), hm]; simp)] at hw
  exact ⟨g, h.next ht hok hg h.sim (by omega) (by omega) (by rw [rdI_d hok, if_pos hk]; exact hw)⟩
theorem fedF_pos {k : Int} (hk : 1 ≤ k) (st : List Int) : fedF st k = feedL st k := by unfold fedF; rw [if_pos (by omega)]
/-- A token that may stand. -/
theorem WkAt.tok (h : WkAt s R st stk p l out f) (ht : TkAtP s p) (hok : (rdI s p).ok = true) (hk : (rdI s p).k ≠ 7) (hm : mayI st (rdI s p).k = true) {st' : List Int} (hs : Sim st' (feedL stk (rdI s p).k).1) (hl : st'.length ≤ st.length + 45) :
    ∃ g, WkAt s R st' (feedL stk (rdI s p).k).1 (rdI s p).a (l + (rdI s p).d) (out ++ [⟨(rdI s p).k, (p : Nat), ((rdI s p).a : Nat), l, (rdI s p).n, (rdI s p).x⟩]) g := by
  obtain ⟨g, rfl, hg, hw⟩ := h.step ht
  obtain ⟨k0, k1⟩ := rdI_k s p hok
  rw [rdK_ok hok, if_neg hk, fedF_pos k0, if_pos (by rw [← h.sim.may k0 k1]; exact hm), if_pos hok] at hw
  exact ⟨g, h.next ht hok hg hs hl (by simp) (by rw [rdI_d hok, if_neg hk, Int.add_zero]; exact hw)⟩
/-- A token that may not stand. -/
theorem WkAt.stop (h : WkAt s R st stk p l out f) (ht : TkAtP s p) (hok : (rdI s p).ok = true) (hk : (rdI s p).k ≠ 7) (hm : mayI st (rdI s p).k = false) : R.2.2 = (wrongF s p (mayL stk) : Nat) := by
  obtain ⟨g, rfl, hg, hw⟩ := h.step ht
  obtain ⟨k0, k1⟩ := rdI_k s p hok
  rw [rdK_ok hok, if_neg hk, fedF_pos k0, if_neg (by rw [← h.sim.may k0 k1, hm]; simp)] at hw
  rw [← hw]
/-- A token that does not come to its end. -/
theorem WkAt.bad (h : WkAt s R st stk p l out f) (ht : TkAtP s p) (hok : (rdI s p).ok = false) : 0 ≤ R.2.2 := by
  obtain ⟨g, rfl, hg, hw⟩ := h.step ht
  have h7 : ¬ rdK s p = 7 := fun e => by have := rdK7 s p e; rw [hok] at this; cases this.1
  rw [if_neg h7] at hw
  split at hw
  · rw [if_neg (by rw [hok]; simp)] at hw
    rw [← hw]; simp
  · rw [← hw]; simp
theorem WkAt.fin (h : WkAt s R st stk s.size l out f) : R = (out ++ [⟨6, (s.size : Nat), (s.size : Nat), l, 0, ⟨#[]⟩⟩], stk, -1) := by
  have hb := blk_end s s.size (Nat.le_refl _)
  have hf := h.fu
  have hw := h.wk.out
  rw [hb] at hf hw
  obtain ⟨g, rfl⟩ : ∃ g, f = g + 1 := ⟨f - 1, by omega⟩
  rw [wlk, if_pos (Nat.le_refl _)] at hw
  exact hw.symm
end
theorem WkAt.begin (s : ByteArray) : WkAt s (walkF s) [100, 6] [100, 6] 0 1 [] (s.size + 1) :=
  ⟨sim_begin, ⟨rfl⟩, by omega, by simp, by omega, by omega, Nat.zero_le _, by simp⟩
theorem WkAt.rng {s : ByteArray} {R : List Tk × List Int × Int} {st stk : List Int} {p : Nat} {l : Int} {out : List Tk} {f : Nat} (h : WkAt s R st stk p l out f) : ∀ a ∈ st, 0 ≤ a ∧ a ≤ 133 := fun a ha => by
  have := of_decide_eq_true (h.sim.o1 a ha)
  omega
/-- Where a text stops, as the guard tells it. -/
structure PnIs (s : ByteArray) (R : List Tk × List Int × Int) (z : Int) : Prop where
  bad : 0 ≤ R.2.2
  ex : ∃ (p : Nat) (st stk : List Int) (l : Int) (out : List Tk) (f : Nat), TkAtP s p ∧ WkAt s R st stk p l out f ∧ z = (p : Int) + (rchI st (s.extract p (rdI s p).a) : Nat) ∧ ((rdI s p).ok = true → (rdI s p).k ≠ 7 ∧ mayI st (rdI s p).k = false)
end Go.Proofs.YtdlhfiheingibaaGreatDoor

namespace Go.Proofs.YtdlhfiheingibaaGreatDoor
open Go.RowKit Go.Maps Go.WideMaps
set_option linter.unusedVariables false

/-- What is no scanner, and no loop's or frame's own. -/
def okO (o : Obj) : Prop := (∃ es c, o = .map es c) ∨ (∃ cs t fr, o = .cells cs t fr ∧ t ≠ 63)
def KeptO (W W' : World) : Prop := ∀ (k : Nat) (o : Obj), okO o → W.heap[k]? = some o → W'.heap[k]? = some o
theorem KeptO.cells {W W' : World} (h : KeptO W W') {k : Nat} {cs : Array Value} {t : TypeId} {fr : Nat × Nat} (hk : W.heap[k]? = some (.cells cs t fr)) (ht : t ≠ 63) : W'.heap[k]? = some (.cells cs t fr) := h k _ (.inr ⟨_, _, _, rfl, ht⟩) hk
theorem KeptO.row {W W' : World} (h : KeptO W W') {base e size n : Nat} {v : Value} {xs : List Value} (ho : W.ownsRow base e size v n xs) (he : e ≠ 63) : W'.ownsRow base e size v n xs := by
  refine ⟨ho.1, ?_⟩
  rcases ho.2 with h1 | ⟨g, cap, cur, q1, q2, q3, q4⟩
  · exact .inl h1
  · exact .inr ⟨g, cap, cur, q1, q2, h.cells q3 he, q4⟩
theorem KeptO.of_gr {W W' : World} {b : Nat} (hg : W.grownBy W' (some b)) (hx : ScX b W) : KeptO W W' := by
  intro k o ho hk
  obtain ⟨cs, fr, hb⟩ := hx
  refine (hg.block k (lt_of_mapblock hk) ?_).trans hk
  intro e
  obtain rfl : k = b := by simpa using e
  rw [hb] at hk
  obtain rfl := Option.some.inj hk
  rcases ho with ⟨es, c, h⟩ | ⟨cs', t, fr', h, ht⟩
  · cases h
  · cases h; exact ht rfl
theorem KeptO.of_put {W : World} {l : Nat} {r : Loop} (hl : W.heap[l]? = some (.loop r)) (o' : Obj) : KeptO W (W.putObj l o') := by
  intro k o ho hk
  refine (World.putObj_heap_other ?_).trans hk
  rintro rfl
  rw [hl] at hk
  obtain rfl := Option.some.inj hk
  rcases ho with ⟨es, c, h⟩ | ⟨cs', t, fr', h, ht⟩ <;> cases h
theorem KeptO.of_putD {W : World} {l : Nat} {q : Option (List Deferred)} (hl : W.heap[l]? = some (.deferred q)) (o' : Obj) : KeptO W (W.putObj l o') := by
  intro k o ho hk
  refine (World.putObj_heap_other ?_).trans hk
  rintro rfl
  rw [hl] at hk
  obtain rfl := Option.some.inj hk
  rcases ho with ⟨es, c, h⟩ | ⟨cs', t, fr', h, ht⟩ <;> cases h
theorem KeptO.of_below {W W' : World} (h : Below W.heap.size W W') : KeptO W W' := fun k o _ hk => (h.block k (lt_of_mapblock hk)).trans hk
theorem GQ.kept {W W' : World} {base gb mg : Nat} {st : List Int} (h : GQ W base gb mg st) (hk : KeptO W W') : GQ W' base gb mg st := by
  obtain ⟨v, hg, ho⟩ := h.g.ex
  exact ⟨⟨⟨v, hk.cells hg (by decide), hk.row ho (by decide)⟩, h.g.lo⟩, h.r.same (fun es c e => hk _ _ (.inl ⟨_, _, rfl⟩) e) (fun g cs fr e => hk.cells e (by decide)), h.ok, h.len⟩
theorem GQ.same {W W' : World} {base gb mg : Nat} {st : List Int} (h : GQ W base gb mg st) (hk : ∀ (k : Nat) (o : Obj), W.heap[k]? = some o → (∀ cs fr, o ≠ .cells cs 45 fr) → (∀ cs fr, o ≠ .cells cs 31 fr) → W'.heap[k]? = some o) : GQ W' base gb mg st := by
  obtain ⟨v, hg, ho⟩ := h.g.ex
  refine ⟨⟨⟨v, hk _ _ hg (by intro cs fr e; cases e) (by intro cs fr e; cases e), ho.1, ?_⟩, h.g.lo⟩, h.r.same (fun es c e => hk _ _ e (by intro cs fr e; cases e) (by intro cs fr e; cases e)) (fun g cs fr e => hk _ _ e (by intro cs fr e; cases e) (by intro cs fr e; cases e)), h.ok, h.len⟩
  rcases ho.2 with h1 | ⟨g, cap, cur, q1, q2, q3, q4⟩
  · exact .inl h1
  · exact .inr ⟨g, cap, cur, q1, q2, hk _ _ q3 (by intro cs fr e; cases e) (by intro cs fr e; cases e), q4⟩
/-- Inside 'admitted': the guard, the boxes, the tokens so far. -/
structure AtSt (w : World) (base gb mg tv : Nat) (s : ByteArray) (st : List Int) (out : List Tk) (W : World) : Prop where
  q : GQ W base gb mg st
  bl : Below base w W
  b0 : W.heap[w.heap.size]? = some (.cells #[.pointer (some ⟨gb, 0, none⟩)] 38 (0, 0))
  b1 : W.heap[w.heap.size + 1]? = some (.cells #[.string s] 9 (0, 0))
  tk : ∃ v, W.heap[tv]? = some (.cells #[v] 31 (0, 0)) ∧ W.ownsRow w.heap.size 45 6 v out.length (cTks out)
theorem AtSt.kept {w W W' : World} {base gb mg tv : Nat} {s : ByteArray} {st : List Int} {out : List Tk} (h : AtSt w base gb mg tv s st out W) (hk : KeptO W W') (hb : Below base W W') : AtSt w base gb mg tv s st out W' := by
  obtain ⟨v, t1, t2⟩ := h.tk
  exact ⟨h.q.kept hk, h.bl.trans hb, hk.cells h.b0 (by decide), hk.cells h.b1 (by decide), ⟨v, hk.cells t1 (by decide), hk.row t2 (by decide)⟩⟩
theorem AtSt.below {w W W' : World} {base gb mg tv : Nat} {s : ByteArray} {st : List Int} {out : List Tk} (h : AtSt w base gb mg tv s st out W) (hb : Below W.heap.size W W') (hw : base ≤ W.heap.size) : AtSt w base gb mg tv s st out W' := h.kept (.of_below hb) (hb.mono hw)
/-- The guard has passed a token. -/
theorem AtSt.turn {w W W' : World} {base gb mg tv : Nat} {s : ByteArray} {st st' : List Int} {out : List Tk} (h : AtSt w base gb mg tv s st out W) (hq : GQ W' base gb mg st') (hp : Gp gb W W') (hb : Below base W W') (hgw : gb < w.heap.size) (htv : w.heap.size < tv) : AtSt w base gb mg tv s st' out W' := by
  obtain ⟨v, t1, t2⟩ := h.tk
  obtain ⟨vg, hg, _⟩ := h.q.g.ex
  refine ⟨hq, h.bl.trans hb, gp_cells hp h.b0 (by omega) (by decide), gp_cells hp h.b1 (by omega) (by decide), ⟨v, gp_cells hp t1 (by omega) (by decide), t2.1, ?_⟩⟩
  rcases t2.2 with h1 | ⟨g, cap, cur, q1, q2, q3, q4⟩
  · exact .inl h1
  · refine .inr ⟨g, cap, cur, q1, q2, gp_cells hp q3 ?_ (by decide), q4⟩
    rintro rfl
    rw [hg] at q3; cases q3
theorem AtSt.setTok {w W : World} {base gb mg tv tb : Nat} {s : ByteArray} {st : List Int} {out : List Tk} {cs : Array Value} {fr : Nat × Nat} (h : AtSt w base gb mg tv s st out W) (htb : W.heap[tb]? = some (.cells cs 45 fr)) (hne : ∀ v, W.heap[tv]? = some (.cells #[v] 31 (0, 0)) → v.ownBlock ≠ some tb) (hlo : base ≤ tb) (u : Value) : AtSt w base gb mg tv s st out (W.setCell ⟨tb, 0, none⟩ u) := by
  have hk : ∀ (k : Nat) (o : Obj), W.heap[k]? = some o → (∀ cs fr, o ≠ .cells cs 45 fr) → (W.setCell ⟨tb, 0, none⟩ u).heap[k]? = some o := fun k o hk ho => (heap_setCell_other _ _ _ _ (by rintro rfl; rw [htb] at hk; exact ho _ _ (Option.some.inj hk).symm)).trans hk
  obtain ⟨v, t1, t2⟩ := h.tk
  refine ⟨h.q.same (fun k o h1 h2 _ => hk k o h1 h2), h.bl.setCell hlo _, hk _ _ h.b0 (by intro cs fr e; cases e), hk _ _ h.b1 (by intro cs fr e; cases e), ⟨v, hk _ _ t1 (by intro cs fr e; cases e), ?_⟩⟩
  exact World.ownsRow.kept t2 (row := some tb) ⟨rfl, rfl, rfl, by simp [World.setCell], fun q hq hn => heap_setCell_other _ _ _ _ (fun e => hn (by rw [e]))⟩ (.inr (hne v t1))
/-- What is kept when a token is passed. -/
theorem Iw.turn {b mb B : Nat} {s : ByteArray} {I : Nat → Int → World → Prop} {W W' : World} {p q p' : Nat} {l l2 l' : Int} {gb base : Nat} {cs : Array Value} {fr : Nat × Nat} (h : Iw b mb B s I W q l2 p l) (hgd : W.heap[gb]? = some (.cells cs 57 fr)) (hp : Gp gb W W') (hb : Below base W W') (h9 : 10 ≤ base) (hi : I p' l' W') : Iw b mb B s I W' q l2 p' l' := by
  obtain ⟨f0, hsc⟩ := h.sc
  have hbs : b ≠ gb := by rintro rfl; rw [show W.heap[b]? = _ from hsc] at hgd; cases hgd
  refine ⟨⟨f0, gp_cells hp hsc hbs (by decide)⟩, ?_, h.ly.blocks (fun k hk => hb.block k (by omega)), hi, Nat.le_trans h.sz hp.size⟩
  obtain ⟨es, c, e1, e2⟩ := h.mp
  exact ⟨es, c, (hp.block _ (lt_of_mapblock e1) (by rintro rfl; rw [e1] at hgd; cases hgd) (fun cs fr e => by rw [e1] at e; cases e)).trans e1, e2⟩
theorem Iw.below {b mb B : Nat} {s : ByteArray} {I : Nat → Int → World → Prop} {W W' : World} {p q p' : Nat} {l l2 l' : Int} (h : Iw b mb B s I W q l2 p l) (hb : Below W.heap.size W W') (h9 : 10 ≤ B) (hi : I p' l' W') : Iw b mb B s I W' q l2 p' l' := by
  obtain ⟨f0, hsc⟩ := h.sc
  have hz := h.sz
  exact ⟨⟨f0, (hb.block _ (lt_of_mapblock hsc)).trans hsc⟩, h.mp.kept (row := none) ⟨hb.os, hb.tape, hb.output, hb.size, fun k hk _ => hb.block k hk⟩ (by simp), h.ly.blocks (fun k hk => hb.block k (by omega)), hi, Nat.le_trans h.sz hb.size⟩
theorem Iw.put {b mb B L : Nat} {s : ByteArray} {I : Nat → Int → World → Prop} {W : World} {p q : Nat} {l l2 : Int} {r : Loop} (h : Iw b mb B s I W q l2 p l) (hl : W.heap[L]? = some (.loop r)) (o : Obj) (h9 : 10 ≤ L) (hi : I p l (W.putObj L o)) : Iw b mb B s I (W.putObj L o) q l2 p l := by
  obtain ⟨f0, hsc⟩ := h.sc
  have hb : b ≠ L := by rintro rfl; rw [show W.heap[b]? = _ from hsc] at hl; cases hl
  obtain ⟨es, c, e1, e2⟩ := h.mp
  exact ⟨⟨f0, (World.putObj_heap_other hb).trans hsc⟩, ⟨es, c, (World.putObj_heap_other (by rintro rfl; rw [hl] at e1; cases e1)).trans e1, e2⟩, h.ly.blocks (fun k hk => World.putObj_heap_other (by omega)), hi, by simpa using h.sz⟩
theorem rdI_bd (s : ByteArray) (p : Nat) (hp : p < s.size) : p ≤ (rdI s p).a ∧ (rdI s p).a ≤ s.size := by
  unfold rdI
  split
  · rename_i h
    have := nmE_pos s p h
    exact ⟨by simp only; omega, (nmE_bd s _ p (by omega)).2⟩
  split
  · have := numN_bd s p hp
    split <;> (simp only; omega)
  split
  · have := rdStr_bd s (s.size + 1) (p + 1) [] (by omega)
    split <;> (simp only; omega)
  split
  · simp only; omega
  · rename_i h4
    have hz := ext_size s p s.size (Nat.le_refl _)
    have := skI_pos (s.extract p s.size) (by omega) h4
    simp only; omega
/-- A panic goes through a frame that holds a mark. -/
theorem leaves_pn {n : Nat} {fn : Func} {P : Program} {R : Ending → World → Prop} {tmps : Array Value} {D : Nat} {ch : List PanicEntry} {W : World} (hD : W.heap[D]? = some (.deferred (some []))) (h : R (.panicked ch) (W.putObj D (.deferred none))) : LeavesInM Fence.wide n P fn tmps R [{ target := .collected D, args := #[] }] (.panicking ch) W :=
  ⟨by simp, .inl ⟨_, _, rfl, run_takeDeferred hD, h⟩⟩
end Go.Proofs.YtdlhfiheingibaaGreatDoor
