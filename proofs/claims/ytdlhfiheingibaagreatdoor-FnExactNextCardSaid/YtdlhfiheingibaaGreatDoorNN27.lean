import Derived.Test.YtdlhfiheingibaaGreatDoorNN26
import Derived.Shelf.Abstract
namespace Go.Proofs.YtdlhfiheingibaaGreatDoor
open Go.RowKit Go.Maps Go.WideMaps
set_option linter.unusedVariables false
set_option linter.unusedSimpArgs false
attribute [local go_sem] Oper.semAt_some

def six (W : World) (b : Nat) (v0 v1 v2 v3 v4 v5 : Value) : World := ((((((W.setCell ⟨b, 0, none⟩ v0).setCell ⟨b, 1, none⟩ v1).setCell ⟨b, 2, none⟩ v2).setCell ⟨b, 3, none⟩ v3).setCell ⟨b, 4, none⟩ v4).setCell ⟨b, 5, none⟩ v5)
theorem six_at {b : Nat} {W : World} {t : TypeId} {y0 y1 y2 y3 y4 y5 : Value} (h : W.heap[b]? = some (.cells #[y0, y1, y2, y3, y4, y5] t (0, 0))) (v0 v1 v2 v3 v4 v5 : Value) : (six W b v0 v1 v2 v3 v4 v5).heap[b]? = some (.cells #[v0, v1, v2, v3, v4, v5] t (0, 0)) := by
  unfold six
  have s0 : (W.setCell ⟨b, 0, none⟩ v0).heap[b]? = some (.cells #[v0, y1, y2, y3, y4, y5] t (0, 0)) := heap_setCell_same _ b 0 _ _ _ h
  have s1 : ((W.setCell ⟨b, 0, none⟩ v0).setCell ⟨b, 1, none⟩ v1).heap[b]? = some (.cells #[v0, v1, y2, y3, y4, y5] t (0, 0)) := heap_setCell_same _ b 1 _ _ _ s0
  have s2 : (((W.setCell ⟨b, 0, none⟩ v0).setCell ⟨b, 1, none⟩ v1).setCell ⟨b, 2, none⟩ v2).heap[b]? = some (.cells #[v0, v1, v2, y3, y4, y5] t (0, 0)) := heap_setCell_same _ b 2 _ _ _ s1
  have s3 : ((((W.setCell ⟨b, 0, none⟩ v0).setCell ⟨b, 1, none⟩ v1).setCell ⟨b, 2, none⟩ v2).setCell ⟨b, 3, none⟩ v3).heap[b]? = some (.cells #[v0, v1, v2, v3, y4, y5] t (0, 0)) := heap_setCell_same _ b 3 _ _ _ s2
  have s4 : (((((W.setCell ⟨b, 0, none⟩ v0).setCell ⟨b, 1, none⟩ v1).setCell ⟨b, 2, none⟩ v2).setCell ⟨b, 3, none⟩ v3).setCell ⟨b, 4, none⟩ v4).heap[b]? = some (.cells #[v0, v1, v2, v3, v4, y5] t (0, 0)) := heap_setCell_same _ b 4 _ _ _ s3
  have s5 : ((((((W.setCell ⟨b, 0, none⟩ v0).setCell ⟨b, 1, none⟩ v1).setCell ⟨b, 2, none⟩ v2).setCell ⟨b, 3, none⟩ v3).setCell ⟨b, 4, none⟩ v4).setCell ⟨b, 5, none⟩ v5).heap[b]? = some (.cells #[v0, v1, v2, v3, v4, v5] t (0, 0)) := heap_setCell_same _ b 5 _ _ _ s4
  exact s5
theorem six_gr (W : World) (b : Nat) (v0 v1 v2 v3 v4 v5 : Value) : W.grownBy (six W b v0 v1 v2 v3 v4 v5) (some b) := by
  unfold six
  refine grw_trans2 ?_ (gr_setb _ b 5 _)
  refine grw_trans2 ?_ (gr_setb _ b 4 _)
  refine grw_trans2 ?_ (gr_setb _ b 3 _)
  refine grw_trans2 ?_ (gr_setb _ b 2 _)
  refine grw_trans2 ?_ (gr_setb _ b 1 _)
  exact gr_setb _ b 0 _
theorem infoTok : (Tryz.prog.info? 45).map (fun i => (i.zero, i.size, i.bytes)) = some (some (.agg #[.int .i64 0, .int .i64 0, .int .i64 0, .int .i64 0, .int .i64 0, .string { data := #[] }]), 6, 56) := by kernel_rfl
/-- The scanner has been made. -/
structure Ad1 (w : World) (gb : Nat) (s : ByteArray) (b mb : Nat) (W : World) : Prop where
  bl : Below w.heap.size w W
  b0 : W.heap[w.heap.size]? = some (.cells #[.pointer (some ⟨gb, 0, none⟩)] 38 (0, 0))
  b1 : W.heap[w.heap.size + 1]? = some (.cells #[.string s] 9 (0, 0))
  sc : ScAt b W s (.map (some mb)) 0 0 1 false
  mp : W.ownsMap Tryz.prog 9 (plainElem (H := Unit) Tryz.prog 3) mb 22 (wkD 22)
  lo : w.heap.size + 2 ≤ b
  ne : mb ≠ b
/-- What 'admitted' gives: the tokens that count, or a panic. -/
structure AmPost (w : World) (base gb mb : Nat) (s : ByteArray) (R : List Tk × List Int × Int) (e : Ending) (w' : World) : Prop where
  out : (∃ st stk toks l v, R = (toks ++ [⟨6, (s.size : Nat), (s.size : Nat), l, 0, ⟨#[]⟩⟩], stk, -1) ∧ Sim st stk ∧ e = .returned v ∧ w'.ownsRow w.heap.size 45 6 v toks.length (cTks toks) ∧ GQ w' base gb mb st ∧ st.length ≤ 45 * s.size + 2 ∧ toks.length ≤ s.size ∧ Below base w w') ∨ (∃ z, PnIs s R z ∧ e = .panicked (misV z) ∧ Below base w w')

set_option maxRecDepth 100000 in
set_option maxHeartbeats 1600000 in
theorem admitted_any (w : World) (base gb mg : Nat) (s : ByteArray) (h : GQ w base gb mg [100, 6]) (hL : Lay w) (hs : s.size ≤ 65536) (h9 : 10 ≤ base) :
    Calls Tryz.prog 13 #[.pointer (some ⟨gb, 0, none⟩), .string s] w fun e w' => AmPost w base gb mg s (walkF s) e w' := by
  obtain ⟨tt, fr, hG⟩ := hL.tabs.word
  have hglt : gb < w.heap.size := by obtain ⟨v, hg, _⟩ := h.g.ex; exact lt_of_mapblock hg
  have hlo := h.g.lo
  refine calls_of_wpV (n := 5) Tryz.func13 rfl ?_
  simp only [Tryz.ntmps13, List.size_toArray, List.length_cons, List.length_nil, Nat.reduceAdd, Nat.reduceSub, Array.replicate_succ, Array.replicate_zero, List.push_toArray, List.append_toArray, List.nil_append, List.cons_append]
  refine wpV_seq_k (fun K0 hK0 => wpV_of_wp ?_)
  go_wp2_with fail
  have hB2 := ((Below.refl w.heap.size w).alloc (Nat.le_refl _) (.cells #[.pointer (some ⟨gb, 0, none⟩)] 38 (0, 0))).alloc (by simp) (.cells #[.string s] 9 (0, 0))
  have hb0 : ((w.alloc (.cells #[.pointer (some ⟨gb, 0, none⟩)] 38 (0, 0))).alloc (.cells #[.string s] 9 (0, 0))).heap[w.heap.size]? = some (.cells #[.pointer (some ⟨gb, 0, none⟩)] 38 (0, 0)) := (Below.heap_alloc _ _ _ (by simp)).trans (heap_alloc_new w _)
  have hb1 : ((w.alloc (.cells #[.pointer (some ⟨gb, 0, none⟩)] 38 (0, 0))).alloc (.cells #[.string s] 9 (0, 0))).heap[w.heap.size + 1]? = some (.cells #[.string s] 9 (0, 0)) := by
    have := heap_alloc_new (w.alloc (.cells #[.pointer (some ⟨gb, 0, none⟩)] 38 (0, 0))) (.cells #[.string s] 9 (0, 0))
    rwa [World.size_alloc] at this
  have hsz2 : ((w.alloc (.cells #[.pointer (some ⟨gb, 0, none⟩)] 38 (0, 0))).alloc (.cells #[.string s] 9 (0, 0))).heap.size = w.heap.size + 2 := by simp
  generalize (w.alloc (.cells #[.pointer (some ⟨gb, 0, none⟩)] 38 (0, 0))).alloc (.cells #[.string s] 9 (0, 0)) = W2 at hB2 hb0 hb1 hsz2 ⊢
  refine wpV_seq_k (fun K1 hK1 => ?_)
  have hK2 : ∀ (b mb : Nat) (W : World), Ad1 w gb s b mb W → K1 { tmps := #[.pointer (some ⟨gb, 0, none⟩), .string s, .pointer (some ⟨w.heap.size, 0, none⟩), .pointer (some ⟨w.heap.size + 1, 0, none⟩), .slice none 0 0, .pointer (some ⟨b, 0, none⟩), undef, undef, .string s, .map (some mb), .agg #[.string s, .map (some mb), .int .i64 0, .int .i64 0, .int .i64 1, .bool false], undef, undef, undef, undef, undef, undef, undef, undef, undef, undef, undef, undef, undef, undef, undef, undef, undef, undef, undef, undef, undef, undef, undef, undef, undef, undef, undef, undef, undef, undef, undef, undef, undef], defers := [] } W := by
    intro b mb W hA
    refine hK1 _ _ ?_
    clear hK1
    obtain ⟨tv, htv⟩ : ∃ tv, W.heap.size = tv := ⟨_, rfl⟩
    have hW := lt_of_mapblock hA.sc
    have hWl := hA.lo
    have hmf : ∀ (fn : Fn) (first cap : Array Value) (w : World), (Instr.makeFunc fn first cap).run Tryz.prog w = .ok (.func fn first cap) w := fun _ _ _ _ => rfl
    refine wpV_seq_k (fun K2 hK2 => wpV_of_wp ?_)
    go_wp2_with fail
    refine wpV_seq_k (fun K3 hK3 => ?_)
    refine wpV_seq_k (fun K4 hK4 => wpV_of_wp ?_)
    go_wp2_with fail
    refine wpV_blockPn ?_
    have hBt := (Below.refl W.heap.size W).alloc (Nat.le_refl _) (.cells #[.slice none 0 0] 31 (0, 0))
    have hBw : Below w.heap.size w (W.alloc (.cells #[.slice none 0 0] 31 (0, 0))) := hA.bl.alloc hA.bl.size _
    have hsc3 : ScE b (W.alloc (.cells #[.slice none 0 0] 31 (0, 0))) s (.map (some mb)) 0 1 false := ⟨0, (hBt.block _ hW).trans hA.sc⟩
    have hmp3 := hA.mp.alloc (.cells #[.slice none 0 0] 31 (0, 0))
    have hat3 : AtSt w base gb mg tv s [100, 6] [] (W.alloc (.cells #[.slice none 0 0] 31 (0, 0))) :=
      ⟨h.below hBw, hBw.mono (by omega), (hBt.block _ (lt_of_mapblock hA.b0)).trans hA.b0, (hBt.block _ (lt_of_mapblock hA.b1)).trans hA.b1, ⟨.slice none 0 0, by rw [← htv]; exact heap_alloc_new W _, World.ownsRow_nil _ _ _ _⟩⟩
    have hL3 : Lay (W.alloc (.cells #[.slice none 0 0] 31 (0, 0))) := hL.below hBw (Nat.le_refl _)
    have hz3 : (W.alloc (.cells #[.slice none 0 0] 31 (0, 0))).heap.size = tv + 1 := by simp; omega
    rw [htv] at hW
    generalize W.alloc (.cells #[.slice none 0 0] 31 (0, 0)) = W3 at hsc3 hmp3 hat3 hL3 hz3 ⊢
    have hne := hA.ne
    clear hBt hBw hA htv
    obtain ⟨R, hR⟩ : ∃ R, walkF s = R := ⟨_, rfl⟩
    have hbeg := WkAt.begin s
    rw [hR] at hbeg
    obtain ⟨I, hId⟩ : ∃ I : Nat → Int → World → Prop, I = fun p l X => ∃ st stk out f, WkAt s R st stk p l out f ∧ AtSt w base gb mg tv s st out X := ⟨_, rfl⟩
    have hI0 : Iw b mb (tv + 1) s I W3 0 1 0 1 := ⟨hsc3, hmp3, hL3, by rw [hId]; exact ⟨_, _, _, _, hbeg, hat3⟩, by omega⟩
    have hTg : ∀ p l X Y, I p l X → ScX b X → X.grownBy Y (some b) → I p l Y := by
      intro p l X Y h hx hg
      rw [hId] at h ⊢
      obtain ⟨st, stk, out, f, h1, h2⟩ := h
      exact ⟨st, stk, out, f, h1, h2.kept (.of_gr hg hx) ⟨hg.os, hg.tape, hg.output, by have := h2.bl.size; have := hg.size; have := lt_of_mapblock h2.b0; omega, fun k hk => hg.block k (by have := lt_of_mapblock h2.b0; omega) (by simp; omega)⟩⟩
    have hPg : ∀ p q l X, blk s (s.size + 1) p = blk s (s.size + 1) q → p ≤ q → q ≤ s.size → I p l X → I q l X := by
      intro p q l X hb hpq hq h
      rw [hId] at h ⊢
      obtain ⟨st, stk, out, f, h1, h2⟩ := h
      exact ⟨st, stk, out, f, h1.move hb hpq hq, h2⟩
    have hLg : ∀ p l X, I p l X → 0 ≤ l ∧ l ≤ (p : Int) + 1 ∧ p ≤ s.size := by
      intro p l X h
      rw [hId] at h
      obtain ⟨st, stk, out, f, h1, h2⟩ := h
      exact ⟨h1.l0, h1.l1, h1.le⟩
    have hpI : ∀ {X : World} {q p : Nat} {l2 l : Int} {r : Loop} (o : Obj), Iw b mb (tv + 1) s I X q l2 p l → X.heap[tv + 1 + 1]? = some (.loop r) → Iw b mb (tv + 1) s I (X.putObj (tv + 1 + 1) o) q l2 p l := by
      intro X q p l2 l r o h hl
      refine h.put hl o (by omega) ?_
      have hi := h.ii
      rw [hId] at hi ⊢
      obtain ⟨st, stk, out, f, h1, h2⟩ := hi
      refine ⟨st, stk, out, f, h1, h2.kept (.of_put hl o) ?_⟩
      exact (Below.refl base X).grown (grownBy_putObj' X (tv + 1 + 1) o) (by have := h.sz; omega) (fun j e => by cases e; omega)
    refine rangePn (P := Tryz.prog) (α := Nat × Int) (n := 5) Tryz.func13 (gf := 23) (bd := #[.pointer (some ⟨b, 0, none⟩)]) rfl (enters_of Tryz.func23 (by kernel_rfl) rfl) (fun x => #[vTk ⟨(rdI s x.1).k, (x.1 : Int), ((rdI s x.1).a : Int), x.2, (rdI s x.1).n, (rdI s x.1).x⟩]) (fun _ => rfl)
      (fun x X => TkAtP s x.1 ∧ (rdI s x.1).ok = true ∧ Iw b mb (tv + 1) s I X (rdI s x.1).a (x.2 + (rdI s x.1).d) x.1 x.2)
      (fun x X => Iw b mb (tv + 1) s I X (rdI s x.1).a (x.2 + (rdI s x.1).d) (rdI s x.1).a (x.2 + (rdI s x.1).d))
      (fun x a' X => (TkAtP s x.1 ∧ (rdI s x.1).ok = true ∧ Iw b mb (tv + 1) s I X (rdI s x.1).a (x.2 + (rdI s x.1).d) x.1 x.2) ∧ ∃ tb, tv + 1 ≤ tb ∧ (∀ v, X.heap[tv]? = some (.cells #[v] 31 (0, 0)) → v.ownBlock ≠ some tb) ∧ TkAt tb X (rdI s x.1).k (x.1 : Int) ((rdI s x.1).a : Int) x.2 (rdI s x.1).n (rdI s x.1).x ∧
        a' = { tmps := #[.pointer (some ⟨gb, 0, none⟩), .string s, .pointer (some ⟨w.heap.size, 0, none⟩), .pointer (some ⟨w.heap.size + 1, 0, none⟩), .slice none 0 0, .pointer (some ⟨b, 0, none⟩), .pointer (some ⟨tv, 0, none⟩), .pointer (some ⟨tb, 0, none⟩), .string s, .map (some mb), .agg #[.string s, .map (some mb), .int .i64 0, .int .i64 0, .int .i64 1, .bool false], .func (.func 23) #[.pointer (some ⟨b, 0, none⟩)] #[], vTk ⟨(rdI s x.1).k, (x.1 : Int), ((rdI s x.1).a : Int), x.2, (rdI s x.1).n, (rdI s x.1).x⟩, undef, undef, undef, undef, undef, undef, undef, undef, undef, undef, undef, undef, undef, undef, undef, undef, undef, undef, undef, undef, undef, undef, undef, undef, undef, undef, undef, undef, undef, undef, undef], defers := [] })
      (fun X => IwEnd b mb (tv + 1) s I X)
      (fun ch X => ∃ z, PnIs s R z ∧ ch = misV z ∧ Below base w X)
      ?pZ ?pAx ?pD ?assign ?body ?seq ?done ?pan
    case pZ =>
      rintro x X r o h hl
      rw [hz3] at hl ⊢
      exact hpI o h hl
    case pAx =>
      rintro x a' X r o ⟨⟨h1, h2, h3⟩, tb, h4, hfr, h5, h6⟩ hl
      rw [hz3] at hl ⊢
      exact ⟨⟨h1, h2, hpI o h3 hl⟩, tb, h4, fun v hv => hfr v ((World.putObj_heap_other (by omega)).symm.trans hv), (World.putObj_heap_other (by rintro rfl; have := (show X.heap[tv + 1 + 1]? = _ from h5).symm.trans hl; cases this)).trans h5, h6⟩
    case pD =>
      rintro X r o h hl
      rw [hz3] at hl ⊢
      cases h with
      | fin l h => exact .fin l (hpI o h hl)
      | bad p l hp hr hS hy hz hi =>
        refine .bad p l hp hr ((World.putObj_heap_other (by omega)).trans hS) (hy.blocks (fun k hk => World.putObj_heap_other (by omega))) (by simpa using hz) ?_
        rw [hId] at hi ⊢
        obtain ⟨st, stk, out, f, h1, h2⟩ := hi
        refine ⟨st, stk, out, f, h1, h2.kept (.of_put hl o) ?_⟩
        exact (Below.refl base X).grown (grownBy_putObj' X (tv + 1 + 1) o) (by omega) (fun j e => by cases e; omega)
    case assign =>
      rintro l ⟨p, ln⟩ X K ⟨h1, h2, h3⟩ hK
      unfold vTk at hK ⊢
      simp only at h1 h2 h3 hK ⊢
      have HH : Hid (TkAtP s p ∧ (rdI s p).ok = true ∧ Iw b mb (tv + 1) s I X (rdI s p).a (ln + (rdI s p).d) p ln) := ⟨h1, h2, h3⟩
      clear h1 h2 h3
      gi_wp2
      have hBx := (Below.refl X.heap.size X).alloc (Nat.le_refl _) (.cells #[.int .i64 (rdI s p).k, .int .i64 (p : Int), .int .i64 ((rdI s p).a : Int), .int .i64 ln, .int .i64 (rdI s p).n, .string (rdI s p).x] 45 (0, 0))
      refine hK _ _ ⟨⟨HH.out.1, HH.out.2.1, Iw.below HH.out.2.2 hBx (by omega) ?_⟩, X.heap.size, HH.out.2.2.sz, fun v hv => ?_, heap_alloc_new X _, rfl⟩ ((KeepsOthers.alloc X _).from _)
      all_goals
        have hi := HH.out.2.2.ii
        have hz := HH.out.2.2.sz
        rw [hId] at hi
        obtain ⟨st, stk, out, f, h1, h2⟩ := hi
      · rw [hId]
        exact ⟨st, stk, out, f, h1, h2.below hBx (by omega)⟩
      · obtain ⟨v0, t1, t2⟩ := h2.tk
        rw [Below.heap_alloc X _ tv (by omega), t1] at hv
        cases hv
        intro e
        have := (t2.lt _ e).2
        omega
    case body =>
      rintro l ⟨p, ln⟩ a' X ⟨⟨ht, hok, hI⟩, tb, htb, hfr, hbx, rfl⟩
      rw [hz3]
      unfold vTk
      simp only at ht hok hI hbx ⊢
      have hi := hI.ii
      rw [hId] at hi
      obtain ⟨st, stk, out, f, hwk, hat⟩ := hi
      obtain ⟨k0, k1⟩ := rdI_k s p hok
      obtain ⟨q1, q2, q3, q4⟩ := rdI_pos s p ht.lt hok
      have hxz := hI.sz
      have hgo7 := fun (hk : (rdI s p).k = 7) (hm : mayI st 5 = true) st' (h1 : Sim st' (feedL stk 5).1) (h2 : st'.length ≤ st.length + 45) => hwk.sep ht hok hk hm h1 h2
      have hsk7 := fun (hk : (rdI s p).k = 7) (hm : mayI st 5 = false) => hwk.skip ht hok hk hm
      have hgo := fun (hk : (rdI s p).k ≠ 7) (hm : mayI st (rdI s p).k = true) st' (h1 : Sim st' (feedL stk (rdI s p).k).1) (h2 : st'.length ≤ st.length + 45) => hwk.tok ht hok hk hm h1 h2
      have hno : (rdI s p).k ≠ 7 → mayI st (rdI s p).k = false → PnIs s R ((p : Int) + (rchI st (s.extract p (rdI s p).a) : Nat)) := fun hk hm => ⟨by rw [hwk.stop ht hok hk hm]; omega, p, st, stk, ln, out, f, ht, hwk, rfl, fun _ => ⟨hk, hm⟩⟩
      have hlen := hwk.len
      have hple := hwk.le
      have hout := hwk.ol
      have hsim := hwk.sim
      have hlt := ht.lt
      generalize (rdI s p).k = k at hbx k0 k1 hgo7 hsk7 hgo hno ⊢
      generalize (rdI s p).a = A at hbx q1 q2 hI hgo7 hsk7 hgo hno ⊢
      generalize (rdI s p).d = d at q3 q4 hI hgo7 hsk7 hgo ⊢
      generalize (rdI s p).n = rn at hbx hgo7 hgo ⊢
      generalize (rdI s p).x = rx at hbx hgo7 hgo ⊢
      clear hwk hok ht
      refine wpIn_block ?_
      refine wpIn_seq_k (fun K5 hK5 => ?_)
      have tail : ∀ (k' : Int) (Y : World) (u13 u14 u15 u16 u17 u18 u19 : Value), 1 ≤ k' → k' ≤ 78 → KeepsFrom (tv + 1) X Y → Iw b mb (tv + 1) s (fun _ _ _ => True) Y A (ln + d) p ln → AtSt w base gb mg tv s st out Y → tv + 1 ≤ Y.heap.size → TkAt tb Y k' (p : Int) (A : Int) ln rn rx →
          (mayI st k' = true → ∀ st', Sim st' (feedL stk k').1 → st'.length ≤ st.length + 45 → ∃ g, WkAt s R st' (feedL stk k').1 A (ln + d) (out ++ [⟨k', (p : Nat), (A : Nat), ln, rn, rx⟩]) g) →
          (mayI st k' = false → PnIs s R ((p : Int) + (rchI st (s.extract p A) : Nat))) →
          K5 { tmps := #[.pointer (some ⟨gb, 0, none⟩), .string s, .pointer (some ⟨w.heap.size, 0, none⟩), .pointer (some ⟨w.heap.size + 1, 0, none⟩), .slice none 0 0, .pointer (some ⟨b, 0, none⟩), .pointer (some ⟨tv, 0, none⟩), .pointer (some ⟨tb, 0, none⟩), .string s, .map (some mb), .agg #[.string s, .map (some mb), .int .i64 0, .int .i64 0, .int .i64 1, .bool false], .func (.func 23) #[.pointer (some ⟨b, 0, none⟩)] #[], .agg #[.int .i64 k, .int .i64 (p : Int), .int .i64 (A : Int), .int .i64 ln, .int .i64 rn, .string rx], u13, u14, u15, u16, u17, u18, u19, undef, undef, undef, undef, undef, undef, undef, undef, undef, undef, undef, undef, undef, undef, undef, undef, undef, undef, undef, undef, undef, undef, undef, undef], defers := [] } Y := by
        intro k' Y u13 u14 u15 u16 u17 u18 u19 k0' k1' hYf hYi hYa hYz hbY hgo hno
        refine hK5 _ _ ?_
        clear hK5
        have c0 := one_cellG hYa.b0
        have cx := one_cellG hYa.b1
        obtain ⟨t0, t1, t2, t3, t4, t5, tf⟩ := tk_cells hbY
        obtain ⟨stF, f', hP⟩ : ∃ stF f', mayI st k' = true → passOk (st.length + 45) f' st k' stF ∧ stF.length ≤ st.length + 45 ∧ Sim stF (feedL stk k').1 := by
          by_cases hm : mayI st k' = true
          · obtain ⟨o, ho, hs'⟩ := hsim.passOk k0' k1' hm
            exact ⟨o, _, fun _ => ⟨ho, passOk_len ho, hs'⟩⟩
          · exact ⟨[], 0, fun e => absurd e hm⟩
        have kad := CallsIn.inRound l (callsIn_wide (n := 2).2 (admit_any Y base gb mg st stF ⟨k', (p : Int), (A : Int), ln, rn, rx⟩ s f' hYa.q hYi.ly.tabs (by omega) k0' k1' (by simp only; omega) (by simp only; omega) (by simp only; omega) (fun e => ⟨(hP e).1, by have := (hP e).2.1; omega, fun a ha => by have := of_decide_eq_true ((hP e).2.2.o1 a ha); omega⟩)))
        unfold vTk at kad
        simp only [Int.toNat_natCast] at kad
        gi_wp2_with (refine ⟨trivial, ?_⟩; gi_at_call 25; fail)
        refine ⟨trivial, kad.mono ?_⟩
        rintro e w5 ⟨(⟨hm, rfl, hq5, hp5, hb5⟩ | ⟨hm, rfl, hb5⟩)⟩
        · obtain ⟨_, hl5, hs5⟩ := hP hm
          obtain ⟨g, hwk5⟩ := hgo hm stF hs5 hl5
          obtain ⟨vg, hgd, _⟩ := hYa.q.g.ex
          have ha5 := hYa.turn hq5 hp5 hb5 hglt (by omega)
          have hT5 : TkAt tb w5 k' (p : Int) (A : Int) ln rn rx := gp_cells hp5 hbY (by omega) (by decide)
          have hi5 : Iw b mb (tv + 1) s (fun _ _ _ => True) w5 A (ln + d) p ln := Iw.turn (I := fun _ _ _ => True) (p := p) (l := ln) ⟨hYi.sc, hYi.mp, hYi.ly, trivial, hYi.sz⟩ hgd hp5 hb5 h9 trivial
          have hk5 : KeepsFrom (tv + 1) X w5 := hYf.trans (kf_gp hgd hp5)
          obtain ⟨v, hv1, hv2⟩ := ha5.tk
          obtain ⟨va, vc, rfl⟩ := own_form hv2
          have cv := one_cellG hv1
          have fv : w5.frozen? ⟨tv, 0, none⟩ = false := frozen_of_row _ _ _ _ _ hv1
          obtain ⟨y0, y1, y2, y3, y4, y5, yf⟩ := tk_cells hT5
          obtain ⟨i0, hi0, hz0, hz1, hz2⟩ := info_parts infoTok
          obtain ⟨on, hon⟩ : ∃ on, out.length = on := ⟨_, rfl⟩
          rw [hon] at hv1 hv2 cv hout
          have hw5 : tv + 1 ≤ w5.heap.size := hi5.sz
          have hvb : ∀ q, (Value.slice va on vc).ownBlock = some q → w.heap.size ≤ q ∧ ∃ cs fr, w5.heap[q]? = some (.cells cs 45 fr) := fun q hq => by
            refine ⟨(hv2.lt q hq).1, ?_⟩
            rcases hv2.2 with ⟨e1, _⟩ | ⟨g2, cap2, cur, e1, _, e3, _⟩
            · rw [e1] at hq; cases hq
            · rw [e1] at hq
              obtain rfl : g2 = q := by simpa [Value.ownBlock] using hq
              exact ⟨_, _, e3⟩
          have HH : Hid (WkAt s R stF (feedL stk k').1 A (ln + d) (out ++ [⟨k', (p : Nat), (A : Nat), ln, rn, rx⟩]) g ∧ AtSt w base gb mg tv s stF out w5 ∧ Iw b mb (tv + 1) s (fun _ _ _ => True) w5 A (ln + d) p ln ∧ KeepsFrom (tv + 1) X w5 ∧ w5.heap[tv]? = some (.cells #[.slice va on vc] 31 (0, 0)) ∧ out.length = on) := ⟨hwk5, ha5, hi5, hk5, hv1, hon⟩
          clear hwk5 ha5 hi5 hk5 hv1 hon kad hP hq5 hp5 hb5 hYa hYi hYf hbY hgo hno c0 cx t0 t1 t2 t3 t4 t5 tf hT5
          gi_wp2_with (gi_at_builtin; refine wpListIn_append_own _ rfl _ _ 31 rfl w.heap.size 45 i0 _ 6 56 Tryz.underlying31 hi0 hz0 hz1 hz2 rfl (by decide) _ _ _ rfl (hv2.alloc _) ⟨w5.heap.size, 0, none⟩ 1 1 [.int .i64 k', .int .i64 (p : Int), .int .i64 (A : Int), .int .i64 ln, .int .i64 rn, .string rx] rfl rfl (World.news_of_block (cs := #[.int .i64 k', .int .i64 (p : Int), .int .i64 (A : Int), .int .i64 ln, .int .i64 rn, .string rx]) (fr := (0, 0)) (heap_alloc_new w5 _)) (by intro u hu; simp at hu; rcases hu with rfl | rfl | rfl | rfl | rfl | rfl <;> rfl) (by unfold maxLen; omega) (by omega) (by simp; omega) ?_; intro v' w6 ho6 hg6 _; obtain ⟨g', cap', rfl⟩ := ownsRow_succ ho6; have hv6 : w6.heap[tv]? = some (.cells #[.slice va on vc] 31 (0, 0)) := (hg6.block tv (by simp; omega) (fun e => by obtain ⟨_, cs, fr, e2⟩ := hvb tv e.symm; rw [HH.out.2.2.2.2.1] at e2; cases e2)).trans ((Below.heap_alloc _ _ _ (by omega)).trans HH.out.2.2.2.2.1); have cv6 := one_cellG hv6; have fv6 : w6.frozen? ⟨tv, 0, none⟩ = false := frozen_of_row _ _ _ _ _ hv6)
          have hbk : ∀ (q : Nat) (o : Obj), w5.heap[q]? = some o → (∀ cs fr, o ≠ .cells cs 45 fr) → q ≠ tv → (w6.setCell ⟨tv, 0, none⟩ (.slice (some ⟨g', 0, none⟩) (on + 1) cap')).heap[q]? = some o := fun q o hq ho hne => by
            refine (heap_setCell_other _ _ _ _ hne).trans ((hg6.block q (by simp; have := lt_of_mapblock hq; omega) (fun e => ?_)).trans ((Below.heap_alloc _ _ _ (lt_of_mapblock hq)).trans hq))
            obtain ⟨_, cs, fr, e2⟩ := hvb q e.symm
            rw [hq] at e2
            exact ho cs fr (Option.some.inj e2)
          have hsz6 : w5.heap.size ≤ w6.heap.size := by have := hg6.size; simp at this; omega
          have hb6 : Below base w5 (w6.setCell ⟨tv, 0, none⟩ (.slice (some ⟨g', 0, none⟩) (on + 1) cap')) := by
            have b1 : Below base w5 (w5.alloc (.cells #[.int .i64 k', .int .i64 (p : Int), .int .i64 (A : Int), .int .i64 ln, .int .i64 rn, .string rx] 45)) := (Below.refl _ w5).alloc (by omega) _
            exact (b1.grown hg6 (by simp; omega) (fun q hq => by have := (hvb q hq).1; omega)).setCell (by show base ≤ tv; omega) _
          have hfin : AtSt w base gb mg tv s stF (out ++ [⟨k', (p : Nat), (A : Nat), ln, rn, rx⟩]) (w6.setCell ⟨tv, 0, none⟩ (.slice (some ⟨g', 0, none⟩) (on + 1) cap')) := by
            have ha := HH.out.2.1
            refine ⟨ha.q.same (fun q o hq h1 h2 => hbk q o hq h1 (by rintro rfl; rw [HH.out.2.2.2.2.1] at hq; exact h2 _ _ (Option.some.inj hq).symm)), ha.bl.trans hb6, hbk _ _ ha.b0 (by intro cs fr e; cases e) (by omega), hbk _ _ ha.b1 (by intro cs fr e; cases e) (by omega), ⟨_, heap_setCell_same _ _ 0 _ _ _ hv6, ?_⟩⟩
            rw [List.length_append, HH.out.2.2.2.2.2, cTks_app]
            refine World.ownsRow.kept ho6 (row := some tv) ⟨rfl, rfl, rfl, by simp [World.setCell], fun q hq hne => heap_setCell_other _ _ _ _ (fun e => hne (by rw [e]))⟩ (.inr ?_)
            intro e
            have e2 : g' = tv := by simpa [Value.ownBlock] using e
            subst e2
            rcases ho6.2 with ⟨e1, _⟩ | ⟨g2, cap2, cur, e1, _, e3, _⟩
            · cases e1
            · cases e1; rw [hv6] at e3; cases e3
          refine ⟨HH.out.2.2.2.1.trans ?_, ?_⟩
          · exact ⟨by simp [World.setCell]; omega, fun q o _ hq ho => hbk q o hq (fun cs fr e => by rw [e] at ho; cases ho) (by rintro rfl; rw [HH.out.2.2.2.2.1] at hq; obtain rfl := Option.some.inj hq; cases ho)⟩
          · obtain ⟨f0, hsc⟩ := HH.out.2.2.1.sc
            obtain ⟨es, ec, em1, em2⟩ := HH.out.2.2.1.mp
            refine ⟨⟨f0, hbk _ _ hsc (by intro cs fr e; cases e) (by omega)⟩, ⟨es, ec, hbk _ _ em1 (by intro cs fr e; cases e) (by rintro rfl; rw [HH.out.2.2.2.2.1] at em1; cases em1), em2⟩, HH.out.2.2.1.ly.blocks (fun q hq => hb6.block q (by omega)), ?_, by simp [World.setCell]; omega⟩
            rw [hId]
            exact ⟨_, _, _, _, HH.out.1, hfin⟩
        · refine ⟨rfl, hYf.trans (kf_below hb5), _, hno hm, rfl, hYa.bl.trans (hb5.mono (by omega))⟩
      clear hK5
      obtain ⟨t0, t1, t2, t3, t4, t5, tf⟩ := tk_cells hbx
      by_cases hk7 : k = 7
      · subst hk7
        obtain ⟨R5, hR5⟩ : ∃ R5, mayI st 5 = R5 := ⟨_, rfl⟩
        have km := CallsIn.inRound l (callsIn_wide (n := 2).2 (hat.q.may (t := 5) (by decide) (by decide) hR5))
        have c0 := one_cellG hat.b0
        have HH : Hid (AtSt w base gb mg tv s st out X ∧ Iw b mb (tv + 1) s I X A (ln + d) p ln ∧ mayI st 5 = R5 ∧ TkAt tb X 7 (p : Int) (A : Int) ln rn rx) := ⟨hat, hI, hR5, hbx⟩
        clear hat hI hR5 hbx hgo hno
        gi_wp2_with (refine ⟨trivial, ?_⟩; gi_at_call 24; fail)
        refine ⟨trivial, km.mono ?_⟩
        rintro e w5 ⟨rfl, hb5⟩
        have ha5 := HH.out.1.below hb5 (by omega)
        have hT5 : TkAt tb w5 7 (p : Int) (A : Int) ln rn rx := (hb5.block _ (lt_of_mapblock HH.out.2.2.2)).trans HH.out.2.2.2
        have z0 : w5.cell? ⟨tb, 0, none⟩ = some (.int .i64 7) := (tk_cells hT5).1
        have zf : w5.frozen? ⟨tb, 0, none⟩ = false := (tk_cells hT5).2.2.2.2.2.2 0
        have hk5 : KeepsFrom (tv + 1) X w5 := kf_below hb5
        clear km c0 t0 t1 t2 t3 t4 t5 tf
        cases R5 with
        | false =>
          obtain ⟨g, hg⟩ := hsk7 trivial HH.out.2.2.1
          have HF : Hid (KeepsFrom (tv + 1) X w5 ∧ Iw b mb (tv + 1) s I w5 A (ln + d) A (ln + d)) := ⟨hk5, Iw.below HH.out.2.1 hb5 (by omega) (by rw [hId]; exact ⟨_, _, _, _, hg, ha5⟩)⟩
          clear tail hgo7 hsk7 hg ha5 hT5 hk5 HH hb5
          gi_wp2
          exact HF.out
        | true =>
          have hfr5 : ∀ v, w5.heap[tv]? = some (.cells #[v] 31 (0, 0)) → v.ownBlock ≠ some tb := fun v hv => hfr v ((hb5.block _ (by omega)).symm.trans hv)
          have hY : AtSt w base gb mg tv s st out (w5.setCell ⟨tb, 0, none⟩ (.int .i64 5)) := ha5.setTok hT5 hfr5 (by omega) _
          have hTY : TkAt tb (w5.setCell ⟨tb, 0, none⟩ (.int .i64 5)) 5 (p : Int) (A : Int) ln rn rx := heap_setCell_same _ _ 0 _ _ _ hT5
          have hi5 : Iw b mb (tv + 1) s (fun _ _ _ => True) w5 A (ln + d) p ln := Iw.below (I := fun _ _ _ => True) (p := p) (l := ln) ⟨HH.out.2.1.sc, HH.out.2.1.mp, HH.out.2.1.ly, trivial, HH.out.2.1.sz⟩ hb5 (by omega) trivial
          have hiY : Iw b mb (tv + 1) s (fun _ _ _ => True) (w5.setCell ⟨tb, 0, none⟩ (.int .i64 5)) A (ln + d) p ln := by
            obtain ⟨f0, hsc⟩ := hi5.sc
            obtain ⟨es, ec, em1, em2⟩ := hi5.mp
            exact ⟨⟨f0, (heap_setCell_other _ _ _ _ (by show b ≠ tb; omega)).trans hsc⟩, ⟨es, ec, (heap_setCell_other _ _ _ _ (by rintro rfl; rw [show w5.heap[_]? = _ from hT5] at em1; cases em1)).trans em1, em2⟩, hi5.ly.blocks (fun q hq => heap_setCell_other _ _ _ _ (by show q ≠ tb; omega)), trivial, by simp [World.setCell]; exact hi5.sz⟩
          have HT : Hid (∀ (u13 u14 u15 u16 u17 u18 u19 : Value), K5 { tmps := #[.pointer (some ⟨gb, 0, none⟩), .string s, .pointer (some ⟨w.heap.size, 0, none⟩), .pointer (some ⟨w.heap.size + 1, 0, none⟩), .slice none 0 0, .pointer (some ⟨b, 0, none⟩), .pointer (some ⟨tv, 0, none⟩), .pointer (some ⟨tb, 0, none⟩), .string s, .map (some mb), .agg #[.string s, .map (some mb), .int .i64 0, .int .i64 0, .int .i64 1, .bool false], .func (.func 23) #[.pointer (some ⟨b, 0, none⟩)] #[], .agg #[.int .i64 7, .int .i64 (p : Int), .int .i64 (A : Int), .int .i64 ln, .int .i64 rn, .string rx], u13, u14, u15, u16, u17, u18, u19, undef, undef, undef, undef, undef, undef, undef, undef, undef, undef, undef, undef, undef, undef, undef, undef, undef, undef, undef, undef, undef, undef, undef, undef], defers := [] } (w5.setCell ⟨tb, 0, none⟩ (.int .i64 5))) := fun u13 u14 u15 u16 u17 u18 u19 => tail 5 _ u13 u14 u15 u16 u17 u18 u19 (by decide) (by decide) (hk5.trans ((KeepsOthers.setCell _ _ _).from _)) hiY hY (by simp [World.setCell]; exact hi5.sz) hTY (fun hm => hgo7 trivial hm) (fun hm => by rw [HH.out.2.2.1] at hm; cases hm)
          clear tail hgo7 hsk7 ha5 hT5 hk5 HH hb5 hfr5 hY hTY hi5 hiY hfr
          gi_wp2
          exact HT.out _ _ _ _ _ _ _
      · have hk7' : (k == 7) = false := by rw [beq_eq_false_iff_ne]; exact hk7
        have HT : Hid (∀ (u13 u14 u15 u16 u17 u18 u19 : Value), K5 { tmps := #[.pointer (some ⟨gb, 0, none⟩), .string s, .pointer (some ⟨w.heap.size, 0, none⟩), .pointer (some ⟨w.heap.size + 1, 0, none⟩), .slice none 0 0, .pointer (some ⟨b, 0, none⟩), .pointer (some ⟨tv, 0, none⟩), .pointer (some ⟨tb, 0, none⟩), .string s, .map (some mb), .agg #[.string s, .map (some mb), .int .i64 0, .int .i64 0, .int .i64 1, .bool false], .func (.func 23) #[.pointer (some ⟨b, 0, none⟩)] #[], .agg #[.int .i64 k, .int .i64 (p : Int), .int .i64 (A : Int), .int .i64 ln, .int .i64 rn, .string rx], u13, u14, u15, u16, u17, u18, u19, undef, undef, undef, undef, undef, undef, undef, undef, undef, undef, undef, undef, undef, undef, undef, undef, undef, undef, undef, undef, undef, undef, undef, undef], defers := [] } X) := fun u13 u14 u15 u16 u17 u18 u19 => tail k X u13 u14 u15 u16 u17 u18 u19 k0 k1 (KeepsFrom.refl _ _) ⟨hI.sc, hI.mp, hI.ly, trivial, hI.sz⟩ hat (by omega) hbx (fun hm => hgo hk7 hm) (fun hm => hno hk7 hm)
        clear tail hgo hno hgo7 hsk7 hat hI hbx
        gi_wp2
        exact HT.out _ _ _ _ _ _ _
    case seq =>
      rintro l BK hBK hY X hbk hbel hxz
      rw [hz3] at hBK hbel hxz hY ⊢
      refine (tokens_pn 4 l b mb (tv + 1) s (by omega) (by omega) (by omega) (by omega) I hTg hPg hLg BK hBK (fun ch X => (∃ z, PnIs s R z ∧ ch = misV z ∧ Below base w X) ∧ X.heap[tv + 1]? = some (.deferred (some []))) (fun p ln X h1 h2 h3 h4 => (hY (p, ln) X ⟨h1, h2, h3⟩ h4)) X 0 1 ?_ hbk).mono ?_
      · refine Iw.below hI0 (by rw [hz3]; exact hbel) (by omega) ?_
        have hi := hI0.ii
        rw [hId] at hi ⊢
        obtain ⟨st, stk, out, f, h1, h2⟩ := hi
        exact ⟨st, stk, out, f, h1, h2.below (by rw [hz3]; exact hbel) (by omega)⟩
      · rintro e X' (h | ⟨ch, h1, h2, h3⟩)
        · exact .inl h
        · exact .inr ⟨ch, h1, h2, h3⟩
    case done =>
      rintro X h hD
      rw [hz3] at hD ⊢
      refine hK3 _ _ (wpV_of_wp ?_)
      clear hK3
      rw [hR]
      cases h with
      | fin l h =>
        have hi := h.ii
        rw [hId] at hi
        obtain ⟨st, stk, out, f, h1, h2⟩ := hi
        obtain ⟨v, t1, t2⟩ := h2.tk
        obtain ⟨c0, c1, c2, c3, c4, f2, f3, f4⟩ := ScE.cells h.sc
        have ct := one_cellG t1
        have HF : Hid (WkAt s R st stk s.size l out f ∧ AtSt w base gb mg tv s st out X ∧ X.ownsRow w.heap.size 45 6 v out.length (cTks out)) := ⟨h1, h2, t2⟩
        clear h1 h2 t1 t2 h hTg hPg hLg hpI hI0 hbeg hat3 hsc3 hmp3 hL3
        go_wp2_with fail
        refine ⟨by simp, .inl ⟨_, _, rfl, run_takeDeferred hD, ?_⟩⟩
        have hk := KeptO.of_putD hD (.deferred none)
        refine ⟨_, results_tmp rfl _ _ _, ⟨.inl ⟨st, stk, out, l, v, HF.out.1.fin, HF.out.1.sim, rfl, hk.row HF.out.2.2 (by decide), HF.out.2.1.q.kept hk, HF.out.1.len, HF.out.1.ol, ?_⟩⟩⟩
        exact HF.out.2.1.bl.grown (grownBy_putObj' X (tv + 1) (.deferred none)) (by have := HF.out.2.1.bl.size; have := lt_of_mapblock hD; omega) (fun j e => by cases e; omega)
      | bad p l hp hr hS hy hz hi =>
        rw [hId] at hi
        obtain ⟨st, stk, out, f, h1, h2⟩ := hi
        obtain ⟨c0, c1, c2, c3, c4, f2, f3, f4⟩ := sc_cells hS
        obtain ⟨cF, fF⟩ := sc_from hS
        have cg := one_cellG h2.b0
        have cx := one_cellG h2.b1
        clear hTg hPg hLg hpI hI0 hbeg hat3 hsc3 hmp3 hL3
        obtain ⟨hba, hbe⟩ := rdI_bd s p hp.lt
        have hgw : base ≤ X.heap.size := by have := h2.bl.size; omega
        have hXd : Below X.heap.size X X.drew := (Below.refl _ X).drew
        have hTb : Tabs X.drew := (hy.tabs.below hXd (Nat.le_refl _))
        have hxs : (s.extract p (rdI s p).a).size ≤ 1100000 := by have := ByteArray.size_extract (a := s) (b := p) (e := (rdI s p).a); omega
        have kr := reach_any X.drew base gb mg st (s.extract p (rdI s p).a) (h2.q.below hXd) hTb hxs
        have hrl : (rchI st (s.extract p (rdI s p).a) : Nat) ≤ s.size := by
          have := rchI_le st (s.extract p (rdI s p).a)
          have := ByteArray.size_extract (a := s) (b := p) (e := (rdI s p).a)
          omega
        obtain ⟨z, hz'⟩ : ∃ z : Nat, rchI st (s.extract p (rdI s p).a) = z := ⟨_, rfl⟩
        have HPn : Hid (PnIs s R ((p : Int) + (z : Nat))) := ⟨h1.bad hp hr, p, st, stk, l, out, f, hp, h1, by rw [hz'], fun e => by rw [hr] at e; cases e⟩
        have HX : Hid (Below base w X ∧ X.heap[tv + 1]? = some (.deferred (some [])) ∧ base ≤ X.heap.size) := ⟨h2.bl, hD, hgw⟩
        rw [hz'] at kr hrl
        obtain ⟨A, hA9⟩ : ∃ A : Nat, (rdI s p).a = A := ⟨_, rfl⟩
        rw [hA9] at c2 kr hba hbe
        have hpA : (p : Int) ≤ (A : Int) := by omega
        have hA1 : (A : Int) ≤ (s.size : Int) := by omega
        have hp0 : (0 : Int) ≤ (p : Int) := by omega
        have hA0 : (0 : Int) ≤ (A : Int) := by omega
        have hwr : IntKind.i64.wrap ((p : Int) + (z : Int)) = (p : Int) + (z : Int) := by rw [IntKind.wrap_i64]; omega
        clear hz' hA9 h1 h2 hS hy hxs hTb hr
        go_wp2_with fail
        refine Code.wp_mono (Q := onlyPn [{ target := .collected (tv + 1), args := #[] }] (fun ch Y => ch = misV ((p : Int) + (z : Nat)) ∧ Below X.heap.size X Y)) (fun e a Y h => ?_) ?_
        · cases e with
          | panic ch =>
            obtain ⟨hd, rfl, hbY⟩ := h
            show LeavesInM _ _ _ _ _ _ a.defers (.panicking _) Y
            rw [hd]
            have hDY := (hbY.block _ (lt_of_mapblock HX.out.2.1)).trans HX.out.2.1
            refine leaves_pn hDY ⟨.inr ⟨_, HPn.out, rfl, ?_⟩⟩
            have hbb := HX.out.1.trans (hbY.mono HX.out.2.2)
            exact hbb.grown (grownBy_putObj' Y (tv + 1) (.deferred none)) (by have := hbY.size; have := HX.out.2.2; have := hlo; omega) (fun j e => by cases e; omega)
          | _ => exact h.elim
        refine region_plain (S := fun w' => w'.cell? ⟨b, 2, none⟩ = some (.int .i64 (p : Int)) ∧ w'.cell? ⟨b, 3, none⟩ = some (.int .i64 (A : Int)) ∧ w'.cell? ⟨w.heap.size, 0, none⟩ = some (.pointer (some ⟨gb, 0, none⟩)) ∧ w'.cell? ⟨w.heap.size + 1, 0, none⟩ = some (.string s)) (by kernel_rfl) ⟨cF, c2, cg, cx⟩ (fun hS' => ?_)
        refine takeAt 0 30 (.pointer (some ⟨b, 2, none⟩)) rfl rfl (by kernel_rfl) (by kernel_rfl) (by kernel_rfl) (fun _ _ _ h => h) (by rfl) hS' (fun w' hw' => by obtain ⟨s1, s2, s3, s4⟩ := hw'; go_simp) ?_
        simp only [Act.put, List.setIfInBounds_toArray, List.set_cons_zero, List.set_cons_succ]
        refine takeAt 1 31 (.int .i64 (p : Int)) rfl rfl (by kernel_rfl) (by kernel_rfl) (by kernel_rfl) (fun _ _ _ h => h) (by rfl) hS' (fun w' hw' => by obtain ⟨s1, s2, s3, s4⟩ := hw'; go_simp) ?_
        simp only [Act.put, List.setIfInBounds_toArray, List.set_cons_zero, List.set_cons_succ]
        refine takeAt 2 32 (.pointer (some ⟨gb, 0, none⟩)) rfl rfl (by kernel_rfl) (by kernel_rfl) (by kernel_rfl) (fun _ _ _ h => h) (by rfl) hS' (fun w' hw' => by obtain ⟨s1, s2, s3, s4⟩ := hw'; go_simp) ?_
        simp only [Act.put, List.setIfInBounds_toArray, List.set_cons_zero, List.set_cons_succ]
        refine takeAt 3 33 (.string s) rfl rfl (by kernel_rfl) (by kernel_rfl) (by kernel_rfl) (fun _ _ _ h => h) (by rfl) hS' (fun w' hw' => by obtain ⟨s1, s2, s3, s4⟩ := hw'; go_simp) ?_
        simp only [Act.put, List.setIfInBounds_toArray, List.set_cons_zero, List.set_cons_succ]
        refine takeAt 4 34 (.pointer (some ⟨b, 2, none⟩)) rfl rfl (by kernel_rfl) (by kernel_rfl) (by kernel_rfl) (fun _ _ _ h => h) (by rfl) hS' (fun w' hw' => by obtain ⟨s1, s2, s3, s4⟩ := hw'; go_simp) ?_
        simp only [Act.put, List.setIfInBounds_toArray, List.set_cons_zero, List.set_cons_succ]
        refine takeAt 5 35 (.int .i64 (p : Int)) rfl rfl (by kernel_rfl) (by kernel_rfl) (by kernel_rfl) (fun _ _ _ h => h) (by rfl) hS' (fun w' hw' => by obtain ⟨s1, s2, s3, s4⟩ := hw'; go_simp) ?_
        simp only [Act.put, List.setIfInBounds_toArray, List.set_cons_zero, List.set_cons_succ]
        refine takeAt 6 36 (.pointer (some ⟨b, 3, none⟩)) rfl rfl (by kernel_rfl) (by kernel_rfl) (by kernel_rfl) (fun _ _ _ h => h) (by rfl) hS' (fun w' hw' => by obtain ⟨s1, s2, s3, s4⟩ := hw'; go_simp) ?_
        simp only [Act.put, List.setIfInBounds_toArray, List.set_cons_zero, List.set_cons_succ]
        refine takeAt 7 37 (.int .i64 (A : Int)) rfl rfl (by kernel_rfl) (by kernel_rfl) (by kernel_rfl) (fun _ _ _ h => h) (by rfl) hS' (fun w' hw' => by obtain ⟨s1, s2, s3, s4⟩ := hw'; go_simp) ?_
        simp only [Act.put, List.setIfInBounds_toArray, List.set_cons_zero, List.set_cons_succ]
        refine takeAt 8 38 (.string (s.extract p A)) rfl rfl (by kernel_rfl) (by kernel_rfl) (by kernel_rfl) (fun _ _ _ h => h) (by rfl) hS' (fun w' hw' => by obtain ⟨s1, s2, s3, s4⟩ := hw'; go_simp) ?_
        simp only [Act.put, List.setIfInBounds_toArray, List.set_cons_zero, List.set_cons_succ]
        refine wpAnyH_ready (rs := [9]) (by kernel_rfl) (by simp) (AllReadyH.cons rfl (fun K9 hK9 => ?_) AllReadyH.nil)
        go_simp
        refine kr.mono ?_
        rintro e w4 ⟨rfl, hb4⟩
        refine hK9.out _ _ ⟨cell_kept hb4 cF, cell_kept hb4 c2, cell_kept hb4 cg, cell_kept hb4 cx⟩ (fun hS' => ?_)
        clear hK9 K9
        try simp only [Act.put, List.setIfInBounds_toArray, List.set_cons_zero, List.set_cons_succ]
        refine takeAt 10 40 (.int .i64 ((p : Int) + (z : Int))) rfl rfl (by kernel_rfl) (by kernel_rfl) (by kernel_rfl) (fun _ _ _ h => h) (by rfl) hS' (fun w' hw' => by obtain ⟨s1, s2, s3, s4⟩ := hw'; go_simp) ?_
        simp only [Act.put, List.setIfInBounds_toArray, List.set_cons_zero, List.set_cons_succ]
        refine takeAt 11 41 (.agg #[.int .i64 ((p : Int) + (z : Int))]) rfl rfl (by kernel_rfl) (by kernel_rfl) (by kernel_rfl) (fun _ _ _ h => h) (by rfl) hS' (fun w' hw' => by obtain ⟨s1, s2, s3, s4⟩ := hw'; go_simp) ?_
        simp only [Act.put, List.setIfInBounds_toArray, List.set_cons_zero, List.set_cons_succ]
        refine takeAt 12 42 (.iface 36 (.agg #[.int .i64 ((p : Int) + (z : Int))])) rfl rfl (by kernel_rfl) (by kernel_rfl) (by kernel_rfl) (fun _ _ _ h => h) (by rfl) hS' (fun w' hw' => by obtain ⟨s1, s2, s3, s4⟩ := hw'; go_simp) ?_
        simp only [Act.put, List.setIfInBounds_toArray, List.set_cons_zero, List.set_cons_succ]
        refine wpAnyH_ready (rs := [13]) (by kernel_rfl) (by simp) (AllReadyH.cons rfl (fun K9 hK9 => ?_) AllReadyH.nil)
        go_simp
        exact ⟨rfl, rfl, (hXd.trans hb4)⟩
    case pan =>
      rintro ch X ⟨z, hz, rfl, hb⟩ hD
      rw [hz3] at hD ⊢
      show LeavesInM _ _ _ _ _ _ [_] (.panicking _) X
      refine ⟨by simp, .inl ⟨_, _, rfl, run_takeDeferred hD, ?_⟩⟩
      rw [hR]
      exact ⟨.inr ⟨z, hz, rfl, hb.grown (grownBy_putObj' X (tv + 1) (.deferred none)) (by have := hb.size; have := lt_of_mapblock hD; omega) (fun j e => by cases e; omega)⟩⟩
  clear hK1
  refine wpV_of_wp (Code.wp_mono (Q := Exit.then K1 (fun _ _ _ => False)) (fun e a w h => by cases e <;> first | exact h | exact h.elim) ?_)
  have c1 : W2.drew.cell? ⟨w.heap.size + 1, 0, none⟩ = some (.string s) := one_cellG hb1
  refine region_plain (S := fun w' => w'.cell? ⟨w.heap.size + 1, 0, none⟩ = some (.string s)) (by kernel_rfl) c1 (fun hS => ?_)
  refine takeAt 0 8 (.string s) rfl rfl (by kernel_rfl) (by kernel_rfl) (by kernel_rfl) (fun _ _ _ h => h) (by rfl) hS (fun w' hw' => by go_simp) ?_
  simp only [Act.put, List.setIfInBounds_toArray, List.set_cons_zero, List.set_cons_succ]
  refine wpAnyH_ready (rs := [1, 3]) (by kernel_rfl) (by simp) (AllReadyH.cons rfl (fun K3 hK3 => ?_) (AllReadyH.cons rfl (fun K3 hK3 => ?_) AllReadyH.nil))
  · go_simp
    have hB2d : Below w.heap.size w W2.drew := hB2.drew
    refine (wordKinds_any (H := Unit) W2.drew fr tt ((hB2d.block _ (lt_of_mapblock hG)).trans hG)).mono ?_
    rintro e w3 ⟨rfl, hmap, hb3⟩
    have hd2 : W2.drew.heap.size = w.heap.size + 2 := hsz2
    rw [hd2] at hmap hb3
    have hB3 : Below w.heap.size w w3 := hB2d.trans (hb3.mono (by omega))
    have hz3 : w.heap.size + 2 ≤ w3.heap.size := by have := hb3.size; omega
    have hmlt := hmap.lt
    refine hK3.out _ _ (one_cellG ((hb3.block _ (by omega)).trans hb1)) (fun hS => ?_)
    clear hK3 K3
    try simp only [Act.put, List.setIfInBounds_toArray, List.set_cons_zero, List.set_cons_succ]
    simp only [hd2]
    refine takeAt 2 10 (.agg #[.string s, .map (some (w.heap.size + 2)), .int .i64 0, .int .i64 0, .int .i64 1, .bool false]) rfl rfl (by kernel_rfl) (by kernel_rfl) (by kernel_rfl) (fun _ _ _ h => h) (by rfl) hS (fun w' hw' => by go_simp) ?_
    simp only [Act.put, List.setIfInBounds_toArray, List.set_cons_zero, List.set_cons_succ]
    refine wpAnyH_ready (rs := [3]) (by kernel_rfl) (by simp) (AllReadyH.cons rfl (fun K3 hK3 => ?_) AllReadyH.nil)
    go_simp
    refine hK3.out _ _ ((cell_kept ((Below.refl w3.heap.size w3).alloc (Nat.le_refl _) _) hS)) (fun hS => ?_)
    clear hK3 K3
    refine wpAnyH_ready (rs := [4]) (by kernel_rfl) (by simp) (AllReadyH.cons rfl (fun K3 hK3 => ?_) AllReadyH.nil)
    go_simp
    have hA : Ad1 w gb s w3.heap.size (w.heap.size + 2) (w3.alloc (.cells #[.string s, .map (some (w.heap.size + 2)), .int .i64 0, .int .i64 0, .int .i64 1, .bool false] 63)) :=
      ⟨hB3.alloc hB3.size _, (Below.heap_alloc _ _ _ (by omega)).trans ((hb3.block _ (by omega)).trans hb0), (Below.heap_alloc _ _ _ (by omega)).trans ((hb3.block _ (by omega)).trans hb1), heap_alloc_new w3 _, hmap.alloc _, by omega, by omega⟩
    refine hK3.out _ _ (one_cellG hA.b1) (fun hS => ?_)
    clear hK3 K3
    refine wpAnyH_done (by kernel_rfl) ?_ _
    exact hK2 _ _ _ hA
  · go_simp
    have hB2d : Below w.heap.size w W2.drew := hB2.drew
    obtain ⟨WA, hWA⟩ : ∃ WA, (W2.alloc (.cells #[.string { data := #[] }, .map none, .int .i64 0, .int .i64 0, .int .i64 0, .bool false] 63)).drew = WA := ⟨_, rfl⟩
    have hBA : Below (w.heap.size + 2) W2 WA := by rw [← hWA]; exact ((Below.refl _ W2).alloc (by omega) _).drew
    have hzA : WA.heap.size = w.heap.size + 3 := by rw [← hWA]; show (W2.alloc _).heap.size = _; simp; omega
    have hbA : WA.heap[w.heap.size + 2]? = some (.cells #[.string { data := #[] }, .map none, .int .i64 0, .int .i64 0, .int .i64 0, .bool false] 63 (0, 0)) := by rw [← hWA, ← hsz2]; exact heap_alloc_new W2 _
    rw [hWA]
    refine hK3.out _ _ (cell_kept (hBA.mono (by omega)) (one_cellG hb1)) (fun hS => ?_)
    clear hK3 K3
    refine wpAnyH_ready (rs := [1]) (by kernel_rfl) (by simp) (AllReadyH.cons rfl (fun K3 hK3 => ?_) AllReadyH.nil)
    go_simp
    have hB0A : Below w.heap.size w WA := hB2.trans (hBA.mono (by omega))
    refine (wordKinds_any (H := Unit) WA fr tt ((hB0A.block _ (lt_of_mapblock hG)).trans hG)).mono ?_
    rintro e w3 ⟨rfl, hmap, hb3⟩
    rw [hzA] at hmap hb3
    have hB3 : Below w.heap.size w w3 := hB0A.trans (hb3.mono (by omega))
    have hmlt := hmap.lt
    refine hK3.out _ _ (cell_kept (hb3.mono (by omega)) hS) (fun hS => ?_)
    clear hK3 K3
    try simp only [Act.put, List.setIfInBounds_toArray, List.set_cons_zero, List.set_cons_succ]
    simp only [hzA]
    refine takeAt 2 10 (.agg #[.string s, .map (some (w.heap.size + 3)), .int .i64 0, .int .i64 0, .int .i64 1, .bool false]) rfl rfl (by kernel_rfl) (by kernel_rfl) (by kernel_rfl) (fun _ _ _ h => h) (by rfl) hS (fun w' hw' => by go_simp) ?_
    simp only [Act.put, List.setIfInBounds_toArray, List.set_cons_zero, List.set_cons_succ]
    have hbs3 := (hb3.block _ (by omega)).trans hbA
    refine wpAnyH_ready (rs := [4]) (by kernel_rfl) (by simp) (AllReadyH.cons rfl (fun K3 hK3 => ?_) AllReadyH.nil)
    obtain ⟨d0, d1, d2, d3, d4, d5⟩ := row_cells6 hbs3
    obtain ⟨e0, e1, e2, e3, e4, e5⟩ := row_fro6 hbs3
    go_simp
    have hg := six_gr w3 (w.heap.size + 2) (.string s) (.map (some (w.heap.size + 3))) (.int .i64 0) (.int .i64 0) (.int .i64 1) (.bool false)
    have hA : Ad1 w gb s (w.heap.size + 2) (w.heap.size + 3) (six w3 (w.heap.size + 2) (.string s) (.map (some (w.heap.size + 3))) (.int .i64 0) (.int .i64 0) (.int .i64 1) (.bool false)) := by
      have hz3 := hb3.size
      refine ⟨hB3.grown hg hB3.size (fun k e => by cases e; omega), ?_, ?_, six_at hbs3 _ _ _ _ _ _, hmap.kept hg (by simp), by omega, by omega⟩
      · exact (hg.block _ (by omega) (by simp)).trans ((hb3.block _ (by omega)).trans ((hBA.block _ (by omega)).trans hb0))
      · exact (hg.block _ (by omega) (by simp)).trans ((hb3.block _ (by omega)).trans ((hBA.block _ (by omega)).trans hb1))
    refine hK3.out _ _ (one_cellG hA.b1) (fun hS => ?_)
    clear hK3 K3
    refine wpAnyH_done (by kernel_rfl) ?_ _
    exact hK2 _ _ _ hA
end Go.Proofs.YtdlhfiheingibaaGreatDoor
