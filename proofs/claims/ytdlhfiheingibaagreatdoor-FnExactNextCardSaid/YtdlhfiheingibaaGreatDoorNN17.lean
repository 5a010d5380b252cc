import Derived.Test.YtdlhfiheingibaaGreatDoorNN16
import Derived.OrdersHeld
import Derived.Deep.RegionHeld3
import Derived.Test.YtdlhfiheingibaaGreatDoorNN15
import Derived.Shelf.Abstract
namespace Go.Proofs.YtdlhfiheingibaaGreatDoor
open Go.RowKit
set_option linter.unusedVariables false

/-- Where the body of a round goes on, or leaves by a return. -/
def GoesOr (B : Nat) (W : World) (Z X : World → Prop) : Exit → Act → World → Prop
  | .normal, _, W' => KeepsFrom B W W' ∧ Z W'
  | .ret, _, W' => KeepsFrom B W W' ∧ X W'
  | _, _, _ => False

/-- A range over a function that counts down; a round may return. Z m: m rounds are left; X: a round has returned. -/
theorem rangeDown {P : Program} {n : Nat} {g : Operand} {ps : Array Tmp} {assign body : Go.Code} {Q : Exit → Act → World → Prop} {a : Act} {w : World} {gf : Nat} {lb : Array Value}
    (hg : a.eval g = .func (.func gf) #[] lb) (eg : ∀ args w, (callFunc gf args).run P w = .ok (.enter gf args) w) (enc : Nat → Array Value) (hps : ∀ x, (enc x).size = ps.size) (len : Nat)
    (Z : Nat → World → Prop) (Ax : Nat → Act → World → Prop) (X : World → Prop)
    (pZ : ∀ m W r o, Z m W → W.heap[w.heap.size + 1]? = some (.loop r) → Z m (W.putObj (w.heap.size + 1) o))
    (pAx : ∀ m a' W r o, Ax m a' W → W.heap[w.heap.size + 1]? = some (.loop r) → Ax m a' (W.putObj (w.heap.size + 1) o)) (pX : ∀ W r o, X W → W.heap[w.heap.size + 1]? = some (.loop r) → X (W.putObj (w.heap.size + 1) o))
    (h0 : ∀ W1, Below w.heap.size w W1 → W1.heap.size = w.heap.size + 2 → Z len W1)
    (hassign : ∀ (l m : Nat) W (K : Act → World → Prop), m < len → Z (m + 1) W → (∀ a' W', Ax m a' W' → KeepsFrom w.heap.size W W' → K a' W') →
      assign.wpIn (Fence.wide.inRound l) (n - 1 - 1) P (Exit.then K (fun _ _ _ => False)) { tmps := (ps.zip (enc m)).foldl (fun t (p, v) => t.setIfInBounds p v) a.tmps, defers := [] } W)
    (hbody : ∀ (l m : Nat) a' W, m < len → Ax m a' W → body.wpIn (Fence.wide.inRound l) (n - 1 - 1) P (GoesOr w.heap.size W (Z m) X) a' W)
    (hseq : ∀ (l : Nat) (J : Nat → World → Prop) (Jx : World → Prop), (∀ m W, J m W → Z m W) →
      (∀ m W, m < len → J (m + 1) W → YieldAt Fence.wide (n - 1 - 1) P l (enc m) W fun e W' => (e = .returned (.bool true) ∧ J m W') ∨ (e = .returned (.bool false) ∧ Jx W')) →
      ∀ W, J len W → CallsIn Fence.wide (n - 1) P gf (#[.func (.yield l) #[] #[]] ++ lb) W fun e W' => (∃ v, e = .returned v) ∧ (J 0 W' ∨ Jx W'))
    (hdone : ∀ W, Z 0 W → W.heap[w.heap.size]? = some (.deferred (some [])) → Q .normal { a with defers := { target := .collected w.heap.size, args := #[] } :: a.defers } W)
    (hret : ∀ W, X W → W.heap[w.heap.size]? = some (.deferred (some [])) → Q .ret { a with defers := { target := .collected w.heap.size, args := #[] } :: a.defers } W) :
    (Go.Code.rangeFunc g ps assign body).wpIn Fence.wide n P Q a w := by
  refine wpIn_rangeFunc ?_
  intro fn hfn
  show ∃ l mark w₁ d w₁' f args w₂, (Instr.enterLoop fn a.tmps ps assign body none).run P w = _ ∧ _
  obtain ⟨rc, hrc⟩ : ∃ rc : LoopState → Option Go.Code → Loop, rc = fun st pe => { state := st, pending := pe, fn, tmps := a.tmps, params := ps, assign, body, defers := w.heap.size } := ⟨_, rfl⟩
  have heq := run_enterLoop_outer (P := P) (w := w) fn a.tmps ps assign body
  rw [show ({ state := .ready, pending := none, fn, tmps := a.tmps, params := ps, assign, body, defers := w.heap.size } : Loop) = rc .ready none by rw [hrc]] at heq
  obtain ⟨W1, hW1⟩ : ∃ W1, (w.alloc (.deferred (some []))).alloc (.loop (rc .ready none)) = W1 := ⟨_, rfl⟩
  rw [hW1] at heq
  have hl1 : W1.heap[w.heap.size + 1]? = some (.loop (rc .ready none)) := by
    rw [← hW1]; have := World.alloc_heap_new (w.alloc (.deferred (some []))) (.loop (rc .ready none)); rwa [World.size_alloc] at this
  have hd1 : W1.heap[w.heap.size]? = some (.deferred (some [])) := by
    rw [← hW1]; exact (Below.heap_alloc _ _ _ (by simp)).trans (World.alloc_heap_new w _)
  have hb1 : Below w.heap.size w W1 := by rw [← hW1]; exact ((Below.refl _ w).alloc (Nat.le_refl _) _).alloc (by simp) _
  have hs1 : W1.heap.size = w.heap.size + 2 := by rw [← hW1]; simp
  refine ⟨w.heap.size + 1, [{ target := .collected w.heap.size, args := #[] }], W1, { target := .fn (.func gf) lb, args := #[.func (.yield (w.heap.size + 1)) #[] #[]] }, W1, gf,
    #[.func (.yield (w.heap.size + 1)) #[] #[]] ++ lb, W1, heq, ?_, ?_, ?_, fun h => by simp [Fence.wide] at h, ?_⟩
  · simp only [resolve, hg]; simp [go_sem]
  · intro f' hf'; trivial
  · simp [invoke, go_sem, eg]
  · refine (hseq (w.heap.size + 1) (fun m W => Z m W ∧ W.heap[w.heap.size + 1]? = some (.loop (rc .ready none)) ∧ W.heap[w.heap.size]? = some (.deferred (some [])))
      (fun W => X W ∧ W.heap[w.heap.size + 1]? = some (.loop (rc .done (some .ret))) ∧ W.heap[w.heap.size]? = some (.deferred (some []))) (fun _ _ h => h.1) ?_ W1 ⟨h0 W1 hb1 hs1, hl1, hd1⟩).mono ?_
    · rintro m W hm ⟨hZ, hl, hd⟩
      have hy := run_yield (P := P) (args := enc m) hl (by rw [hrc]; exact hps m)
      rw [hrc] at hy
      refine ⟨fn, _, assign, body, hy, roundIn_of_wpIn hfn (hassign _ m W _ hm hZ fun a' W' hAx hkf => ?_)⟩
      have hl2 := hkf.same _ _ (by omega) hl rfl
      have hd2 := hkf.same _ _ (Nat.le_refl _) hd rfl
      have hlt : w.heap.size + 1 < W'.heap.size := (Array.getElem?_eq_some_iff.1 hl2).1
      refine ⟨_, run_beginRound hl2 (by rw [hrc]), ?_⟩
      have hl3 : (W'.putObj (w.heap.size + 1) (.loop { rc .ready none with state := .busy })).heap[w.heap.size + 1]? = some (.loop { rc .ready none with state := .busy }) := World.putObj_heap_same hlt
      have hd3 : (W'.putObj (w.heap.size + 1) (.loop { rc .ready none with state := .busy })).heap[w.heap.size]? = some (.deferred (some [])) := (World.putObj_heap_other (by omega)).trans hd2
      refine wpIn_mono (hbody _ m a' _ hm (pAx _ _ _ _ _ hAx hl2)) ?_
      rintro e a3 W3 hp
      cases e with
      | normal =>
        obtain ⟨hk3, hz3⟩ := hp
        have hl4 := hk3.same _ _ (by omega) hl3 rfl
        have hd4 := hk3.same _ _ (Nat.le_refl _) hd3 rfl
        have hlt4 := (Array.getElem?_eq_some_iff.1 hl4).1
        refine ⟨_, _, run_endRound (P := P) none hl4, .inl ⟨rfl, pZ _ _ _ _ hz3 hl4, ?_, (World.putObj_heap_other (by omega)).trans hd4⟩⟩
        rw [World.putObj_heap_same hlt4]; simp [hrc]
      | ret =>
        obtain ⟨hk3, hz3⟩ := hp
        have hl4 := hk3.same _ _ (by omega) hl3 rfl
        have hd4 := hk3.same _ _ (Nat.le_refl _) hd3 rfl
        have hlt4 := (Array.getElem?_eq_some_iff.1 hl4).1
        refine ⟨_, _, run_endRound (P := P) (some .ret) hl4, .inr ⟨rfl, pX _ _ _ hz3 hl4, ?_, (World.putObj_heap_other (by omega)).trans hd4⟩⟩
        rw [World.putObj_heap_same hlt4]; simp [hrc]
      | _ => exact hp.elim
    · rintro e W2 ⟨⟨v, rfl⟩, ⟨hZ, hl, hd⟩ | ⟨hX, hl, hd⟩⟩
      · refine ⟨none, _, by have := run_endLoop (P := P) hl (by rw [hrc]; simp); rw [hrc] at this; exact this, ?_⟩
        exact hdone _ (pZ _ _ _ _ hZ hl) ((World.putObj_heap_other (by omega)).trans hd)
      · refine ⟨some .ret, _, by have := run_endLoop (P := P) hl (by rw [hrc]; simp); rw [hrc] at this; exact this, ?_⟩
        exact wpIn_ret (hret _ (pX _ _ _ hX hl) ((World.putObj_heap_other (by omega)).trans hd))
end Go.Proofs.YtdlhfiheingibaaGreatDoor

namespace Go.Proofs.YtdlhfiheingibaaGreatDoor
open Go.RowKit
set_option linter.unusedVariables false

theorem upon_round {P : Program} {l n : Nat} {o : Oper} {a : Act} {K : Act → World → Prop} {Q : Exit → Act → World → Prop} (r : Result Next) (h : o.upon P a K Q r) : o.uponIn (Fence.wide.inRound l) n P a K Q r := by
  have hd : (Fence.wide.inRound l).depth.isSome = true → 1 ≤ n := fun h => by simp [Fence.wide, Fence.inRound] at h
  cases r with
  | ok x w =>
    cases x with
    | value v => exact h
    | skip => exact h
    | defer d => exact h
    | enter f args => exact ⟨hd, CallsIn.inRound l (callsIn_wide.2 h)⟩
    | row row args => exact ⟨hd, fun c cs _ => let ⟨v, w', r, s⟩ := h c cs; ⟨v, w', r, stepsIn_wide.2 s⟩⟩
    | _ => exact h.elim
  | halt x w =>
    cases x with
    | panic v => exact h
    | _ => exact h.elim
def noDef (o : Oper) : Bool := match o.op with | .defer _ => false | _ => true
theorem noDef_ne {o : Oper} (h : noDef o = true) : ∀ c, o.op ≠ .defer c := by
  intro c e
  unfold noDef at h
  rw [e] at h
  cases h
theorem wpOp_round {P : Program} {ops : Array Oper} {Q : Exit → Act → World → Prop} {l n i : Nat} {K : Act → World → Prop} {a : Act} {w : World} (hd : ∀ (j : Nat) (o : Oper), ops[j]? = some o → noDef o = true) (hq : ¬ LetsOut Q) (h : wpOp P ops Q i K a w) : wpOpIn (Fence.wide.inRound l) n P ops Q i K a w := by
  unfold wpOp at h
  unfold wpOpIn
  cases ho : ops[i]? with
  | none => simpa [ho] using h
  | some o =>
    simp only [ho] at h ⊢
    split
    · rename_i hw
      simp only [hw, if_true] at h
      rcases h with h | h
      · refine ⟨fun f _ => trivial, ?_⟩
        show o.uponIn _ _ _ _ _ _ ((o.semAt (some l) a.eval).run P w)
        rw [Oper.semAt_some l a.eval o (noDef_ne (hd i o ho))]
        exact upon_round _ h
      · exact absurd h.2 hq
    · rename_i hw
      simp only [hw] at h
      exact ⟨fun f _ => trivial, by simpa using h⟩
theorem wpAnyIn_round {P : Program} {md : Region.Mode} {ops : Array Oper} {Q : Exit → Act → World → Prop} {l n : Nat} (hd : ∀ (j : Nat) (o : Oper), ops[j]? = some o → noDef o = true) (hq : ¬ LetsOut Q) :
    ∀ (fuel : Nat) (listed : Array Bool) (a : Act) (w : World), wpAny P md ops Q fuel listed a w → wpAnyIn (Fence.wide.inRound l) n P md ops Q fuel listed a w
  | 0, _, _, _, h => h
  | fuel + 1, _, _, _, h => ⟨h.1, fun i hi => wpOp_round hd hq (wpOp_mono (fun a' w' h' => wpAnyIn_round hd hq fuel _ a' w' h') (h.2 i hi))⟩
/-- A region that draws its order, in a round: as elsewhere. -/
theorem region_round {P : Program} {ops : Array Oper} {Q : Exit → Act → World → Prop} {l n id : Nat} {S : World → Prop} {a : Act} {w : World} (hm : P.follows .mixedOrders = true) (hd : ops.all noDef = true) (hq : ¬ LetsOut Q) (hS : S w.drew)
    (h : S w.drew → wpAnyH P .any ops Q S ops.size (Array.replicate ops.size false) a w.drew) : (Go.Code.region id ops true).wpIn (Fence.wide.inRound l) n P Q a w :=
  wpIn_region_any hm (wpAnyIn_round (fun j o ho => by
    obtain ⟨hj, e⟩ := Array.getElem?_eq_some_iff.1 ho
    rw [← e]
    exact Array.all_eq_true.1 hd j hj) hq _ _ _ _ (wpAny_of_held _ _ _ _ (h hS)))
/-- An operation is taken first. -/
theorem takeAt {P : Program} {md : Region.Mode} {ops : Array Oper} {Q : Exit → Act → World → Prop} {S : World → Prop} (i : Nat) (d : Tmp) (v : Value) {oi : Oper} {fuel : Nat} {listed : Array Bool} {a : Act} {w : World} (hi : ops[i]? = some oi) (hd : oi.dst = some d)
    (hs : Region.noSelect ops = true) (hf : Region.free md ops listed i = true) (hr : (Region.ready md ops listed).contains i = true)
    (hQ : ∀ c a w, Q (.panic c) (a.put (some d) v) w → Q (.panic c) a w) (hw : Region.wanted oi (yielded ops a.tmps) = true) (hS : S w) (hy : ∀ w, S w → (execOp a.eval oi).run P w = .ok (.value v) w)
    (h : wpAnyH P md ops Q S fuel (listed.setIfInBounds i true) (a.put (some d) v) w) : wpAnyH P md ops Q S (fuel + 1) listed a w :=
  wpAnyH_take hi hs hf hr (by rw [hd]; exact hQ) (Or.inl ⟨hw, hy⟩) hS (by rw [hd]; exact h)
end Go.Proofs.YtdlhfiheingibaaGreatDoor

namespace Go.Proofs.YtdlhfiheingibaaGreatDoor
open Go.RowKit
set_option linter.unusedVariables false

def markOf (b : Nat) : Deferred := { target := .collected b, args := #[] }
/-- The blocks of the marks that a frame has gathered. -/
structure Marks (B : Nat) (c : List Nat) (W : World) : Prop where
  nd : c.Nodup
  lo : ∀ b ∈ c, B ≤ b
  at_ : ∀ b ∈ c, W.heap[b]? = some (.deferred (some []))
/-- The blocks of the marks have been shut, and nothing else. -/
structure ShutAll (c : List Nat) (W W' : World) : Prop where
  os : W'.os = W.os
  tape : W'.tape = W.tape
  output : W'.output = W.output
  size : W'.heap.size = W.heap.size
  same : ∀ k, k ∉ c → W'.heap[k]? = W.heap[k]?
theorem leaves_marks {F : Fence} {n : Nat} {P : Program} {fn : Func} {tmps : Array Value} {R : Ending → World → Prop} (B : Nat) : ∀ (c : List Nat) (W : World), Marks B c W → (∀ W', ShutAll c W W' → LeavesInM F n P fn tmps R [] .returning W') → LeavesInM F n P fn tmps R (c.map markOf) .returning W
  | [], W, _, h => h W ⟨rfl, rfl, rfl, rfl, fun _ _ => rfl⟩
  | b :: c, W, hm, h => by
    have hb := hm.at_ b (by simp)
    have hnd := List.nodup_cons.1 hm.nd
    have hlt : b < W.heap.size := (Array.getElem?_eq_some_iff.1 hb).1
    refine ⟨by simp, .inl ⟨b, _, rfl, run_takeDeferred hb, ?_⟩⟩
    refine leaves_marks B c _ ⟨hnd.2, fun k hk => hm.lo k (by simp [hk]), fun k hk => ?_⟩ (fun W' hw => ?_)
    · exact (World.putObj_heap_other (by rintro rfl; exact hnd.1 hk)).trans (hm.at_ k (by simp [hk]))
    · refine h W' ⟨hw.os, hw.tape, hw.output, hw.size.trans (by simp), fun k hk => ?_⟩
      simp at hk
      exact (hw.same k hk.2).trans (World.putObj_heap_other hk.1)
theorem ShutAll.below {c : List Nat} {w W W' : World} {B : Nat} (h : ShutAll c W W') (hb : Below B w W) (hc : ∀ b ∈ c, B ≤ b) (hB : B ≤ w.heap.size) : Below B w W' :=
  ⟨h.os.trans hb.os, h.tape.trans hb.tape, h.output.trans hb.output, by rw [h.size]; exact hb.size, fun k hk => (h.same k (fun hm => by have := hc k hm; omega)).trans (hb.block k hk)⟩
theorem Marks.below {B : Nat} {c : List Nat} {W W' : World} (h : Marks B c W) (hb : Below W.heap.size W W') : Marks B c W' :=
  ⟨h.nd, h.lo, fun b hm => (hb.block b (Array.getElem?_eq_some_iff.1 (h.at_ b hm)).1).trans (h.at_ b hm)⟩
theorem Marks.set {B : Nat} {c : List Nat} {W : World} (h : Marks B c W) (a : Addr) (v : Value) {cs : Array Value} {t : TypeId} {fr : Nat × Nat} (ha : W.heap[a.block]? = some (.cells cs t fr)) : Marks B c (W.setCell a v) :=
  ⟨h.nd, h.lo, fun b hm => (heap_setCell_other _ _ _ _ (fun e => by
    have := h.at_ b hm
    rw [e, ha] at this
    cases this)).trans (h.at_ b hm)⟩
theorem Marks.keeps {B : Nat} {c : List Nat} {W W' : World} (h : Marks B c W) (hb : KeepsOthers W W') : Marks B c W' :=
  ⟨h.nd, h.lo, fun b hm => hb.same b _ (h.at_ b hm) rfl⟩
end Go.Proofs.YtdlhfiheingibaaGreatDoor

namespace Go.Proofs.YtdlhfiheingibaaGreatDoor
open Go.RowKit
set_option linter.unusedVariables false

set_option maxRecDepth 100000 in
set_option maxHeartbeats 6400000 in
/-- slices.Backward's closure. -/
theorem back1S_in (n l Bs len cap : Nat) (a : Option Addr) (f : Nat → Value) (hlen : len ≤ 100000000) (hcap : len ≤ cap) (J : Nat → World → Prop) (Jx : World → Prop)
    (hbox : ∀ m W, J m W → W.cell? ⟨Bs, 0, none⟩ = some (.slice a len cap))
    (hcell : ∀ m W, J m W → ∀ j, j < len → ∃ a', a = some a' ∧ W.cell? (a'.add j) = some (f j))
    (hY : ∀ m W, m < len → J (m + 1) W → YieldAt Fence.wide (n - 1) Tryz.prog l #[.int .i64 (m : Int), f m] W fun e W' => (e = .returned (.bool true) ∧ J m W') ∨ (e = .returned (.bool false) ∧ Jx W'))
    (W : World) (h0 : J len W) :
    CallsIn Fence.wide n Tryz.prog 67 #[.func (.yield l) #[] #[], .pointer (some ⟨Bs, 0, none⟩)] W fun e W' => (∃ v, e = .returned v) ∧ (J 0 W' ∨ Jx W') := by
  have hb0 := hbox _ _ h0
  refine callsIn_of_wp Tryz.func67 rfl trivial ?_ rfl
  simp only [Tryz.ntmps67, List.size_toArray, List.length_cons, List.length_nil, Nat.reduceAdd, Nat.reduceSub, Array.replicate_succ, Array.replicate_zero, List.push_toArray, List.append_toArray, List.nil_append, List.cons_append]
  gi_wp2
  gi_loopw [3] (fun i wr => ∃ k : Nat, k ≤ len ∧ i = .int .i64 ((k : Int) - 1) ∧ J k wr) (fun i _ => (intOf i + 1).toNat)
  case atStart => exact ⟨len, Nat.le_refl _, rfl, h0⟩
  case round =>
    obtain ⟨k, hk, rfl, hJ⟩ := hrel
    have hb := hbox _ _ hJ
    rcases Nat.eq_zero_or_pos k with rfl | hp
    · gi_wp2
      go_end0
      exact ⟨⟨_, rfl⟩, .inl hJ⟩
    · obtain ⟨m, rfl⟩ : ∃ m, k = m + 1 := ⟨k - 1, by omega⟩
      obtain ⟨a', rfl, hc⟩ := hcell _ _ hJ m (by omega)
      obtain ⟨fn, tmps, assign, body, hy, hR⟩ := hY m wr (by omega) hJ
      have e1 : ((m + 1 : Nat) : Int) - 1 = (m : Int) := by omega
      rw [e1]
      have i1 : (m : Int) < (len : Int) := by omega
      have i2 : (0 : Int) ≤ (m : Int) := by omega
      gi_wp2
      refine ⟨fun h => by simp [Fence.wide] at h, hR.mono ?_⟩
      rintro e W3 (⟨rfl, hJ3⟩ | ⟨rfl, hJx3⟩)
      · gi_wp2
        go_roundw
        case rel => exact ⟨m, by omega, by simp, hJ3⟩
        case measure => simp [intOf]
      · gi_wp2
        refine bodyPost_ret (results_none rfl _ _ _) rfl ?_
        exact ⟨⟨_, rfl⟩, .inr hJx3⟩

set_option maxHeartbeats 1000000 in
/-- slices.Backward. -/
theorem backwardS_any (a : Option Addr) (len cap : Nat) (w : World) :
    Calls Tryz.prog 44 #[.slice a len cap] w fun e w' => e = .returned (.func (.func 67) #[] #[.pointer (some ⟨w.heap.size, 0, none⟩)]) ∧ w' = w.alloc (.cells #[.slice a len cap] 53) := by
  refine calls_of_wp Tryz.func44 rfl ?_
  simp only [Tryz.ntmps44, List.size_toArray, List.length_cons, List.length_nil, Nat.reduceAdd, Nat.reduceSub, Array.replicate_succ, Array.replicate_zero, List.push_toArray, List.append_toArray, List.nil_append, List.cons_append]
  go_wp2
  go_ret
  exact ⟨rfl, rfl⟩
end Go.Proofs.YtdlhfiheingibaaGreatDoor

namespace Go.Proofs.YtdlhfiheingibaaGreatDoor
open Go.RowKit Go.Maps Go.WideMaps
set_option linter.unusedVariables false
set_option linter.unusedSimpArgs false
attribute [local go_sem] Oper.semAt_some

theorem one_cellG {b : Nat} {W : World} {v : Value} {t : TypeId} (h : W.heap[b]? = some (.cells #[v] t (0, 0))) : W.cell? ⟨b, 0, none⟩ = some v := by
  rw [cell_of_row _ _ _ _ _ _ h]; rfl
theorem kf_below {B : Nat} {W W' : World} (h : Below W.heap.size W W') : KeepsFrom B W W' := ⟨h.size, fun k o _ hk _ => (h.block k (Array.getElem?_eq_some_iff.1 hk).1).trans hk⟩
/-- The boxes of 'may'. -/
structure MaSt (w : World) (gb : Nat) (t : Int) (vs : Value) (r : Bool) (W : World) : Prop where
  bl : Below w.heap.size w W
  b0 : W.heap[w.heap.size]? = some (.cells #[.pointer (some ⟨gb, 0, none⟩)] 38 (0, 0))
  b1 : W.heap[w.heap.size + 1]? = some (.cells #[.int .i64 t] 3 (0, 0))
  b2 : W.heap[w.heap.size + 2]? = some (.cells #[.bool r] 4 (0, 0))
  b3 : W.heap[w.heap.size + 3]? = some (.cells #[vs] 53 (0, 0))
theorem MaSt.below {w W W' : World} {gb : Nat} {t : Int} {vs : Value} {r : Bool} (h : MaSt w gb t vs r W) (hb : Below W.heap.size W W') : MaSt w gb t vs r W' :=
  ⟨h.bl.trans (hb.mono h.bl.size), (hb.block _ (lt_of_mapblock h.b0)).trans h.b0, (hb.block _ (lt_of_mapblock h.b1)).trans h.b1, (hb.block _ (lt_of_mapblock h.b2)).trans h.b2, (hb.block _ (lt_of_mapblock h.b3)).trans h.b3⟩
theorem MaSt.put {w W : World} {gb : Nat} {t : Int} {vs : Value} {r : Bool} (h : MaSt w gb t vs r W) {k : Nat} (hk : w.heap.size + 3 < k) (o : Obj) : MaSt w gb t vs r (W.putObj k o) :=
  ⟨h.bl.grown (grownBy_putObj' W k o) h.bl.size (fun j e => by cases e; omega), (World.putObj_heap_other (by omega)).trans h.b0, (World.putObj_heap_other (by omega)).trans h.b1, (World.putObj_heap_other (by omega)).trans h.b2, (World.putObj_heap_other (by omega)).trans h.b3⟩
theorem MaSt.set {w W : World} {gb : Nat} {t : Int} {vs : Value} {r : Bool} (h : MaSt w gb t vs r W) (r' : Bool) : MaSt w gb t vs r' (W.setCell ⟨w.heap.size + 2, 0, none⟩ (.bool r')) :=
  ⟨h.bl.setCell (by show w.heap.size ≤ w.heap.size + 2; omega) _, (heap_setCell_other _ _ _ _ (by simp)).trans h.b0, (heap_setCell_other _ _ _ _ (by simp)).trans h.b1, heap_setCell_same _ _ 0 _ _ _ h.b2, (heap_setCell_other _ _ _ _ (by simp)).trans h.b3⟩
theorem res_bool {fn : Func} {p : Tmp} (h : fn.results = #[.cell p 4]) (tmps : Array Value) (w : World) (g : Nat) (b : Bool) (hp : tmps.getD p undef = .pointer (some ⟨g, 0, none⟩)) (hg : w.heap[g]? = some (.cells #[.bool b] 4 (0, 0))) : (results fn tmps).run Tryz.prog w = .ok (.bool b) w := by
  have hp' : tmps[p]?.getD undef = .pointer (some ⟨g, 0, none⟩) := by simpa using hp
  have hc : w.cell? ⟨g, 0, none⟩ = some (.bool b) := by rw [cell_of_row _ _ _ _ _ _ hg]; rfl
  simp [results, h, hp', asAddr]
  go_simp
/-- What is left of the stack when m symbols are left. -/
structure MaLeft (st : List Int) (m : Nat) (t : Int) (R : Bool) : Prop where
  out : mayI (st.drop (st.length - m)) t = R

theorem dp_le (a : Int) : dp a ≤ 8 := by
  unfold dp
  repeat (first | omega | (split; · omega))
theorem add_zero_at' (g j : Nat) : (⟨g, 0, none⟩ : Addr).add j = ⟨g, j, none⟩ := by unfold Addr.add; split <;> simp_all
def syAt (st : List Int) (m : Nat) : Int := st.reverse.getD m 0
theorem sy_drop {st : List Int} {n m : Nat} (hn : st.length = n) (hm : m < n) : st.drop (n - (m + 1)) = syAt st m :: st.drop (n - m) := by
  have h1 : n - (m + 1) < st.length := by omega
  rw [List.drop_eq_getElem_cons h1, show n - (m + 1) + 1 = n - m by omega]
  congr 1
  unfold syAt
  rw [List.getD_eq_getElem?_getD, List.getElem?_reverse (by omega), List.getElem?_eq_getElem (by omega), Option.getD_some]
  congr 1
  omega
theorem sy_mem {st : List Int} {n m : Nat} (hn : st.length = n) (hm : m < n) : syAt st m ∈ st := by
  have h : syAt st m ∈ st.drop (n - (m + 1)) := by rw [sy_drop hn hm]; simp
  exact List.mem_of_mem_drop h
theorem sy_cell {W : World} {base n c : Nat} {av : Option Addr} {st : List Int} (h : W.ownsRow base 59 1 (.slice av n c) n (cSy st)) (hn : st.length = n) {m : Nat} (hm : m < n) : ∃ a', av = some a' ∧ W.cell? (a'.add m) = some (.int .u8 (syAt st m)) := by
  rcases own_zero_or h with ⟨h0, _⟩ | ⟨g, cap, e⟩
  · omega
  · cases e
    refine ⟨_, rfl, ?_⟩
    rw [add_zero_at', h.cellAt m (by omega)]
    unfold cSy syAt
    rw [List.getElem?_map, List.getElem?_eq_getElem (by simp; omega), List.getD_eq_getElem?_getD, List.getElem?_eq_getElem (by simp; omega)]
    rfl
set_option maxRecDepth 100000 in
set_option maxHeartbeats 800000 in
theorem may_any' (w : World) (base gb mb : Nat) (st : List Int) (t : Int) (R : Bool) (hG : GAt w base gb (.map (some mb)) st) (hI : RI w base mb) (hok : ∀ a ∈ st, 0 ≤ a ∧ a ≤ 133) (hl : st.length ≤ 100000000) (t0 : 1 ≤ t) (t1 : t ≤ 78) (hR : mayI st t = R) :
    Calls Tryz.prog 24 #[.pointer (some ⟨gb, 0, none⟩), .int .i64 t] w fun e w' => e = .returned (.bool R) ∧ Below w.heap.size w w' := by
  obtain ⟨v, hgb, hown⟩ := hG.ex
  have hGB : GB w base gb mb := ⟨by rw [cell_of_row _ _ _ _ _ _ hgb]; rfl, hI⟩
  obtain ⟨n, hn⟩ : ∃ n, st.length = n := ⟨_, rfl⟩
  rw [hn] at hown hl
  obtain ⟨av, cv, rfl⟩ := own_form hown
  have c1 : w.cell? ⟨gb, 1, none⟩ = some (.slice av n cv) := by rw [cell_of_row _ _ _ _ _ _ hgb]; rfl
  have hcap : n ≤ cv := by
    rcases hown.2 with ⟨h1, h2⟩ | ⟨g2, cap2, cur, h1, _, _, h4, _⟩
    · rw [h2]; exact Nat.zero_le _
    · cases h1; exact h4
  have HN : Hid (GB w base gb mb ∧ w.ownsRow base 59 1 (.slice av n cv) n (cSy st) ∧ st.length = n ∧ mayI st t = R ∧ (∀ a ∈ st, 0 ≤ a ∧ a ≤ 133)) := ⟨hGB, hown, hn, hR, hok⟩
  have hglt := lt_of_mapblock hgb
  clear hG hI hok hown hn hR hGB
  refine callsIn_wide (n := 5).1 ?_
  refine callsIn_of_wp_marks Tryz.func24 rfl trivial ?_ rfl
  simp only [Tryz.ntmps24, List.size_toArray, List.length_cons, List.length_nil, Nat.reduceAdd, Nat.reduceSub, Array.replicate_succ, Array.replicate_zero, List.push_toArray, List.append_toArray, List.nil_append, List.cons_append]
  refine wpIn_wide.2 ?_
  have cB := fun (o1 o2 o3 : Obj) => cell_kept (((((Below.refl w.heap.size w).alloc (Nat.le_refl _) o1).alloc (by simp) o2)).alloc (by simp; omega) o3) c1
  go_wp2_with (go_at_call 44; refine (backwardS_any av n cv _).mono ?_; rintro e w2 ⟨rfl, rfl⟩)
  rename_i K hK
  have hst0 : MaSt w gb t (.slice av n cv) false ((((w.alloc (.cells #[.pointer (some ⟨gb, 0, none⟩)] 38)).alloc (.cells #[.int .i64 t] 3)).alloc (.cells #[.bool false] 4)).alloc (.cells #[.slice av n cv] 53)) := by
    refine ⟨((((Below.refl w.heap.size w).alloc (Nat.le_refl _) _).alloc (by simp) _).alloc (by simp; omega) _).alloc (by simp; omega) _, ?_, ?_, ?_, ?_⟩
    · exact (Below.heap_alloc _ _ _ (by simp; omega)).trans ((Below.heap_alloc _ _ _ (by simp; omega)).trans ((Below.heap_alloc _ _ _ (by simp)).trans (heap_alloc_new w _)))
    · refine (Below.heap_alloc _ _ _ (by simp)).trans ((Below.heap_alloc _ _ _ (by simp)).trans ?_)
      have := heap_alloc_new (w.alloc (.cells #[.pointer (some ⟨gb, 0, none⟩)] 38)) (.cells #[.int .i64 t] 3)
      rwa [World.size_alloc] at this
    · refine (Below.heap_alloc _ _ _ (by simp)).trans ?_
      have := heap_alloc_new ((w.alloc (.cells #[.pointer (some ⟨gb, 0, none⟩)] 38)).alloc (.cells #[.int .i64 t] 3)) (.cells #[.bool false] 4)
      rwa [World.size_alloc, World.size_alloc] at this
    · have := heap_alloc_new (((w.alloc (.cells #[.pointer (some ⟨gb, 0, none⟩)] 38)).alloc (.cells #[.int .i64 t] 3)).alloc (.cells #[.bool false] 4)) (.cells #[.slice av n cv] 53)
      rwa [World.size_alloc, World.size_alloc, World.size_alloc] at this
  have hsz : ((((w.alloc (.cells #[.pointer (some ⟨gb, 0, none⟩)] 38)).alloc (.cells #[.int .i64 t] 3)).alloc (.cells #[.bool false] 4)).alloc (.cells #[.slice av n cv] 53)).heap.size = w.heap.size + 4 := by simp
  generalize (((w.alloc (.cells #[.pointer (some ⟨gb, 0, none⟩)] 38)).alloc (.cells #[.int .i64 t] 3)).alloc (.cells #[.bool false] 4)).alloc (.cells #[.slice av n cv] 53) = W0 at hst0 hsz ⊢
  clear cB c1 hgb
  refine (wpIn_wide (n := 5)).1 ?_
  refine rangeDown (P := Tryz.prog) (gf := 67) (lb := #[.pointer (some ⟨w.heap.size + 1 + 1 + 1, 0, none⟩)]) rfl (enters_of Tryz.func67 (by kernel_rfl) rfl)
    (fun m => #[.int .i64 (m : Int), .int .u8 (syAt st m)]) (fun _ => rfl) n
    (fun m W => MaSt w gb t (.slice av n cv) false W ∧ MaLeft st m t R)
    (fun m a' W => MaSt w gb t (.slice av n cv) false W ∧ MaLeft st (m + 1) t R ∧
      a' = { tmps := #[.pointer (some ⟨gb, 0, none⟩), .int .i64 t, .pointer (some ⟨w.heap.size, 0, none⟩), .pointer (some ⟨w.heap.size + 1, 0, none⟩), .pointer (some ⟨w.heap.size + 1 + 1, 0, none⟩), undef, .int .u8 (syAt st m),
        .pointer (some ⟨gb, 0, none⟩), .pointer (some ⟨gb, 0, none⟩), .pointer (some ⟨gb, 1, none⟩), .pointer (some ⟨gb, 1, none⟩), .slice av n cv, .func (.func 67) #[] #[.pointer (some ⟨w.heap.size + 1 + 1 + 1, 0, none⟩)], .int .i64 (m : Int), .int .u8 (syAt st m),
        undef, undef, undef, undef, undef, undef, undef, undef, undef], defers := [] })
    (fun W => MaSt w gb t (.slice av n cv) R W)
    ?pZ ?pAx ?pX ?h0 ?assign ?body ?seq ?done ?ret
  case pZ =>
    rintro m W r o ⟨h, hd⟩ hl
    rw [hsz] at hl ⊢
    exact ⟨h.put (by omega) o, hd⟩
  case pAx =>
    rintro m a' W r o ⟨h, hd, rfl⟩ hl
    rw [hsz] at hl ⊢
    exact ⟨h.put (by omega) o, hd, rfl⟩
  case pX =>
    intro W r o h hl
    rw [hsz] at hl ⊢
    exact h.put (by omega) o
  case h0 =>
    intro W1 hb hs
    exact ⟨hst0.below hb, ⟨by rw [HN.out.2.2.1, Nat.sub_self]; exact HN.out.2.2.2.1⟩⟩
  case assign =>
    rintro l m W K2 hm ⟨h, hd⟩ hK2
    have HD : Hid (MaSt w gb t (.slice av n cv) false W ∧ MaLeft st (m + 1) t R) := ⟨h, hd⟩
    clear h hd
    gi_wp2
    exact hK2 _ _ ⟨HD.out.1, HD.out.2, rfl⟩ (KeepsFrom.refl _ _)
  case body =>
    rintro l m a' W hm ⟨h, hd, rfl⟩
    rw [hsz]
    have hx := HN.out.2.2.2.2 _ (sy_mem HN.out.2.2.1 hm)
    have hleft := hd.out
    rw [HN.out.2.2.1, sy_drop HN.out.2.2.1 hm, mayI] at hleft
    have hleft2 : bgI 9 (syAt st m) t = false → mbnI (syAt st m) = true → MaLeft st m t R := fun e1 e2 => by
      rw [if_neg (by rw [e1]; simp), if_pos e2] at hleft
      exact ⟨by rw [HN.out.2.2.1]; exact hleft⟩
    generalize syAt st m = x at hx hleft hleft2 ⊢
    have kb := CallsIn.inRound l (callsIn_wide (n := 2).2 (begins_any 8 W base gb mb x t (HN.out.1.below h.bl) hx.1 hx.2 (dp_le x) t0 t1))
    have kn := fun (W3 : World) (h3 : Below w.heap.size w W3) => CallsIn.inRound l (callsIn_wide (n := 2).2 (mbn_any W3 base gb mb x (HN.out.1.below h3) hx.1 hx.2))
    have c0 := one_cellG h.b0
    have c1 := one_cellG h.b1
    have cw : IntKind.u8.wrap t = t := by rw [IntKind.wrap_u8]; omega
    have HD : Hid (MaSt w gb t (.slice av n cv) false W) := h
    clear h hd
    gi_wp2_with (refine ⟨trivial, ?_⟩; gi_at_call 45; fail)
    refine ⟨trivial, kb.mono ?_⟩
    rintro e w3 ⟨rfl, hB3⟩
    have h3 := HD.out.below hB3
    have k3 : KeepsFrom (w.heap.size + 4) W w3 := kf_below hB3
    have c2 := one_cellG h3.b2
    have f2 : w3.frozen? ⟨w.heap.size + 2, 0, none⟩ = false := frozen_of_row _ _ _ _ _ h3.b2
    have c3 := one_cellG h3.b0
    have e2 : w.heap.size + 1 + 1 = w.heap.size + 2 := rfl
    rw [← e2] at c2 f2
    clear kb c0 c1 hB3 e2
    cases hbv : bgI 9 x t with
    | true =>
      rw [hbv, if_pos rfl] at hleft
      have HF : Hid (MaSt w gb t (.slice av n cv) R (w3.setCell ⟨w.heap.size + 1 + 1, 0, none⟩ (.bool true)) ∧ KeepsFrom (w.heap.size + 4) W (w3.setCell ⟨w.heap.size + 1 + 1, 0, none⟩ (.bool true))) := ⟨by rw [← hleft]; exact h3.set true, k3.trans ((KeepsOthers.setCell _ _ _).from _)⟩
      have hbv' : bgI (8 + 1) x t = true := hbv
      try rw [hbv']
      clear hleft hleft2 hbv hbv' kn h3 k3 HD
      gi_wp2
      exact ⟨HF.out.2, HF.out.1⟩
    | false =>
      have hbv' : bgI (8 + 1) x t = false := hbv
      rw [hbv, if_neg (by simp)] at hleft
      try rw [hbv']
      have kn3 := kn w3 h3.bl
      have HH3 : Hid (MaSt w gb t (.slice av n cv) false w3 ∧ KeepsFrom (w.heap.size + 4) W w3) := ⟨h3, k3⟩
      clear hbv' kn h3 k3 HD c2 f2
      gi_wp2_with (refine ⟨trivial, ?_⟩; gi_at_call 46; fail)
      refine ⟨trivial, kn3.mono ?_⟩
      rintro e w4 ⟨rfl, hB4⟩
      have h4 := HH3.out.1.below hB4
      have k4 : KeepsFrom (w.heap.size + 4) W w4 := HH3.out.2.trans (kf_below hB4)
      have c2 := one_cellG h4.b2
      have f2 : w4.frozen? ⟨w.heap.size + 2, 0, none⟩ = false := frozen_of_row _ _ _ _ _ h4.b2
      have e2 : w.heap.size + 1 + 1 = w.heap.size + 2 := rfl
      rw [← e2] at c2 f2
      clear kn3 c3 hB4 e2
      cases hnv : mbnI x with
      | true =>
        have HF : Hid (MaSt w gb t (.slice av n cv) false w4 ∧ MaLeft st m t R ∧ KeepsFrom (w.heap.size + 4) W w4) := ⟨h4, hleft2 hbv hnv, k4⟩
        clear hleft hleft2 hbv h4 k4 HH3 hnv
        gi_wp2
        exact ⟨HF.out.2.2, HF.out.1, HF.out.2.1⟩
      | false =>
        rw [hnv, if_neg (by simp)] at hleft
        have HF : Hid (MaSt w gb t (.slice av n cv) R (w4.setCell ⟨w.heap.size + 1 + 1, 0, none⟩ (.bool false)) ∧ KeepsFrom (w.heap.size + 4) W (w4.setCell ⟨w.heap.size + 1 + 1, 0, none⟩ (.bool false))) := ⟨by rw [← hleft]; exact h4.set false, k4.trans ((KeepsOthers.setCell _ _ _).from _)⟩
        clear hleft hleft2 hbv h4 k4 HH3 hnv
        gi_wp2
        exact ⟨HF.out.2, HF.out.1⟩
  case seq =>
    intro l J Jx hJ hY W hW
    refine back1S_in 4 l (w.heap.size + 1 + 1 + 1) n cv av _ hl hcap J Jx (fun m W h => ?_) (fun m W h j hj => ?_) hY W hW
    · exact one_cellG (hJ m W h).1.b3
    · obtain ⟨a', e1, e2⟩ := sy_cell HN.out.2.1 HN.out.2.2.1 hj
      exact ⟨a', e1, cell_kept (hJ m W h).1.bl e2⟩
  case ret =>
    intro W h hD
    rw [hsz] at hD ⊢
    refine ⟨by simp, .inl ⟨_, _, rfl, run_takeDeferred hD, ?_⟩⟩
    have h2 := h.put (k := w.heap.size + 4) (by omega) (.deferred none)
    refine ⟨_, res_bool rfl _ _ (w.heap.size + 1 + 1) R rfl h2.b2, rfl, h2.bl⟩
  case done =>
    rintro W ⟨h, hd⟩ hD
    rw [hsz] at hD ⊢
    have hR : R = false := by
      have := hd.out
      rw [Nat.sub_zero, List.drop_length] at this
      exact this.symm
    refine hK _ _ ?_
    have c2 := one_cellG h.b2
    have f2 : W.frozen? ⟨w.heap.size + 2, 0, none⟩ = false := frozen_of_row _ _ _ _ _ h.b2
    have e2 : w.heap.size + 1 + 1 = w.heap.size + 2 := rfl
    rw [← e2] at c2 f2
    have HD : Hid (MaSt w gb t (.slice av n cv) R (W.setCell ⟨w.heap.size + 1 + 1, 0, none⟩ (.bool false)) ∧ (W.setCell ⟨w.heap.size + 1 + 1, 0, none⟩ (.bool false)).heap[w.heap.size + 4]? = some (.deferred (some []))) := ⟨by rw [hR]; exact h.set false, (heap_setCell_other _ _ _ _ (by simp)).trans hD⟩
    clear h hd hD hR hK e2
    go_wp2_with fail
    refine ⟨by simp, .inl ⟨_, _, rfl, run_takeDeferred HD.out.2, ?_⟩⟩
    have h2 := HD.out.1.put (k := w.heap.size + 4) (by omega) (.deferred none)
    refine ⟨_, res_bool rfl _ _ (w.heap.size + 1 + 1) R rfl h2.b2, rfl, h2.bl⟩
end Go.Proofs.YtdlhfiheingibaaGreatDoor

namespace Go.Proofs.YtdlhfiheingibaaGreatDoor
set_option linter.unusedVariables false

/-- A token is passed, and no stack on the way is longer than M. -/
def passOk (M : Nat) : Nat → List Int → Int → List Int → Prop
  | 0, _, _, _ => False
  | _ + 1, [], _, _ => False
  | f + 1, a :: r, t, o => (a = t ∧ o = r ∧ r.length ≤ M) ∨ (a ≠ t ∧ (rwI a t ++ r).length ≤ M ∧ passOk M f (rwI a t ++ r) t o)
theorem rw_len {a t : Int} (a0 : 0 ≤ a) (a1 : a ≤ 133) : (rwI a t).length ≤ 6 ∧ ∀ z ∈ rwI a t, 1 ≤ z ∧ z ≤ 133 := by
  have hok := rows_ok a0 (show a ≤ 255 by omega)
  unfold rowOkI at hok
  rw [Bool.and_eq_true, List.all_eq_true] at hok
  unfold rwI
  cases hf : List.find? (hdI t) (rowsI a) with
  | none => exact ⟨Nat.zero_le _, fun z hz => by simp at hz⟩
  | some r =>
    have hmem : r ∈ rowsI a := List.mem_of_find?_eq_some hf
    have := hok.2 r hmem
    simp only [Bool.and_eq_true, List.all_eq_true] at this
    exact ⟨of_decide_eq_true this.1.1, fun z hz => of_decide_eq_true (this.1.2 z hz)⟩
theorem rw_same {a t : Int} (t0 : 1 ≤ t) : rwN 8 (rowsI a) t = rwI a t := by
  unfold rwN rwI
  congr 2
  funext r
  rw [hd_eq t0 7 r]
  cases r <;> rfl
theorem passOk_of : ∀ {f M : Nat} {st o : List Int} {t : Int}, passI f st t = some o → (∀ z ∈ st, 0 ≤ z ∧ z ≤ 133) → st.length + 5 * f ≤ M → passOk M f st t o
  | 0, _, _, _, _, h, _, _ => by simp [passI] at h
  | f + 1, _, [], _, _, h, _, _ => by simp [passI] at h
  | f + 1, M, a :: r, o, t, h, ho, hM => by
    rw [passI] at h
    unfold passOk
    simp only [List.length_cons] at hM
    by_cases e : a = t
    · rw [if_pos e] at h
      exact .inl ⟨e, (Option.some.inj h).symm, by omega⟩
    · rw [if_neg e] at h
      obtain ⟨ha0, ha1⟩ := ho a (by simp)
      obtain ⟨hl, hz⟩ := rw_len (t := t) ha0 ha1
      refine .inr ⟨e, by rw [List.length_append]; omega, passOk_of h (fun z hz' => ?_) (by rw [List.length_append]; omega)⟩
      rcases List.mem_append.1 hz' with hz' | hz'
      · have := hz z hz'; omega
      · exact ho z (by simp [hz'])
theorem passOk_more : ∀ {f g M : Nat} {st o : List Int} {t : Int}, passOk M f st t o → f ≤ g → passOk M g st t o
  | 0, _, _, _, _, _, h, _ => h.elim
  | f + 1, 0, _, _, _, _, _, hg => by omega
  | f + 1, g + 1, _, [], _, _, h, _ => h.elim
  | f + 1, g + 1, M, a :: r, o, t, h, hg => by
    unfold passOk at h ⊢
    rcases h with h | ⟨h1, h2, h3⟩
    · exact .inl h
    · exact .inr ⟨h1, h2, passOk_more h3 (by omega)⟩
theorem passOk_wide : ∀ {f M M' : Nat} {st o : List Int} {t : Int}, passOk M f st t o → M ≤ M' → passOk M' f st t o
  | 0, _, _, _, _, _, h, _ => h.elim
  | f + 1, _, _, [], _, _, h, _ => h.elim
  | f + 1, M, M', a :: r, o, t, h, hg => by
    unfold passOk at h ⊢
    rcases h with ⟨h1, h2, h3⟩ | ⟨h1, h2, h3⟩
    · exact .inl ⟨h1, h2, by omega⟩
    · exact .inr ⟨h1, by omega, passOk_wide h3 hg⟩
/-- A token that may stand is passed. -/
theorem may_pass : ∀ {st : List Int} {t : Int}, OkI st → 1 ≤ t → t ≤ 78 → mayI st t = true → ∃ o, passOk (st.length + 45) (st.length + 9) st t o
  | [], t, ho, _, _, h => by simp [mayI] at h
  | a :: r, t, ho, t0, t1, h => by
    have ha := ho a (List.mem_cons_self ..)
    have hr : OkI r := fun x hx => ho x (List.mem_cons_of_mem _ hx)
    have hrg : ∀ z ∈ a :: r, 0 ≤ z ∧ z ≤ 133 := fun z hz => by have := of_decide_eq_true (ho z hz); omega
    have hc := chkI_at ha t0 t1
    rw [mayI] at h
    unfold chkI at hc
    by_cases hb : bgI 9 a t = true
    · rw [if_pos hb] at hc
      split at hc
      · rename_i lo lo' m e1 e2
        have e3 := passI_app (c := r) e1
        rw [List.singleton_append] at e3
        exact ⟨_, passOk_more (passOk_of e3 hrg (by simp)) (by simp)⟩
      · cases hc
    · rw [if_neg hb] at hc h
      by_cases hm : mbnI a = true
      · rw [if_pos hm] at hc h
        rw [Bool.and_eq_true] at hc
        obtain ⟨o, ih⟩ := may_pass hr t0 t1 h
        have hat : ¬ a = t := fun e => by
          subst e
          have hb2 := of_decide_eq_true ha
          have : bgI 9 a a = true := by rw [bgI, if_pos (by omega)]; exact decide_eq_true rfl
          exact hb this
        have hrw : rwI a t = [] := by simpa using hc.1
        refine ⟨o, ?_⟩
        rw [show (a :: r).length + 9 = (r.length + 9) + 1 from Nat.add_right_comm r.length 1 9]
        unfold passOk
        refine .inr ⟨hat, by rw [hrw, List.nil_append]; simp; omega, ?_⟩
        rw [hrw, List.nil_append]
        exact passOk_wide ih (by simp)
      · rw [if_neg hm] at h; cases h
theorem passOk_pass : ∀ {f M : Nat} {st o : List Int} {t : Int}, passOk M f st t o → passI f st t = some o
  | 0, _, _, _, _, h => h.elim
  | f + 1, _, [], _, _, h => h.elim
  | f + 1, M, a :: r, o, t, h => by
    unfold passOk at h
    rw [passI]
    rcases h with ⟨h1, h2, h3⟩ | ⟨h1, h2, h3⟩
    · rw [if_pos h1, h2]
    · rw [if_neg h1]; exact passOk_pass h3
theorem passOk_len : ∀ {f M : Nat} {st o : List Int} {t : Int}, passOk M f st t o → o.length ≤ M
  | 0, _, _, _, _, h => h.elim
  | f + 1, _, [], _, _, h => h.elim
  | f + 1, M, a :: r, o, t, h => by
    unfold passOk at h
    rcases h with ⟨h1, h2, h3⟩ | ⟨h1, h2, h3⟩
    · rw [h2]; exact h3
    · exact passOk_len h3
/-- Behind a token that may stand: the stack, its length, its likeness. -/
theorem Sim.passOk {st stk : List Int} (h : Sim st stk) {t : Int} (t0 : 1 ≤ t) (t1 : t ≤ 78) (hm : mayI st t = true) : ∃ o, passOk (st.length + 45) (st.length + 9) st t o ∧ Sim o (feedL stk t).1 := by
  obtain ⟨o, ho⟩ := may_pass h.o1 t0 t1 hm
  obtain ⟨st', p1, p2⟩ := h.pass t0 t1 hm
  have := passOk_pass ho
  rw [p1] at this
  obtain rfl := Option.some.inj this
  exact ⟨_, ho, p2⟩
end Go.Proofs.YtdlhfiheingibaaGreatDoor
