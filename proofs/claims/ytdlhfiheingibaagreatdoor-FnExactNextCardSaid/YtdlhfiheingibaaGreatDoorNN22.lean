import Derived.Test.YtdlhfiheingibaaGreatDoorNN16
import Derived.Test.YtdlhfiheingibaaGreatDoorProg
namespace Go.Proofs.YtdlhfiheingibaaGreatDoor
open Go.RowKit

/-! A range over a function whose rounds may panic. The frame is of one function that is there: a panic in a round goes through that frame. -/
/-- As 'wpIn' over the wide fence, for frames of one function. -/
def wpV (f0 : FuncId) (P : Program) (c : Code) (Q : Exit → Act → World → Prop) (a : Act) (w : World) : Prop :=
  ∀ (b : Frame) (k : List Item) (cs : List Frame), b.roundOf = none → b.fn = f0 →
    ∃ e a' w', Q e a' w' ∧ ArrivesIn (Machine.fenced P Fence.wide) P (lone (b.atR a (.code c :: k)) cs w) b k cs e a' w'
theorem wpV_of_wp {f0 : FuncId} {P : Program} {c : Code} {Q : Exit → Act → World → Prop} {a : Act} {w : World} (h : c.wp P Q a w) : wpV f0 P c Q a w :=
  fun b k cs hro _ => (wpIn_wide (n := 0)).2 h b k cs hro trivial (room_wide _)
theorem fw (P : Program) (m : Machine) : m.fenced P Fence.wide := fenced_wide P m
theorem wpV_seq {f0 : FuncId} {P : Program} {x y : Code} {Q : Exit → Act → World → Prop} {a : Act} {w : World} (h : wpV f0 P x (Exit.then (wpV f0 P y Q) Q) a w) : wpV f0 P (Code.seq x y) Q a w := by
  intro b k cs hro hb
  have h0 := fw P (lone (b.atR a (.code (.seq x y) :: k)) cs w)
  obtain ⟨e, a₁, w₁, hq, harr⟩ := h b (.code y :: k) cs hro hb
  cases e with
  | normal =>
    obtain ⟨e₂, a₂, w₂, hq₂, harr₂⟩ := hq b k cs hro hb
    exact ⟨e₂, a₂, w₂, hq₂, .of_steps (.head h0 stepR_seq harr) harr₂⟩
  | exit id => exact ⟨_, a₁, w₁, hq, .of_steps (.one h0 stepR_seq) (.pass (x := .code y) rfl (fun _ _ => .inl (by simp)) harr)⟩
  | goto l => exact ⟨_, a₁, w₁, hq, .of_steps (.one h0 stepR_seq) (.pass (x := .code y) rfl (fun _ _ => .inl (by simp)) harr)⟩
  | ret => exact ⟨_, a₁, w₁, hq, .of_steps (.one h0 stepR_seq) (.pass (x := .code y) rfl (fun _ _ => .inl (by simp)) harr)⟩
  | panic ch => exact ⟨_, a₁, w₁, hq, .of_steps (.one h0 stepR_seq) (.pass (x := .code y) rfl (fun _ _ => .inl (by simp)) harr)⟩
  | outgrown => exact ⟨_, a₁, w₁, hq, .of_steps (.one h0 stepR_seq) (.pass (x := .code y) rfl (fun _ _ => .inl (by simp)) harr)⟩
theorem wpV_seq_k {f0 : FuncId} {P : Program} {x y : Code} {Q : Exit → Act → World → Prop} {a : Act} {w : World} (h : ∀ K : Act → World → Prop, (∀ a w, wpV f0 P y Q a w → K a w) → wpV f0 P x (Exit.then K Q) a w) : wpV f0 P (Code.seq x y) Q a w := wpV_seq (h _ fun _ _ h => h)
/-- The ways that a block is left here. -/
theorem wpV_block {f0 : FuncId} {P : Program} {id : Nat} {c : Code} {Q : Exit → Act → World → Prop} {a : Act} {w : World} (hn : ∀ e a w, Q e a w → (e = .normal ∨ ∃ ch, e = .panic ch)) (h : wpV f0 P c Q a w) : wpV f0 P (Code.block id c) Q a w := by
  intro b k cs hro hb
  have h0 := fw P (lone (b.atR a (.code (.block id c) :: k)) cs w)
  obtain ⟨e, a₁, w₁, hq, harr⟩ := h b (.inBlock id :: k) cs hro hb
  rcases hn _ _ _ hq with rfl | ⟨ch, rfl⟩
  · exact ⟨.normal, a₁, w₁, hq, .head h0 stepR_block (StepsIn.trans harr (.one (fw _ _) stepR_inBlock))⟩
  · exact ⟨_, a₁, w₁, hq, .of_steps (.one h0 stepR_block) harr⟩
/-- Normally, or by a panic. -/
def thenPn (K : Act → World → Prop) (Z : List PanicEntry → Act → World → Prop) : Exit → Act → World → Prop
  | .normal, a, w => K a w
  | .panic ch, a, w => Z ch a w
  | _, _, _ => False
theorem wpV_mono {f0 : FuncId} {P : Program} {c : Code} {Q Q' : Exit → Act → World → Prop} {a : Act} {w : World} (hq : ∀ e a w, Q e a w → Q' e a w) (h : wpV f0 P c Q a w) : wpV f0 P c Q' a w :=
  fun b k cs hro hb => let ⟨e, a', w', q, r⟩ := h b k cs hro hb; ⟨e, a', w', hq _ _ _ q, r⟩
theorem wpV_blockPn {f0 : FuncId} {P : Program} {id : Nat} {c : Code} {K : Act → World → Prop} {Q : Exit → Act → World → Prop} {a : Act} {w : World} (h : wpV f0 P c (thenPn K (fun ch a w => Q (.panic ch) a w)) a w) : wpV f0 P (Code.block id c) (Exit.then K Q) a w :=
  wpV_mono (fun e a w h => by cases e <;> first | exact h | exact h.elim) (wpV_block (Q := thenPn K (fun ch a w => Q (.panic ch) a w)) (fun e a w h => by
    cases e
    · exact .inl rfl
    all_goals first | exact .inr ⟨_, rfl⟩ | exact h.elim) h)
/-- By a panic alone, whatever the temporaries. -/
def onlyPn (D : List Deferred) (Z : List PanicEntry → World → Prop) : Exit → Act → World → Prop
  | .panic ch, a, w => a.defers = D ∧ Z ch w
  | _, _, _ => False
/-- A function's contract from its body. -/
theorem calls_of_wpV {n : Nat} {P : Program} {f : FuncId} {fn : Func} {c : Code} {args : Array Value} {w : World} {R : Ending → World → Prop} (hf : P.funcs[f]? = some fn) (hb : fn.body = some c)
    (h : wpV f P c (bodyPostM Fence.wide n P fn R) { tmps := args ++ Array.replicate (fn.ntmps - args.size) undef, defers := [] } w) : Calls P f args w R := by
  refine (callsIn_wide (n := n)).1 ⟨trivial, fun cs hr => ?_⟩
  let b : Frame := { (default : Frame) with fn := f, kind := .normal, roundOf := none }
  have henter : Frame.enter P f args .normal = b.atR { tmps := args ++ Array.replicate (fn.ntmps - args.size) undef, defers := [] } [.code c] := by
    simp [Frame.enter, Frame.atR, hf, hb, b]
  obtain ⟨e, a', w', hq, harr⟩ := h b [] cs rfl rfl
  rw [← henter] at harr
  cases e with
  | normal =>
    obtain ⟨e', w'', fr', hR, hs, hfn, hl⟩ := leaves_stepsInM a'.defers .returning w' { b.atR a' [] with mode := .returning } cs rfl rfl rfl hf rfl trivial hr hq
    exact ⟨e', w'', fr', hR, ComesIn.of_steps (StepsIn.trans harr (.one (fw _ _) (stepR_end rfl))) hs, hfn, hl⟩
  | ret =>
    obtain ⟨todo, hs₀⟩ := harr.1 rfl
    obtain ⟨e', w'', fr', hR, hs, hfn, hl⟩ := leaves_stepsInM a'.defers .returning w' { b.atR a' todo with mode := .returning } cs rfl rfl rfl hf rfl trivial hr hq
    exact ⟨e', w'', fr', hR, ComesIn.of_steps hs₀ hs, hfn, hl⟩
  | panic chain =>
    obtain ⟨todo, hs₀⟩ := harr
    obtain ⟨e', w'', fr', hR, hs, hfn, hl⟩ := leaves_stepsInM a'.defers (.panicking chain) w' { b.atR a' todo with mode := .panicking chain } cs rfl rfl rfl hf rfl trivial hr hq
    exact ⟨e', w'', fr', hR, ComesIn.of_steps hs₀ hs, hfn, hl⟩
  | exit id => exact hq.elim
  | goto l => exact hq.elim
  | outgrown => exact ⟨.outgrown, w', b, hq, harr.resolve_left (by simp [b]), rfl, trivial⟩
/-- Where the body of a round goes on, or panics. -/
def GoesPn (B : Nat) (W : World) (R : World → Prop) (Pn : List PanicEntry → World → Prop) : Exit → Act → World → Prop
  | .normal, _, W' => KeepsFrom B W W' ∧ R W'
  | .panic ch, a, W' => a.defers = [] ∧ KeepsFrom B W W' ∧ Pn ch W'
  | _, _, _ => False
theorem round_pn {P : Program} {n l : Nat} {f : FuncId} {tmps : Array Value} {assign body : Code} {w : World} {R : Ending → World → Prop} {B : Nat} {Z : World → World → Prop} {Pn : List PanicEntry → World → Prop} {fn : Func} (hf : P.funcs[f]? = some fn)
    (h : assign.wpIn (Fence.wide.inRound l) n P (Exit.then (fun a₁ w₁ => ∃ w₂, (Instr.beginRound l).run P w₁ = .ok () w₂ ∧ body.wpIn (Fence.wide.inRound l) n P (GoesPn B w₂ (Z w₂) Pn) a₁ w₂ ∧ (∀ w₃, KeepsFrom B w₂ w₃ → Z w₂ w₃ → ∃ v w₄, (Instr.endRound l none).run P w₃ = .ok v w₄ ∧ R (.returned v) w₄) ∧ (∀ ch w₃, KeepsFrom B w₂ w₃ → Pn ch w₃ → R (.panicked ch) w₃)) (fun _ _ _ => False)) { tmps := tmps, defers := [] } w) :
    RoundIn Fence.wide n P l f tmps assign body w R := by
  refine ⟨trivial, fun c cs hr => ?_⟩
  let b : Frame := { (default : Frame) with fn := f, kind := .normal, roundOf := some l }
  have hb0 : Frame.round l f tmps assign body .normal = b.atR { tmps := tmps, defers := [] } [.code assign, .beginRound, .code body] := by
    simp [Frame.round, Frame.atR, b]
  have hr' : (Fence.wide.inRound l).room ((c :: cs).length + 1 + n) := hr
  have hF' : (Fence.wide.inRound l).fn b.fn := trivial
  obtain ⟨e, a₁, w₁, hq, harr⟩ := h b [.beginRound, .code body] (c :: cs) rfl hF' hr'
  rw [← hb0] at harr
  cases e with
  | normal =>
    obtain ⟨w₂, hbr, hbody, hZ, hPn⟩ := hq
    have s1 : StepsIn (Machine.fenced P (Fence.wide.inRound l)) P (lone (b.atR a₁ [.beginRound, .code body]) (c :: cs) w₁) (lone (b.atR a₁ [.code body]) (c :: cs) w₂) :=
      .one (fw _ _) (stepR_beginRound rfl hbr)
    obtain ⟨e₂, a₂, w₃, hq₂, harr₂⟩ := hbody b [] (c :: cs) rfl hF' hr'
    cases e₂ with
    | normal =>
      obtain ⟨v, w₄, hend, hR⟩ := hZ w₃ hq₂.1 hq₂.2
      exact ⟨.returned v, w₄, hR, (StepsIn.trans harr s1).trans (StepsIn.trans harr₂ (.one (fw _ _) (stepR_round_end rfl rfl hend)))⟩
    | panic chain =>
      obtain ⟨hd, hk, hp⟩ := hq₂
      obtain ⟨todo, hs⟩ := harr₂
      refine ⟨.panicked chain, w₃, hPn chain w₃ hk hp, (StepsIn.trans harr s1).trans (StepsIn.trans hs (.one (fw _ _) (step_leave_panicked ⟨rfl, hd, fn, hf⟩)))⟩
    | _ => exact hq₂.elim
  | _ => exact hq.elim

/-- A range over a function whose iterator keeps its state in cells; a round goes on or panics. -/
theorem rangePn {P : Program} {α : Type} {n f0 : Nat} {fn0 : Func} (hf0 : P.funcs[f0]? = some fn0) {g : Operand} {ps : Array Tmp} {assign body : Code} {Q : Exit → Act → World → Prop} {a : Act} {w : World} {gf : Nat} {bd : Array Value}
    (hg : a.eval g = .func (.func gf) bd #[]) (eg : ∀ args w, (callFunc gf args).run P w = .ok (.enter gf args) w) (encs : α → Array Value) (hps : ∀ x, (encs x).size = ps.size)
    (A Z : α → World → Prop) (Ax : α → Act → World → Prop) (D : World → Prop) (Pn : List PanicEntry → World → Prop)
    (pZ : ∀ x W r o, Z x W → W.heap[w.heap.size + 1]? = some (.loop r) → Z x (W.putObj (w.heap.size + 1) o))
    (pAx : ∀ x a' W r o, Ax x a' W → W.heap[w.heap.size + 1]? = some (.loop r) → Ax x a' (W.putObj (w.heap.size + 1) o)) (pD : ∀ W r o, D W → W.heap[w.heap.size + 1]? = some (.loop r) → D (W.putObj (w.heap.size + 1) o))
    (hassign : ∀ (l : Nat) x W (K : Act → World → Prop), A x W → (∀ a' W', Ax x a' W' → KeepsFrom w.heap.size W W' → K a' W') →
      assign.wpIn (Fence.wide.inRound l) (n - 1 - 1) P (Exit.then K (fun _ _ _ => False)) { tmps := (ps.zip (encs x)).foldl (fun t (p, v) => t.setIfInBounds p v) a.tmps, defers := [] } W)
    (hbody : ∀ (l : Nat) x a' W, Ax x a' W → body.wpIn (Fence.wide.inRound l) (n - 1 - 1) P (GoesPn w.heap.size W (Z x) Pn) a' W)
    (hseq : ∀ (l : Nat) (BK : World → Prop), (∀ W W', KeepsFrom w.heap.size W W' → BK W → BK W') →
      (∀ x W, A x W → BK W → YieldAt Fence.wide (n - 1 - 1) P l (encs x) W fun e W' => (e = .returned (.bool true) ∧ Z x W' ∧ BK W') ∨ (∃ ch, e = .panicked ch ∧ Pn ch W' ∧ W'.heap[w.heap.size]? = some (.deferred (some [])))) →
      ∀ W, BK W → Below w.heap.size w W → W.heap.size = w.heap.size + 2 → CallsIn Fence.wide (n - 1) P gf (bd ++ #[.func (.yield l) #[] #[]]) W fun e W' => ((∃ v, e = .returned v) ∧ D W' ∧ BK W') ∨ (∃ ch, e = .panicked ch ∧ Pn ch W' ∧ W'.heap[w.heap.size]? = some (.deferred (some []))))
    (hdone : ∀ W, D W → W.heap[w.heap.size]? = some (.deferred (some [])) → Q .normal { a with defers := { target := .collected w.heap.size, args := #[] } :: a.defers } W)
    (hpan : ∀ ch W, Pn ch W → W.heap[w.heap.size]? = some (.deferred (some [])) → Q (.panic ch) { a with defers := { target := .collected w.heap.size, args := #[] } :: a.defers } W) :
    wpV f0 P (Code.rangeFunc g ps assign body) Q a w := by
  intro b k cs hro hb
  obtain ⟨rc, hrc⟩ : ∃ rc : LoopState → Loop, rc = fun st => { state := st, pending := none, fn := f0, tmps := a.tmps, params := ps, assign, body, defers := w.heap.size } := ⟨_, rfl⟩
  have heq := run_enterLoop_outer (P := P) (w := w) f0 a.tmps ps assign body
  rw [show ({ state := .ready, pending := none, fn := f0, tmps := a.tmps, params := ps, assign, body, defers := w.heap.size } : Loop) = rc .ready by rw [hrc]] at heq
  obtain ⟨W1, hW1⟩ : ∃ W1, (w.alloc (.deferred (some []))).alloc (.loop (rc .ready)) = W1 := ⟨_, rfl⟩
  rw [hW1] at heq
  have hl1 : W1.heap[w.heap.size + 1]? = some (.loop (rc .ready)) := by
    rw [← hW1]; have := World.alloc_heap_new (w.alloc (.deferred (some []))) (.loop (rc .ready)); rwa [World.size_alloc] at this
  have hd1 : W1.heap[w.heap.size]? = some (.deferred (some [])) := by
    rw [← hW1]; exact (Below.heap_alloc _ _ _ (by simp)).trans (World.alloc_heap_new w _)
  have hb1 : Below w.heap.size w W1 := by rw [← hW1]; exact ((Below.refl _ w).alloc (Nat.le_refl _) _).alloc (by simp) _
  have hs1 : W1.heap.size = w.heap.size + 2 := by rw [← hW1]; simp
  have hcall := hseq (w.heap.size + 1) (fun W => W.heap[w.heap.size + 1]? = some (.loop (rc .ready)) ∧ W.heap[w.heap.size]? = some (.deferred (some [])))
      (fun W W' hk hb => ⟨hk.same _ _ (by omega) hb.1 rfl, hk.same _ _ (Nat.le_refl _) hb.2 rfl⟩) (by
    rintro x W hA ⟨hl, hd⟩
    have hy := run_yield (P := P) (args := encs x) hl (by rw [hrc]; exact hps x)
    rw [hrc] at hy
    refine ⟨f0, _, assign, body, hy, round_pn (B := w.heap.size) (Z := fun _ => Z x) (Pn := Pn) hf0 (hassign _ x W _ hA fun a' W' hAx hkf => ?_)⟩
    have hl2 := hkf.same _ _ (by omega) hl rfl
    have hd2 := hkf.same _ _ (Nat.le_refl _) hd rfl
    have hlt : w.heap.size + 1 < W'.heap.size := (Array.getElem?_eq_some_iff.1 hl2).1
    have hl3 : (W'.putObj (w.heap.size + 1) (.loop { rc .ready with state := .busy })).heap[w.heap.size + 1]? = some (.loop { rc .ready with state := .busy }) := World.putObj_heap_same hlt
    have hd3 : (W'.putObj (w.heap.size + 1) (.loop { rc .ready with state := .busy })).heap[w.heap.size]? = some (.deferred (some [])) := (World.putObj_heap_other (by omega)).trans hd2
    refine ⟨_, run_beginRound hl2 (by rw [hrc]), hbody _ x a' _ (pAx _ _ _ _ _ hAx hl2), fun W3 hk3 hz3 => ?_, fun ch W3 hk3 hp3 => ?_⟩
    · have hl4 := hk3.same _ _ (by omega) hl3 rfl
      have hd4 := hk3.same _ _ (Nat.le_refl _) hd3 rfl
      have hlt4 := (Array.getElem?_eq_some_iff.1 hl4).1
      refine ⟨_, _, run_endRound (P := P) none hl4, .inl ⟨rfl, pZ _ _ _ _ hz3 hl4, ?_, (World.putObj_heap_other (by omega)).trans hd4⟩⟩
      rw [World.putObj_heap_same hlt4]; simp [hrc]
    · exact .inr ⟨ch, rfl, hp3, hk3.same _ _ (Nat.le_refl _) hd3 rfl⟩) W1 ⟨hl1, hd1⟩ hb1 hs1
  have hres : (resolve a.eval (rangeCall g (w.heap.size + 1)) 0).run P W1 = .ok { target := .fn (.func gf) #[], args := bd ++ #[.func (.yield (w.heap.size + 1)) #[] #[]] } W1 := by simp only [resolve, hg]; simp [go_sem]
  have hinv : (invoke (.fn (.func gf) #[]) (bd ++ #[.func (.yield (w.heap.size + 1)) #[] #[]])).run P W1 = .ok (.enter gf (bd ++ #[.func (.yield (w.heap.size + 1)) #[] #[]])) W1 := by simp [invoke, go_sem, eg]
  have henter := stepR_rangeFunc (P := P) (b := b) (a := a) (k := k) (cs := cs) (w := w) (g := g) (by rw [hro, hb]; exact heq) hres hinv
  obtain ⟨e, w₃, fr, hR, hsteps, hfn, hleave⟩ := hcall.2 (b.atR { a with defers := [{ target := .collected w.heap.size, args := #[] }] ++ a.defers } (.inRangeFunc (w.heap.size + 1) :: k) :: cs) (room_wide _)
  rcases hR with ⟨⟨v, rfl⟩, hD, hl, hd⟩ | ⟨ch, rfl, hp, hd⟩
  · have hend := run_endLoop (P := P) hl (by rw [hrc]; simp)
    obtain ⟨O, hO⟩ : ∃ O, Obj.loop { rc .ready with state := .exhausted } = O := ⟨_, rfl⟩
    rw [hO, show (rc .ready).pending = none by rw [hrc]] at hend
    refine ⟨.normal, _, _, hdone _ (pD _ _ O hD hl) ((World.putObj_heap_other (by omega)).trans hd), ?_⟩
    refine .head (fw _ _) henter (StepsIn.trans hsteps (.head (fw _ _) ?_ (.one (fw _ _) (stepR_endRangeFunc (jump := none) hend))))
    rw [← finish_atR_inRangeFunc (w.heap.size + 1) v]; exact step_leave_returned hleave
  · refine ⟨.panic ch, _, w₃, hpan ch w₃ hp hd, .inRangeFunc (w.heap.size + 1) :: k, .head (fw _ _) henter (StepsIn.trans hsteps (.one (fw _ _) ?_))⟩
    rw [← Frame.raise_atR]; exact step_leave_panicked hleave
end Go.Proofs.YtdlhfiheingibaaGreatDoor
