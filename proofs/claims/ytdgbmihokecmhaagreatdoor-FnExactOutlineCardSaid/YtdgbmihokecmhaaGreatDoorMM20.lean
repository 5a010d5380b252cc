import Derived.Test.YtdgbmihokecmhaaGreatDoorMM19
import Derived.OrdersHeld
import Derived.Deep.RegionHeld3
import Derived.Test.YtdgbmihokecmhaaGreatDoorMM06
import Derived.Test.YtdgbmihokecmhaaGreatDoorMM07
namespace Go.Proofs.YtdgbmihokecmhaaGreatDoor
open Go.RowKit
set_option linter.unusedVariables false

/-- Where the body of a round goes on, or leaves by a return. -/
def GoesOr (B : Nat) (W : World) (Z X : World → Prop) : Exit → Act → World → Prop
  | .normal, _, W' => KeepsFrom B W W' ∧ Z W'
  | .ret, _, W' => KeepsFrom B W W' ∧ X W'
  | _, _, _ => False

/-- A range over a function that counts down; a round may return. Z m: m rounds are left; X: a round has returned. -/
theorem rangeDown {P : Program} {n : Nat} {g : Operand} {ps : Array Tmp} {assign body : Go.Code} {Q : Exit → Act → World → Prop} {a : Act} {w : World} {gf : Nat} {lb : Array Value}
    (hg : a.eval g = .func (.func gf) #[] lb) (eg : ∀ args w, (callFunc gf args).run P w = .ok (.enter gf args) w) (enc : Nat → Array Value) (hps : ∀ x, (enc x).size = ps.size) (len : Nat)
    (Z : Nat → World → Prop) (Ax : Nat → Act → World → Prop) (X : World → Prop)
    (pZ : ∀ m W r o, Z m W → W.heap[w.heap.size + 1]? = some (.loop r) → Z m (W.putObj (w.heap.size + 1) o))
    (pAx : ∀ m a' W r o, Ax m a' W → W.heap[w.heap.size + 1]? = some (.loop r) → Ax m a' (W.putObj (w.heap.size + 1) o)) (pX : ∀ W r o, X W → W.heap[w.heap.size + 1]? = some (.loop r) → X (W.putObj (w.heap.size + 1) o))
    (h0 : ∀ W1, Below w.heap.size w W1 → W1.heap.size = w.heap.size + 2 → Z len W1)
    (hassign : ∀ (l m : Nat) W (K : Act → World → Prop), m < len → Z (m + 1) W → (∀ a' W', Ax m a' W' → KeepsFrom w.heap.size W W' → K a' W') →
      assign.wpIn (Fence.wide.inRound l) (n - 1 - 1) P (Exit.then K (fun _ _ _ => False)) { tmps := (ps.zip (enc m)).foldl (fun t (p, v) => t.setIfInBounds p v) a.tmps, defers := [] } W)
    (hbody : ∀ (l m : Nat) a' W, m < len → Ax m a' W → body.wpIn (Fence.wide.inRound l) (n - 1 - 1) P (GoesOr w.heap.size W (Z m) X) a' W)
    (hseq : ∀ (l : Nat) (J : Nat → World → Prop) (Jx : World → Prop), (∀ m W, J m W → Z m W) →
      (∀ m W, m < len → J (m + 1) W → YieldAt Fence.wide (n - 1 - 1) P l (enc m) W fun e W' => (e = .returned (.bool true) ∧ J m W') ∨ (e = .returned (.bool false) ∧ Jx W')) →
      ∀ W, J len W → CallsIn Fence.wide (n - 1) P gf (#[.func (.yield l) #[] #[]] ++ lb) W fun e W' => (∃ v, e = .returned v) ∧ (J 0 W' ∨ Jx W'))
    (hdone : ∀ W, Z 0 W → W.heap[w.heap.size]? = some (.deferred (some [])) → Q .normal { a with defers := { target := .collected w.heap.size, args := #[] } :: a.defers } W)
    (hret : ∀ W, X W → W.heap[w.heap.size]? = some (.deferred (some [])) → Q .ret { a with defers := { target := .collected w.heap.size, args := #[] } :: a.defers } W) :
    (Go.Code.rangeFunc g ps assign body).wpIn Fence.wide n P Q a w := by
  refine wpIn_rangeFunc ?_
  intro fn hfn
  show ∃ l mark w₁ d w₁' f args w₂, (Instr.enterLoop fn a.tmps ps assign body none).run P w = _ ∧ _
  obtain ⟨rc, hrc⟩ : ∃ rc : LoopState → Option Go.Code → Loop, rc = fun st pe => { state := st, pending := pe, fn, tmps := a.tmps, params := ps, assign, body, defers := w.heap.size } := ⟨_, rfl⟩
  have heq := run_enterLoop_outer (P := P) (w := w) fn a.tmps ps assign body
  rw [show ({ state := .ready, pending := none, fn, tmps := a.tmps, params := ps, assign, body, defers := w.heap.size } : Loop) = rc .ready none by rw [hrc]] at heq
  obtain ⟨W1, hW1⟩ : ∃ W1, (w.alloc (.deferred (some []))).alloc (.loop (rc .ready none)) = W1 := ⟨_, rfl⟩
  rw [hW1] at heq
  have hl1 : W1.heap[w.heap.size + 1]? = some (.loop (rc .ready none)) := by
    rw [← hW1]; have := World.alloc_heap_new (w.alloc (.deferred (some []))) (.loop (rc .ready none)); rwa [World.size_alloc] at this
  have hd1 : W1.heap[w.heap.size]? = some (.deferred (some [])) := by
    rw [← hW1]; exact (Below.heap_alloc _ _ _ (by simp)).trans (World.alloc_heap_new w _)
  have hb1 : Below w.heap.size w W1 := by rw [← hW1]; exact ((Below.refl _ w).alloc (Nat.le_refl _) _).alloc (by simp) _
  have hs1 : W1.heap.size = w.heap.size + 2 := by rw [← hW1]; simp
  refine ⟨w.heap.size + 1, [{ target := .collected w.heap.size, args := #[] }], W1, { target := .fn (.func gf) lb, args := #[.func (.yield (w.heap.size + 1)) #[] #[]] }, W1, gf,
    #[.func (.yield (w.heap.size + 1)) #[] #[]] ++ lb, W1, heq, ?_, ?_, ?_, fun h => by simp [Fence.wide] at h, ?_⟩
  · simp only [resolve, hg]; simp [go_sem]
  · intro f' hf'; trivial
  · simp [invoke, go_sem, eg]
  · refine (hseq (w.heap.size + 1) (fun m W => Z m W ∧ W.heap[w.heap.size + 1]? = some (.loop (rc .ready none)) ∧ W.heap[w.heap.size]? = some (.deferred (some [])))
      (fun W => X W ∧ W.heap[w.heap.size + 1]? = some (.loop (rc .done (some .ret))) ∧ W.heap[w.heap.size]? = some (.deferred (some []))) (fun _ _ h => h.1) ?_ W1 ⟨h0 W1 hb1 hs1, hl1, hd1⟩).mono ?_
    · rintro m W hm ⟨hZ, hl, hd⟩
      have hy := run_yield (P := P) (args := enc m) hl (by rw [hrc]; exact hps m)
      rw [hrc] at hy
      refine ⟨fn, _, assign, body, hy, roundIn_of_wpIn hfn (hassign _ m W _ hm hZ fun a' W' hAx hkf => ?_)⟩
      have hl2 := hkf.same _ _ (by omega) hl rfl
      have hd2 := hkf.same _ _ (Nat.le_refl _) hd rfl
      have hlt : w.heap.size + 1 < W'.heap.size := (Array.getElem?_eq_some_iff.1 hl2).1
      refine ⟨_, run_beginRound hl2 (by rw [hrc]), ?_⟩
      have hl3 : (W'.putObj (w.heap.size + 1) (.loop { rc .ready none with state := .busy })).heap[w.heap.size + 1]? = some (.loop { rc .ready none with state := .busy }) := World.putObj_heap_same hlt
      have hd3 : (W'.putObj (w.heap.size + 1) (.loop { rc .ready none with state := .busy })).heap[w.heap.size]? = some (.deferred (some [])) := (World.putObj_heap_other (by omega)).trans hd2
      refine wpIn_mono (hbody _ m a' _ hm (pAx _ _ _ _ _ hAx hl2)) ?_
      rintro e a3 W3 hp
      cases e with
      | normal =>
        obtain ⟨hk3, hz3⟩ := hp
        have hl4 := hk3.same _ _ (by omega) hl3 rfl
        have hd4 := hk3.same _ _ (Nat.le_refl _) hd3 rfl
        have hlt4 := (Array.getElem?_eq_some_iff.1 hl4).1
        refine ⟨_, _, run_endRound (P := P) none hl4, .inl ⟨rfl, pZ _ _ _ _ hz3 hl4, ?_, (World.putObj_heap_other (by omega)).trans hd4⟩⟩
        rw [World.putObj_heap_same hlt4]; simp [hrc]
      | ret =>
        obtain ⟨hk3, hz3⟩ := hp
        have hl4 := hk3.same _ _ (by omega) hl3 rfl
        have hd4 := hk3.same _ _ (Nat.le_refl _) hd3 rfl
        have hlt4 := (Array.getElem?_eq_some_iff.1 hl4).1
        refine ⟨_, _, run_endRound (P := P) (some .ret) hl4, .inr ⟨rfl, pX _ _ _ hz3 hl4, ?_, (World.putObj_heap_other (by omega)).trans hd4⟩⟩
        rw [World.putObj_heap_same hlt4]; simp [hrc]
      | _ => exact hp.elim
    · rintro e W2 ⟨⟨v, rfl⟩, ⟨hZ, hl, hd⟩ | ⟨hX, hl, hd⟩⟩
      · refine ⟨none, _, by have := run_endLoop (P := P) hl (by rw [hrc]; simp); rw [hrc] at this; exact this, ?_⟩
        exact hdone _ (pZ _ _ _ _ hZ hl) ((World.putObj_heap_other (by omega)).trans hd)
      · refine ⟨some .ret, _, by have := run_endLoop (P := P) hl (by rw [hrc]; simp); rw [hrc] at this; exact this, ?_⟩
        exact wpIn_ret (hret _ (pX _ _ _ hX hl) ((World.putObj_heap_other (by omega)).trans hd))
end Go.Proofs.YtdgbmihokecmhaaGreatDoor

namespace Go.Proofs.YtdgbmihokecmhaaGreatDoor
open Go.RowKit
set_option linter.unusedVariables false

theorem upon_round {P : Program} {l n : Nat} {o : Oper} {a : Act} {K : Act → World → Prop} {Q : Exit → Act → World → Prop} (r : Result Next) (h : o.upon P a K Q r) : o.uponIn (Fence.wide.inRound l) n P a K Q r := by
  have hd : (Fence.wide.inRound l).depth.isSome = true → 1 ≤ n := fun h => by simp [Fence.wide, Fence.inRound] at h
  cases r with
  | ok x w =>
    cases x with
    | value v => exact h
    | skip => exact h
    | defer d => exact h
    | enter f args => exact ⟨hd, CallsIn.inRound l (callsIn_wide.2 h)⟩
    | row row args => exact ⟨hd, fun c cs _ => let ⟨v, w', r, s⟩ := h c cs; ⟨v, w', r, stepsIn_wide.2 s⟩⟩
    | _ => exact h.elim
  | halt x w =>
    cases x with
    | panic v => exact h
    | _ => exact h.elim
def noDef (o : Oper) : Bool := match o.op with | .defer _ => false | _ => true
theorem noDef_ne {o : Oper} (h : noDef o = true) : ∀ c, o.op ≠ .defer c := by
  intro c e
  unfold noDef at h
  rw [e] at h
  cases h
theorem wpOp_round {P : Program} {ops : Array Oper} {Q : Exit → Act → World → Prop} {l n i : Nat} {K : Act → World → Prop} {a : Act} {w : World} (hd : ∀ (j : Nat) (o : Oper), ops[j]? = some o → noDef o = true) (hq : ¬ LetsOut Q) (h : wpOp P ops Q i K a w) : wpOpIn (Fence.wide.inRound l) n P ops Q i K a w := by
  unfold wpOp at h
  unfold wpOpIn
  cases ho : ops[i]? with
  | none => simpa [ho] using h
  | some o =>
    simp only [ho] at h ⊢
    split
    · rename_i hw
      simp only [hw, if_true] at h
      rcases h with h | h
      · refine ⟨fun f _ => trivial, ?_⟩
        show o.uponIn _ _ _ _ _ _ ((o.semAt (some l) a.eval).run P w)
        rw [Oper.semAt_some l a.eval o (noDef_ne (hd i o ho))]
        exact upon_round _ h
      · exact absurd h.2 hq
    · rename_i hw
      simp only [hw] at h
      exact ⟨fun f _ => trivial, by simpa using h⟩
theorem wpAnyIn_round {P : Program} {md : Region.Mode} {ops : Array Oper} {Q : Exit → Act → World → Prop} {l n : Nat} (hd : ∀ (j : Nat) (o : Oper), ops[j]? = some o → noDef o = true) (hq : ¬ LetsOut Q) :
    ∀ (fuel : Nat) (listed : Array Bool) (a : Act) (w : World), wpAny P md ops Q fuel listed a w → wpAnyIn (Fence.wide.inRound l) n P md ops Q fuel listed a w
  | 0, _, _, _, h => h
  | fuel + 1, _, _, _, h => ⟨h.1, fun i hi => wpOp_round hd hq (wpOp_mono (fun a' w' h' => wpAnyIn_round hd hq fuel _ a' w' h') (h.2 i hi))⟩
/-- A region that draws its order, in a round: as elsewhere. -/
theorem region_round {P : Program} {ops : Array Oper} {Q : Exit → Act → World → Prop} {l n id : Nat} {S : World → Prop} {a : Act} {w : World} (hm : P.follows .mixedOrders = true) (hd : ops.all noDef = true) (hq : ¬ LetsOut Q) (hS : S w.drew)
    (h : S w.drew → wpAnyH P .any ops Q S ops.size (Array.replicate ops.size false) a w.drew) : (Go.Code.region id ops true).wpIn (Fence.wide.inRound l) n P Q a w :=
  wpIn_region_any hm (wpAnyIn_round (fun j o ho => by
    obtain ⟨hj, e⟩ := Array.getElem?_eq_some_iff.1 ho
    rw [← e]
    exact Array.all_eq_true.1 hd j hj) hq _ _ _ _ (wpAny_of_held _ _ _ _ (h hS)))
/-- An operation is taken first. -/
theorem takeAt {P : Program} {md : Region.Mode} {ops : Array Oper} {Q : Exit → Act → World → Prop} {S : World → Prop} (i : Nat) (d : Tmp) (v : Value) {oi : Oper} {fuel : Nat} {listed : Array Bool} {a : Act} {w : World} (hi : ops[i]? = some oi) (hd : oi.dst = some d)
    (hs : Region.noSelect ops = true) (hf : Region.free md ops listed i = true) (hr : (Region.ready md ops listed).contains i = true)
    (hQ : ∀ c a w, Q (.panic c) (a.put (some d) v) w → Q (.panic c) a w) (hw : Region.wanted oi (yielded ops a.tmps) = true) (hS : S w) (hy : ∀ w, S w → (execOp a.eval oi).run P w = .ok (.value v) w)
    (h : wpAnyH P md ops Q S fuel (listed.setIfInBounds i true) (a.put (some d) v) w) : wpAnyH P md ops Q S (fuel + 1) listed a w :=
  wpAnyH_take hi hs hf hr (by rw [hd]; exact hQ) (Or.inl ⟨hw, hy⟩) hS (by rw [hd]; exact h)
end Go.Proofs.YtdgbmihokecmhaaGreatDoor

namespace Go.Proofs.YtdgbmihokecmhaaGreatDoor
open Go.RowKit
set_option linter.unusedVariables false

/-- Which type a node has inside the program, by its Kind. -/
def cls (k : Int) : Nat :=
  if k = 2 ∨ k = 3 ∨ k = 4 ∨ k = 9 ∨ k = 10 ∨ k = 14 then 0
  else if k = 5 then 1
  else if k = 23 then 2
  else if k = 24 ∨ k = 25 ∨ k = 26 ∨ k = 33 ∨ k = 42 then 3
  else if k = 30 ∨ k = 31 then 4
  else if k = 36 then 5
  else 6
def ptT : Nat → TypeId
  | 0 => 78
  | 1 => 106
  | 2 => 109
  | 3 => 112
  | 4 => 115
  | 5 => 118
  | _ => 121
def stT : Nat → TypeId
  | 0 => 81
  | 1 => 108
  | 2 => 111
  | 3 => 114
  | 4 => 117
  | 5 => 120
  | _ => 123
/-- What a node has behind its header. -/
def exT (N : Nd) (vn : Value) : Nat → List Value
  | 0 => [vn]
  | 1 => [.int .i64 N.n]
  | 2 => [.int .i64 N.n]
  | 3 => [.string N.x]
  | 4 => [.int .i64 N.op]
  | 5 => [vn, .bool (decide (N.op = 1))]
  | _ => []
/-- A node inside the program: the block b. -/
def InBox (W : World) (b : Nat) (N : Nd) (vn : Value) (num : Int) (kids : Value) : Prop :=
  W.heap[b]? = some (.cells ([.int .i64 N.k, .int .i64 N.f, .int .i64 N.t, .int .i64 N.l, .int .i64 num, kids] ++ exT N vn (cls N.k)).toArray (stT (cls N.k)) (0, 0))
def nodeV (k : Int) (b : Nat) : Value := .iface (ptT (cls k)) (.pointer (some ⟨b, 0, none⟩))

set_option maxRecDepth 100000 in
set_option maxHeartbeats 6400000 in
theorem nodeOf_any (w : World) (N : Nd) (vn vk : Value) (hn : ∃ a n c, vn = .slice a n c) (hk : ∃ a n c, vk = .slice a n c) :
    Calls Tryz.prog 45 #[vNd N vn vk] w fun e w' => e = .returned (nodeV N.k (w.heap.size + 1 + 1)) ∧ InBox w' (w.heap.size + 1 + 1) N vn 0 (.slice none 0 0) ∧ Below w.heap.size w w' := by
  obtain ⟨a1, n1, c1, rfl⟩ := hn
  obtain ⟨a2, n2, c2, rfl⟩ := hk
  unfold vNd
  obtain ⟨nk, nf, nt, nl, nop, nn, nx, nnm, nks⟩ := N
  have hbb : ∀ o1 o2 o3, Below w.heap.size w (((w.alloc o1).alloc o2).alloc o3) := fun o1 o2 o3 => (((Below.refl _ w).alloc (Nat.le_refl _) o1).alloc (by simp) o2).alloc (by simp; omega) o3
  have hnew : ∀ o1 o2 (cs : Array Value) (t : TypeId), (((w.alloc o1).alloc o2).alloc (.cells cs t)).heap[w.heap.size + 1 + 1]? = some (.cells cs t (0, 0)) := fun o1 o2 cs t => by
    have := heap_alloc_new ((w.alloc o1).alloc o2) (.cells cs t)
    rw [World.size_alloc, World.size_alloc] at this
    exact this
  unfold InBox nodeV
  simp only
  by_cases h : nk = 2 ∨ nk = 3 ∨ nk = 4 ∨ nk = 9 ∨ nk = 10 ∨ nk = 14 ∨ nk = 5 ∨ nk = 23 ∨ nk = 24 ∨ nk = 25 ∨ nk = 26 ∨ nk = 33 ∨ nk = 42 ∨ nk = 30 ∨ nk = 31 ∨ nk = 36
  · rcases h with rfl | rfl | rfl | rfl | rfl | rfl | rfl | rfl | rfl | rfl | rfl | rfl | rfl | rfl | rfl | rfl
    all_goals
      go_enter Tryz.func45, Tryz.ntmps45
      go_wp2
      go_ret
      exact ⟨rfl, hnew _ _ _ _, hbb _ _ _⟩
  · have e6 : cls nk = 6 := by unfold cls; rw [if_neg (by omega), if_neg (by omega), if_neg (by omega), if_neg (by omega), if_neg (by omega), if_neg (by omega)]
    have h2 : ¬ nk = 2 := by omega
    have h3 : ¬ nk = 3 := by omega
    have h4 : ¬ nk = 4 := by omega
    have h9 : ¬ nk = 9 := by omega
    have h10 : ¬ nk = 10 := by omega
    have h14 : ¬ nk = 14 := by omega
    have h5 : ¬ nk = 5 := by omega
    have h23 : ¬ nk = 23 := by omega
    have h24 : ¬ nk = 24 := by omega
    have h25 : ¬ nk = 25 := by omega
    have h26 : ¬ nk = 26 := by omega
    have h33 : ¬ nk = 33 := by omega
    have h42 : ¬ nk = 42 := by omega
    have h30 : ¬ nk = 30 := by omega
    have h31 : ¬ nk = 31 := by omega
    have h36 : ¬ nk = 36 := by omega
    rw [e6]
    clear h
    go_enter Tryz.func45, Tryz.ntmps45
    go_wp2
    go_ret
    exact ⟨rfl, hnew _ _ _ _, hbb _ _ _⟩
end Go.Proofs.YtdgbmihokecmhaaGreatDoor

namespace Go.Proofs.YtdgbmihokecmhaaGreatDoor
open Go.RowKit
set_option linter.unusedVariables false

theorem head_any (b : Nat) (w : World) : Calls Tryz.prog 160 #[.pointer (some ⟨b, 0, none⟩)] w fun e w' => e = .returned (.pointer (some ⟨b, 0, none⟩)) ∧ w' = w := by
  go_enter Tryz.func160, Tryz.ntmps160
  go_wp2
  go_ret
  exact ⟨rfl, rfl⟩

/-- What comes back of a row out of its node. -/
def rowN (N : Nd) : Nat → Nd
  | 0 => ⟨N.k, N.f, N.t, N.l, 0, 0, ⟨#[]⟩, N.nm, []⟩
  | 1 => ⟨N.k, N.f, N.t, N.l, 0, N.n, ⟨#[]⟩, [], []⟩
  | 2 => ⟨N.k, N.f, N.t, N.l, 0, N.n, ⟨#[]⟩, [], []⟩
  | 3 => ⟨N.k, N.f, N.t, N.l, 0, 0, N.x, [], []⟩
  | 4 => ⟨N.k, N.f, N.t, N.l, N.op, 0, ⟨#[]⟩, [], []⟩
  | 5 => ⟨N.k, N.f, N.t, N.l, (if N.op = 1 then 1 else 0), 0, ⟨#[]⟩, N.nm, []⟩
  | _ => ⟨N.k, N.f, N.t, N.l, 0, 0, ⟨#[]⟩, [], []⟩
def rowV (vn : Value) : Nat → Value
  | 0 => vn
  | 5 => vn
  | _ => .slice none 0 0

theorem meth0 (b : Nat) (w : World) : (method 338 78 (.pointer (some ⟨b, 0, none⟩)) "loop.example/warp/impl.head").run Tryz.prog w = .ok (160, .pointer (some ⟨b, 0, none⟩)) w := by kernel_rfl
theorem meth1 (b : Nat) (w : World) : (method 338 106 (.pointer (some ⟨b, 0, none⟩)) "loop.example/warp/impl.head").run Tryz.prog w = .ok (160, .pointer (some ⟨b, 0, none⟩)) w := by kernel_rfl
theorem meth2 (b : Nat) (w : World) : (method 338 109 (.pointer (some ⟨b, 0, none⟩)) "loop.example/warp/impl.head").run Tryz.prog w = .ok (160, .pointer (some ⟨b, 0, none⟩)) w := by kernel_rfl
theorem meth3 (b : Nat) (w : World) : (method 338 112 (.pointer (some ⟨b, 0, none⟩)) "loop.example/warp/impl.head").run Tryz.prog w = .ok (160, .pointer (some ⟨b, 0, none⟩)) w := by kernel_rfl
theorem meth4 (b : Nat) (w : World) : (method 338 115 (.pointer (some ⟨b, 0, none⟩)) "loop.example/warp/impl.head").run Tryz.prog w = .ok (160, .pointer (some ⟨b, 0, none⟩)) w := by kernel_rfl
theorem meth5 (b : Nat) (w : World) : (method 338 118 (.pointer (some ⟨b, 0, none⟩)) "loop.example/warp/impl.head").run Tryz.prog w = .ok (160, .pointer (some ⟨b, 0, none⟩)) w := by kernel_rfl
theorem meth6 (b : Nat) (w : World) : (method 338 121 (.pointer (some ⟨b, 0, none⟩)) "loop.example/warp/impl.head").run Tryz.prog w = .ok (160, .pointer (some ⟨b, 0, none⟩)) w := by kernel_rfl

theorem as00 (b : Nat) (w : World) : (Instr.typeAssert (.iface 78 (.pointer (some ⟨b, 0, none⟩))) 44 78 true).run Tryz.prog w = .ok (.tuple #[.pointer (some ⟨b, 0, none⟩), .bool true]) w := by kernel_rfl
theorem as01 (b : Nat) (w : World) : (Instr.typeAssert (.iface 78 (.pointer (some ⟨b, 0, none⟩))) 44 106 true).run Tryz.prog w = .ok (.tuple #[.pointer none, .bool false]) w := by kernel_rfl
theorem as02 (b : Nat) (w : World) : (Instr.typeAssert (.iface 78 (.pointer (some ⟨b, 0, none⟩))) 44 109 true).run Tryz.prog w = .ok (.tuple #[.pointer none, .bool false]) w := by kernel_rfl
theorem as03 (b : Nat) (w : World) : (Instr.typeAssert (.iface 78 (.pointer (some ⟨b, 0, none⟩))) 44 112 true).run Tryz.prog w = .ok (.tuple #[.pointer none, .bool false]) w := by kernel_rfl
theorem as04 (b : Nat) (w : World) : (Instr.typeAssert (.iface 78 (.pointer (some ⟨b, 0, none⟩))) 44 115 true).run Tryz.prog w = .ok (.tuple #[.pointer none, .bool false]) w := by kernel_rfl
theorem as05 (b : Nat) (w : World) : (Instr.typeAssert (.iface 78 (.pointer (some ⟨b, 0, none⟩))) 44 118 true).run Tryz.prog w = .ok (.tuple #[.pointer none, .bool false]) w := by kernel_rfl
theorem as10 (b : Nat) (w : World) : (Instr.typeAssert (.iface 106 (.pointer (some ⟨b, 0, none⟩))) 44 78 true).run Tryz.prog w = .ok (.tuple #[.pointer none, .bool false]) w := by kernel_rfl
theorem as11 (b : Nat) (w : World) : (Instr.typeAssert (.iface 106 (.pointer (some ⟨b, 0, none⟩))) 44 106 true).run Tryz.prog w = .ok (.tuple #[.pointer (some ⟨b, 0, none⟩), .bool true]) w := by kernel_rfl
theorem as12 (b : Nat) (w : World) : (Instr.typeAssert (.iface 106 (.pointer (some ⟨b, 0, none⟩))) 44 109 true).run Tryz.prog w = .ok (.tuple #[.pointer none, .bool false]) w := by kernel_rfl
theorem as13 (b : Nat) (w : World) : (Instr.typeAssert (.iface 106 (.pointer (some ⟨b, 0, none⟩))) 44 112 true).run Tryz.prog w = .ok (.tuple #[.pointer none, .bool false]) w := by kernel_rfl
theorem as14 (b : Nat) (w : World) : (Instr.typeAssert (.iface 106 (.pointer (some ⟨b, 0, none⟩))) 44 115 true).run Tryz.prog w = .ok (.tuple #[.pointer none, .bool false]) w := by kernel_rfl
theorem as15 (b : Nat) (w : World) : (Instr.typeAssert (.iface 106 (.pointer (some ⟨b, 0, none⟩))) 44 118 true).run Tryz.prog w = .ok (.tuple #[.pointer none, .bool false]) w := by kernel_rfl
theorem as20 (b : Nat) (w : World) : (Instr.typeAssert (.iface 109 (.pointer (some ⟨b, 0, none⟩))) 44 78 true).run Tryz.prog w = .ok (.tuple #[.pointer none, .bool false]) w := by kernel_rfl
theorem as21 (b : Nat) (w : World) : (Instr.typeAssert (.iface 109 (.pointer (some ⟨b, 0, none⟩))) 44 106 true).run Tryz.prog w = .ok (.tuple #[.pointer none, .bool false]) w := by kernel_rfl
theorem as22 (b : Nat) (w : World) : (Instr.typeAssert (.iface 109 (.pointer (some ⟨b, 0, none⟩))) 44 109 true).run Tryz.prog w = .ok (.tuple #[.pointer (some ⟨b, 0, none⟩), .bool true]) w := by kernel_rfl
theorem as23 (b : Nat) (w : World) : (Instr.typeAssert (.iface 109 (.pointer (some ⟨b, 0, none⟩))) 44 112 true).run Tryz.prog w = .ok (.tuple #[.pointer none, .bool false]) w := by kernel_rfl
theorem as24 (b : Nat) (w : World) : (Instr.typeAssert (.iface 109 (.pointer (some ⟨b, 0, none⟩))) 44 115 true).run Tryz.prog w = .ok (.tuple #[.pointer none, .bool false]) w := by kernel_rfl
theorem as25 (b : Nat) (w : World) : (Instr.typeAssert (.iface 109 (.pointer (some ⟨b, 0, none⟩))) 44 118 true).run Tryz.prog w = .ok (.tuple #[.pointer none, .bool false]) w := by kernel_rfl
theorem as30 (b : Nat) (w : World) : (Instr.typeAssert (.iface 112 (.pointer (some ⟨b, 0, none⟩))) 44 78 true).run Tryz.prog w = .ok (.tuple #[.pointer none, .bool false]) w := by kernel_rfl
theorem as31 (b : Nat) (w : World) : (Instr.typeAssert (.iface 112 (.pointer (some ⟨b, 0, none⟩))) 44 106 true).run Tryz.prog w = .ok (.tuple #[.pointer none, .bool false]) w := by kernel_rfl
theorem as32 (b : Nat) (w : World) : (Instr.typeAssert (.iface 112 (.pointer (some ⟨b, 0, none⟩))) 44 109 true).run Tryz.prog w = .ok (.tuple #[.pointer none, .bool false]) w := by kernel_rfl
theorem as33 (b : Nat) (w : World) : (Instr.typeAssert (.iface 112 (.pointer (some ⟨b, 0, none⟩))) 44 112 true).run Tryz.prog w = .ok (.tuple #[.pointer (some ⟨b, 0, none⟩), .bool true]) w := by kernel_rfl
theorem as34 (b : Nat) (w : World) : (Instr.typeAssert (.iface 112 (.pointer (some ⟨b, 0, none⟩))) 44 115 true).run Tryz.prog w = .ok (.tuple #[.pointer none, .bool false]) w := by kernel_rfl
theorem as35 (b : Nat) (w : World) : (Instr.typeAssert (.iface 112 (.pointer (some ⟨b, 0, none⟩))) 44 118 true).run Tryz.prog w = .ok (.tuple #[.pointer none, .bool false]) w := by kernel_rfl
theorem as40 (b : Nat) (w : World) : (Instr.typeAssert (.iface 115 (.pointer (some ⟨b, 0, none⟩))) 44 78 true).run Tryz.prog w = .ok (.tuple #[.pointer none, .bool false]) w := by kernel_rfl
theorem as41 (b : Nat) (w : World) : (Instr.typeAssert (.iface 115 (.pointer (some ⟨b, 0, none⟩))) 44 106 true).run Tryz.prog w = .ok (.tuple #[.pointer none, .bool false]) w := by kernel_rfl
theorem as42 (b : Nat) (w : World) : (Instr.typeAssert (.iface 115 (.pointer (some ⟨b, 0, none⟩))) 44 109 true).run Tryz.prog w = .ok (.tuple #[.pointer none, .bool false]) w := by kernel_rfl
theorem as43 (b : Nat) (w : World) : (Instr.typeAssert (.iface 115 (.pointer (some ⟨b, 0, none⟩))) 44 112 true).run Tryz.prog w = .ok (.tuple #[.pointer none, .bool false]) w := by kernel_rfl
theorem as44 (b : Nat) (w : World) : (Instr.typeAssert (.iface 115 (.pointer (some ⟨b, 0, none⟩))) 44 115 true).run Tryz.prog w = .ok (.tuple #[.pointer (some ⟨b, 0, none⟩), .bool true]) w := by kernel_rfl
theorem as45 (b : Nat) (w : World) : (Instr.typeAssert (.iface 115 (.pointer (some ⟨b, 0, none⟩))) 44 118 true).run Tryz.prog w = .ok (.tuple #[.pointer none, .bool false]) w := by kernel_rfl
theorem as50 (b : Nat) (w : World) : (Instr.typeAssert (.iface 118 (.pointer (some ⟨b, 0, none⟩))) 44 78 true).run Tryz.prog w = .ok (.tuple #[.pointer none, .bool false]) w := by kernel_rfl
theorem as51 (b : Nat) (w : World) : (Instr.typeAssert (.iface 118 (.pointer (some ⟨b, 0, none⟩))) 44 106 true).run Tryz.prog w = .ok (.tuple #[.pointer none, .bool false]) w := by kernel_rfl
theorem as52 (b : Nat) (w : World) : (Instr.typeAssert (.iface 118 (.pointer (some ⟨b, 0, none⟩))) 44 109 true).run Tryz.prog w = .ok (.tuple #[.pointer none, .bool false]) w := by kernel_rfl
theorem as53 (b : Nat) (w : World) : (Instr.typeAssert (.iface 118 (.pointer (some ⟨b, 0, none⟩))) 44 112 true).run Tryz.prog w = .ok (.tuple #[.pointer none, .bool false]) w := by kernel_rfl
theorem as54 (b : Nat) (w : World) : (Instr.typeAssert (.iface 118 (.pointer (some ⟨b, 0, none⟩))) 44 115 true).run Tryz.prog w = .ok (.tuple #[.pointer none, .bool false]) w := by kernel_rfl
theorem as55 (b : Nat) (w : World) : (Instr.typeAssert (.iface 118 (.pointer (some ⟨b, 0, none⟩))) 44 118 true).run Tryz.prog w = .ok (.tuple #[.pointer (some ⟨b, 0, none⟩), .bool true]) w := by kernel_rfl
theorem as60 (b : Nat) (w : World) : (Instr.typeAssert (.iface 121 (.pointer (some ⟨b, 0, none⟩))) 44 78 true).run Tryz.prog w = .ok (.tuple #[.pointer none, .bool false]) w := by kernel_rfl
theorem as61 (b : Nat) (w : World) : (Instr.typeAssert (.iface 121 (.pointer (some ⟨b, 0, none⟩))) 44 106 true).run Tryz.prog w = .ok (.tuple #[.pointer none, .bool false]) w := by kernel_rfl
theorem as62 (b : Nat) (w : World) : (Instr.typeAssert (.iface 121 (.pointer (some ⟨b, 0, none⟩))) 44 109 true).run Tryz.prog w = .ok (.tuple #[.pointer none, .bool false]) w := by kernel_rfl
theorem as63 (b : Nat) (w : World) : (Instr.typeAssert (.iface 121 (.pointer (some ⟨b, 0, none⟩))) 44 112 true).run Tryz.prog w = .ok (.tuple #[.pointer none, .bool false]) w := by kernel_rfl
theorem as64 (b : Nat) (w : World) : (Instr.typeAssert (.iface 121 (.pointer (some ⟨b, 0, none⟩))) 44 115 true).run Tryz.prog w = .ok (.tuple #[.pointer none, .bool false]) w := by kernel_rfl
theorem as65 (b : Nat) (w : World) : (Instr.typeAssert (.iface 121 (.pointer (some ⟨b, 0, none⟩))) 44 118 true).run Tryz.prog w = .ok (.tuple #[.pointer none, .bool false]) w := by kernel_rfl
set_option maxRecDepth 100000 in
set_option maxHeartbeats 6400000 in
theorem rowOf0 (w : World) (b : Nat) (nk nf nt nl num : Int) (vk : Value) (a1 : Option Addr) (n1 e1 : Nat) (hb : w.heap[b]? = some (.cells #[.int .i64 nk, .int .i64 nf, .int .i64 nt, .int .i64 nl, .int .i64 num, vk, .slice a1 n1 e1] 81 (0, 0))) :
    Calls Tryz.prog 47 #[.iface 78 (.pointer (some ⟨b, 0, none⟩))] w fun e w' => e = .returned (vNd ⟨nk, nf, nt, nl, 0, 0, ⟨#[]⟩, [], []⟩ (.slice a1 n1 e1) (.slice none 0 0)) ∧ Below w.heap.size w w' := by
  have hm := fun w => meth0 b w
  have ha0 := fun w => as00 b w
  have kh := fun w => head_any b w
  have c0 : w.cell? ⟨b, 0, none⟩ = some (.int .i64 nk) := by rw [cell_of_row _ _ _ _ _ _ hb]; rfl
  have c1 : w.cell? ⟨b, 1, none⟩ = some (.int .i64 nf) := by rw [cell_of_row _ _ _ _ _ _ hb]; rfl
  have c2 : w.cell? ⟨b, 2, none⟩ = some (.int .i64 nt) := by rw [cell_of_row _ _ _ _ _ _ hb]; rfl
  have c3 : w.cell? ⟨b, 3, none⟩ = some (.int .i64 nl) := by rw [cell_of_row _ _ _ _ _ _ hb]; rfl
  have c6 : w.cell? ⟨b, 6, none⟩ = some (.slice a1 n1 e1) := by rw [cell_of_row _ _ _ _ _ _ hb]; rfl
  have hlt := lt_of_block hb
  have hlt2 : b < w.heap.size + 1 := by omega
  have hne1 : b ≠ w.heap.size := by omega
  have hne2 : b ≠ w.heap.size + 1 := by omega
  have hbb : ∀ o1 o2, Below w.heap.size w ((w.alloc o1).alloc o2).drew := fun o1 o2 => bel_drew1 (((Below.refl _ w).alloc (Nat.le_refl _) o1).alloc (by simp) o2)
  unfold vNd
  go_enter Tryz.func47, Tryz.ntmps47
  go_wp2_with (go_at_call 160; refine (kh _).mono ?_; rintro e w' ⟨rfl, rfl⟩)
  go_region_held3 (fun w' => w'.cell? ⟨b, 0, none⟩ = some (.int .i64 nk) ∧ w'.cell? ⟨b, 1, none⟩ = some (.int .i64 nf) ∧ w'.cell? ⟨b, 2, none⟩ = some (.int .i64 nt) ∧ w'.cell? ⟨b, 3, none⟩ = some (.int .i64 nl)) (go_keep) (fail)
  go_wp2_with fail
  exact bodyPost_ret (results_cell_row rfl _ _ w.heap.size _ _ _ _ rfl ((Below.heap_alloc _ _ _ (by simp)).trans (heap_alloc_new w _)) Tryz.underlying67 rfl (by kernel_rfl)) rfl ⟨rfl, hbb _ _⟩
set_option maxRecDepth 100000 in
set_option maxHeartbeats 6400000 in
theorem rowOf1 (w : World) (b : Nat) (nk nf nt nl num : Int) (vk : Value) (nn : Int) (hb : w.heap[b]? = some (.cells #[.int .i64 nk, .int .i64 nf, .int .i64 nt, .int .i64 nl, .int .i64 num, vk, .int .i64 nn] 108 (0, 0))) :
    Calls Tryz.prog 47 #[.iface 106 (.pointer (some ⟨b, 0, none⟩))] w fun e w' => e = .returned (vNd ⟨nk, nf, nt, nl, 0, nn, ⟨#[]⟩, [], []⟩ (.slice none 0 0) (.slice none 0 0)) ∧ Below w.heap.size w w' := by
  have hm := fun w => meth1 b w
  have ha0 := fun w => as10 b w
  have ha1 := fun w => as11 b w
  have kh := fun w => head_any b w
  have c0 : w.cell? ⟨b, 0, none⟩ = some (.int .i64 nk) := by rw [cell_of_row _ _ _ _ _ _ hb]; rfl
  have c1 : w.cell? ⟨b, 1, none⟩ = some (.int .i64 nf) := by rw [cell_of_row _ _ _ _ _ _ hb]; rfl
  have c2 : w.cell? ⟨b, 2, none⟩ = some (.int .i64 nt) := by rw [cell_of_row _ _ _ _ _ _ hb]; rfl
  have c3 : w.cell? ⟨b, 3, none⟩ = some (.int .i64 nl) := by rw [cell_of_row _ _ _ _ _ _ hb]; rfl
  have c6 : w.cell? ⟨b, 6, none⟩ = some (.int .i64 nn) := by rw [cell_of_row _ _ _ _ _ _ hb]; rfl
  have hlt := lt_of_block hb
  have hlt2 : b < w.heap.size + 1 := by omega
  have hne1 : b ≠ w.heap.size := by omega
  have hne2 : b ≠ w.heap.size + 1 := by omega
  have hbb : ∀ o1 o2, Below w.heap.size w ((w.alloc o1).alloc o2).drew := fun o1 o2 => bel_drew1 (((Below.refl _ w).alloc (Nat.le_refl _) o1).alloc (by simp) o2)
  unfold vNd
  go_enter Tryz.func47, Tryz.ntmps47
  go_wp2_with (go_at_call 160; refine (kh _).mono ?_; rintro e w' ⟨rfl, rfl⟩)
  go_region_held3 (fun w' => w'.cell? ⟨b, 0, none⟩ = some (.int .i64 nk) ∧ w'.cell? ⟨b, 1, none⟩ = some (.int .i64 nf) ∧ w'.cell? ⟨b, 2, none⟩ = some (.int .i64 nt) ∧ w'.cell? ⟨b, 3, none⟩ = some (.int .i64 nl)) (go_keep) (fail)
  go_wp2_with fail
  exact bodyPost_ret (results_cell_row rfl _ _ w.heap.size _ _ _ _ rfl ((Below.heap_alloc _ _ _ (by simp)).trans (heap_alloc_new w _)) Tryz.underlying67 rfl (by kernel_rfl)) rfl ⟨rfl, hbb _ _⟩
set_option maxRecDepth 100000 in
set_option maxHeartbeats 6400000 in
theorem rowOf2 (w : World) (b : Nat) (nk nf nt nl num : Int) (vk : Value) (nn : Int) (hb : w.heap[b]? = some (.cells #[.int .i64 nk, .int .i64 nf, .int .i64 nt, .int .i64 nl, .int .i64 num, vk, .int .i64 nn] 111 (0, 0))) :
    Calls Tryz.prog 47 #[.iface 109 (.pointer (some ⟨b, 0, none⟩))] w fun e w' => e = .returned (vNd ⟨nk, nf, nt, nl, 0, nn, ⟨#[]⟩, [], []⟩ (.slice none 0 0) (.slice none 0 0)) ∧ Below w.heap.size w w' := by
  have hm := fun w => meth2 b w
  have ha0 := fun w => as20 b w
  have ha1 := fun w => as21 b w
  have ha2 := fun w => as22 b w
  have kh := fun w => head_any b w
  have c0 : w.cell? ⟨b, 0, none⟩ = some (.int .i64 nk) := by rw [cell_of_row _ _ _ _ _ _ hb]; rfl
  have c1 : w.cell? ⟨b, 1, none⟩ = some (.int .i64 nf) := by rw [cell_of_row _ _ _ _ _ _ hb]; rfl
  have c2 : w.cell? ⟨b, 2, none⟩ = some (.int .i64 nt) := by rw [cell_of_row _ _ _ _ _ _ hb]; rfl
  have c3 : w.cell? ⟨b, 3, none⟩ = some (.int .i64 nl) := by rw [cell_of_row _ _ _ _ _ _ hb]; rfl
  have c6 : w.cell? ⟨b, 6, none⟩ = some (.int .i64 nn) := by rw [cell_of_row _ _ _ _ _ _ hb]; rfl
  have hlt := lt_of_block hb
  have hlt2 : b < w.heap.size + 1 := by omega
  have hne1 : b ≠ w.heap.size := by omega
  have hne2 : b ≠ w.heap.size + 1 := by omega
  have hbb : ∀ o1 o2, Below w.heap.size w ((w.alloc o1).alloc o2).drew := fun o1 o2 => bel_drew1 (((Below.refl _ w).alloc (Nat.le_refl _) o1).alloc (by simp) o2)
  unfold vNd
  go_enter Tryz.func47, Tryz.ntmps47
  go_wp2_with (go_at_call 160; refine (kh _).mono ?_; rintro e w' ⟨rfl, rfl⟩)
  go_region_held3 (fun w' => w'.cell? ⟨b, 0, none⟩ = some (.int .i64 nk) ∧ w'.cell? ⟨b, 1, none⟩ = some (.int .i64 nf) ∧ w'.cell? ⟨b, 2, none⟩ = some (.int .i64 nt) ∧ w'.cell? ⟨b, 3, none⟩ = some (.int .i64 nl)) (go_keep) (fail)
  go_wp2_with fail
  exact bodyPost_ret (results_cell_row rfl _ _ w.heap.size _ _ _ _ rfl ((Below.heap_alloc _ _ _ (by simp)).trans (heap_alloc_new w _)) Tryz.underlying67 rfl (by kernel_rfl)) rfl ⟨rfl, hbb _ _⟩
set_option maxRecDepth 100000 in
set_option maxHeartbeats 6400000 in
theorem rowOf3 (w : World) (b : Nat) (nk nf nt nl num : Int) (vk : Value) (nx : ByteArray) (hb : w.heap[b]? = some (.cells #[.int .i64 nk, .int .i64 nf, .int .i64 nt, .int .i64 nl, .int .i64 num, vk, .string nx] 114 (0, 0))) :
    Calls Tryz.prog 47 #[.iface 112 (.pointer (some ⟨b, 0, none⟩))] w fun e w' => e = .returned (vNd ⟨nk, nf, nt, nl, 0, 0, nx, [], []⟩ (.slice none 0 0) (.slice none 0 0)) ∧ Below w.heap.size w w' := by
  have hm := fun w => meth3 b w
  have ha0 := fun w => as30 b w
  have ha1 := fun w => as31 b w
  have ha2 := fun w => as32 b w
  have ha3 := fun w => as33 b w
  have kh := fun w => head_any b w
  have c0 : w.cell? ⟨b, 0, none⟩ = some (.int .i64 nk) := by rw [cell_of_row _ _ _ _ _ _ hb]; rfl
  have c1 : w.cell? ⟨b, 1, none⟩ = some (.int .i64 nf) := by rw [cell_of_row _ _ _ _ _ _ hb]; rfl
  have c2 : w.cell? ⟨b, 2, none⟩ = some (.int .i64 nt) := by rw [cell_of_row _ _ _ _ _ _ hb]; rfl
  have c3 : w.cell? ⟨b, 3, none⟩ = some (.int .i64 nl) := by rw [cell_of_row _ _ _ _ _ _ hb]; rfl
  have c6 : w.cell? ⟨b, 6, none⟩ = some (.string nx) := by rw [cell_of_row _ _ _ _ _ _ hb]; rfl
  have hlt := lt_of_block hb
  have hlt2 : b < w.heap.size + 1 := by omega
  have hne1 : b ≠ w.heap.size := by omega
  have hne2 : b ≠ w.heap.size + 1 := by omega
  have hbb : ∀ o1 o2, Below w.heap.size w ((w.alloc o1).alloc o2).drew := fun o1 o2 => bel_drew1 (((Below.refl _ w).alloc (Nat.le_refl _) o1).alloc (by simp) o2)
  unfold vNd
  go_enter Tryz.func47, Tryz.ntmps47
  go_wp2_with (go_at_call 160; refine (kh _).mono ?_; rintro e w' ⟨rfl, rfl⟩)
  go_region_held3 (fun w' => w'.cell? ⟨b, 0, none⟩ = some (.int .i64 nk) ∧ w'.cell? ⟨b, 1, none⟩ = some (.int .i64 nf) ∧ w'.cell? ⟨b, 2, none⟩ = some (.int .i64 nt) ∧ w'.cell? ⟨b, 3, none⟩ = some (.int .i64 nl)) (go_keep) (fail)
  go_wp2_with fail
  exact bodyPost_ret (results_cell_row rfl _ _ w.heap.size _ _ _ _ rfl ((Below.heap_alloc _ _ _ (by simp)).trans (heap_alloc_new w _)) Tryz.underlying67 rfl (by kernel_rfl)) rfl ⟨rfl, hbb _ _⟩
set_option maxRecDepth 100000 in
set_option maxHeartbeats 6400000 in
theorem rowOf4 (w : World) (b : Nat) (nk nf nt nl num : Int) (vk : Value) (nop : Int) (hb : w.heap[b]? = some (.cells #[.int .i64 nk, .int .i64 nf, .int .i64 nt, .int .i64 nl, .int .i64 num, vk, .int .i64 nop] 117 (0, 0))) :
    Calls Tryz.prog 47 #[.iface 115 (.pointer (some ⟨b, 0, none⟩))] w fun e w' => e = .returned (vNd ⟨nk, nf, nt, nl, nop, 0, ⟨#[]⟩, [], []⟩ (.slice none 0 0) (.slice none 0 0)) ∧ Below w.heap.size w w' := by
  have hm := fun w => meth4 b w
  have ha0 := fun w => as40 b w
  have ha1 := fun w => as41 b w
  have ha2 := fun w => as42 b w
  have ha3 := fun w => as43 b w
  have ha4 := fun w => as44 b w
  have kh := fun w => head_any b w
  have c0 : w.cell? ⟨b, 0, none⟩ = some (.int .i64 nk) := by rw [cell_of_row _ _ _ _ _ _ hb]; rfl
  have c1 : w.cell? ⟨b, 1, none⟩ = some (.int .i64 nf) := by rw [cell_of_row _ _ _ _ _ _ hb]; rfl
  have c2 : w.cell? ⟨b, 2, none⟩ = some (.int .i64 nt) := by rw [cell_of_row _ _ _ _ _ _ hb]; rfl
  have c3 : w.cell? ⟨b, 3, none⟩ = some (.int .i64 nl) := by rw [cell_of_row _ _ _ _ _ _ hb]; rfl
  have c6 : w.cell? ⟨b, 6, none⟩ = some (.int .i64 nop) := by rw [cell_of_row _ _ _ _ _ _ hb]; rfl
  have hlt := lt_of_block hb
  have hlt2 : b < w.heap.size + 1 := by omega
  have hne1 : b ≠ w.heap.size := by omega
  have hne2 : b ≠ w.heap.size + 1 := by omega
  have hbb : ∀ o1 o2, Below w.heap.size w ((w.alloc o1).alloc o2).drew := fun o1 o2 => bel_drew1 (((Below.refl _ w).alloc (Nat.le_refl _) o1).alloc (by simp) o2)
  unfold vNd
  go_enter Tryz.func47, Tryz.ntmps47
  go_wp2_with (go_at_call 160; refine (kh _).mono ?_; rintro e w' ⟨rfl, rfl⟩)
  go_region_held3 (fun w' => w'.cell? ⟨b, 0, none⟩ = some (.int .i64 nk) ∧ w'.cell? ⟨b, 1, none⟩ = some (.int .i64 nf) ∧ w'.cell? ⟨b, 2, none⟩ = some (.int .i64 nt) ∧ w'.cell? ⟨b, 3, none⟩ = some (.int .i64 nl)) (go_keep) (fail)
  go_wp2_with fail
  exact bodyPost_ret (results_cell_row rfl _ _ w.heap.size _ _ _ _ rfl ((Below.heap_alloc _ _ _ (by simp)).trans (heap_alloc_new w _)) Tryz.underlying67 rfl (by kernel_rfl)) rfl ⟨rfl, hbb _ _⟩
set_option maxRecDepth 100000 in
set_option maxHeartbeats 6400000 in
theorem rowOf5 (w : World) (b : Nat) (nk nf nt nl num : Int) (vk : Value) (a1 : Option Addr) (n1 e1 : Nat) (br : Bool) (hb : w.heap[b]? = some (.cells #[.int .i64 nk, .int .i64 nf, .int .i64 nt, .int .i64 nl, .int .i64 num, vk, .slice a1 n1 e1, .bool br] 120 (0, 0))) :
    Calls Tryz.prog 47 #[.iface 118 (.pointer (some ⟨b, 0, none⟩))] w fun e w' => e = .returned (vNd ⟨nk, nf, nt, nl, (if br then 1 else 0), 0, ⟨#[]⟩, [], []⟩ (.slice a1 n1 e1) (.slice none 0 0)) ∧ Below w.heap.size w w' := by
  have hm := fun w => meth5 b w
  have ha0 := fun w => as50 b w
  have ha1 := fun w => as51 b w
  have ha2 := fun w => as52 b w
  have ha3 := fun w => as53 b w
  have ha4 := fun w => as54 b w
  have ha5 := fun w => as55 b w
  have kh := fun w => head_any b w
  have c0 : w.cell? ⟨b, 0, none⟩ = some (.int .i64 nk) := by rw [cell_of_row _ _ _ _ _ _ hb]; rfl
  have c1 : w.cell? ⟨b, 1, none⟩ = some (.int .i64 nf) := by rw [cell_of_row _ _ _ _ _ _ hb]; rfl
  have c2 : w.cell? ⟨b, 2, none⟩ = some (.int .i64 nt) := by rw [cell_of_row _ _ _ _ _ _ hb]; rfl
  have c3 : w.cell? ⟨b, 3, none⟩ = some (.int .i64 nl) := by rw [cell_of_row _ _ _ _ _ _ hb]; rfl
  have c6 : w.cell? ⟨b, 6, none⟩ = some (.slice a1 n1 e1) := by rw [cell_of_row _ _ _ _ _ _ hb]; rfl
  have c7 : w.cell? ⟨b, 7, none⟩ = some (.bool br) := by rw [cell_of_row _ _ _ _ _ _ hb]; rfl
  have hlt := lt_of_block hb
  have hlt2 : b < w.heap.size + 1 := by omega
  have hne1 : b ≠ w.heap.size := by omega
  have hne2 : b ≠ w.heap.size + 1 := by omega
  have hbb : ∀ o1 o2, Below w.heap.size w ((w.alloc o1).alloc o2).drew := fun o1 o2 => bel_drew1 (((Below.refl _ w).alloc (Nat.le_refl _) o1).alloc (by simp) o2)
  unfold vNd
  cases br
  all_goals
    go_enter Tryz.func47, Tryz.ntmps47
    go_wp2_with (go_at_call 160; refine (kh _).mono ?_; rintro e w' ⟨rfl, rfl⟩)
    go_region_held3 (fun w' => w'.cell? ⟨b, 0, none⟩ = some (.int .i64 nk) ∧ w'.cell? ⟨b, 1, none⟩ = some (.int .i64 nf) ∧ w'.cell? ⟨b, 2, none⟩ = some (.int .i64 nt) ∧ w'.cell? ⟨b, 3, none⟩ = some (.int .i64 nl)) (go_keep) (fail)
    go_wp2_with fail
    exact bodyPost_ret (results_cell_row rfl _ _ w.heap.size _ _ _ _ rfl ((Below.heap_alloc _ _ _ (by simp)).trans (heap_alloc_new w _)) Tryz.underlying67 rfl (by kernel_rfl)) rfl ⟨rfl, hbb _ _⟩
set_option maxRecDepth 100000 in
set_option maxHeartbeats 6400000 in
theorem rowOf6 (w : World) (b : Nat) (nk nf nt nl num : Int) (vk : Value)  (hb : w.heap[b]? = some (.cells #[.int .i64 nk, .int .i64 nf, .int .i64 nt, .int .i64 nl, .int .i64 num, vk] 123 (0, 0))) :
    Calls Tryz.prog 47 #[.iface 121 (.pointer (some ⟨b, 0, none⟩))] w fun e w' => e = .returned (vNd ⟨nk, nf, nt, nl, 0, 0, ⟨#[]⟩, [], []⟩ (.slice none 0 0) (.slice none 0 0)) ∧ Below w.heap.size w w' := by
  have hm := fun w => meth6 b w
  have ha0 := fun w => as60 b w
  have ha1 := fun w => as61 b w
  have ha2 := fun w => as62 b w
  have ha3 := fun w => as63 b w
  have ha4 := fun w => as64 b w
  have ha5 := fun w => as65 b w
  have kh := fun w => head_any b w
  have c0 : w.cell? ⟨b, 0, none⟩ = some (.int .i64 nk) := by rw [cell_of_row _ _ _ _ _ _ hb]; rfl
  have c1 : w.cell? ⟨b, 1, none⟩ = some (.int .i64 nf) := by rw [cell_of_row _ _ _ _ _ _ hb]; rfl
  have c2 : w.cell? ⟨b, 2, none⟩ = some (.int .i64 nt) := by rw [cell_of_row _ _ _ _ _ _ hb]; rfl
  have c3 : w.cell? ⟨b, 3, none⟩ = some (.int .i64 nl) := by rw [cell_of_row _ _ _ _ _ _ hb]; rfl
  have hlt := lt_of_block hb
  have hlt2 : b < w.heap.size + 1 := by omega
  have hne1 : b ≠ w.heap.size := by omega
  have hne2 : b ≠ w.heap.size + 1 := by omega
  have hbb : ∀ o1 o2, Below w.heap.size w ((w.alloc o1).alloc o2).drew := fun o1 o2 => bel_drew1 (((Below.refl _ w).alloc (Nat.le_refl _) o1).alloc (by simp) o2)
  unfold vNd
  go_enter Tryz.func47, Tryz.ntmps47
  go_wp2_with (go_at_call 160; refine (kh _).mono ?_; rintro e w' ⟨rfl, rfl⟩)
  go_region_held3 (fun w' => w'.cell? ⟨b, 0, none⟩ = some (.int .i64 nk) ∧ w'.cell? ⟨b, 1, none⟩ = some (.int .i64 nf) ∧ w'.cell? ⟨b, 2, none⟩ = some (.int .i64 nt) ∧ w'.cell? ⟨b, 3, none⟩ = some (.int .i64 nl)) (go_keep) (fail)
  go_wp2_with fail
  exact bodyPost_ret (results_cell_row rfl _ _ w.heap.size _ _ _ _ rfl ((Below.heap_alloc _ _ _ (by simp)).trans (heap_alloc_new w _)) Tryz.underlying67 rfl (by kernel_rfl)) rfl ⟨rfl, hbb _ _⟩
end Go.Proofs.YtdgbmihokecmhaaGreatDoor
