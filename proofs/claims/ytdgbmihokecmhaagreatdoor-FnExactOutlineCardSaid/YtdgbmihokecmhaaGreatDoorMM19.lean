import Derived.Test.YtdgbmihokecmhaaGreatDoorProg
import Derived.RangeFuncNested
import Derived.RangeFuncBound
import Derived.RangeFuncCalls
import Derived.RangeFuncLeaves
import Derived.WalkKit
import Derived.OwnWalkIn
import Derived.TacticsInMore
import Derived.LoopNIn
import Derived.LoopIn
namespace Go.Proofs.YtdgbmihokecmhaaGreatDoor
open Go.RowKit

/-- Where the body of a round goes on, and never leaves. -/
def GoesOn (B : Nat) (W : World) (R : World → Prop) : Exit → Act → World → Prop
  | .normal, _, W' => KeepsFrom B W W' ∧ R W'
  | _, _, _ => False

/-- A range over a function whose iterator keeps its state in cells; no round leaves the loop.
    A: ahead of a round that is handed x, 'pre' having come; Z: behind the rounds 'pre'; Ax: when the loop's variable has been laid. -/
theorem rangeState {P : Program} {α : Type} {n : Nat} {g : Operand} {ps : Array Tmp} {assign body : Code} {Q : Exit → Act → World → Prop} {a : Act} {w : World} {gf : Nat} {bd : Array Value}
    (hg : a.eval g = .func (.func gf) bd #[]) (eg : ∀ args w, (callFunc gf args).run P w = .ok (.enter gf args) w) (encs : α → Array Value) (hps : ∀ x, (encs x).size = ps.size)
    (A : List α → α → World → Prop) (Z : List α → World → Prop) (Ax : List α → α → Act → World → Prop) (D : World → Prop)
    (pZ : ∀ pre W r o, Z pre W → W.heap[w.heap.size + 1]? = some (.loop r) → Z pre (W.putObj (w.heap.size + 1) o))
    (pAx : ∀ pre x a' W r o, Ax pre x a' W → W.heap[w.heap.size + 1]? = some (.loop r) → Ax pre x a' (W.putObj (w.heap.size + 1) o)) (pD : ∀ W r o, D W → W.heap[w.heap.size + 1]? = some (.loop r) → D (W.putObj (w.heap.size + 1) o))
    (h0 : ∀ W1, Below w.heap.size w W1 → W1.heap.size = w.heap.size + 2 → Z [] W1)
    (hassign : ∀ (l : Nat) pre x W (K : Act → World → Prop), A pre x W → (∀ a' W', Ax pre x a' W' → KeepsFrom w.heap.size W W' → K a' W') →
      assign.wpIn (Fence.wide.inRound l) (n - 1 - 1) P (Exit.then K (fun _ _ _ => False)) { tmps := (ps.zip (encs x)).foldl (fun t (p, v) => t.setIfInBounds p v) a.tmps, defers := [] } W)
    (hbody : ∀ (l : Nat) pre x a' W, Ax pre x a' W → body.wpIn (Fence.wide.inRound l) (n - 1 - 1) P (GoesOn w.heap.size W (Z (pre ++ [x]))) a' W)
    (hseq : ∀ (l : Nat) (BK : World → Prop), (∀ W W', KeepsFrom w.heap.size W W' → BK W → BK W') →
      (∀ pre x W, A pre x W → BK W → YieldAt Fence.wide (n - 1 - 1) P l (encs x) W fun e W' => e = .returned (.bool true) ∧ Z (pre ++ [x]) W' ∧ BK W') →
      ∀ W, Z [] W → BK W → Below w.heap.size w W → CallsIn Fence.wide (n - 1) P gf (bd ++ #[.func (.yield l) #[] #[]]) W fun e W' => (∃ v, e = .returned v) ∧ D W' ∧ BK W')
    (hdone : ∀ W, D W → W.heap[w.heap.size]? = some (.deferred (some [])) → Q .normal { a with defers := { target := .collected w.heap.size, args := #[] } :: a.defers } W) :
    (Code.rangeFunc g ps assign body).wpIn Fence.wide n P Q a w := by
  refine wpIn_rangeFunc ?_
  intro fn hfn
  show ∃ l mark w₁ d w₁' f args w₂, (Instr.enterLoop fn a.tmps ps assign body none).run P w = _ ∧ _
  obtain ⟨rc, hrc⟩ : ∃ rc : LoopState → Loop, rc = fun st => { state := st, pending := none, fn, tmps := a.tmps, params := ps, assign, body, defers := w.heap.size } := ⟨_, rfl⟩
  have heq := run_enterLoop_outer (P := P) (w := w) fn a.tmps ps assign body
  rw [show ({ state := .ready, pending := none, fn, tmps := a.tmps, params := ps, assign, body, defers := w.heap.size } : Loop) = rc .ready by rw [hrc]] at heq
  obtain ⟨W1, hW1⟩ : ∃ W1, (w.alloc (.deferred (some []))).alloc (.loop (rc .ready)) = W1 := ⟨_, rfl⟩
  rw [hW1] at heq
  have hl1 : W1.heap[w.heap.size + 1]? = some (.loop (rc .ready)) := by
    rw [← hW1]; have := World.alloc_heap_new (w.alloc (.deferred (some []))) (.loop (rc .ready)); rwa [World.size_alloc] at this
  have hd1 : W1.heap[w.heap.size]? = some (.deferred (some [])) := by
    rw [← hW1]; exact (Below.heap_alloc _ _ _ (by simp)).trans (World.alloc_heap_new w _)
  have hb1 : Below w.heap.size w W1 := by rw [← hW1]; exact ((Below.refl _ w).alloc (Nat.le_refl _) _).alloc (by simp) _
  have hs1 : W1.heap.size = w.heap.size + 2 := by rw [← hW1]; simp
  refine ⟨w.heap.size + 1, [{ target := .collected w.heap.size, args := #[] }], W1, { target := .fn (.func gf) #[], args := bd ++ #[.func (.yield (w.heap.size + 1)) #[] #[]] }, W1, gf,
    bd ++ #[.func (.yield (w.heap.size + 1)) #[] #[]], W1, heq, ?_, ?_, ?_, fun h => by simp [Fence.wide] at h, ?_⟩
  · simp only [resolve, hg]; simp [go_sem]
  · intro f' hf'; trivial
  · simp [invoke, go_sem, eg]
  · refine (hseq (w.heap.size + 1) (fun W => W.heap[w.heap.size + 1]? = some (.loop (rc .ready)) ∧ W.heap[w.heap.size]? = some (.deferred (some [])))
      (fun W W' hk hb => ⟨hk.same _ _ (by omega) hb.1 rfl, hk.same _ _ (Nat.le_refl _) hb.2 rfl⟩) ?_ W1 (h0 W1 hb1 hs1) ⟨hl1, hd1⟩ hb1).mono ?_
    · rintro pre x W hA ⟨hl, hd⟩
      have hy := run_yield (P := P) (args := encs x) hl (by rw [hrc]; exact hps x)
      rw [hrc] at hy
      refine ⟨fn, _, assign, body, hy, roundIn_of_wpIn hfn (hassign _ pre x W _ hA fun a' W' hAx hkf => ?_)⟩
      have hl2 := hkf.same _ _ (by omega) hl rfl
      have hd2 := hkf.same _ _ (Nat.le_refl _) hd rfl
      have hlt : w.heap.size + 1 < W'.heap.size := (Array.getElem?_eq_some_iff.1 hl2).1
      refine ⟨_, run_beginRound hl2 (by rw [hrc]), ?_⟩
      have hl3 : (W'.putObj (w.heap.size + 1) (.loop { rc .ready with state := .busy })).heap[w.heap.size + 1]? = some (.loop { rc .ready with state := .busy }) := World.putObj_heap_same hlt
      have hd3 : (W'.putObj (w.heap.size + 1) (.loop { rc .ready with state := .busy })).heap[w.heap.size]? = some (.deferred (some [])) := (World.putObj_heap_other (by omega)).trans hd2
      refine wpIn_mono (hbody _ pre x a' _ (pAx _ _ _ _ _ _ hAx hl2)) ?_
      rintro e a3 W3 hp
      cases e with
      | normal =>
        obtain ⟨hk3, hz3⟩ := hp
        have hl4 := hk3.same _ _ (by omega) hl3 rfl
        have hd4 := hk3.same _ _ (Nat.le_refl _) hd3 rfl
        have hlt4 := (Array.getElem?_eq_some_iff.1 hl4).1
        refine ⟨_, _, run_endRound (P := P) none hl4, rfl, pZ _ _ _ _ hz3 hl4, ?_, (World.putObj_heap_other (by omega)).trans hd4⟩
        rw [World.putObj_heap_same hlt4]; simp [hrc]
      | _ => exact hp.elim
    · rintro e W2 ⟨⟨v, rfl⟩, hD, hl, hd⟩
      refine ⟨none, _, by have := run_endLoop (P := P) hl (by rw [hrc]; simp); rw [hrc] at this; exact this, ?_⟩
      exact hdone _ (pD _ _ _ hD hl) ((World.putObj_heap_other (by omega)).trans hd)
end Go.Proofs.YtdgbmihokecmhaaGreatDoor
