import Derived.Test.YtkdijoogonigpaaGreatDoorHUk01
import Derived.RangeFuncNested
import Derived.RangeFuncBound
import Derived.OwnWalkIn
import Derived.TacticsInMore
import Derived.LoopNIn
import Derived.LoopIn
set_option linter.all false
open Go.World renaming putObj_heap_other->M
open Option renaming some->N,none->S
open Go renaming World->O,KeepsFrom->R
open Go.Fence renaming wide->Q
namespace Go.Proofs.YtkdijoogonigpaaGreatDoor
open Go.RowKit
def ac6(b:Nat)(d:O)(c:O->Prop):Exit->Act->O->Prop
 | .normal,_,a=>R b d a/\c a
 |_,_,_=>False
theorem Dg{P:Program}{α:Type}{n:Nat}{G:Operand}{i:Array Tmp}{assign body:Code}{F:Exit->Act->O->Prop}{a:Act}{w:O}{gf:Nat}{bd:Array Value}
  (bb:a.eval G= .func (.func gf) bd #[]) (al:∀args w,(callFunc gf args).run P w= .ok (.enter gf args) w) (u:α->Array Value) (bo:∀x,(u x).size=i.size)
  (C:List α->α->O->Prop) (k:List α->O->Prop) (s:List α->α->Act->O->Prop) (D:O->Prop)
  (bx:∀pre b r q,k pre b->b.heap[w.heap.size+1]?=N (.loop r)->k pre (b.putObj (w.heap.size+1) q))
  (bt:∀pre x f b r q,s pre x f b->b.heap[w.heap.size+1]?=N (.loop r)->s pre x f (b.putObj (w.heap.size+1) q)) (bw:∀b r q,D b->b.heap[w.heap.size+1]?=N (.loop r)->D (b.putObj (w.heap.size+1) q))
  (an:∀d,Below w.heap.size w d->d.heap.size=w.heap.size+2->k [] d)
  (a1:∀(l:Nat) pre x b (E:Act->O->Prop),C pre x b->(∀f c,s pre x f c->R w.heap.size b c->E f c)->
   assign.wpIn (Fence.wide.inRound l) (n-1-1) P (Exit.then E (fun _ _ _=>False)) {tmps:=(i.zip (u x)).foldl (fun t (p,v)=>t.setIfInBounds p v) a.tmps,defers:=[]} b)
  (a2:∀(l:Nat) pre x f b,s pre x f b->body.wpIn (Fence.wide.inRound l) (n-1-1) P (ac6 w.heap.size b (k (pre++[x]))) f b)
  (br:∀(l:Nat)(j:O->Prop),(∀b c,R w.heap.size b c->j b->j c)->
   (∀pre x b,C pre x b->j b->YieldAt Q (n-1-1) P l (u x) b fun e c=>e= .returned (.bool true)/\k (pre++[x]) c/\j c)->
   ∀b,k [] b->j b->Below w.heap.size w b->CallsIn Q (n-1) P gf (bd++#[.func (.yield l) #[] #[]]) b fun e c=>(∃v,e= .returned v)/\D c/\j c)
  (a8:∀b,D b->b.heap[w.heap.size]?=N (.deferred (N []))->F .normal {a with defers:={target:= .collected w.heap.size,args:=#[]}::a.defers} b):
  (Code.rangeFunc G i assign body).wpIn Q n P F a w:=by
 refine wpIn_rangeFunc ?_;intro fn a9;show ∃l b7 b8 b3 b9 b4 args ca,(Instr.enterLoop fn a.tmps i assign body S).run P w=_/\_;obtain⟨g,h⟩:∃g:LoopState->Loop,g=fun bE=>{state:=bE,pending:=S,fn,tmps:=a.tmps,params:=i,assign,body,defers:=w.heap.size}:=⟨_,rfl⟩;have z:=run_enterLoop_outer (P:=P) (w:=w) fn a.tmps i assign body;rw[show({state:= .ready,pending:=S,fn,tmps:=a.tmps,params:=i,assign,body,defers:=w.heap.size}:Loop)=g .ready by rw[h]]at z;obtain⟨d,m⟩:=aD ((w.alloc (.deferred (N []))).alloc (.loop (g .ready)));rw[m]at z;have bf:d.heap[w.heap.size+1]?=N (.loop (g .ready)):=by
  rw[<-m];have:=World.alloc_heap_new (w.alloc (.deferred (N []))) (.loop (g .ready));rwa [dI]at this
 have a4:d.heap[w.heap.size]?=N (.deferred (N [])):=by
  rw[<-m];exact(cg _ _ _ (by simp)).trans (World.alloc_heap_new w _)
 have I:Below w.heap.size w d:=by rw[<-m];exact((aq _ w).alloc (ag _) _).alloc (by simp) _
 have bp:d.heap.size=w.heap.size+2:=by rw[<-m];simp
 refine⟨w.heap.size+1,[{target:= .collected w.heap.size,args:=#[]}],d,{target:= .fn (.func gf) #[],args:=bd++#[.func (.yield (w.heap.size+1)) #[] #[]]},d,gf,
  bd++#[.func (.yield (w.heap.size+1)) #[] #[]],d,z,?_,?_,?_,fun am=>by simp[Q]at am,?_⟩
 ·simp only[resolve,bb];simp[go_sem]
 ·intro b5 b6;trivial
 ·simp[invoke,go_sem,al]
 ·refine(br (w.heap.size+1) (fun b=>b.heap[w.heap.size+1]?=N (.loop (g .ready))/\b.heap[w.heap.size]?=N (.deferred (N [])))
   (fun b c J H=>⟨J.same _ _ (by omega) H.1 rfl,J.same _ _ (ag _) H.2 rfl⟩) ?_ d (an d I bp) ⟨bf,a4⟩ I).mono ?_
  ·rintro pre x b ap ⟨o,y⟩;have ak:=run_yield (P:=P) (args:=u x) o (by rw[h];exact bo x);rw[h]at ak;refine⟨fn,_,assign,body,ak,roundIn_of_wpIn a9 (a1 _ pre x b _ ap fun f c av L=>?_)⟩;have A:=L.same _ _ (by omega) o rfl;have a5:=L.same _ _ (ag _) y rfl;have bl:w.heap.size+1<c.heap.size:=(Array.getElem?_eq_some_iff.1 A).1;refine⟨_,run_beginRound A (by rw[h]),?_⟩;have bj:(c.putObj (w.heap.size+1) (.loop {g .ready with state:= .busy})).heap[w.heap.size+1]?=N (.loop {g .ready with state:= .busy}):=World.putObj_heap_same bl;have a6:(c.putObj (w.heap.size+1) (.loop {g .ready with state:= .busy})).heap[w.heap.size]?=N (.deferred (N [])):=(M (by omega)).trans a5;refine wpIn_mono (a2 _ pre x f _ (bt _ _ _ _ _ _ av A)) ?_;rintro e b2 b1 af;cases e with
   |normal=>
    obtain⟨K,bs⟩:=af;have B:=K.same _ _ (by omega) bj rfl;have a7:=K.same _ _ (ag _) a6 rfl;have bn:=(Array.getElem?_eq_some_iff.1 B).1;refine⟨_,_,run_endRound (P:=P) S B,rfl,bx _ _ _ _ bs B,?_,(M (by omega)).trans a7⟩;rw[World.putObj_heap_same bn];simp[h]
   |_=>exact af.elim
  ·rintro e b0 ⟨⟨v,rfl⟩,a0,o,y⟩;refine⟨S,_,by have:=run_endLoop (P:=P) o (by rw[h];simp);rw[h]at this;exact this,?_⟩;exact a8 _ (bw _ _ _ a0 o) ((M (by omega)).trans y)
