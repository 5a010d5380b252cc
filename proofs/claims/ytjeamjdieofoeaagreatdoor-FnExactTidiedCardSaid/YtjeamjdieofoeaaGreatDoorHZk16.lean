import Derived.Test.YtjeamjdieofoeaaGreatDoorHZk15
import Derived.Test.YtjeamjdieofoeaaGreatDoorHZk06
set_option linter.all false
set_option maxRecDepth 100000
set_option maxHeartbeats 3200000
open Go.Value renaming int->M,pointer->R,tuple->Ax
open Go.IntKind renaming i64->O
open Option renaming none->Q,some->U
open Go.Proofs.Tryz renaming prog->S
open Go renaming World->T,TypeId->X,Value->Y,undef->Z
open Go.RowKit renaming Below->V
namespace Go.Proofs.YtjeamjdieofoeaaGreatDoor
open Go.RowKit
theorem da(b:Nat)(w:T):Calls S 336 #[R (U ⟨b,0,Q⟩)] w fun e w'=>e= .returned (R (U ⟨b,0,Q⟩))/\w'=w:=by
 go_in;go_wp2;go_ret;exact⟨rfl,rfl⟩
def mz(N:Nd):Nat->Nd
 |0=>⟨N.k,N.f,N.t,N.l,0,0,⟨#[]⟩,N.nm,[]⟩
 |1=>⟨N.k,N.f,N.t,N.l,0,N.n,⟨#[]⟩,[],[]⟩
 |2=>⟨N.k,N.f,N.t,N.l,0,N.n,⟨#[]⟩,[],[]⟩
 |3=>⟨N.k,N.f,N.t,N.l,0,0,N.x,[],[]⟩
 |4=>⟨N.k,N.f,N.t,N.l,N.op,0,⟨#[]⟩,[],[]⟩
 |5=>⟨N.k,N.f,N.t,N.l,(if N.op=1 then 1 else 0),0,⟨#[]⟩,N.nm,[]⟩
 |_=>⟨N.k,N.f,N.t,N.l,0,0,⟨#[]⟩,[],[]⟩
def tq(vn:Y):Nat->Y
 |0=>vn
 |5=>vn
 |_=> .slice Q 0 0
theorem akh(b:Nat)(w:T)(a:X)(h:a=194\/a=154\/a=163\/a=166\/a=172\/a=197\/a=124):(method 443 a (R (U ⟨b,0,Q⟩)) "loop.example/warp/impl.head").run S w= .ok (336,R (U ⟨b,0,Q⟩)) w:=by rcases h with rfl|rfl|rfl|rfl|rfl|rfl|rfl<;>kernel_rfl
theorem alg(k:Nat):jy k=194\/jy k=154\/jy k=163\/jy k=166\/jy k=172\/jy k=197\/jy k=124:=by
 unfold jy;split<;>decide
theorem ru(k b:Nat)(w:T):(method 443 (jy k) (R (U ⟨b,0,Q⟩)) "loop.example/warp/impl.head").run S w= .ok (336,R (U ⟨b,0,Q⟩)) w:=akh b w _ (alg k)
theorem asT(b:Nat)(w:T)(a:X)(h:a=194\/a=154\/a=163\/a=166\/a=172\/a=197\/a=124):(Instr.typeAssert (.iface a (R (U ⟨b,0,Q⟩))) 49 a true).run S w= .ok (Ax #[R (U ⟨b,0,Q⟩),.bool true]) w:=by rcases h with rfl|rfl|rfl|rfl|rfl|rfl|rfl<;>kernel_rfl
theorem asF(b:Nat)(w:T)(a e:X)(h:a=194\/a=154\/a=163\/a=166\/a=172\/a=197\/a=124)(g:e=194\/e=154\/e=163\/e=166\/e=172\/e=197\/e=124)(c:a≠e):(Instr.typeAssert (.iface a (R (U ⟨b,0,Q⟩))) 49 e true).run S w= .ok (Ax #[R Q,.bool false]) w:=by
 rcases h with rfl|rfl|rfl|rfl|rfl|rfl|rfl;all_goals
  rcases g with rfl|rfl|rfl|rfl|rfl|rfl|rfl;all_goals first|exact absurd rfl c|kernel_rfl
open Go.Maps Go.WideMaps
def EE:Array Y:=#[M O 26,M O 1,M O 2,M O 10,M O 2,M O 3,M O 73,M O 3,M O 4,M O 74,M O 3,M O 4,M O 75,M O 3,M O 4,M O 76,M O 3,M O 4,M O 77,M O 3,M O 4,M O 78,M O 3,M O 4,
 M O 72,M O 4,M O 4,M O 68,M O 5,M O 6,M O 69,M O 6,M O 7,M O 67,M O 7,M O 8,M O 70,M O 8,M O 9,M O 71,M O 8,M O 9,M O 61,M O 9,M O 10,M O 62,M O 9,M O 10,
 M O 63,M O 10,M O 11,M O 64,M O 10,M O 11,M O 65,M O 10,M O 11,M O 66,M O 10,M O 11]
def qk:List Int:=[26,10,73,74,75,76,77,78,72,68,69,67,70,71,61,62,63,64,65,66]
def mo(k:Nat):Int:=match EE.getD k (M O 0) with| .int _ a=>a|_=>0
theorem aki(k:Nat)(a:k<20)(w:T):(Instr.index 234 (.agg EE) (M O (k:Int))).run S w= .ok (.agg #[M O (qk.getD k 0),M O (mo (3*k+1)),M O (mo (3*k+2))]) w:=by
 rcases(show k=0\/k=1\/k=2\/k=3\/k=4\/k=5\/k=6\/k=7\/k=8\/k=9\/k=10\/k=11\/k=12\/k=13\/k=14\/k=15\/k=16\/k=17\/k=18\/k=19 by omega) with rfl|rfl|rfl|rfl|rfl|rfl|rfl|rfl|rfl|rfl|rfl|rfl|rfl|rfl|rfl|rfl|rfl|rfl|rfl|rfl;all_goals kernel_rfl
theorem mA{fn:Func}{p q:Tmp}{u:X}(h:fn.results=#[.cell q u,.tmp p])(tmps:Array Y)(P:Program)(w:T)(a:Addr)(v b:Y)(d:tmps.getD p Z=v)(f:tmps.getD q Z= R (U a))
  (c:(loadVar u a).run P w= .ok b w):(results fn tmps).run P w= .ok (Ax #[b,v]) w:=by
 have e:tmps[p]?.getD Z=v:=by simpa using d
 have g:tmps[q]?.getD Z= R (U a):=by simpa using f
 simp only[results,h];simp[Result.andThen,e,g,asAddr,c]
def eA(b:Nat)(W:T)(x a z:Int):Prop:=W.heap[b]?=U (.cells #[M O x,M O a,M O z] 168 (0,0))
theorem vy(w:T)(b:Nat)(x a z:Int)(h:eA b w x a z):(loadVar 168 ⟨b,0,Q⟩).run S w= .ok (.agg #[.int .i64 x,.int .i64 a,.int .i64 z]) w:=
 Fv w b 168 168 _ _ _ h Tryz.underlying168 rfl (by kernel_rfl)
theorem eA.put{b:Nat}{W:T}{x e z:Int}(h:eA b W x e z)(a c d:Int):eA b (((W.setCell ⟨b,0,Q⟩ (M O a)).setCell ⟨b,1,Q⟩ (M O c)).setCell ⟨b,2,Q⟩ (M O d)) a c d:=
 bz _ b 2 _ _ _ (bz _ b 1 _ _ _ (bz _ b 0 _ _ _ h))
theorem eA.cells{b:Nat}{W:T}{x a z:Int}(h:eA b W x a z):W.cell? ⟨b,0,Q⟩=U (M O x)/\W.cell? ⟨b,1,Q⟩=U (M O a)/\W.cell? ⟨b,2,Q⟩=U (M O z)/\∀j,W.frozen? ⟨b,j,Q⟩=false:=by
 unfold eA at h;exact⟨by rw[au _ _ _ _ _ _ h];rfl,by rw[au _ _ _ _ _ _ h];rfl,by rw[au _ _ _ _ _ _ h];rfl,fun j=>co _ _ _ _ _ h⟩
theorem sD(w:T)(y:X)(fr:Nat×Nat)(t:w.heap[3]?=U (.cells EE y fr))(j:Nat)(ad:j<20)(kind:Int)(h:qk.getD j 0=kind)(x:∀i,i<j->qk.getD i 0≠kind):
  Calls S 195 #[.int .i64 kind] w fun e w'=>e= .returned (.tuple #[.agg #[.int .i64 kind,.int .i64 (mo (3*j+1)),.int .i64 (mo (3*j+2))],.bool true])/\V w.heap.size w w':=by
 have E:=ai t;have u:∀a,V w.heap.size w (w.alloc a):=fun a=>(ah _ w).alloc (ag _) a;have q:eA w.heap.size (w.alloc (.cells #[.int .i64 0,.int .i64 0,.int .i64 0] 168)) 0 0 0:=aA w _;have z:Hid (eA w.heap.size (w.alloc (.cells #[.int .i64 0,.int .i64 0,.int .i64 0] 168)) 0 0 0/\V w.heap.size w (w.alloc (.cells #[.int .i64 0,.int .i64 0,.int .i64 0] 168))):=⟨q,u _⟩;have A:=aq x;have B:=aq h;clear x h q;go_in;go_wp2_with (refine uB rfl 234 _ rfl 3 rfl y _ fr _ (((u _).block _ E).trans t) Tryz.underlying234 rfl (by kernel_rfl) ?_);go_loopw [7] (fun p wr=>∃b:Nat,b<=j/\p= .int .i64 b/\Hid (eA w.heap.size wr 0 0 0/\V w.heap.size w wr)) (fun p _=>20-(intOf p).toNat)
 case atStart=>exact⟨0,by omega,rfl,z⟩
 case round=>
  obtain⟨b,h,rfl,f⟩:=hrel;have F:b<20:=by omega
  have g:=fun w=>aki b F w;have H:=ai f.1;obtain⟨I,J,K,L⟩:=f.1.cells;have v:∀a,V wr.heap.size wr (wr.alloc a):=fun a=>(ah _ wr).alloc (ag _) a;rcases iL h with rfl|hlt
  ·rw[B.out]at g;obtain⟨c,m⟩:=az (mo (3*b+1));obtain⟨d,n⟩:=az (mo (3*b+2));rw[m,n]at g;have s:=gI m n;clear m n;have o:=eA.put f.1 kind c d;have k:V w.heap.size w (((wr.setCell ⟨w.heap.size,0,Q⟩ (.int .i64 kind)).setCell ⟨w.heap.size,1,Q⟩ (.int .i64 c)).setCell ⟨w.heap.size,2,Q⟩ (.int .i64 d)):=((f.2.setCell (ag _) _).setCell (ag _) _).setCell (ag _) _;have l:∀a,V (((wr.setCell ⟨w.heap.size,0,Q⟩ (.int .i64 kind)).setCell ⟨w.heap.size,1,Q⟩ (.int .i64 c)).setCell ⟨w.heap.size,2,Q⟩ (.int .i64 d)).heap.size (((wr.setCell ⟨w.heap.size,0,Q⟩ (.int .i64 kind)).setCell ⟨w.heap.size,1,Q⟩ (.int .i64 c)).setCell ⟨w.heap.size,2,Q⟩ (.int .i64 d)) ((((wr.setCell ⟨w.heap.size,0,Q⟩ (.int .i64 kind)).setCell ⟨w.heap.size,1,Q⟩ (.int .i64 c)).setCell ⟨w.heap.size,2,Q⟩ (.int .i64 d)).alloc a):=fun a=>(ah _ _).alloc (ag _) a;have r:Hid ((∀a,eA w.heap.size ((((wr.setCell ⟨w.heap.size,0,Q⟩ (.int .i64 kind)).setCell ⟨w.heap.size,1,Q⟩ (.int .i64 c)).setCell ⟨w.heap.size,2,Q⟩ (.int .i64 d)).alloc a) kind c d)/\(∀a,V w.heap.size w ((((wr.setCell ⟨w.heap.size,0,Q⟩ (.int .i64 kind)).setCell ⟨w.heap.size,1,Q⟩ (.int .i64 c)).setCell ⟨w.heap.size,2,Q⟩ (.int .i64 d)).alloc a))):=⟨fun a=>((l a).block _ (ai o)).trans o,fun a=>k.trans ((l a).mono k.size)⟩;clear o k l;go_wp21
   exact aI (mA rfl _ _ _ ⟨w.heap.size,0,Q⟩ (.bool true) _ rfl rfl (vy _ _ _ _ _ (r.1 _))) rfl ⟨by rw[s.out.1,s.out.2],r.2 _⟩
  ·have G:=A.out b hlt;generalize mo (3*b+1)=c at g;generalize mo (3*b+2)=d at g;generalize qk.getD b 0=af at g G;have C:Hid (∀a,eA w.heap.size (wr.alloc a) 0 0 0/\V w.heap.size w (wr.alloc a)):=fun a=>⟨((v a).block _ H).trans f.1,f.2.trans ((v a).mono f.2.size)⟩;go_wp21
   exact⟨⟨b+1,by omega,by go_num,C _⟩,by simp[intOf];omega⟩
