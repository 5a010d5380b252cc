import Derived.Test.YthkcmkmkapijkaaGreatDoorh02
set_option linter.all false
set_option maxRecDepth 100000
set_option maxHeartbeats 6400000
open Go.Proofs.Tryz renaming prog->A
open Go renaming TypeId->B,Value->C,World->E
namespace Go.Proofs.YthkcmkmkapijkaaGreatDoor
open Go.RowKit
def eG(k:Int):Nat:=
 if k=2\/k=3\/k=4\/k=9\/k=10\/k=14 then 0
 else if k=5 then 1
 else if k=23 then 2
 else if k=24\/k=25\/k=26\/k=33\/k=42 then 3
 else if k=30\/k=31 then 4
 else if k=36 then 5
 else 6
def nC:Nat->B|0=>203|1=>206|2=>209|3=>212|4=>215|5=>218|_=>131
def BB:Nat->B|0=>205|1=>208|2=>211|3=>214|4=>217|5=>220|_=>134
def exT(N:Nd)(a:C):Nat->zLV|0=>[a]|1=>[zI N.n]|2=>[zI N.n]|3=>[.string N.x]|4=>[zI N.op]|5=>[a,.bool<|decide (N.op=1)]|_=>[]
def im(W:E)(b:Nat)(N:Nd)(d:C)(c:Int)(a:C):Prop:=
 W.heap[b]?=some (.cells ([zI N.k,zI N.f,zI N.t,zI N.l,zI c,a]++exT N d (eG N.k)).toArray (BB<|eG N.k) (0,0))
def iF(k:Int)(b:Nat):C:= .iface (nC<|eG k) (be b 0)
def afe(w N j o)(r:∃a n c,j= .slice a n c)(q:∃a n c,o= .slice a n c):
  Calls A 170 #[jq N j o] w λe b=>e= .returned (iF N.k<|w.heap.size+1+1)/\im b (w.heap.size+1+1) N j 0 fe/\Below w.heap.size w b:=by
 obtain⟨_,_,_,rfl⟩:=r;obtain⟨_,_,_,rfl⟩:=q;unfold jq;obtain⟨b,_,_,_,_,_,_,_,_⟩:=N;have l:=λd f s=>(((ay _ w).alloc eE d).alloc I f).alloc lr s;have m:∀d f (g:zAV) (h:B),(((w.alloc d).alloc f).alloc<|.cells g h).heap[w.heap.size+1+1]?=some (.cells g h (0,0)):=λd f g h=>by
  have:=au ((w.alloc d).alloc f)<|.cells g h
  simp_all
 unfold im iF;simp only;by_cases i:b=2\/b=3\/b=4\/b=9\/b=10\/b=14\/b=5\/b=23\/b=24\/b=25\/b=26\/b=33\/b=42\/b=30\/b=31\/b=36
 .rcases i with rfl|rfl|rfl|rfl|rfl|rfl|rfl|rfl|rfl|rfl|rfl|rfl|rfl|rfl|rfl|rfl;all_goals
   go_in;go_wp2;go_ret;exact⟨R,m _ _ _ _,l _ _ _⟩
 .have p:eG b=6:=by unfold eG;grind
  simp only[not_or]at i;obtain⟨_,_,_,_,_,_,_,_,_,_,_,_,_,_,_,_⟩:=i;rw[p];go_in;go_wp2;go_ret;exact⟨R,m _ _ _ _,l _ _ _⟩
def eD(b w):Calls A 404 #[be b 0] w λe a=>e= .returned (be b 0)/\a=w:=by
 exact giS
def xx(N:Nd):Nat->Nd|0=>⟨N.k,N.f,N.t,N.l,0,0,zE0,N.nm,[]⟩|1=>⟨N.k,N.f,N.t,N.l,0,N.n,zE0,[],[]⟩|2=>⟨N.k,N.f,N.t,N.l,0,N.n,zE0,[],[]⟩|3=>⟨N.k,N.f,N.t,N.l,0,0,N.x,[],[]⟩|4=>⟨N.k,N.f,N.t,N.l,N.op,0,zE0,[],[]⟩|5=>⟨N.k,N.f,N.t,N.l,(ite (N.op=1) 1 0),0,zE0,N.nm,[]⟩|_=>⟨N.k,N.f,N.t,N.l,0,0,zE0,[],[]⟩
def yv(a:C):Nat->C|0=>a|5=>a|_=>fe
def asE(b w d)(h:d=203\/d=206\/d=209\/d=212\/d=215\/d=218\/d=131):(method 520 d (be b 0) "loop.example/warp/impl.head").run A w= .ok (404,be b 0) w:=by rcases h with rfl|rfl|rfl|rfl|rfl|rfl|rfl<;>kernel_rfl
def aus(k):nC k=203\/nC k=206\/nC k=209\/nC k=212\/nC k=215\/nC k=218\/nC k=131:=by
 unfold nC;grind
def vf(k b w):(method 520 (nC k) (be b 0) "loop.example/warp/impl.head").run A w= .ok (404,be b 0) w:=asE b w _<|aus k
def asT(b w d)(h:d=203\/d=206\/d=209\/d=212\/d=215\/d=218\/d=131):(Instr.typeAssert (.iface d<|be b 0) 64 d true).run A w= .ok (.tuple #[be b 0,.bool true]) w:=by obtain rfl|rfl|rfl|rfl|rfl|rfl|rfl:=h<;>kernel_rfl
def asF(b w d e)(h:d=203\/d=206\/d=209\/d=212\/d=215\/d=218\/d=131)(g:e=203\/e=206\/e=209\/e=212\/e=215\/e=218\/e=131)(a:d≠e):(Instr.typeAssert (.iface d<|be b 0) 64 e true).run A w= .ok (.tuple #[.pointer none,.bool false]) w:=by
 obtain rfl|rfl|rfl|rfl|rfl|rfl|rfl:=h;all_goals
  obtain rfl|rfl|rfl|rfl|rfl|rfl|rfl:=g;all_goals first|exact absurd R a|kernel_rfl
