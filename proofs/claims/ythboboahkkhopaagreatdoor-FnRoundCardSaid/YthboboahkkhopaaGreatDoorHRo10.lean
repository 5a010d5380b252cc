import Derived.Test.YthboboahkkhopaaGreatDoorHRo02
set_option linter.all false
set_option maxRecDepth 100000
set_option maxHeartbeats 6400000
open Go renaming Value->J,TypeId->K
namespace Go.Proofs.YthboboahkkhopaaGreatDoor
open Go.RowKit
def dF(k:Int):Nat:=
 if k=2\/k=3\/k=4\/k=9\/k=10\/k=14 then 0
 else if k=5 then 1
 else if k=23 then 2
 else if k=24\/k=25\/k=26\/k=33\/k=42 then 3
 else if k=30\/k=31 then 4
 else if k=36 then 5
 else 6
def lH:Nat->K
 |0=>198
 |1=>150
 |2=>159
 |3=>162
 |4=>169
 |5=>201
 |_=>129
def yi:Nat->K
 |0=>200
 |1=>153
 |2=>158
 |3=>161
 |4=>171
 |5=>203
 |_=>132
def exT(N:Nd)(a:J):Nat->List J
 |0=>[a]
 |1=>[.int .i64 N.n]
 |2=>[.int .i64 N.n]
 |3=>[.string N.x]
 |4=>[.int .i64 N.op]
 |5=>[a,.bool (decide (N.op=1))]
 |_=>[]
def ic(W:World)(b:Nat)(N:Nd)(d:J)(c:Int)(a:J):Prop:=
 W.heap[b]?=some (.cells ([.int .i64 N.k,.int .i64 N.f,.int .i64 N.t,.int .i64 N.l,.int .i64 c,a]++exT N d (dF N.k)).toArray (yi (dF N.k)) (0,0))
def gB(k:Int)(b:Nat):J:= .iface (lH (dF k)) (.pointer (some ⟨b,0,none⟩))
def abu(w:World)(N:Nd)(l p:J)(s:∃a n c,l= .slice a n c)(r:∃a n c,p= .slice a n c):
  Calls Tryz.prog 110 #[jG N l p] w λe w'=>e= .returned (gB N.k (w.heap.size+1+1))/\ic w' (w.heap.size+1+1) N l 0 (.slice none 0 0)/\be w w':=by
 obtain⟨t,y,v,rfl⟩:=s;obtain⟨u,z,x,rfl⟩:=r;unfold jG;obtain⟨b,A,H,C,G,E,I,F,B⟩:=N;have m:∀d f j,be w (((w.alloc d).alloc f).alloc j):=λd f j=>(((ah _ w).alloc (af _) d).alloc (by simp) f).alloc (by simp;omega) j;have o:∀d f (g:Array J) (h:K),(((w.alloc d).alloc f).alloc (.cells g h)).heap[w.heap.size+1+1]?=some (.cells g h (0,0)):=λd f g h=>by
  have:=aB ((w.alloc d).alloc f) (.cells g h);rw[dm,dm]at this;exact this
 unfold ic gB;simp only;by_cases i:b=2\/b=3\/b=4\/b=9\/b=10\/b=14\/b=5\/b=23\/b=24\/b=25\/b=26\/b=33\/b=42\/b=30\/b=31\/b=36
 .rcases i with rfl|rfl|rfl|rfl|rfl|rfl|rfl|rfl|rfl|rfl|rfl|rfl|rfl|rfl|rfl|rfl;all_goals
   go_in;go_wp2;go_ret;exact⟨rfl,o _ _ _ _,m _ _ _⟩
 .have q:dF b=6:=by unfold dF;rw[aa (by omega),aa (by omega),aa (by omega),aa (by omega),aa (by omega),aa (by omega)]
  simp only[not_or]at i;obtain⟨_,_,_,_,_,_,_,_,_,_,_,_,_,_,_,_⟩:=i;rw[q];go_in;go_wp2;go_ret;exact⟨rfl,o _ _ _ _,m _ _ _⟩
