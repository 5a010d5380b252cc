import Derived.Test.YtkfgnpcanadjhaaGreatDoorHSk03
set_option linter.all false
set_option maxRecDepth 100000
set_option maxHeartbeats 6400000
namespace Go.Proofs.YtkfgnpcanadjhaaGreatDoor
open Go.RowKit
def dL(k:Int):Nat:=
 if k=2\/k=3\/k=4\/k=9\/k=10\/k=14 then 0
 else if k=5 then 1
 else if k=23 then 2
 else if k=24\/k=25\/k=26\/k=33\/k=42 then 3
 else if k=30\/k=31 then 4
 else if k=36 then 5
 else 6
def jd:Nat->TypeId
 |0=>109
 |1=>152
 |2=>160
 |3=>163
 |4=>169
 |5=>188
 |_=>191
def stT:Nat->TypeId
 |0=>112
 |1=>155
 |2=>159
 |3=>162
 |4=>171
 |5=>190
 |_=>193
def exT(N:Nd)(vn:Value):Nat->List Value
 |0=>[vn]
 |1=>[.int .i64 N.n]
 |2=>[.int .i64 N.n]
 |3=>[.string N.x]
 |4=>[.int .i64 N.op]
 |5=>[vn,.bool (decide (N.op=1))]
 |_=>[]
def gl(W:World)(b:Nat)(N:Nd)(vn:Value)(c:Int)(a:Value):Prop:=
 W.heap[b]?=some (.cells ([.int .i64 N.k,.int .i64 N.f,.int .i64 N.t,.int .i64 N.l,.int .i64 c,a]++exT N vn (dL N.k)).toArray (stT (dL N.k)) (0,0))
def gC(k:Int)(b:Nat):Value:= .iface (jd (dL k)) (.pointer (some ⟨b,0,none⟩))
theorem Gt(w:World)(N:Nd)(vn vk:Value)(r:∃a n c,vn= .slice a n c)(q:∃a n c,vk= .slice a n c):
  Calls Tryz.prog 119 #[gF N vn vk] w fun e o=>e= .returned (gC N.k (w.heap.size+1+1))/\gl o (w.heap.size+1+1) N vn 0 (.slice none 0 0)/\Below w.heap.size w o:=by
 obtain⟨s,x,u,rfl⟩:=r
 obtain⟨t,y,v,rfl⟩:=q
 unfold gF
 obtain⟨b,z,G,B,F,C,H,E,A⟩:=N
 have l:∀d f j,Below w.heap.size w (((w.alloc d).alloc f).alloc j):=fun d f j=>(((ag _ w).alloc (ah _) d).alloc (by simp) f).alloc (by simp;omega) j
 have m:∀d f (g:Array Value) (h:TypeId),(((w.alloc d).alloc f).alloc (.cells g h)).heap[w.heap.size+1+1]?=some (.cells g h (0,0)):=fun d f g h=>by
  have:=ay ((w.alloc d).alloc f) (.cells g h)
  rw[db,db]at this
  exact this
 unfold gl gC
 simp only
 by_cases i:b=2\/b=3\/b=4\/b=9\/b=10\/b=14\/b=5\/b=23\/b=24\/b=25\/b=26\/b=33\/b=42\/b=30\/b=31\/b=36
 ·rcases i with rfl|rfl|rfl|rfl|rfl|rfl|rfl|rfl|rfl|rfl|rfl|rfl|rfl|rfl|rfl|rfl
  all_goals
   go_in
   go_wp2
   go_ret
   exact⟨rfl,m _ _ _ _,l _ _ _⟩
 ·have p:dL b=6:=by unfold dL;rw[aa (by omega),aa (by omega),aa (by omega),aa (by omega),aa (by omega),aa (by omega)]
  simp only[not_or]at i
  obtain⟨_,_,_,_,_,_,_,_,_,_,_,_,_,_,_,_⟩:=i
  rw[p]
  go_in
  go_wp2
  go_ret
  exact⟨rfl,m _ _ _ _,l _ _ _⟩
