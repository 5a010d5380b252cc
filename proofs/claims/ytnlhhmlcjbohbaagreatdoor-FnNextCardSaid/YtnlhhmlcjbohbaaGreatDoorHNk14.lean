import Derived.Test.YtnlhhmlcjbohbaaGreatDoorHNk02
set_option linter.all false
set_option maxRecDepth 100000
set_option maxHeartbeats 6400000
open Go renaming Value->I,TypeId->J
namespace Go.Proofs.YtnlhhmlcjbohbaaGreatDoor
open Go.RowKit
def ez(k:Int):Nat:=
 if k=2\/k=3\/k=4\/k=9\/k=10\/k=14 then 0
 else if k=5 then 1
 else if k=23 then 2
 else if k=24\/k=25\/k=26\/k=33\/k=42 then 3
 else if k=30\/k=31 then 4
 else if k=36 then 5
 else 6
def pv:Nat->J
 |0=>159
 |1=>162
 |2=>165
 |3=>168
 |4=>171
 |5=>174
 |_=>118
def wu:Nat->J
 |0=>161
 |1=>164
 |2=>167
 |3=>170
 |4=>173
 |5=>176
 |_=>121
def exT(N:Nd)(vn:I):Nat->List I
 |0=>[vn]
 |1=>[.int .i64 N.n]
 |2=>[.int .i64 N.n]
 |3=>[.string N.x]
 |4=>[.int .i64 N.op]
 |5=>[vn,.bool (decide (N.op=1))]
 |_=>[]
def gy(W:World)(b:Nat)(N:Nd)(vn:I)(c:Int)(a:I):Prop:=
 W.heap[b]?=some (.cells ([.int .i64 N.k,.int .i64 N.f,.int .i64 N.t,.int .i64 N.l,.int .i64 c,a]++exT N vn (ez N.k)).toArray (wu (ez N.k)) (0,0))
def fl(k:Int)(b:Nat):I:= .iface (pv (ez k)) (.pointer (some ⟨b,0,none⟩))
theorem aaJ(w:World)(N:Nd)(vn vk:I)(r:∃a n c,vn= .slice a n c)(q:∃a n c,vk= .slice a n c):
  Calls Tryz.prog 146 #[jo N vn vk] w fun e o=>e= .returned (fl N.k (w.heap.size+1+1))/\gy o (w.heap.size+1+1) N vn 0 (.slice none 0 0)/\Below w.heap.size w o:=by
 obtain⟨s,x,u,rfl⟩:=r;obtain⟨t,y,v,rfl⟩:=q;unfold jo;obtain⟨b,z,G,B,F,C,H,E,A⟩:=N;have l:∀d f j,Below w.heap.size w (((w.alloc d).alloc f).alloc j):=fun d f j=>(((ah _ w).alloc (ae _) d).alloc (by simp) f).alloc (by simp;omega) j;have m:∀d f (g:Array I) (h:J),(((w.alloc d).alloc f).alloc (.cells g h)).heap[w.heap.size+1+1]?=some (.cells g h (0,0)):=fun d f g h=>by
  have:=ay ((w.alloc d).alloc f) (.cells g h);rw[dr,dr]at this;exact this
 unfold gy fl;simp only;by_cases i:b=2\/b=3\/b=4\/b=9\/b=10\/b=14\/b=5\/b=23\/b=24\/b=25\/b=26\/b=33\/b=42\/b=30\/b=31\/b=36
 ·rcases i with rfl|rfl|rfl|rfl|rfl|rfl|rfl|rfl|rfl|rfl|rfl|rfl|rfl|rfl|rfl|rfl;all_goals
   go_in;go_wp2;go_ret;exact⟨rfl,m _ _ _ _,l _ _ _⟩
 ·have p:ez b=6:=by unfold ez;rw[aa (by omega),aa (by omega),aa (by omega),aa (by omega),aa (by omega),aa (by omega)]
  simp only[not_or]at i;obtain⟨_,_,_,_,_,_,_,_,_,_,_,_,_,_,_,_⟩:=i;rw[p];go_in;go_wp2;go_ret;exact⟨rfl,m _ _ _ _,l _ _ _⟩
