import Derived.Test.YtcbmoiabehpliaaGreatDoorHPk08
set_option linter.unusedVariables false
set_option maxRecDepth 100000
set_option maxHeartbeats 6400000
namespace Go.Proofs.YtcbmoiabehpliaaGreatDoor
open Go.RowKit
def aY(k:Int):Nat:=
 if k=2\/k=3\/k=4\/k=9\/k=10\/k=14 then 0
 else if k=5 then 1
 else if k=23 then 2
 else if k=24\/k=25\/k=26\/k=33\/k=42 then 3
 else if k=30\/k=31 then 4
 else if k=36 then 5
 else 6
def eK:Nat->TypeId
 |0=>136
 |1=>139
 |2=>142
 |3=>145
 |4=>148
 |5=>151
 |_=>97
def iU:Nat->TypeId
 |0=>138
 |1=>141
 |2=>144
 |3=>147
 |4=>150
 |5=>153
 |_=>100
def yp(N:Nd)(vn:Value):Nat->List Value
 |0=>[vn]
 |1=>[.int .i64 N.n]
 |2=>[.int .i64 N.n]
 |3=>[.string N.x]
 |4=>[.int .i64 N.op]
 |5=>[vn,.bool (decide (N.op=1))]
 |_=>[]
def bK(W:World)(b:Nat)(N:Nd)(vn:Value)(a:Int)(c:Value):Prop:=
 W.heap[b]?=some (.cells ([.int .i64 N.k,.int .i64 N.f,.int .i64 N.t,.int .i64 N.l,.int .i64 a,c]++yp N vn (aY N.k)).toArray (iU (aY N.k)) (0,0))
def bi(k:Int)(b:Nat):Value:= .iface (eK (aY k)) (.pointer (some ⟨b,0,none⟩))
theorem wU(w:World)(N:Nd)(vn vk:Value)(p:∃a n c,vn= .slice a n c)(r:∃a n c,vk= .slice a n c):
  Calls Tryz.prog 138 #[bu N vn vk] w fun e m=>e= .returned (bi N.k (w.heap.size+1+1))/\bK m (w.heap.size+1+1) N vn 0 (.slice none 0 0)/\Below w.heap.size w m:=by
 obtain⟨u,t,V,rfl⟩:=p;obtain⟨Q,R,L,rfl⟩:=r;unfold bu;obtain⟨b,O,z,G,X,y,E,T,v⟩:=N;have l:∀d f i,Below w.heap.size w (((w.alloc d).alloc f).alloc i):=fun d f i=>(((Below.refl _ w).alloc (Nat.le_refl _) d).alloc (by simp) f).alloc (by simp;omega) i;have o:∀d f (g:Array Value) (h:TypeId),(((w.alloc d).alloc f).alloc (.cells g h)).heap[w.heap.size+1+1]?=some (.cells g h (0,0)):=fun d f g h=>by
  have:=heap_alloc_new ((w.alloc d).alloc f) (.cells g h);rw[World.size_alloc,World.size_alloc]at this;exact this
 unfold bK bi;simp only;by_cases j:b=2\/b=3\/b=4\/b=9\/b=10\/b=14\/b=5\/b=23\/b=24\/b=25\/b=26\/b=33\/b=42\/b=30\/b=31\/b=36
 ·rcases j with rfl|rfl|rfl|rfl|rfl|rfl|rfl|rfl|rfl|rfl|rfl|rfl|rfl|rfl|rfl|rfl;all_goals
   go_in;go_wp2;go_ret;exact⟨rfl,o _ _ _ _,l _ _ _⟩
 ·have q:aY b=6:=by unfold aY;rw[if_neg (by omega),if_neg (by omega),if_neg (by omega),if_neg (by omega),if_neg (by omega),if_neg (by omega)]
  have U:¬b=2:=by omega
  have K:¬b=3:=by omega
  have Z:¬b=4:=by omega
  have J:¬b=9:=by omega
  have I:¬b=10:=by omega
  have Y:¬b=14:=by omega
  have s:¬b=5:=by omega
  have F:¬b=23:=by omega
  have M:¬b=24:=by omega
  have W:¬b=25:=by omega
  have S:¬b=26:=by omega
  have A:¬b=33:=by omega
  have H:¬b=42:=by omega
  have x:¬b=30:=by omega
  have C:¬b=31:=by omega
  have B:¬b=36:=by omega
  rw[q];clear j;go_in;go_wp2;go_ret;exact⟨rfl,o _ _ _ _,l _ _ _⟩
end Go.Proofs.YtcbmoiabehpliaaGreatDoor
