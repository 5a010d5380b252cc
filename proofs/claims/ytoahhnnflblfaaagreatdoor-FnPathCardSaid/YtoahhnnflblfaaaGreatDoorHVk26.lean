import Derived.Test.YtoahhnnflblfaaaGreatDoorHVk04
set_option linter.all false
set_option maxRecDepth 100000
set_option maxHeartbeats 6400000
open Go renaming Value->M,TypeId->O
namespace Go.Proofs.YtoahhnnflblfaaaGreatDoor
open Go.RowKit
def ic(k:Int):Nat:=
 if k=2\/k=3\/k=4\/k=9\/k=10\/k=14 then 0
 else if k=5 then 1
 else if k=23 then 2
 else if k=24\/k=25\/k=26\/k=33\/k=42 then 3
 else if k=30\/k=31 then 4
 else if k=36 then 5
 else 6
def nF:Nat->O
 |0=>140
 |1=>143
 |2=>146
 |3=>149
 |4=>152
 |5=>155
 |_=>158
def stT:Nat->O
 |0=>142
 |1=>145
 |2=>148
 |3=>151
 |4=>154
 |5=>157
 |_=>160
def exT(N:Nd)(vn:M):Nat->List M
 |0=>[vn]
 |1=>[.int .i64 N.n]
 |2=>[.int .i64 N.n]
 |3=>[.string N.x]
 |4=>[.int .i64 N.op]
 |5=>[vn,.bool (decide (N.op=1))]
 |_=>[]
def jc(a:World)(b:Nat)(N:Nd)(vn:M)(d:Int)(c:M):Prop:=
 a.heap[b]?=some (.cells ([.int .i64 N.k,.int .i64 N.f,.int .i64 N.t,.int .i64 N.l,.int .i64 d,c]++exT N vn (ic N.k)).toArray (stT (ic N.k)) (0,0))
def jd(k:Int)(b:Nat):M:= .iface (nF (ic k)) (.pointer (some ⟨b,0,none⟩))
theorem Js(w:World)(N:Nd)(vn vk:M)(r:∃a n c,vn= .slice a n c)(q:∃a n c,vk= .slice a n c):
  Calls Tryz.prog 47 #[dy N vn vk] w fun e o=>e= .returned (jd N.k (w.heap.size+1+1))/\jc o (w.heap.size+1+1) N vn 0 (.slice none 0 0)/\Below w.heap.size w o:=by
 obtain⟨s,al,u,rfl⟩:=r;obtain⟨t,am,v,rfl⟩:=q;unfold dy;obtain⟨b,an,a4,ap,a3,av,a5,a0,ao⟩:=N;have l:∀d f i,Below w.heap.size w (((w.alloc d).alloc f).alloc i):=fun d f i=>(((ai _ w).alloc (ag _) d).alloc (by simp) f).alloc (by simp;omega) i;have m:∀d f (g:Array M) (h:O),(((w.alloc d).alloc f).alloc (.cells g h)).heap[w.heap.size+1+1]?=some (.cells g h (0,0)):=fun d f g h=>by
  have:=ar ((w.alloc d).alloc f) (.cells g h);rw[bu,bu]at this;exact this
 unfold jc jd;simp only;by_cases j:b=2\/b=3\/b=4\/b=9\/b=10\/b=14\/b=5\/b=23\/b=24\/b=25\/b=26\/b=33\/b=42\/b=30\/b=31\/b=36
 ·rcases j with rfl|rfl|rfl|rfl|rfl|rfl|rfl|rfl|rfl|rfl|rfl|rfl|rfl|rfl|rfl|rfl;all_goals
   go_in;go_wp2;go_ret;exact⟨rfl,m _ _ _ _,l _ _ _⟩
 ·have p:ic b=6:=by unfold ic;rw[aa (by omega),aa (by omega),aa (by omega),aa (by omega),aa (by omega),aa (by omega)]
  have z:¬b=2:=by omega
  have F:¬b=3:=by omega
  have K:¬b=4:=by omega
  have ak:¬b=9:=by omega
  have x:¬b=10:=by omega
  have y:¬b=14:=by omega
  have af:¬b=5:=by omega
  have A:¬b=23:=by omega
  have B:¬b=24:=by omega
  have C:¬b=25:=by omega
  have E:¬b=26:=by omega
  have I:¬b=33:=by omega
  have L:¬b=42:=by omega
  have G:¬b=30:=by omega
  have H:¬b=31:=by omega
  have J:¬b=36:=by omega
  rw[p];clear j;go_in;go_wp2;go_ret;exact⟨rfl,m _ _ _ _,l _ _ _⟩
