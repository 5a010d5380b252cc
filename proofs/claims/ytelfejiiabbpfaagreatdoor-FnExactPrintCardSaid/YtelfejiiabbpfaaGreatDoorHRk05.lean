import Derived.Test.YtelfejiiabbpfaaGreatDoorHRk02
set_option linter.unusedVariables false
set_option maxRecDepth 100000
set_option maxHeartbeats 6400000
namespace Go.Proofs.YtelfejiiabbpfaaGreatDoor
open Go.RowKit
def cls (k:Int):Nat:=
 if k=2\/k=3\/k=4\/k=9\/k=10\/k=14 then 0
 else if k=5 then 1
 else if k=23 then 2
 else if k=24\/k=25\/k=26\/k=33\/k=42 then 3
 else if k=30\/k=31 then 4
 else if k=36 then 5
 else 6
def ptT:Nat->TypeId
 |0=>142
 |1=>109
 |2=>118
 |3=>121
 |4=>128
 |5=>145
 |_=>148
def stT:Nat->TypeId
 |0=>144
 |1=>112
 |2=>117
 |3=>120
 |4=>130
 |5=>147
 |_=>150
def exT (N:Nd) (vn:Value):Nat->List Value
 |0=>[vn]
 |1=>[.int .i64 N.n]
 |2=>[.int .i64 N.n]
 |3=>[.string N.x]
 |4=>[.int .i64 N.op]
 |5=>[vn,.bool (decide (N.op=1))]
 |_=>[]
def InBox (W:World) (b:Nat) (N:Nd) (vn:Value) (num:Int) (kids:Value):Prop:=
 W.heap[b]?=some (.cells ([.int .i64 N.k,.int .i64 N.f,.int .i64 N.t,.int .i64 N.l,.int .i64 num,kids]++exT N vn (cls N.k)).toArray (stT (cls N.k)) (0,0))
def nodeV (k:Int) (b:Nat):Value:= .iface (ptT (cls k)) (.pointer (some ⟨b,0,none⟩))
theorem nodeOf_any (w:World) (N:Nd) (vn vk:Value) (hn:∃a n c,vn= .slice a n c) (hk:∃a n c,vk= .slice a n c):
  Calls Tryz.prog 84 #[vNd N vn vk] w fun e w'=>e= .returned (nodeV N.k (w.heap.size+1+1))/\InBox w' (w.heap.size+1+1) N vn 0 (.slice none 0 0)/\Below w.heap.size w w':=by
 obtain⟨a1,n1,c1,rfl⟩:=hn
 obtain⟨a2,n2,c2,rfl⟩:=hk
 unfold vNd
 obtain⟨nk,nf,nt,nl,nop,nn,nx,nnm,nks⟩:=N
 have hbb:∀o1 o2 o3,Below w.heap.size w (((w.alloc o1).alloc o2).alloc o3):=fun o1 o2 o3=>(((Below.refl _ w).alloc (Nat.le_refl _) o1).alloc (by simp) o2).alloc (by simp;omega) o3
 have hnew:∀o1 o2 (cs:Array Value) (t:TypeId),(((w.alloc o1).alloc o2).alloc (.cells cs t)).heap[w.heap.size+1+1]?=some (.cells cs t (0,0)):=fun o1 o2 cs t=>by
  have:=heap_alloc_new ((w.alloc o1).alloc o2) (.cells cs t)
  rw[World.size_alloc,World.size_alloc]at this
  exact this
 unfold InBox nodeV
 simp only
 by_cases h:nk=2\/nk=3\/nk=4\/nk=9\/nk=10\/nk=14\/nk=5\/nk=23\/nk=24\/nk=25\/nk=26\/nk=33\/nk=42\/nk=30\/nk=31\/nk=36
 ·rcases h with rfl|rfl|rfl|rfl|rfl|rfl|rfl|rfl|rfl|rfl|rfl|rfl|rfl|rfl|rfl|rfl
  all_goals
   go_enter Tryz.func84,Tryz.ntmps84
   go_wp2
   go_ret
   exact⟨rfl,hnew _ _ _ _,hbb _ _ _⟩
 ·have e6:cls nk=6:=by unfold cls;rw[if_neg (by omega),if_neg (by omega),if_neg (by omega),if_neg (by omega),if_neg (by omega),if_neg (by omega)]
  have h2:¬nk=2:=by omega
  have h3:¬nk=3:=by omega
  have h4:¬nk=4:=by omega
  have h9:¬nk=9:=by omega
  have h10:¬nk=10:=by omega
  have h14:¬nk=14:=by omega
  have h5:¬nk=5:=by omega
  have h23:¬nk=23:=by omega
  have h24:¬nk=24:=by omega
  have h25:¬nk=25:=by omega
  have h26:¬nk=26:=by omega
  have h33:¬nk=33:=by omega
  have h42:¬nk=42:=by omega
  have h30:¬nk=30:=by omega
  have h31:¬nk=31:=by omega
  have h36:¬nk=36:=by omega
  rw[e6]
  clear h
  go_enter Tryz.func84,Tryz.ntmps84
  go_wp2
  go_ret
  exact⟨rfl,hnew _ _ _ _,hbb _ _ _⟩
end Go.Proofs.YtelfejiiabbpfaaGreatDoor
