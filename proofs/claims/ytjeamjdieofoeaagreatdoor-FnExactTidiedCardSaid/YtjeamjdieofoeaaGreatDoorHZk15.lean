import Derived.Test.YtjeamjdieofoeaaGreatDoorHZk03
set_option linter.all false
set_option maxRecDepth 100000
set_option maxHeartbeats 6400000
open Go renaming Value->H,TypeId->I
namespace Go.Proofs.YtjeamjdieofoeaaGreatDoor
open Go.RowKit
def de(k:Int):Nat:=
 if k=2\/k=3\/k=4\/k=9\/k=10\/k=14 then 0
 else if k=5 then 1
 else if k=23 then 2
 else if k=24\/k=25\/k=26\/k=33\/k=42 then 3
 else if k=30\/k=31 then 4
 else if k=36 then 5
 else 6
def jy:Nat->I
 |0=>194
 |1=>154
 |2=>163
 |3=>166
 |4=>172
 |5=>197
 |_=>124
def vw:Nat->I
 |0=>196
 |1=>157
 |2=>162
 |3=>165
 |4=>174
 |5=>199
 |_=>127
def Kw(N:Nd)(vn:H):Nat->List H
 |0=>[vn]
 |1=>[.int .i64 N.n]
 |2=>[.int .i64 N.n]
 |3=>[.string N.x]
 |4=>[.int .i64 N.op]
 |5=>[vn,.bool (decide (N.op=1))]
 |_=>[]
def ft(W:World)(b:Nat)(N:Nd)(vn:H)(c:Int)(a:H):Prop:=
 W.heap[b]?=some (.cells ([.int .i64 N.k,.int .i64 N.f,.int .i64 N.t,.int .i64 N.l,.int .i64 c,a]++Kw N vn (de N.k)).toArray (vw (de N.k)) (0,0))
def er(k:Int)(b:Nat):H:= .iface (jy (de k)) (.pointer (some ⟨b,0,none⟩))
theorem LH(w:World)(N:Nd)(vn vk:H)(q:∃a n c,vn= .slice a n c)(p:∃a n c,vk= .slice a n c):
  Calls Tryz.prog 106 #[jf N vn vk] w fun e w'=>e= .returned (er N.k (w.heap.size+1+1))/\ft w' (w.heap.size+1+1) N vn 0 (.slice none 0 0)/\Below w.heap.size w w':=by
 obtain⟨r,v,t,rfl⟩:=q;obtain⟨s,x,u,rfl⟩:=p;unfold jf;obtain⟨b,y,F,A,E,B,G,C,z⟩:=N;have l:∀d f j,Below w.heap.size w (((w.alloc d).alloc f).alloc j):=fun d f j=>(((ah _ w).alloc (ag _) d).alloc (by simp) f).alloc (by simp;omega) j;have m:∀d f (g:Array H) (h:I),(((w.alloc d).alloc f).alloc (.cells g h)).heap[w.heap.size+1+1]?=some (.cells g h (0,0)):=fun d f g h=>by
  have:=aA ((w.alloc d).alloc f) (.cells g h);rw[cD,cD]at this;exact this
 unfold ft er;simp only;by_cases i:b=2\/b=3\/b=4\/b=9\/b=10\/b=14\/b=5\/b=23\/b=24\/b=25\/b=26\/b=33\/b=42\/b=30\/b=31\/b=36
 ·rcases i with rfl|rfl|rfl|rfl|rfl|rfl|rfl|rfl|rfl|rfl|rfl|rfl|rfl|rfl|rfl|rfl;all_goals
   go_in;go_wp2;go_ret;exact⟨rfl,m _ _ _ _,l _ _ _⟩
 ·have o:de b=6:=by unfold de;rw[aa (by omega),aa (by omega),aa (by omega),aa (by omega),aa (by omega),aa (by omega)]
  simp only[not_or]at i;obtain⟨_,_,_,_,_,_,_,_,_,_,_,_,_,_,_,_⟩:=i;rw[o];go_in;go_wp2;go_ret;exact⟨rfl,m _ _ _ _,l _ _ _⟩
