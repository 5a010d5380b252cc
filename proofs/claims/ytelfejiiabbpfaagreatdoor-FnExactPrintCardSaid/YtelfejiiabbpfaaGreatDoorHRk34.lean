import Derived.Test.YtelfejiiabbpfaaGreatDoorHRk32
import Derived.Test.YtelfejiiabbpfaaGreatDoorHRk33
import Derived.Test.YtelfejiiabbpfaaGreatDoorHRk28
import Derived.Test.YtelfejiiabbpfaaGreatDoorHRk01
set_option linter.unusedVariables false
set_option maxRecDepth 100000
set_option maxHeartbeats 6400000
namespace Go.Proofs.YtelfejiiabbpfaaGreatDoor
open Go.RowKit Go.Maps Go.WideMaps
theorem implQuoteP (s:ByteArray) (hs:s.size<=4000) (w:World):Calls Tryz.prog 97 #[.string s] w fun e w'=>e= .returned (.string (strI (quoteI s)))/\Below w.heap.size w w':=by
 refine(implQuote s hs w).mono ?_
 rintro e w' h
 first|exact h|exact⟨h.1,h.2⟩
def powVP:Array Value:=#[.int .i64 26,.int .i64 1,.int .i64 2,.int .i64 10,.int .i64 2,.int .i64 3,.int .i64 73,.int .i64 3,.int .i64 4,.int .i64 74,.int .i64 3,.int .i64 4,.int .i64 75,.int .i64 3,.int .i64 4,.int .i64 76,.int .i64 3,.int .i64 4,.int .i64 77,.int .i64 3,.int .i64 4,.int .i64 78,.int .i64 3,.int .i64 4,
 .int .i64 72,.int .i64 4,.int .i64 4,.int .i64 68,.int .i64 5,.int .i64 6,.int .i64 69,.int .i64 6,.int .i64 7,.int .i64 67,.int .i64 7,.int .i64 8,.int .i64 70,.int .i64 8,.int .i64 9,.int .i64 71,.int .i64 8,.int .i64 9,.int .i64 61,.int .i64 9,.int .i64 10,.int .i64 62,.int .i64 9,.int .i64 10,
 .int .i64 63,.int .i64 10,.int .i64 11,.int .i64 64,.int .i64 10,.int .i64 11,.int .i64 65,.int .i64 10,.int .i64 11,.int .i64 66,.int .i64 10,.int .i64 11]
def powKP:List Int:=[26,10,73,74,75,76,77,78,72,68,69,67,70,71,61,62,63,64,65,66]
def powIP (k:Nat):Int:=match powVP.getD k (.int .i64 0) with| .int _ z=>z|_=>0
theorem pidxP (k:Nat) (hk:k<20) (w:World):(Instr.index 189 (.agg powVP) (.int .i64 (k:Int))).run Tryz.prog w= .ok (.agg #[.int .i64 (powKP.getD k 0),.int .i64 (powIP (3*k+1)),.int .i64 (powIP (3*k+2))]) w:=by
 rcases(show k=0\/k=1\/k=2\/k=3\/k=4\/k=5\/k=6\/k=7\/k=8\/k=9\/k=10\/k=11\/k=12\/k=13\/k=14\/k=15\/k=16\/k=17\/k=18\/k=19 by omega) with rfl|rfl|rfl|rfl|rfl|rfl|rfl|rfl|rfl|rfl|rfl|rfl|rfl|rfl|rfl|rfl|rfl|rfl|rfl|rfl
 all_goals kernel_rfl
theorem results_ct {fn:Func}{p q:Tmp}{u:TypeId}(h:fn.results=#[.cell q u,.tmp p]) (tmps:Array Value) (P:Program) (w:World) (a:Addr) (v v':Value) (hp:tmps.getD p undef=v) (hq:tmps.getD q undef= .pointer (some a))
  (h2:(loadVar u a).run P w= .ok v' w):(results fn tmps).run P w= .ok (.tuple #[v',v]) w:=by
 have hp':tmps[p]?.getD undef=v:=by simpa using hp
 have hq':tmps[q]?.getD undef= .pointer (some a):=by simpa using hq
 simp only[results,h]
 simp[Result.andThen,hp',hq',asAddr,h2]
def PwBox (b:Nat) (W:World) (x y z:Int):Prop:=W.heap[b]?=some (.cells #[.int .i64 x,.int .i64 y,.int .i64 z] 124 (0,0))
theorem load_pw (w:World) (b:Nat) (x y z:Int) (h:PwBox b w x y z):(loadVar 124 ⟨b,0,none⟩).run Tryz.prog w= .ok (.agg #[.int .i64 x,.int .i64 y,.int .i64 z]) w:=
 run_loadVar_row w b 124 124 _ _ _ h Tryz.underlying124 rfl (by kernel_rfl)
theorem PwBox.put {b:Nat}{W:World}{x y z:Int}(h:PwBox b W x y z) (x' y' z':Int):PwBox b (((W.setCell ⟨b,0,none⟩ (.int .i64 x')).setCell ⟨b,1,none⟩ (.int .i64 y')).setCell ⟨b,2,none⟩ (.int .i64 z')) x' y' z':=
 heap_setCell_same _ b 2 _ _ _ (heap_setCell_same _ b 1 _ _ _ (heap_setCell_same _ b 0 _ _ _ h))
theorem PwBox.cells {b:Nat}{W:World}{x y z:Int}(h:PwBox b W x y z):W.cell? ⟨b,0,none⟩=some (.int .i64 x)/\W.cell? ⟨b,1,none⟩=some (.int .i64 y)/\W.cell? ⟨b,2,none⟩=some (.int .i64 z)/\∀j,W.frozen? ⟨b,j,none⟩=false:=by
 unfold PwBox at h
 exact⟨by rw[cell_of_row _ _ _ _ _ _ h];rfl,by rw[cell_of_row _ _ _ _ _ _ h];rfl,by rw[cell_of_row _ _ _ _ _ _ h];rfl,fun j=>frozen_of_row _ _ _ _ _ h⟩
theorem powerOf_at (w:World) (tt:TypeId) (fr:Nat×Nat) (hG:w.heap[3]?=some (.cells powVP tt fr)) (j:Nat) (hj:j<20) (kind:Int) (hk:powKP.getD j 0=kind) (hf:∀i,i<j->powKP.getD i 0≠kind):
  Calls Tryz.prog 135 #[.int .i64 kind] w fun e w'=>e= .returned (.tuple #[.agg #[.int .i64 kind,.int .i64 (powIP (3*j+1)),.int .i64 (powIP (3*j+2))],.bool true])/\Below w.heap.size w w':=by
 have hGl:=lt_of_block hG
 have hb0:∀o,Below w.heap.size w (w.alloc o):=fun o=>(Below.refl _ w).alloc (Nat.le_refl _) o
 have B0:PwBox w.heap.size (w.alloc (.cells #[.int .i64 0,.int .i64 0,.int .i64 0] 124)) 0 0 0:=heap_alloc_new w _
 have HB:Hid (PwBox w.heap.size (w.alloc (.cells #[.int .i64 0,.int .i64 0,.int .i64 0] 124)) 0 0 0/\Below w.heap.size w (w.alloc (.cells #[.int .i64 0,.int .i64 0,.int .i64 0] 124))):=⟨B0,hb0 _⟩
 have HF:Hid (∀i,i<j->powKP.getD i 0≠kind):=hf
 have HK:Hid (powKP.getD j 0=kind):=hk
 clear hf hk B0
 go_enter Tryz.func135,Tryz.ntmps135
 go_wp2_with (refine wpList_load_row rfl 189 _ rfl 3 rfl tt _ fr _ (((hb0 _).block _ hGl).trans hG) Tryz.underlying189 rfl (by kernel_rfl) ?_)
 go_loopw [7] (fun v wr=>∃k:Nat,k<=j/\v= .int .i64 k/\Hid (PwBox w.heap.size wr 0 0 0/\Below w.heap.size w wr)) (fun v _=>20-(intOf v).toNat)
 case atStart=>exact⟨0,by omega,rfl,HB.out⟩
 case round=>
  obtain⟨k,hk,rfl,HS⟩:=hrel
  have hk20:(k:Int)<20:=by omega
  have hkn:k<20:=by omega
  have hix:=fun w=>pidxP k hkn w
  have hsz:=lt_of_block HS.out.1
  obtain⟨c0,c1,c2,cf⟩:=HS.out.1.cells
  have hbp:∀o,Below wr.heap.size wr (wr.alloc o):=fun o=>(Below.refl _ wr).alloc (Nat.le_refl _) o
  rcases Nat.eq_or_lt_of_le hk with rfl|hlt
  ·rw[HK.out]at hix
   obtain⟨pl,hpl⟩:∃pl,powIP (3*k+1)=pl:=⟨_,rfl⟩
   obtain⟨pr,hpr⟩:∃pr,powIP (3*k+2)=pr:=⟨_,rfl⟩
   rw[hpl,hpr]at hix
   have HPL:Hid (powIP (3*k+1)=pl/\powIP (3*k+2)=pr):=⟨hpl,hpr⟩
   clear hpl hpr
   have p3:PwBox w.heap.size (((wr.setCell ⟨w.heap.size,0,none⟩ (.int .i64 kind)).setCell ⟨w.heap.size,1,none⟩ (.int .i64 pl)).setCell ⟨w.heap.size,2,none⟩ (.int .i64 pr)) kind pl pr:=PwBox.put HS.out.1 kind pl pr
   have b3:Below w.heap.size w (((wr.setCell ⟨w.heap.size,0,none⟩ (.int .i64 kind)).setCell ⟨w.heap.size,1,none⟩ (.int .i64 pl)).setCell ⟨w.heap.size,2,none⟩ (.int .i64 pr)):=((HS.out.2.setCell (Nat.le_refl _) _).setCell (Nat.le_refl _) _).setCell (Nat.le_refl _) _
   have hb3:∀o,Below (((wr.setCell ⟨w.heap.size,0,none⟩ (.int .i64 kind)).setCell ⟨w.heap.size,1,none⟩ (.int .i64 pl)).setCell ⟨w.heap.size,2,none⟩ (.int .i64 pr)).heap.size (((wr.setCell ⟨w.heap.size,0,none⟩ (.int .i64 kind)).setCell ⟨w.heap.size,1,none⟩ (.int .i64 pl)).setCell ⟨w.heap.size,2,none⟩ (.int .i64 pr)) ((((wr.setCell ⟨w.heap.size,0,none⟩ (.int .i64 kind)).setCell ⟨w.heap.size,1,none⟩ (.int .i64 pl)).setCell ⟨w.heap.size,2,none⟩ (.int .i64 pr)).alloc o):=fun o=>(Below.refl _ _).alloc (Nat.le_refl _) o
   have HFN:Hid ((∀o,PwBox w.heap.size ((((wr.setCell ⟨w.heap.size,0,none⟩ (.int .i64 kind)).setCell ⟨w.heap.size,1,none⟩ (.int .i64 pl)).setCell ⟨w.heap.size,2,none⟩ (.int .i64 pr)).alloc o) kind pl pr)/\(∀o,Below w.heap.size w ((((wr.setCell ⟨w.heap.size,0,none⟩ (.int .i64 kind)).setCell ⟨w.heap.size,1,none⟩ (.int .i64 pl)).setCell ⟨w.heap.size,2,none⟩ (.int .i64 pr)).alloc o))):=⟨fun o=>((hb3 o).block _ (lt_of_block p3)).trans p3,fun o=>b3.trans ((hb3 o).mono b3.size)⟩
   have hkk:(kind==kind)=true:=by simp
   clear p3 b3 hb3
   go_wp2_with fail
   exact bodyPost_ret (results_ct rfl _ _ _ ⟨w.heap.size,0,none⟩ (.bool true) _ rfl rfl (load_pw _ _ _ _ _ (HFN.out.1 _))) rfl ⟨by rw[HPL.out.1,HPL.out.2],HFN.out.2 _⟩
  ·have hne:=HF.out k hlt
   generalize powIP (3*k+1)=pl at hix
   generalize powIP (3*k+2)=pr at hix
   generalize powKP.getD k 0=pk at hix hne
   have hne2:(pk==kind)=false:=by simpa using hne
   have HN:Hid (∀o,PwBox w.heap.size (wr.alloc o) 0 0 0/\Below w.heap.size w (wr.alloc o)):=fun o=>⟨((hbp o).block _ hsz).trans HS.out.1,HS.out.2.trans ((hbp o).mono HS.out.2.size)⟩
   go_wp2_with fail
   exact⟨⟨k+1,by omega,by go_num,HN.out _⟩,by simp[intOf];omega⟩
def isInf (k:Int):Bool:=k==28||k==29||k==31
def infK (N:Nd):Int:=if N.k=28 then 10 else if N.k=29 then 26 else if N.k=31 then 60+N.op else 0
def infL (N:Nd):Int:=if N.k=28 then 2 else if N.k=29 then 1 else if N.k=31 then(pwF N.op).1 else 0
def infR (N:Nd):Int:=if N.k=28 then 3 else if N.k=29 then 2 else if N.k=31 then(pwF N.op).2 else 0
theorem pw_idx {op:Int}(h:1<=op/\op<=18):∃j,j<20/\powKP.getD j 0=60+op/\(∀i,i<j->powKP.getD i 0≠60+op)/\powIP (3*j+1)=(pwF op).1/\powIP (3*j+2)=(pwF op).2:=by
 obtain⟨h1,h2⟩:=h
 rcases(show op=1\/op=2\/op=3\/op=4\/op=5\/op=6\/op=7\/op=8\/op=9\/op=10\/op=11\/op=12\/op=13\/op=14\/op=15\/op=16\/op=17\/op=18 by omega) with rfl|rfl|rfl|rfl|rfl|rfl|rfl|rfl|rfl|rfl|rfl|rfl|rfl|rfl|rfl|rfl|rfl|rfl
 ·exact⟨14,by decide,rfl,by decide,rfl,rfl⟩
 ·exact⟨15,by decide,rfl,by decide,rfl,rfl⟩
 ·exact⟨16,by decide,rfl,by decide,rfl,rfl⟩
 ·exact⟨17,by decide,rfl,by decide,rfl,rfl⟩
 ·exact⟨18,by decide,rfl,by decide,rfl,rfl⟩
 ·exact⟨19,by decide,rfl,by decide,rfl,rfl⟩
 ·exact⟨11,by decide,rfl,by decide,rfl,rfl⟩
 ·exact⟨9,by decide,rfl,by decide,rfl,rfl⟩
 ·exact⟨10,by decide,rfl,by decide,rfl,rfl⟩
 ·exact⟨12,by decide,rfl,by decide,rfl,rfl⟩
 ·exact⟨13,by decide,rfl,by decide,rfl,rfl⟩
 ·exact⟨8,by decide,rfl,by decide,rfl,rfl⟩
 ·exact⟨2,by decide,rfl,by decide,rfl,rfl⟩
 ·exact⟨3,by decide,rfl,by decide,rfl,rfl⟩
 ·exact⟨4,by decide,rfl,by decide,rfl,rfl⟩
 ·exact⟨5,by decide,rfl,by decide,rfl,rfl⟩
 ·exact⟨6,by decide,rfl,by decide,rfl,rfl⟩
 ·exact⟨7,by decide,rfl,by decide,rfl,rfl⟩
def PowAt (w:World):Prop:=∃tt fr,w.heap[3]?=some (.cells powVP tt fr)
theorem PowAt.below {w w':World}{B:Nat}(h:PowAt w) (hb:Below B w w') (hB:w.heap.size<=B):PowAt w':=by
 obtain⟨tt,fr,h⟩:=h
 exact⟨tt,fr,(hb.block _ (Nat.lt_of_lt_of_le (lt_of_block h) hB)).trans h⟩
theorem powerOf_op (w:World) (hP:PowAt w) {op:Int}(h:1<=op/\op<=18):Calls Tryz.prog 135 #[.int .i64 (60+op)] w fun e w'=>e= .returned (.tuple #[.agg #[.int .i64 (60+op),.int .i64 (pwF op).1,.int .i64 (pwF op).2],.bool true])/\Below w.heap.size w w':=by
 obtain⟨tt,fr,hG⟩:=hP
 obtain⟨j,h1,h2,h3,h4,h5⟩:=pw_idx h
 have:=powerOf_at w tt fr hG j h1 _ h2 h3
 rwa [h4,h5]at this
theorem infixOf_any (w0:World) (ns:List Nd) (L:List Im) (base:Nat) (vs:Value) (Tp0:Tp w0 ns L base vs) (hP:PowAt w0) (i:Nat) (hi:i<ns.length) (hop:(nodeI ns i).k=31->1<=(nodeI ns i).op/\(nodeI ns i).op<=18) (w:World) (hb:Below w0.heap.size w0 w):
  Calls Tryz.prog 98 #[nV (imI L i)] w fun e w'=>e= .returned (.tuple #[.agg #[.int .i64 (infK (nodeI ns i)),.int .i64 (infL (nodeI ns i)),.int .i64 (infR (nodeI ns i))],.bool (isInf (nodeI ns i).k)])/\Below w.heap.size w w':=by
 obtain⟨b,vn,a,n,c,hv,Q⟩:=nd_q Tp0 hi
 have kh:=fun w=>head_any b w
 have hmt:=fun w=>methC (cls (nodeI ns i).k) b w
 have hbo:∀o,Below w.heap.size w (w.alloc o):=fun o=>(Below.refl _ w).alloc (Nat.le_refl _) o
 have hbw:∀o,Below w0.heap.size w0 (w.alloc o):=fun o=>hb.trans ((hbo o).mono hb.size)
 have x0:=(Q.cells (hbw (.cells #[.int .i64 0,.int .i64 0,.int .i64 0] 124))).1
 have hPw:PowAt (w.alloc (.cells #[.int .i64 0,.int .i64 0,.int .i64 0] 124)):=hP.below (hbw _) (Nat.le_refl _)
 have B0:PwBox w.heap.size (w.alloc (.cells #[.int .i64 0,.int .i64 0,.int .i64 0] 124)) 0 0 0:=heap_alloc_new w _
 have fin:∀(u:World) (x y z:Int),Below (w.alloc (.cells #[.int .i64 0,.int .i64 0,.int .i64 0] 124)).heap.size (w.alloc (.cells #[.int .i64 0,.int .i64 0,.int .i64 0] 124)) u->PwBox w.heap.size u 0 0 0/\PwBox w.heap.size (((u.setCell ⟨w.heap.size,0,none⟩ (.int .i64 x)).setCell ⟨w.heap.size,1,none⟩ (.int .i64 y)).setCell ⟨w.heap.size,2,none⟩ (.int .i64 z)) x y z/\Below w.heap.size w (((u.setCell ⟨w.heap.size,0,none⟩ (.int .i64 x)).setCell ⟨w.heap.size,1,none⟩ (.int .i64 y)).setCell ⟨w.heap.size,2,none⟩ (.int .i64 z)):=by
  intro u x y z hu
  have h0:PwBox w.heap.size u 0 0 0:=(hu.block _ (lt_of_block B0)).trans B0
  have h1:Below w.heap.size w u:=(hbo _).trans (hu.mono (hbo _).size)
  exact⟨h0,h0.put x y z,((h1.setCell (Nat.le_refl _) _).setCell (Nat.le_refl _) _).setCell (Nat.le_refl _) _⟩
 have HF:Hid (∀(u:World) (x y z:Int),Below (w.alloc (.cells #[.int .i64 0,.int .i64 0,.int .i64 0] 124)).heap.size (w.alloc (.cells #[.int .i64 0,.int .i64 0,.int .i64 0] 124)) u->PwBox w.heap.size u 0 0 0/\PwBox w.heap.size (((u.setCell ⟨w.heap.size,0,none⟩ (.int .i64 x)).setCell ⟨w.heap.size,1,none⟩ (.int .i64 y)).setCell ⟨w.heap.size,2,none⟩ (.int .i64 z)) x y z/\Below w.heap.size w (((u.setCell ⟨w.heap.size,0,none⟩ (.int .i64 x)).setCell ⟨w.heap.size,1,none⟩ (.int .i64 y)).setCell ⟨w.heap.size,2,none⟩ (.int .i64 z))):=fin
 rw[hv]
 have hi1:isInf (nodeI ns i).k=((nodeI ns i).k==28||(nodeI ns i).k==29||(nodeI ns i).k==31):=rfl
 by_cases e1:(nodeI ns i).k=28
 ·have HR:Hid (infK (nodeI ns i)=10/\infL (nodeI ns i)=2/\infR (nodeI ns i)=3/\isInf (nodeI ns i).k=true):=⟨by unfold infK;rw[if_pos e1],by unfold infL;rw[if_pos e1],by unfold infR;rw[if_pos e1],by rw[e1];rfl⟩
  obtain⟨tt,fr,hG⟩:=hPw
  have kp:=powerOf_at _ tt fr hG 1 (by decide) 10 rfl (by decide)
  rw[e1]at x0
  generalize ptT (cls (nodeI ns i).k)=tp at hmt⊢
  clear fin Q hv hop hi1 B0
  go_enter Tryz.func98,Tryz.ntmps98
  go_wp2_with (first|(go_at_call 233;refine(kh _).mono ?_;rintro e w' ⟨rfl,hw'⟩;subst w')|(go_at_call 135;fail))
  refine kp.mono ?_
  rintro e u ⟨rfl,hu⟩
  have h3:=HF.out u 10 2 3 hu
  obtain⟨c0,c1,c2,cf⟩:=h3.1.cells
  have H3:Hid (PwBox w.heap.size (((u.setCell ⟨w.heap.size,0,none⟩ (.int .i64 10)).setCell ⟨w.heap.size,1,none⟩ (.int .i64 2)).setCell ⟨w.heap.size,2,none⟩ (.int .i64 3)) 10 2 3/\Below w.heap.size w (((u.setCell ⟨w.heap.size,0,none⟩ (.int .i64 10)).setCell ⟨w.heap.size,1,none⟩ (.int .i64 2)).setCell ⟨w.heap.size,2,none⟩ (.int .i64 3))):=h3.2
  have e5:powIP (3*1+1)=2:=rfl
  have e6:powIP (3*1+2)=3:=rfl
  rw[e5,e6]
  clear h3 hu
  go_wp2_with fail
  exact bodyPost_ret (results_ct rfl _ _ _ ⟨w.heap.size,0,none⟩ (.bool true) _ rfl rfl (load_pw _ _ _ _ _ H3.out.1)) rfl ⟨by rw[HR.out.1,HR.out.2.1,HR.out.2.2.1,HR.out.2.2.2],H3.out.2⟩
 have g1:((nodeI ns i).k==28)=false:=by simpa using e1
 by_cases e2:(nodeI ns i).k=29
 ·have HR:Hid (infK (nodeI ns i)=26/\infL (nodeI ns i)=1/\infR (nodeI ns i)=2/\isInf (nodeI ns i).k=true):=⟨by unfold infK;rw[if_neg e1,if_pos e2],by unfold infL;rw[if_neg e1,if_pos e2],by unfold infR;rw[if_neg e1,if_pos e2],by rw[e2];rfl⟩
  obtain⟨tt,fr,hG⟩:=hPw
  have kp:=powerOf_at _ tt fr hG 0 (by decide) 26 rfl (by decide)
  rw[e2]at x0
  generalize ptT (cls (nodeI ns i).k)=tp at hmt⊢
  clear fin Q hv hop hi1 B0
  go_enter Tryz.func98,Tryz.ntmps98
  go_wp2_with (first|(go_at_call 233;refine(kh _).mono ?_;rintro e w' ⟨rfl,hw'⟩;subst w')|(go_at_call 135;fail))
  refine kp.mono ?_
  rintro e u ⟨rfl,hu⟩
  have h3:=HF.out u 26 1 2 hu
  obtain⟨c0,c1,c2,cf⟩:=h3.1.cells
  have H3:Hid (PwBox w.heap.size (((u.setCell ⟨w.heap.size,0,none⟩ (.int .i64 26)).setCell ⟨w.heap.size,1,none⟩ (.int .i64 1)).setCell ⟨w.heap.size,2,none⟩ (.int .i64 2)) 26 1 2/\Below w.heap.size w (((u.setCell ⟨w.heap.size,0,none⟩ (.int .i64 26)).setCell ⟨w.heap.size,1,none⟩ (.int .i64 1)).setCell ⟨w.heap.size,2,none⟩ (.int .i64 2))):=h3.2
  have e5:powIP (3*0+1)=1:=rfl
  have e6:powIP (3*0+2)=2:=rfl
  rw[e5,e6]
  clear h3 hu
  go_wp2_with fail
  exact bodyPost_ret (results_ct rfl _ _ _ ⟨w.heap.size,0,none⟩ (.bool true) _ rfl rfl (load_pw _ _ _ _ _ H3.out.1)) rfl ⟨by rw[HR.out.1,HR.out.2.1,HR.out.2.2.1,HR.out.2.2.2],H3.out.2⟩
 have g2:((nodeI ns i).k==29)=false:=by simpa using e2
 by_cases e3:(nodeI ns i).k=31
 ·have HR:Hid (infK (nodeI ns i)=60+(nodeI ns i).op/\infL (nodeI ns i)=(pwF (nodeI ns i).op).1/\infR (nodeI ns i)=(pwF (nodeI ns i).op).2/\isInf (nodeI ns i).k=true):=⟨by unfold infK;rw[if_neg e1,if_neg e2,if_pos e3],by unfold infL;rw[if_neg e1,if_neg e2,if_pos e3],by unfold infR;rw[if_neg e1,if_neg e2,if_pos e3],by rw[e3];rfl⟩
  have hop':=hop e3
  have kp:=powerOf_op _ hPw hop'
  have hc:cls (nodeI ns i).k=4:=by rw[e3];rfl
  have x6:=(Q.cells (hbw (.cells #[.int .i64 0,.int .i64 0,.int .i64 0] 124))).2.2 _ (by rw[hc];rfl)
  rw[hc]at hmt⊢
  simp only[ptT]at hmt⊢
  have has:=fun w=>asP4 b w
  rw[e3]at x0
  have hw1:IntKind.i64.wrap (60+(nodeI ns i).op)=60+(nodeI ns i).op:=by rw[IntKind.wrap_i64];omega
  have ho1:(nodeI ns i).op<=18:=hop'.2
  have ho2:1<=(nodeI ns i).op:=hop'.1
  generalize (pwF (nodeI ns i).op).1=pl at kp HR
  generalize (pwF (nodeI ns i).op).2=pr at kp HR
  generalize (nodeI ns i).op=op at kp HR x6 hw1 ho1 ho2
  clear fin Q hv hop hi1 B0 hop'
  go_enter Tryz.func98,Tryz.ntmps98
  go_wp2_with (first|(go_at_call 233;refine(kh _).mono ?_;rintro e w' ⟨rfl,hw'⟩;subst w')|(go_at_call 135;fail))
  refine kp.mono ?_
  rintro e u ⟨rfl,hu⟩
  have h3:=HF.out u (60+op) pl pr hu
  obtain⟨c0,c1,c2,cf⟩:=h3.1.cells
  have H3:Hid (PwBox w.heap.size (((u.setCell ⟨w.heap.size,0,none⟩ (.int .i64 (60+op))).setCell ⟨w.heap.size,1,none⟩ (.int .i64 pl)).setCell ⟨w.heap.size,2,none⟩ (.int .i64 pr)) (60+op) pl pr/\Below w.heap.size w (((u.setCell ⟨w.heap.size,0,none⟩ (.int .i64 (60+op))).setCell ⟨w.heap.size,1,none⟩ (.int .i64 pl)).setCell ⟨w.heap.size,2,none⟩ (.int .i64 pr))):=h3.2
  clear h3 hu
  go_wp2_with fail
  exact bodyPost_ret (results_ct rfl _ _ _ ⟨w.heap.size,0,none⟩ (.bool true) _ rfl rfl (load_pw _ _ _ _ _ H3.out.1)) rfl ⟨by rw[HR.out.1,HR.out.2.1,HR.out.2.2.1,HR.out.2.2.2],H3.out.2⟩
 ·have g3:((nodeI ns i).k==31)=false:=by simpa using e3
  have HR:Hid (infK (nodeI ns i)=0/\infL (nodeI ns i)=0/\infR (nodeI ns i)=0/\isInf (nodeI ns i).k=false):=⟨by unfold infK;rw[if_neg e1,if_neg e2,if_neg e3],by unfold infL;rw[if_neg e1,if_neg e2,if_neg e3],by unfold infR;rw[if_neg e1,if_neg e2,if_neg e3],by unfold isInf;rw[g1,g2,g3];rfl⟩
  have h3:=HF.out _ 0 0 0 (Below.refl _ _)
  obtain⟨c0,c1,c2,cf⟩:=h3.1.cells
  have HW:Hid (PwBox w.heap.size (w.alloc (.cells #[.int .i64 0,.int .i64 0,.int .i64 0] 124)) 0 0 0/\Below w.heap.size w (w.alloc (.cells #[.int .i64 0,.int .i64 0,.int .i64 0] 124))):=⟨B0,hbo _⟩
  generalize ptT (cls (nodeI ns i).k)=tp at hmt⊢
  generalize (nodeI ns i).k=kk at x0 g1 g2 g3 hmt HR
  clear fin Q hv hop hi1 B0 h3 e1 e2 e3
  go_enter Tryz.func98,Tryz.ntmps98
  go_wp2_with (go_at_call 233;refine(kh _).mono ?_;rintro e w' ⟨rfl,hw'⟩;subst w')
  exact bodyPost_ret (results_ct rfl _ _ _ ⟨w.heap.size,0,none⟩ (.bool false) _ rfl rfl (load_pw _ _ 0 0 0 HW.out.1)) rfl ⟨by rw[HR.out.1,HR.out.2.1,HR.out.2.2.1,HR.out.2.2.2],HW.out.2⟩
theorem b_two (w0:World) (vb:Nat) (ns:List Nd) (L:List Im) (base:Nat) (vs:Value) (Tp0:Tp w0 ns L base vs) (t:Nat) (ht:t<=100000) (i:Nat) (hi:i<ns.length) (N:Nd) (hN:nodeI ns i=N) (hlk:N.ks.length<=1048576) (word:ByteArray) (hwd:word.size<=100) (hLn:N.ks.length=2) (X:ByteArray) (hLX:∀v,SlAt w0 L v (N.ks.take 1)->Pw w0 vb 93 #[vP vb,mgV w0 t,v] X) (q1:Nat) (hk1:N.ks[1]?=some (q1:Int)) (E1:ByteArray) (hV1:Vis w0 vb L t (q1:Int) E1):
  Pw w0 vb 94 #[vP vb,mgV w0 t,.string word,nV (imI L i)] (word++X++⟨#[32]⟩++E1):=by
 intro T w h
 obtain⟨b,vn,a,n,c,hv,Q⟩:=nd_q Tp0 hi
 rw[hN]at hv Q
 have kh:=fun w=>head_any b w
 have hmp:=fun w=>m_put w0.heap.size (tabB t) w
 have hml:=fun w=>m_line w0.heap.size (tabB t) w
 have hmi:=fun w=>m_inner w0.heap.size (tabB t) w
 have hna:=fun w=>na_put w0.heap.size (tabB t) w
 have hn:=Q.hn
 have hmt:=fun w=>methC (cls N.k) b w
 obtain⟨pa,rfl,hcap,_⟩:=Q.ks.get hk1
 rw[hn]at hcap
 have hnn:n=2:=by omega
 subst hnn
 have hc0:¬c=0:=by omega
 have hc1:(1:Int)<=(c:Int):=by omega
 have hc2:1<=c:=by omega
 have S0:Hid (Pw w0 vb 95 _ ((word++X)++(⟨#[32]⟩:ByteArray)++E1)):=headed_any w0 vb t word (word++X) E1 (.slice (some pa) 1 c) _ (phrase_any w0 vb t word X (by omega) _ (hLX _ (Q.ks.take 1 (by omega)))) hV1
 obtain⟨v1,hv1⟩:∃v,nV (imI L (q1:Int))=v:=⟨_,rfl⟩
 rw[hv1]at S0
 have cel:Hid (∀W,Below w0.heap.size w0 W->W.cell? ⟨b,0,none⟩=some (.int .i64 N.k)/\W.cell? ⟨b,5,none⟩=some (.slice (some pa) 2 c)/\W.cell? ⟨pa.block,pa.off+1,none⟩=some v1):=fun W hb=>⟨(Q.cells hb).1,(Q.cells hb).2.1,by rw[<-hv1];obtain⟨_,e,_,x⟩:=(Q.ks.below hb).get hk1;cases e;exact add_cell x (by decide)⟩
 have P0:Hid (Ps w0 vb T w/\Kq w0.heap.size w w):=⟨h,Kq.refl _ _⟩
 obtain⟨x0,x5,y1⟩:=cel.out _ h.pg.bel
 rw[hv]
 generalize ptT (cls N.k)=tp at hmt⊢
 unfold mgV mgA at *
 generalize tabB t=tb at *
 have HQ:Hid (NdQ w0 L N b vn (some pa) 2 c):=Q
 clear h Q hv
 go_enter Tryz.func94,Tryz.ntmps94
 go_wp2_with (first|(go_at_call 233;refine(kh _).mono ?_;rintro e w' ⟨rfl,hw'⟩;subst w'))
 go_region_held3 (fun W'=>W'.cell? ⟨b,0,none⟩=some (.int .i64 N.k)/\W'.cell? ⟨b,5,none⟩=some (.slice (some pa) 2 c)/\W'.cell? ⟨pa.block,pa.off+1,none⟩=some v1) (first|exact cel.out _ (P0.out.1.below (bel_drew1 (Below.refl _ _))).pg.bel|exact cel.out _ qq.pg.bel|go_keep) (first|(go_at_call 233;refine(kh _).mono ?_;rintro e w' ⟨rfl,hw'⟩;subst w')|(go_at_call 95;refine(S0.out _ _ (P0.out.1.below (bel_drew1 (Below.refl _ _)))).mono ?_;rintro e u0 ⟨rfl,qq,kk⟩))
 all_goals
  have P1:Hid (Ps w0 vb (T++((word++X)++(⟨#[32]⟩:ByteArray)++E1)) u0/\Kq w0.heap.size w u0):=⟨qq,(P0.out.2.trans (Kq.of_below (bel_drew1 (Below.refl _ _)))).trans kk⟩
  obtain⟨x0,x5,y1⟩:=cel.out _ qq.pg.bel
  clear qq kk
  go_wp2_with (first|(go_at_call 233;refine(kh _).mono ?_;rintro e w' ⟨rfl,hw'⟩;subst w'))
  refine bodyPost_ret (results_none rfl _ _ _) rfl ?_
  refine⟨rfl,?_,P1.out.2⟩
  have:=P1.out.1
  simpa only[ByteArray.append_assoc] using this
theorem b_elif (w0:World) (vb:Nat) (ns:List Nd) (L:List Im) (base:Nat) (vs:Value) (Tp0:Tp w0 ns L base vs) (t:Nat) (ht:t<=100000) (i:Nat) (hi:i<ns.length) (N:Nd) (hN:nodeI ns i=N) (hlk:N.ks.length<=1048576) (word:ByteArray) (hwd:word.size<=100) (hLn:N.ks.length=3) (X:ByteArray) (hLX:∀v,SlAt w0 L v (N.ks.take 1)->Pw w0 vb 93 #[vP vb,mgV w0 t,v] X) (q1:Nat) (hk1:N.ks[1]?=some (q1:Int)) (E1:ByteArray) (hV1:Vis w0 vb L t (q1:Int) E1) (q2:Nat) (hk2:N.ks[2]?=some (q2:Int)) (hq2l:q2<ns.length) (hk7:(nodeI ns q2).k=7) (Y2:ByteArray) (hB2:Pw w0 vb 94 #[vP vb,mgV w0 t,.string ⟨#[32,101,108,105,102,32]⟩,nV (imI L (q2:Int))] Y2):
  Pw w0 vb 94 #[vP vb,mgV w0 t,.string word,nV (imI L i)] (word++X++⟨#[32]⟩++E1++Y2):=by
 intro T w h
 obtain⟨b,vn,a,n,c,hv,Q⟩:=nd_q Tp0 hi
 rw[hN]at hv Q
 have kh:=fun (b:Nat) w=>head_any b w
 have hmp:=fun w=>m_put w0.heap.size (tabB t) w
 have hml:=fun w=>m_line w0.heap.size (tabB t) w
 have hmi:=fun w=>m_inner w0.heap.size (tabB t) w
 have hna:=fun w=>na_put w0.heap.size (tabB t) w
 have hn:=Q.hn
 have hmt:=fun w=>methC (cls N.k) b w
 obtain⟨pa,rfl,hcap,_⟩:=Q.ks.get hk2
 rw[hn]at hcap
 have hnn:n=3:=by omega
 subst hnn
 have hc0:¬c=0:=by omega
 have hc1:(1:Int)<=(c:Int):=by omega
 have hc2:1<=c:=by omega
 have S0:Hid (Pw w0 vb 95 _ ((word++X)++(⟨#[32]⟩:ByteArray)++E1)):=headed_any w0 vb t word (word++X) E1 (.slice (some pa) 1 c) _ (phrase_any w0 vb t word X (by omega) _ (hLX _ (Q.ks.take 1 (by omega)))) hV1
 have S1:Hid (Pw w0 vb 94 _ (Y2)):=hB2
 obtain⟨v1,hv1⟩:∃v,nV (imI L (q1:Int))=v:=⟨_,rfl⟩
 rw[hv1]at S0
 obtain⟨v2,hv2⟩:∃v,nV (imI L (q2:Int))=v:=⟨_,rfl⟩
 rw[hv2]at S1
 obtain⟨b2,vn2,a2,n2,c2,hw2,Q2⟩:=nd_q Tp0 hq2l
 have hmt2:=fun w=>methC (cls (nodeI ns q2).k) b2 w
 have cel2:Hid (∀W,Below w0.heap.size w0 W->W.cell? ⟨b2,0,none⟩=some (.int .i64 (nodeI ns q2).k)):=fun W hb=>(Q2.cells hb).1
 have hv2e:v2= .iface (ptT (cls (nodeI ns q2).k)) (.pointer (some ⟨b2,0,none⟩)):=hv2.symm.trans hw2
 generalize ptT (cls (nodeI ns q2).k)=tp2 at hv2e hmt2
 have HE:Hid (v2= .iface tp2 (.pointer (some ⟨b2,0,none⟩))):=hv2e
 clear Q2 hw2 hv2e
 have cel:Hid (∀W,Below w0.heap.size w0 W->W.cell? ⟨b,0,none⟩=some (.int .i64 N.k)/\W.cell? ⟨b,5,none⟩=some (.slice (some pa) 3 c)/\W.cell? ⟨pa.block,pa.off+1,none⟩=some v1/\W.cell? ⟨pa.block,pa.off+2,none⟩=some v2):=fun W hb=>⟨(Q.cells hb).1,(Q.cells hb).2.1,by rw[<-hv1];obtain⟨_,e,_,x⟩:=(Q.ks.below hb).get hk1;cases e;exact add_cell x (by decide),by rw[<-hv2];obtain⟨_,e,_,x⟩:=(Q.ks.below hb).get hk2;cases e;exact add_cell x (by decide)⟩
 have P0:Hid (Ps w0 vb T w/\Kq w0.heap.size w w):=⟨h,Kq.refl _ _⟩
 obtain⟨x0,x5,y1,y2⟩:=cel.out _ h.pg.bel
 rw[hv]
 generalize ptT (cls N.k)=tp at hmt⊢
 unfold mgV mgA at *
 generalize tabB t=tb at *
 have HQ:Hid (NdQ w0 L N b vn (some pa) 3 c):=Q
 clear h Q hv
 go_enter Tryz.func94,Tryz.ntmps94
 go_wp2_with (first|(go_at_call 233;refine(kh _ _).mono ?_;rintro e w' ⟨rfl,hw'⟩;subst w'))
 go_region_held3 (fun W'=>W'.cell? ⟨b,0,none⟩=some (.int .i64 N.k)/\W'.cell? ⟨b,5,none⟩=some (.slice (some pa) 3 c)/\W'.cell? ⟨pa.block,pa.off+1,none⟩=some v1/\W'.cell? ⟨pa.block,pa.off+2,none⟩=some v2) (first|exact cel.out _ (P0.out.1.below (bel_drew1 (Below.refl _ _))).pg.bel|exact cel.out _ qq.pg.bel|go_keep) (first|(go_at_call 233;refine(kh _ _).mono ?_;rintro e w' ⟨rfl,hw'⟩;subst w')|(go_at_call 95;refine(S0.out _ _ (P0.out.1.below (bel_drew1 (Below.refl _ _)))).mono ?_;rintro e u0 ⟨rfl,qq,kk⟩))
 all_goals
  have P1:Hid (Ps w0 vb (T++((word++X)++(⟨#[32]⟩:ByteArray)++E1)) u0/\Kq w0.heap.size w u0):=⟨qq,(P0.out.2.trans (Kq.of_below (bel_drew1 (Below.refl _ _)))).trans kk⟩
  obtain⟨x0,x5,y1,y2⟩:=cel.out _ qq.pg.bel
  clear qq kk
  have z0:=cel2.out _ P1.out.1.pg.bel
  generalize (nodeI ns q2).k=k2 at *
  have hv2e:v2= .iface tp2 (.pointer (some ⟨b2,0,none⟩)):=HE.out
  subst hv2e
  subst hk7
  go_wp2_with (first|(go_at_call 233;refine(kh _ _).mono ?_;rintro e w' ⟨rfl,hw'⟩;subst w')|(go_at_call 94;fail))
  refine(S1.out _ _ P1.out.1).mono ?_
  rintro e u1 ⟨rfl,qq,kk⟩
  have P2:Hid (Ps w0 vb (T++((word++X)++(⟨#[32]⟩:ByteArray)++E1)++(Y2)) u1/\Kq w0.heap.size w u1):=⟨qq,P1.out.2.trans kk⟩
  obtain⟨x0,x5,y1,y2⟩:=cel.out _ qq.pg.bel
  clear qq kk
  go_wp2_with (first|(go_at_call 233;refine(kh _ _).mono ?_;rintro e w' ⟨rfl,hw'⟩;subst w'))
  refine bodyPost_ret (results_none rfl _ _ _) rfl ?_
  refine⟨rfl,?_,P2.out.2⟩
  have:=P2.out.1
  simpa only[ByteArray.append_assoc] using this
theorem b_else (w0:World) (vb:Nat) (ns:List Nd) (L:List Im) (base:Nat) (vs:Value) (Tp0:Tp w0 ns L base vs) (t:Nat) (ht:t<=100000) (i:Nat) (hi:i<ns.length) (N:Nd) (hN:nodeI ns i=N) (hlk:N.ks.length<=1048576) (word:ByteArray) (hwd:word.size<=100) (hLn:N.ks.length=3) (X:ByteArray) (hLX:∀v,SlAt w0 L v (N.ks.take 1)->Pw w0 vb 93 #[vP vb,mgV w0 t,v] X) (q1:Nat) (hk1:N.ks[1]?=some (q1:Int)) (E1:ByteArray) (hV1:Vis w0 vb L t (q1:Int) E1) (q2:Nat) (hk2:N.ks[2]?=some (q2:Int)) (E2:ByteArray) (hV2:Vis w0 vb L t (q2:Int) E2) (hq2l:q2<ns.length) (hk7:(nodeI ns q2).k≠7):
  Pw w0 vb 94 #[vP vb,mgV w0 t,.string word,nV (imI L i)] (word++X++⟨#[32]⟩++E1++(⟨#[32,101,108,115,101,32]⟩++E2)):=by
 intro T w h
 obtain⟨b,vn,a,n,c,hv,Q⟩:=nd_q Tp0 hi
 rw[hN]at hv Q
 have kh:=fun (b:Nat) w=>head_any b w
 have hmp:=fun w=>m_put w0.heap.size (tabB t) w
 have hml:=fun w=>m_line w0.heap.size (tabB t) w
 have hmi:=fun w=>m_inner w0.heap.size (tabB t) w
 have hna:=fun w=>na_put w0.heap.size (tabB t) w
 have hn:=Q.hn
 have hmt:=fun w=>methC (cls N.k) b w
 obtain⟨pa,rfl,hcap,_⟩:=Q.ks.get hk2
 rw[hn]at hcap
 have hnn:n=3:=by omega
 subst hnn
 have hc0:¬c=0:=by omega
 have hc1:(1:Int)<=(c:Int):=by omega
 have hc2:1<=c:=by omega
 have S0:Hid (Pw w0 vb 95 _ ((word++X)++(⟨#[32]⟩:ByteArray)++E1)):=headed_any w0 vb t word (word++X) E1 (.slice (some pa) 1 c) _ (phrase_any w0 vb t word X (by omega) _ (hLX _ (Q.ks.take 1 (by omega)))) hV1
 have S1:Hid (Pw w0 vb 232 _ (⟨#[32,101,108,115,101,32]⟩)):=put_pw w0 vb t (⟨#[32,101,108,115,101,32]⟩) (by decide)
 have S2:Hid (Pw w0 vb 67 _ (E2)):=hV2
 obtain⟨v1,hv1⟩:∃v,nV (imI L (q1:Int))=v:=⟨_,rfl⟩
 rw[hv1]at S0
 obtain⟨v2,hv2⟩:∃v,nV (imI L (q2:Int))=v:=⟨_,rfl⟩
 rw[hv2]at S2
 obtain⟨b2,vn2,a2,n2,c2,hw2,Q2⟩:=nd_q Tp0 hq2l
 have hmt2:=fun w=>methC (cls (nodeI ns q2).k) b2 w
 have cel2:Hid (∀W,Below w0.heap.size w0 W->W.cell? ⟨b2,0,none⟩=some (.int .i64 (nodeI ns q2).k)):=fun W hb=>(Q2.cells hb).1
 have hv2e:v2= .iface (ptT (cls (nodeI ns q2).k)) (.pointer (some ⟨b2,0,none⟩)):=hv2.symm.trans hw2
 generalize ptT (cls (nodeI ns q2).k)=tp2 at hv2e hmt2
 have HE:Hid (v2= .iface tp2 (.pointer (some ⟨b2,0,none⟩))):=hv2e
 clear Q2 hw2 hv2e
 have cel:Hid (∀W,Below w0.heap.size w0 W->W.cell? ⟨b,0,none⟩=some (.int .i64 N.k)/\W.cell? ⟨b,5,none⟩=some (.slice (some pa) 3 c)/\W.cell? ⟨pa.block,pa.off+1,none⟩=some v1/\W.cell? ⟨pa.block,pa.off+2,none⟩=some v2):=fun W hb=>⟨(Q.cells hb).1,(Q.cells hb).2.1,by rw[<-hv1];obtain⟨_,e,_,x⟩:=(Q.ks.below hb).get hk1;cases e;exact add_cell x (by decide),by rw[<-hv2];obtain⟨_,e,_,x⟩:=(Q.ks.below hb).get hk2;cases e;exact add_cell x (by decide)⟩
 have P0:Hid (Ps w0 vb T w/\Kq w0.heap.size w w):=⟨h,Kq.refl _ _⟩
 obtain⟨x0,x5,y1,y2⟩:=cel.out _ h.pg.bel
 rw[hv]
 generalize ptT (cls N.k)=tp at hmt⊢
 unfold mgV mgA at *
 generalize tabB t=tb at *
 have HQ:Hid (NdQ w0 L N b vn (some pa) 3 c):=Q
 clear h Q hv
 go_enter Tryz.func94,Tryz.ntmps94
 go_wp2_with (first|(go_at_call 233;refine(kh _ _).mono ?_;rintro e w' ⟨rfl,hw'⟩;subst w'))
 go_region_held3 (fun W'=>W'.cell? ⟨b,0,none⟩=some (.int .i64 N.k)/\W'.cell? ⟨b,5,none⟩=some (.slice (some pa) 3 c)/\W'.cell? ⟨pa.block,pa.off+1,none⟩=some v1/\W'.cell? ⟨pa.block,pa.off+2,none⟩=some v2) (first|exact cel.out _ (P0.out.1.below (bel_drew1 (Below.refl _ _))).pg.bel|exact cel.out _ qq.pg.bel|go_keep) (first|(go_at_call 233;refine(kh _ _).mono ?_;rintro e w' ⟨rfl,hw'⟩;subst w')|(go_at_call 95;refine(S0.out _ _ (P0.out.1.below (bel_drew1 (Below.refl _ _)))).mono ?_;rintro e u0 ⟨rfl,qq,kk⟩))
 all_goals
  have P1:Hid (Ps w0 vb (T++((word++X)++(⟨#[32]⟩:ByteArray)++E1)) u0/\Kq w0.heap.size w u0):=⟨qq,(P0.out.2.trans (Kq.of_below (bel_drew1 (Below.refl _ _)))).trans kk⟩
  obtain⟨x0,x5,y1,y2⟩:=cel.out _ qq.pg.bel
  clear qq kk
  have z0:=cel2.out _ P1.out.1.pg.bel
  generalize (nodeI ns q2).k=k2 at *
  have hv2e:v2= .iface tp2 (.pointer (some ⟨b2,0,none⟩)):=HE.out
  subst hv2e
  have g7:(k2==7)=false:=by simpa using hk7
  go_wp2_with (first|(go_at_call 233;refine(kh _ _).mono ?_;rintro e w' ⟨rfl,hw'⟩;subst w')|(go_at_call 232;fail))
  refine(S1.out _ _ P1.out.1).mono ?_
  rintro e u1 ⟨rfl,qq,kk⟩
  have P2:Hid (Ps w0 vb (T++((word++X)++(⟨#[32]⟩:ByteArray)++E1)++(⟨#[32,101,108,115,101,32]⟩)) u1/\Kq w0.heap.size w u1):=⟨qq,P1.out.2.trans kk⟩
  obtain⟨x0,x5,y1,y2⟩:=cel.out _ qq.pg.bel
  clear qq kk
  go_wp2_with (first|(go_at_call 233;refine(kh _ _).mono ?_;rintro e w' ⟨rfl,hw'⟩;subst w')|(go_at_call 67;fail))
  refine(S2.out _ _ P2.out.1).mono ?_
  rintro e u2 ⟨rfl,qq,kk⟩
  have P3:Hid (Ps w0 vb (T++((word++X)++(⟨#[32]⟩:ByteArray)++E1)++(⟨#[32,101,108,115,101,32]⟩)++(E2)) u2/\Kq w0.heap.size w u2):=⟨qq,P2.out.2.trans kk⟩
  obtain⟨x0,x5,y1,y2⟩:=cel.out _ qq.pg.bel
  clear qq kk
  go_wp2_with (first|(go_at_call 233;refine(kh _ _).mono ?_;rintro e w' ⟨rfl,hw'⟩;subst w'))
  go_end0
  refine⟨rfl,?_,P3.out.2⟩
  have:=P3.out.1
  simpa only[ByteArray.append_assoc] using this
end Go.Proofs.YtelfejiiabbpfaaGreatDoor
