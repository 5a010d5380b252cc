import Derived.Test.YtelfejiiabbpfaaGreatDoorHRk08
import Derived.Test.YtelfejiiabbpfaaGreatDoorHRk11
import Derived.Test.YtelfejiiabbpfaaGreatDoorHRk10
import Derived.Test.YtelfejiiabbpfaaGreatDoorHRk06
import Derived.Test.YtelfejiiabbpfaaGreatDoorHRk03
set_option linter.unusedVariables false
set_option maxRecDepth 100000
set_option maxHeartbeats 3200000
namespace Go.Proofs.YtelfejiiabbpfaaGreatDoor
open Go.RowKit Go.Maps Go.WideMaps
structure Lk (W:World) (lb mb:Nat) (vs:Value):Prop where
 b:W.heap[lb]?=some (.cells #[.map (some mb),vs] 74 (0,0))
 m:W.ownsMap Tryz.prog 9 (plainElem (H:=Unit) Tryz.prog 3) mb 22 (wkD 22)
 e:Errs W
theorem wd_keep {W W':World}{mb n:Nat}{D:DataW Unit}(h:W.ownsMap Tryz.prog 9 (plainElem (H:=Unit) Tryz.prog 3) mb n D) (hb:W'.heap[mb]?=W.heap[mb]?):W'.ownsMap Tryz.prog 9 (plainElem (H:=Unit) Tryz.prog 3) mb n D:=by
 obtain⟨es,clock,hh,rest⟩:=h
 exact⟨es,clock,hb.trans hh,rest⟩
theorem Errs.keep {W W':World}(h:Errs W) (hb:Below W.heap.size W W'):Errs W':=by
 obtain⟨⟨a,b,h1⟩,⟨c,d,h2⟩⟩:=h
 exact⟨⟨a,b,cell_kept hb h1⟩,⟨c,d,cell_kept hb h2⟩⟩
theorem Lk.below {W W':World}{lb mb:Nat}{vs:Value}(h:Lk W lb mb vs) (hb:Below W.heap.size W W'):Lk W' lb mb vs:=
 ⟨(hb.block _ (lt_of_block h.b)).trans h.b,wd_keep h.m (hb.block _ h.m.lt),h.e.keep hb⟩
theorem isTreeName_any (w:World) (lb mb:Nat) (vs:Value) (s:ByteArray) (hm:s.size<=1100000) (h:Lk w lb mb vs):
  Calls Tryz.prog 141 #[.pointer (some ⟨lb,0,none⟩),.string s] w fun e w'=>e= .returned (.bool (nmok s))/\w'=w:=by
 have c0:w.cell? ⟨lb,0,none⟩=some (.map (some mb)):=by rw[cell_of_row _ _ _ _ _ _ h.b];rfl
 have kn:=isName_any s hm mb w h.m
 by_cases h40:s.size<=40
 ·have e:decide (lettB (bat s 0)=true/\nmE s (s.size+1) 0=s.size/\isWd s=false)=nmok s:=by
   unfold nmok
   by_cases h':lettB (bat s 0)=true/\nmE s (s.size+1) 0=s.size/\isWd s=false
   ·rw[decide_eq_true h',decide_eq_true ⟨h40,h'⟩]
   ·rw[decide_eq_false h',decide_eq_false (fun g=>h' g.2)]
  rw[e]at kn
  generalize nmok s=R at kn⊢
  clear e h
  have hi:(s.size:Int)<=40:=by omega
  go_enter Tryz.func141,Tryz.ntmps141
  go_wp2_with (go_at_call 158;refine kn.mono ?_;rintro e w' ⟨rfl,rfl⟩)
  go_ret
  exact⟨rfl,rfl⟩
 ·have e:nmok s=false:=by unfold nmok;rw[decide_eq_false (fun g=>h40 g.1)]
  rw[e]
  have hi:¬(s.size:Int)<=40:=by omega
  clear kn
  go_enter Tryz.func141,Tryz.ntmps141
  go_wp2
  go_ret
  exact⟨rfl,rfl⟩
theorem areNames_any (w:World) (lb mb:Nat) (vs:Value) (vn:Value) (l:List ByteArray) (h:Lk w lb mb vs) (hn:StrsAt w vn l) (hl:l.length<=1048576) (hs:∀s∈l,s.size<=1048576):
  Calls Tryz.prog 124 #[.pointer (some ⟨lb,0,none⟩),vn] w fun e w'=>e= .returned (.bool (nmsB l l.length 0))/\w'=w:=by
 have HT:Hid (StrsAt w vn l/\(∀s∈l,s.size<=1048576)/\Lk w lb mb vs):=⟨hn,hs,h⟩
 obtain⟨a2,c2,rfl⟩:=hn.form
 obtain⟨R,hR⟩:∃R,nmsB l l.length 0=R:=⟨_,rfl⟩
 rw[hR]
 obtain⟨L1,hL1⟩:∃n,l.length=n:=⟨_,rfl⟩
 have HL:Hid (l.length=L1):=hL1
 rw[hL1]at HT hl hR⊢
 have HR:NmsIs l L1 0 R:=⟨hR⟩
 clear hL1 hn hs h hR
 go_enter Tryz.func124,Tryz.ntmps124
 go_wp2_with fail
 go_loop [9] (fun vj=>∃(j:Nat),vj= .int .i64 j/\j<=L1/\NmsIs l (L1-j) j R) (fun vj=>L1-(intOf vj).toNat)
 case atStart=>exact⟨0,rfl,by omega,HR⟩
 case round=>
  obtain⟨j,rfl,hj,HJ⟩:=hrel
  have hst:=HJ.out
  by_cases hlt:j<L1
  ·obtain⟨s,hsk⟩:=some_at HL.out hlt
   have hss:=HT.out.2.1 s (List.mem_of_getElem? hsk)
   obtain⟨p3,rfl,g3⟩:=HT.out.1.get hsk
   rw[show L1-j=(L1-(j+1))+1 by omega,nmsB,List.getD_eq_getElem?_getD,hsk,Option.getD_some]at hst
   have hji:(j:Int)<(L1:Int):=by omega
   have hj0:(0:Int)<=(j:Int):=by omega
   have ke:=isTreeName_any w lb mb vs s (by omega) HT.out.2.2
   clear hsk
   cases hx:nmok s with
   |true=>
    rw[hx,Bool.true_and]at hst
    rw[hx]at ke
    have HS:NmsIs l (L1-(j+1)) (j+1) R:=⟨hst⟩
    clear hst hx
    go_wp2_with (go_at_call 141;refine ke.mono ?_;rintro e w3 ⟨rfl,rfl⟩)
    go_round
    case rel=>exact⟨j+1,by go_num,by omega,HS⟩
    case measure=>simp[intOf];omega
   |false=>
    rw[hx,Bool.false_and]at hst
    rw[hx]at ke
    have HS:Hid (false=R):=hst
    clear hst hx
    go_wp2_with (go_at_call 141;refine ke.mono ?_;rintro e w3 ⟨rfl,rfl⟩)
    go_ret
    exact⟨by rw[<-HS.out];rfl,rfl⟩
  ·rw[show L1-j=0 by omega,nmsB]at hst
   have HS:Hid (true=R):=hst
   have hji:¬(j:Int)<(L1:Int):=by omega
   clear hst
   go_wp2_with fail
   go_ret
   exact⟨by rw[<-HS.out];rfl,rfl⟩
def txB (k:Int) (x:ByteArray):Bool:=if k=24 then fok x else if k=25 then decide ((x.size:Int)<=4000) else nmok x
theorem textFits_any (w:World) (lb mb:Nat) (vs:Value) (k:Int) (s:ByteArray) (hm:s.size<=1100000) (h:Lk w lb mb vs):
  Calls Tryz.prog 125 #[.pointer (some ⟨lb,0,none⟩),.int .i64 k,.string s] w fun e w'=>e= .returned (.bool (txB k s))/\Below w.heap.size w w':=by
 have kt:=isTreeName_any w lb mb vs s hm h
 have kf:=isFloat_any s hm w h.e
 unfold txB
 by_cases h1:k=24
 ·subst h1
  rw[if_pos rfl]
  unfold fok
  by_cases h40:s.size<=40
  ·have hi:(s.size:Int)<=40:=by omega
   rw[decide_eq_true h40,Bool.true_and]
   generalize fltI s=R at kf⊢
   clear kt h
   go_enter Tryz.func125,Tryz.ntmps125
   go_wp2_with (go_at_call 142;refine kf.mono ?_;rintro e w' ⟨rfl,hb⟩)
   go_ret
   exact⟨rfl,hb⟩
  ·have hi:¬(s.size:Int)<=40:=by omega
   rw[decide_eq_false h40,Bool.false_and]
   clear kt kf h
   go_enter Tryz.func125,Tryz.ntmps125
   go_wp2
   go_ret
   exact⟨rfl,Below.refl _ _⟩
 by_cases h2:k=25
 ·subst h2
  rw[if_neg (by decide),if_pos rfl]
  clear kt kf h h1
  go_enter Tryz.func125,Tryz.ntmps125
  go_wp2
  go_ret
  exact⟨rfl,Below.refl _ _⟩
 rw[if_neg h1,if_neg h2]
 generalize nmok s=R at kt⊢
 clear kf h
 go_enter Tryz.func125,Tryz.ntmps125
 go_wp2_with (go_at_call 141;refine kt.mono ?_;rintro e w' ⟨rfl,rfl⟩)
 go_ret
 exact⟨rfl,Below.refl _ _⟩
def mostN (k:Int):Int:=if k=2\/k=10 then 200 else if k=14 then 2 else 1
theorem nameNumbers_any (k:Int) (w:World):Calls Tryz.prog 123 #[.int .i64 k] w fun e w'=>e= .returned (.tuple #[.int .i64 1,.int .i64 (mostN k)])/\w'=w:=by
 unfold mostN
 rcases(show k=2\/k=10\/k=14\/(¬k=2/\¬k=10/\¬k=14) by omega) with rfl|rfl|rfl|⟨h1,h2,h3⟩
 ·rw[if_pos (by decide)]
  go_enter Tryz.func123,Tryz.ntmps123
  go_wp2
  go_ret2
  exact⟨rfl,rfl⟩
 ·rw[if_pos (by decide)]
  go_enter Tryz.func123,Tryz.ntmps123
  go_wp2
  go_ret2
  exact⟨rfl,rfl⟩
 ·rw[if_neg (by decide),if_pos rfl]
  go_enter Tryz.func123,Tryz.ntmps123
  go_wp2
  go_ret2
  exact⟨rfl,rfl⟩
 ·rw[if_neg (by omega),if_neg h3]
  go_enter Tryz.func123,Tryz.ntmps123
  go_wp2
  go_ret2
  exact⟨rfl,rfl⟩
theorem ff0 (w:World) (lb mb:Nat) (vs:Value) (h:Lk w lb mb vs) (b:Nat) (nk nf nt nl num:Int) (vk:Value) (vn:Value) (l:List ByteArray) (hn:StrsAt w vn l) (hl:l.length<=1048576) (hs:∀s∈l,s.size<=1048576)
  (hb:w.heap[b]?=some (.cells #[.int .i64 nk,.int .i64 nf,.int .i64 nt,.int .i64 nl,.int .i64 num,vk,vn] 144 (0,0))):
  Calls Tryz.prog 87 #[.pointer (some ⟨lb,0,none⟩),.iface 142 (.pointer (some ⟨b,0,none⟩))] w fun e w'=>e= .returned (.bool (decide (1<=(l.length:Int)/\(l.length:Int)<=mostN nk)&&nmsB l l.length 0))/\w'=w:=by
 have ha:=fun w=>as00 b w
 have kn:=fun w=>nameNumbers_any nk w
 have ka:=areNames_any w lb mb vs vn l h hn hl hs
 obtain⟨a1,e1,rfl⟩:=hn.form
 have c0:w.cell? ⟨b,0,none⟩=some (.int .i64 nk):=by rw[cell_of_row _ _ _ _ _ _ hb];rfl
 have c6:w.cell? ⟨b,6,none⟩=some (.slice a1 l.length e1):=by rw[cell_of_row _ _ _ _ _ _ hb];rfl
 generalize nmsB l l.length 0=R at ka⊢
 generalize l.length=n at hl ka c6⊢
 generalize mostN nk=M at kn⊢
 clear hb hn hs h
 by_cases g1:1<=(n:Int)
 ·by_cases g2:(n:Int)<=M
  ·rw[decide_eq_true ⟨g1,g2⟩,Bool.true_and]
   go_enter Tryz.func87,Tryz.ntmps87
   go_wp2_with (first|(go_at_call 123;refine(kn _).mono ?_;rintro e w' ⟨rfl,rfl⟩)|(go_at_call 124;refine ka.mono ?_;rintro e w' ⟨rfl,rfl⟩))
   go_ret
   exact⟨rfl,rfl⟩
  ·rw[decide_eq_false (fun g=>g2 g.2),Bool.false_and]
   clear ka
   go_enter Tryz.func87,Tryz.ntmps87
   go_wp2_with (go_at_call 123;refine(kn _).mono ?_;rintro e w' ⟨rfl,rfl⟩)
   go_ret
   exact⟨rfl,rfl⟩
 ·rw[decide_eq_false (fun g=>g1 g.1),Bool.false_and]
  clear ka
  go_enter Tryz.func87,Tryz.ntmps87
  go_wp2_with (go_at_call 123;refine(kn _).mono ?_;rintro e w' ⟨rfl,rfl⟩)
  go_ret
  exact⟨rfl,rfl⟩
theorem ff1 (w:World) (lb:Nat) (b:Nat) (nk nf nt nl num nn:Int) (ak:Option Addr) (L ck:Nat) (hL:L<=1048576)
  (hb:w.heap[b]?=some (.cells #[.int .i64 nk,.int .i64 nf,.int .i64 nt,.int .i64 nl,.int .i64 num,.slice ak L ck,.int .i64 nn] 112 (0,0))):
  Calls Tryz.prog 87 #[.pointer (some ⟨lb,0,none⟩),.iface 109 (.pointer (some ⟨b,0,none⟩))] w fun e w'=>e= .returned (.bool (decide (1<=nn/\nn<(L:Int))))/\Below w.heap.size w w':=by
 have ha0:=fun w=>as10 b w
 have ha1:=fun w=>as11 b w
 have c5:w.cell? ⟨b,5,none⟩=some (.slice ak L ck):=by rw[cell_of_row _ _ _ _ _ _ hb];rfl
 have c6:w.cell? ⟨b,6,none⟩=some (.int .i64 nn):=by rw[cell_of_row _ _ _ _ _ _ hb];rfl
 clear hb
 by_cases g1:1<=nn
 ·by_cases g2:nn<(L:Int)
  ·rw[decide_eq_true ⟨g1,g2⟩]
   go_enter Tryz.func87,Tryz.ntmps87
   go_wp2_with fail
   go_quiet (fail)
   go_wp2_with fail
   go_ret
   exact⟨rfl,bel_drew (Below.refl _ _) _⟩
  ·rw[decide_eq_false (fun g=>g2 g.2)]
   have HG:Hid (¬nn<(L:Int)):=g2
   go_enter Tryz.func87,Tryz.ntmps87
   go_wp2_with fail
   go_quiet (fail)
   go_wp2_with fail
   go_ret
   exact⟨by show Ending.returned (.bool (decide (nn<(L:Int))))=_;rw[decide_eq_false (by have:=HG.out;omega)],bel_drew (Below.refl _ _) _⟩
 ·rw[decide_eq_false (fun g=>g1 g.1)]
  have hd:decide ((1:Int)<=nn)=false:=decide_eq_false g1
  go_enter Tryz.func87,Tryz.ntmps87
  go_wp2_with fail
  go_quiet (fail)
  go_wp2_with fail
  go_ret
  exact⟨rfl,bel_drew (Below.refl _ _) _⟩
theorem ff2 (w:World) (lb:Nat) (b:Nat):
  Calls Tryz.prog 87 #[.pointer (some ⟨lb,0,none⟩),.iface 118 (.pointer (some ⟨b,0,none⟩))] w fun e w'=>e= .returned (.bool true)/\w'=w:=by
 have ha0:=fun w=>as20 b w
 have ha1:=fun w=>as21 b w
 have ha3:=fun w=>as23 b w
 have ha4:=fun w=>as24 b w
 have ha5:=fun w=>as25 b w
 go_enter Tryz.func87,Tryz.ntmps87
 go_wp2
 go_ret
 exact⟨rfl,rfl⟩
theorem ff6 (w:World) (lb:Nat) (b:Nat):
  Calls Tryz.prog 87 #[.pointer (some ⟨lb,0,none⟩),.iface 148 (.pointer (some ⟨b,0,none⟩))] w fun e w'=>e= .returned (.bool true)/\w'=w:=by
 have ha0:=fun w=>as60 b w
 have ha1:=fun w=>as61 b w
 have ha3:=fun w=>as63 b w
 have ha4:=fun w=>as64 b w
 have ha5:=fun w=>as65 b w
 go_enter Tryz.func87,Tryz.ntmps87
 go_wp2
 go_ret
 exact⟨rfl,rfl⟩
theorem ff3 (w:World) (lb mb:Nat) (vs:Value) (h:Lk w lb mb vs) (b:Nat) (nk nf nt nl num:Int) (vk:Value) (x:ByteArray) (hx:x.size<=1100000)
  (hb:w.heap[b]?=some (.cells #[.int .i64 nk,.int .i64 nf,.int .i64 nt,.int .i64 nl,.int .i64 num,vk,.string x] 120 (0,0))):
  Calls Tryz.prog 87 #[.pointer (some ⟨lb,0,none⟩),.iface 121 (.pointer (some ⟨b,0,none⟩))] w fun e w'=>e= .returned (.bool (txB nk x))/\Below w.heap.size w w':=by
 have ha0:=fun w=>as30 b w
 have ha1:=fun w=>as31 b w
 have ha3:=fun w=>as33 b w
 have kt:=textFits_any w.drew lb mb vs nk x hx (h.below (bel_drew1 (Below.refl _ w)))
 have c0:w.cell? ⟨b,0,none⟩=some (.int .i64 nk):=by rw[cell_of_row _ _ _ _ _ _ hb];rfl
 have c6:w.cell? ⟨b,6,none⟩=some (.string x):=by rw[cell_of_row _ _ _ _ _ _ hb];rfl
 generalize txB nk x=R at kt⊢
 clear hb h
 go_enter Tryz.func87,Tryz.ntmps87
 go_wp2_with fail
 go_region_held3 (fun w'=>w'.cell? ⟨b,0,none⟩=some (.int .i64 nk)/\w'.cell? ⟨b,6,none⟩=some (.string x)) (first|go_keep|exact⟨cell_kept hb4 c0,cell_kept hb4 c6⟩) ((go_at_call 125;refine kt.mono ?_;rintro e w4 ⟨rfl,hb4⟩))
 go_wp2_with fail
 go_ret
 exact⟨rfl,(bel_drew1 (Below.refl _ w)).trans hb4⟩
theorem ff4 (w:World) (lb:Nat) (b:Nat) (nk nf nt nl num nop:Int) (vk:Value)
  (hb:w.heap[b]?=some (.cells #[.int .i64 nk,.int .i64 nf,.int .i64 nt,.int .i64 nl,.int .i64 num,vk,.int .i64 nop] 130 (0,0))):
  Calls Tryz.prog 87 #[.pointer (some ⟨lb,0,none⟩),.iface 128 (.pointer (some ⟨b,0,none⟩))] w fun e w'=>e= .returned (.bool (if nk=30 then(decide ((19:Int)<=nop)&&decide (nop<=22)) else(decide ((1:Int)<=nop)&&decide (nop<=18))))/\w'=w:=by
 have ha0:=fun w=>as40 b w
 have ha1:=fun w=>as41 b w
 have ha3:=fun w=>as43 b w
 have ha4:=fun w=>as44 b w
 have c0:w.cell? ⟨b,0,none⟩=some (.int .i64 nk):=by rw[cell_of_row _ _ _ _ _ _ hb];rfl
 have c6:w.cell? ⟨b,6,none⟩=some (.int .i64 nop):=by rw[cell_of_row _ _ _ _ _ _ hb];rfl
 clear hb
 by_cases hk:nk=30
 ·rw[if_pos hk]
  by_cases g1:(19:Int)<=nop
  ·rw[decide_eq_true g1,Bool.true_and]
   go_enter Tryz.func87,Tryz.ntmps87
   go_wp2
   go_ret
   exact⟨rfl,rfl⟩
  ·rw[decide_eq_false g1,Bool.false_and]
   go_enter Tryz.func87,Tryz.ntmps87
   go_wp2
   go_ret
   exact⟨rfl,rfl⟩
 ·rw[if_neg hk]
  by_cases g1:(1:Int)<=nop
  ·rw[decide_eq_true g1,Bool.true_and]
   go_enter Tryz.func87,Tryz.ntmps87
   go_wp2
   go_ret
   exact⟨rfl,rfl⟩
  ·rw[decide_eq_false g1,Bool.false_and]
   go_enter Tryz.func87,Tryz.ntmps87
   go_wp2
   go_ret
   exact⟨rfl,rfl⟩
theorem ff5 (w:World) (lb mb:Nat) (vs:Value) (h:Lk w lb mb vs) (b:Nat) (nk nf nt nl num:Int) (vk:Value) (vn:Value) (br:Bool) (l:List ByteArray) (hn:StrsAt w vn l) (hl:l.length<=1048576) (hs:∀s∈l,s.size<=1048576)
  (hb:w.heap[b]?=some (.cells #[.int .i64 nk,.int .i64 nf,.int .i64 nt,.int .i64 nl,.int .i64 num,vk,vn,.bool br] 147 (0,0))):
  Calls Tryz.prog 87 #[.pointer (some ⟨lb,0,none⟩),.iface 145 (.pointer (some ⟨b,0,none⟩))] w fun e w'=>e= .returned (.bool (nmsB l l.length 0))/\w'=w:=by
 have ha0:=fun w=>as50 b w
 have ha1:=fun w=>as51 b w
 have ha3:=fun w=>as53 b w
 have ha4:=fun w=>as54 b w
 have ha5:=fun w=>as55 b w
 have ka:=areNames_any w lb mb vs vn l h hn hl hs
 obtain⟨a1,e1,rfl⟩:=hn.form
 have c6:w.cell? ⟨b,6,none⟩=some (.slice a1 l.length e1):=by rw[cell_of_row _ _ _ _ _ _ hb];rfl
 generalize nmsB l l.length 0=R at ka⊢
 generalize l.length=n at hl ka c6⊢
 clear hb hn hs h
 go_enter Tryz.func87,Tryz.ntmps87
 go_wp2_with (go_at_call 124;refine ka.mono ?_;rintro e w' ⟨rfl,rfl⟩)
 go_ret
 exact⟨rfl,rfl⟩
end Go.Proofs.YtelfejiiabbpfaaGreatDoor
namespace Go.Proofs.YtelfejiiabbpfaaGreatDoor
open Go.RowKit
theorem bytes_ne {s t:ByteArray}(h:s≠t):(s.toList==t.toList)=false:=by
 rw[beq_eq_false_iff_ne]
 intro e
 apply h
 rw[ByteArray.toList_eq,ByteArray.toList_eq]at e
 cases s;cases t
 simp only at e
 congr 1
 exact Array.toList_inj.1 e
theorem bytes_eq {s t:ByteArray}(h:s=t):(s.toList==t.toList)=true:=by subst h;simp
theorem equalS_any (w:World) (v1 v2:Value) (l1 l2:List ByteArray) (h1:StrsAt w v1 l1) (h2:StrsAt w v2 l2) (hl:l1.length<=1048576) (hl2:l2.length<=1048576):
  Calls Tryz.prog 122 #[v1,v2] w fun e w'=>e= .returned (.bool (decide (l1=l2)))/\Below w.heap.size w w':=by
 obtain⟨a1,c1,rfl⟩:=h1.form
 obtain⟨a2,c2,rfl⟩:=h2.form
 by_cases hne:l1.length=l2.length
 ·obtain⟨R,hR⟩:∃R,decide (l1=l2)=R:=⟨_,rfl⟩
  rw[hR]
  obtain⟨n,hn⟩:∃n,l1.length=n:=⟨_,rfl⟩
  have hn2:l2.length=n:=by rw[<-hne];exact hn
  have HN:Hid (l1.length=n/\l2.length=n/\decide (l1=l2)=R):=⟨hn,hn2,hR⟩
  have HA:Hid (StrsAt w (.slice a1 n c1) l1/\StrsAt w (.slice a2 n c2) l2):=⟨by rw[<-hn];exact h1,by rw[<-hn2];exact h2⟩
  rw[hn]at hl⊢
  rw[hn2]
  clear h1 h2 hn hn2 hR hne hl2
  go_enter Tryz.func122,Tryz.ntmps122
  go_wp2_with fail
  go_loopw [13] (fun vi wr=>∃k:Nat,k<=n/\vi= .int .i64 k/\Hid (∀j,j<k->l1[j]?=l2[j]?)/\Below w.heap.size w wr) (fun vi _=>n-(intOf vi).toNat)
  case atStart=>exact⟨0,by omega,rfl,fun j hj=>by omega,Below.refl _ _⟩
  case round=>
   obtain⟨k,hk,rfl,HE,hb⟩:=hrel
   by_cases hlt:k<n
   ·obtain⟨s,hsk⟩:=some_at HN.out.1 hlt
    obtain⟨t,htk⟩:=some_at HN.out.2.1 hlt
    obtain⟨b1,rfl,d1⟩:=(HA.out.1.below hb).get hsk
    obtain⟨b2,rfl,d2⟩:=(HA.out.2.below hb).get htk
    have hki:(k:Int)<(n:Int):=by omega
    have hk0:(0:Int)<=(k:Int):=by omega
    by_cases hst:s=t
    ·subst hst
     have HE2:Hid (∀j,j<k+1->l1[j]?=l2[j]?):=fun j hj=>by
      rcases Nat.lt_or_ge j k with g|g
      ·exact HE.out j g
      ·obtain rfl:j=k:=by omega
       rw[hsk,htk]
     clear hsk htk
     go_wp2_with fail
     go_quiet (fail)
     go_wp2_with fail
     exact⟨⟨k+1,by omega,by go_num,HE2,bel_drew hb _⟩,by simp[intOf];omega⟩
    ·have HRf:Hid (R=false):=by
      show R=false
      rw[<-HN.out.2.2]
      refine decide_eq_false fun e=>hst ?_
      rw[e,htk]at hsk
      exact(Option.some.inj hsk).symm
     have hbl:(s.toList==t.toList)=false:=bytes_ne hst
     clear hsk htk
     go_wp2_with fail
     go_quiet (fail)
     go_wp2_with fail
     go_ret
     exact⟨by rw[HRf.out];rfl,bel_drew hb _⟩
   ·obtain rfl:k=n:=by omega
    have HRt:Hid (R=true):=by
     show R=true
     rw[<-HN.out.2.2]
     refine decide_eq_true (List.ext_getElem? fun j=>?_)
     rcases Nat.lt_or_ge j k with g|g
     ·exact HE.out j g
     ·rw[List.getElem?_eq_none (by rw[HN.out.1];exact g),List.getElem?_eq_none (by rw[HN.out.2.1];exact g)]
    go_wp2_with fail
    go_ret
    exact⟨by rw[HRt.out];rfl,hb⟩
 ·rw[decide_eq_false (fun e=>hne (by rw[e]))]
  have hni:¬(l1.length:Int)=(l2.length:Int):=by omega
  generalize l1.length=n1 at hni hl⊢
  generalize l2.length=n2 at hni hl2⊢
  clear h1 h2 hne
  go_enter Tryz.func122,Tryz.ntmps122
  go_wp2
  go_ret
  exact⟨rfl,Below.refl _ _⟩
def sameB (M N:Nd):Bool:=decide (M.op=N.op/\M.n=N.n/\M.x=N.x/\M.nm=N.nm)
theorem sameFields_any (w:World) (M N:Nd) (vm vl vn vk:Value) (hm:StrsAt w vm M.nm) (hn:StrsAt w vn N.nm) (hl:∃a n c,vl= .slice a n c) (hk:∃a n c,vk= .slice a n c) (hl1:M.nm.length<=1048576) (hl2:N.nm.length<=1048576):
  Calls Tryz.prog 85 #[vNd M vm vl,vNd N vn vk] w fun e w'=>e= .returned (.bool (sameB M N))/\Below w.heap.size w w':=by
 have hbb:∀o1 o2,Below w.heap.size w ((w.alloc o1).alloc o2):=fun o1 o2=>((Below.refl _ w).alloc (Nat.le_refl _) o1).alloc (by simp) o2
 have ke:=fun o1 o2=>equalS_any ((w.alloc o1).alloc o2) vm vn M.nm N.nm (hm.below (hbb o1 o2)) (hn.below (hbb o1 o2)) hl1 hl2
 obtain⟨a1,e1,rfl⟩:=hm.form
 obtain⟨a2,e2,rfl⟩:=hn.form
 obtain⟨a3,n3,e3,rfl⟩:=hl
 obtain⟨a4,n4,e4,rfl⟩:=hk
 unfold vNd sameB
 generalize M.nm.length=L1 at ke⊢
 generalize N.nm.length=L2 at ke⊢
 by_cases g1:M.op=N.op
 ·by_cases g2:M.n=N.n
  ·by_cases g3:M.x=N.x
   ·have e:decide (M.op=N.op/\M.n=N.n/\M.x=N.x/\M.nm=N.nm)=decide (M.nm=N.nm):=by
     by_cases g4:M.nm=N.nm
     ·rw[decide_eq_true g4,decide_eq_true ⟨g1,g2,g3,g4⟩]
     ·rw[decide_eq_false g4,decide_eq_false (fun g=>g4 g.2.2.2)]
    rw[e]
    have q3:=bytes_eq g3
    generalize decide (M.nm=N.nm)=R at ke⊢
    clear e g3 hm hn
    obtain⟨mk,mf,mt,ml,mop,mn,mx,mnm,mks⟩:=M
    obtain⟨nk,nf,nt,nl,nop,nn,nx,nnm,nks⟩:=N
    simp only at g1 g2 q3⊢
    go_enter Tryz.func85,Tryz.ntmps85
    go_wp2_with (go_at_call 122;refine(ke _ _).mono ?_;rintro e w3 ⟨rfl,hb3⟩)
    go_ret
    exact⟨rfl,(hbb _ _).trans (hb3.mono (by simp;omega))⟩
   ·rw[decide_eq_false (fun g=>g3 g.2.2.1)]
    have q3:=bytes_ne g3
    clear g3 hm hn ke
    obtain⟨mk,mf,mt,ml,mop,mn,mx,mnm,mks⟩:=M
    obtain⟨nk,nf,nt,nl,nop,nn,nx,nnm,nks⟩:=N
    simp only at g1 g2 q3⊢
    go_enter Tryz.func85,Tryz.ntmps85
    go_wp2
    go_ret
    exact⟨rfl,hbb _ _⟩
  ·rw[decide_eq_false (fun g=>g2 g.2.1)]
   clear hm hn ke
   obtain⟨mk,mf,mt,ml,mop,mn,mx,mnm,mks⟩:=M
   obtain⟨nk,nf,nt,nl,nop,nn,nx,nnm,nks⟩:=N
   simp only at g1 g2⊢
   go_enter Tryz.func85,Tryz.ntmps85
   go_wp2
   go_ret
   exact⟨rfl,hbb _ _⟩
 ·rw[decide_eq_false (fun g=>g1 g.1)]
  clear hm hn ke
  obtain⟨mk,mf,mt,ml,mop,mn,mx,mnm,mks⟩:=M
  obtain⟨nk,nf,nt,nl,nop,nn,nx,nnm,nks⟩:=N
  simp only at g1⊢
  go_enter Tryz.func85,Tryz.ntmps85
  go_wp2
  go_ret
  exact⟨rfl,hbb _ _⟩
end Go.Proofs.YtelfejiiabbpfaaGreatDoor
