import Derived.Test.YtelfejiiabbpfaaGreatDoorHRk03
import Derived.Lib.AppendStr
import Derived.Test.YtelfejiiabbpfaaGreatDoorHRk07
set_option linter.unusedVariables false
set_option maxRecDepth 100000
set_option maxHeartbeats 3200000
namespace Go.Proofs.YtelfejiiabbpfaaGreatDoor
open Go.Lib (strCells strCells_length wpList_append_own_string)
open Go.RowKit
theorem infoU8:(Tryz.prog.info? 5).map (fun i=>(i.zero,i.size,i.bytes))=some (some (.int .u8 0),1,1):=by kernel_rfl
theorem strCells_app (a b:ByteArray):strCells (a++b)=strCells a++strCells b:=by
 unfold strCells
 rw[show(a++b).data=a.data++b.data from ByteArray.data_append]
 simp
structure Kq (b:Nat) (w w':World):Prop where
 os:w'.os=w.os
 tape:w'.tape=w.tape
 output:w'.output=w.output
 size:w.heap.size<=w'.heap.size
 block:∀k,k<w.heap.size->k≠b->(∀cs fr,w.heap[k]?≠some (.cells cs 5 fr))->w'.heap[k]?=w.heap[k]?
theorem Kq.refl (b:Nat) (w:World):Kq b w w:=⟨rfl,rfl,rfl,Nat.le_refl _,fun _ _ _ _=>rfl⟩
theorem Kq.trans {b:Nat}{x y z:World}(h:Kq b x y) (k:Kq b y z):Kq b x z:=
 ⟨k.os.trans h.os,k.tape.trans h.tape,k.output.trans h.output,Nat.le_trans h.size k.size,fun i hi hne hc=>
  (k.block i (Nat.lt_of_lt_of_le hi h.size) hne (fun cs fr=>by rw[h.block i hi hne hc];exact hc cs fr)).trans (h.block i hi hne hc)⟩
theorem Kq.of_below {b:Nat}{w w':World}(h:Below w.heap.size w w'):Kq b w w':=⟨h.os,h.tape,h.output,h.size,fun k hk _ _=>h.block k hk⟩
structure Pr (w0:World) (vt:Value) (T:ByteArray) (tab:Int) (W:World):Prop where
 bel:Below w0.heap.size w0 W
 row:∃o,W.heap[w0.heap.size]?=some (.cells #[vt,o,.int .i64 tab] 40 (0,0))/\W.ownsRow (w0.heap.size+1) 5 1 o T.size (strCells T)
theorem Pr.lt {w0:World}{vt:Value}{T:ByteArray}{tab:Int}{W:World}(h:Pr w0 vt T tab W):w0.heap.size<W.heap.size:=by
 obtain⟨o,h1,h2⟩:=h.row
 exact lt_of_block h1
theorem Pr.below {w0:World}{vt:Value}{T:ByteArray}{tab:Int}{W W':World}(h:Pr w0 vt T tab W) (hb:Below W.heap.size W W'):Pr w0 vt T tab W':=by
 obtain⟨o,h1,h2⟩:=h.row
 exact⟨h.bel.trans (hb.mono h.bel.size),o,(hb.block _ (lt_of_block h1)).trans h1,own_keep h2 hb⟩
theorem pr_ne {W:World}{p:Nat}{o:Value}{cs:Array Value}{t:TypeId}{fr:Nat×Nat}{n:Nat}{xs:List Value}(hb:W.heap[p]?=some (.cells cs t fr)) (ht:t≠5) {base:Nat}(ho:W.ownsRow base 5 1 o n xs) (g:Nat) (hg:o.ownBlock=some g):g≠p/\base<=g:=by
 refine⟨?_,(ho.lt g hg).1⟩
 rintro rfl
 rcases ho.2 with⟨h1,_⟩|⟨g2,cap2,cur,h1,_,h3,_⟩
 ·rw[h1]at hg;simp[Value.ownBlock]at hg
 ·rw[h1]at hg
  obtain rfl:g2=g:=by simpa [Value.ownBlock] using hg
  rw[h3]at hb
  cases hb
  exact ht rfl
theorem Pr.put {w0 W:World}{vt o0:Value}{t0:Int}(bel:Below w0.heap.size w0 W) (hb:W.heap[w0.heap.size]?=some (.cells #[vt,o0,.int .i64 t0] 40 (0,0))) {o:Value}{T:ByteArray}(ho:W.ownsRow (w0.heap.size+1) 5 1 o T.size (strCells T)):Pr w0 vt T t0 (W.setCell ⟨w0.heap.size,1,none⟩ o):=
 ⟨bel.setCell (Nat.le_refl _) _,o,heap_setCell_same _ _ 1 _ _ _ hb,ho.kept (row:=some w0.heap.size) ⟨rfl,rfl,rfl,by simp[World.setCell],fun k hk hne=>heap_setCell_other _ _ _ _ (fun e=>hne (by rw[e]))⟩ (by
  cases hv:o.ownBlock with
  |none=>exact .inl rfl
  |some g=>exact .inr (fun e=>by cases e;exact(pr_ne hb (by decide) ho _ hv).1 rfl))⟩
theorem Pr.putTab {w0 W:World}{vt:Value}{T:ByteArray}{t0:Int}(h:Pr w0 vt T t0 W) (t1:Int):Pr w0 vt T t1 (W.setCell ⟨w0.heap.size,2,none⟩ (.int .i64 t1)):=by
 obtain⟨o,hb,ho⟩:=h.row
 exact⟨h.bel.setCell (Nat.le_refl _) _,o,heap_setCell_same _ _ 2 _ _ _ hb,ho.kept (row:=some w0.heap.size) ⟨rfl,rfl,rfl,by simp[World.setCell],fun k hk hne=>heap_setCell_other _ _ _ _ (fun e=>hne (by rw[e]))⟩ (by
  cases hv:o.ownBlock with
  |none=>exact .inl rfl
  |some g=>exact .inr (fun e=>by cases e;exact(pr_ne hb (by decide) ho _ hv).1 rfl))⟩
theorem Kq.putP (b:Nat) (W:World) (i:Nat) (v:Value):Kq b W (W.setCell ⟨b,i,none⟩ v):=
 ⟨rfl,rfl,rfl,by simp[World.setCell],fun k hk hne _=>heap_setCell_other _ _ _ _ hne⟩
theorem Pr.cells {w0:World}{vt:Value}{T:ByteArray}{tab:Int}{W:World}(h:Pr w0 vt T tab W):W.cell? ⟨w0.heap.size,0,none⟩=some vt/\W.cell? ⟨w0.heap.size,2,none⟩=some (.int .i64 tab)/\∀j,W.frozen? ⟨w0.heap.size,j,none⟩=false:=by
 obtain⟨o,hb,ho⟩:=h.row
 exact⟨by rw[cell_of_row _ _ _ _ _ _ hb];rfl,by rw[cell_of_row _ _ _ _ _ _ hb];rfl,fun j=>frozen_of_row _ _ _ _ _ hb⟩
theorem say_any (w0:World) (vt:Value) (T s:ByteArray) (tab:Int) (w:World) (h:Pr w0 vt T tab w) (hl:T.size+s.size<=140737488355328):
  Calls Tryz.prog 12 #[.pointer (some ⟨w0.heap.size,0,none⟩),.string s] w fun e w'=>e= .returned (.tuple #[])/\Pr w0 vt (T++s) tab w'/\Kq w0.heap.size w w':=by
 obtain⟨o,hb,ho⟩:=h.row
 have hbel:=h.bel
 obtain⟨n,hn⟩:∃n,T.size=n:=⟨_,rfl⟩
 rw[hn]at ho hl
 obtain⟨av,cv,rfl⟩:=own_form ho
 obtain⟨j0,ji,jz0,jz1,jz2⟩:=info_parts infoU8
 have hmw:=lt_of_block hb
 have c0:w.cell? ⟨w0.heap.size,1,none⟩=some (.slice av n cv):=by rw[cell_of_row _ _ _ _ _ _ hb];rfl
 have hnb:=pr_ne hb (by decide) ho
 have HO:Hid (w.ownsRow (w0.heap.size+1) 5 1 (.slice av n cv) n (strCells T)/\w.heap[w0.heap.size]?=some (.cells #[vt,.slice av n cv,.int .i64 tab] 40 (0,0))/\T.size=n/\Below w0.heap.size w0 w):=⟨ho,hb,hn,hbel⟩
 clear ho hb hn h hbel
 go_enter Tryz.func12,Tryz.ntmps12
 go_wp2_with (at_builtin;refine wpList_append_own_string _ rfl _ _ 38 9 rfl (w0.heap.size+1) 5 j0 Tryz.underlying38 Tryz.underlying9 ji jz0 jz1 jz2 _ _ _ rfl HO.out.1 s rfl (by unfold maxLen;omega) (by omega) (by omega) ?_;intro v' w5 ho5 hg5 hn5;obtain⟨av5,cap5,rfl⟩:=own_form ho5;have hb5:w5.heap[w0.heap.size]?=some (.cells #[vt,.slice av n cv,.int .i64 tab] 40 (0,0)):=(hg5.block _ hmw (fun e=>(hnb _ e.symm).1 rfl)).trans HO.out.2.1;have z5:w5.cell? ⟨w0.heap.size,1,none⟩=some (.slice av n cv):=(by rw[cell_of_row _ _ _ _ _ _ hb5];rfl);have f5:w5.frozen? ⟨w0.heap.size,1,none⟩=false:=frozen_of_row _ _ _ _ _ hb5)
 have fin:Pr w0 vt (T++s) tab (w5.setCell ⟨w0.heap.size,1,none⟩ (.slice av5 (n+s.size) cap5)):=Pr.put (HO.out.2.2.2.grown hg5 (by omega) (fun k hk=>by have:=(hnb k hk).2;omega)) hb5 (by rw[ByteArray.size_append,HO.out.2.2.1,strCells_app];exact ho5)
 have fg:Kq w0.heap.size w (w5.setCell ⟨w0.heap.size,1,none⟩ (.slice av5 (n+s.size) cap5)):=by
  refine⟨hg5.os,hg5.tape,hg5.output,by simp[World.setCell];exact hg5.size,fun k hk hne hc=>?_⟩
  rw[heap_setCell_other _ _ _ _ hne]
  refine hg5.block k hk (fun e=>?_)
  have e2:(Value.slice av n cv).ownBlock=some k:=e.symm
  rcases HO.out.1.2 with⟨h1,_⟩|⟨g2,cap2,cur,h1,_,h3,_⟩
  ·rw[h1]at e2;simp[Value.ownBlock]at e2
  ·rw[h1]at e2
   obtain rfl:g2=k:=by simpa [Value.ownBlock] using e2
   exact hc _ _ h3
 go_end0
 exact⟨rfl,fin,fg⟩
end Go.Proofs.YtelfejiiabbpfaaGreatDoor
namespace Go.Proofs.YtelfejiiabbpfaaGreatDoor
open Go.RowKit
def tabB:Nat->ByteArray
 |0=>ByteArray.empty
 |n+1=>tabB n++⟨#[9]⟩
def lineB (t:Nat):ByteArray:=⟨#[10]⟩++tabB t
theorem tabB_size:∀t,(tabB t).size=t
 |0=>rfl
 |t+1=>by rw[tabB,ByteArray.size_append,tabB_size t];rfl
theorem lineB_size (t:Nat):(lineB t).size=t+1:=by rw[lineB,ByteArray.size_append,tabB_size];show 1+t=_;omega
def commaB:ByteArray:=⟨#[44,32]⟩
def sepF (a:Bool×ByteArray) (x:ByteArray):Bool×ByteArray:=(true,(if a.1=true then a.2++commaB else a.2)++x)
def sepP (l:List ByteArray):Bool×ByteArray:=l.foldl sepF (false,ByteArray.empty)
def sepB (l:List ByteArray):ByteArray:=(sepP l).2
theorem sepP_snoc (l:List ByteArray) (x:ByteArray):sepP (l++[x])=sepF (sepP l) x:=by unfold sepP;rw[List.foldl_append];rfl
theorem sepP_one:∀l:List ByteArray,(sepP l).1=!l.isEmpty:=by
 intro l
 rcases List.eq_nil_or_concat l with rfl|⟨r,x,rfl⟩
 ·rfl
 ·rw[List.concat_eq_append,sepP_snoc];unfold sepF;simp
theorem sepB_take (l:List ByteArray) (k:Nat) (x:ByteArray) (hk:l[k]?=some x):sepB (l.take (k+1))=(if k=0 then sepB (l.take k) else sepB (l.take k)++commaB)++x:=by
 obtain⟨h1,h2⟩:=List.getElem?_eq_some_iff.1 hk
 have e:l.take (k+1)=l.take k++[x]:=by rw[List.take_succ_eq_append_getElem h1,h2]
 unfold sepB
 rw[e,sepP_snoc]
 unfold sepF
 simp only
 rw[sepP_one]
 by_cases h0:k=0
 ·subst h0;simp
 ·rw[if_neg h0,if_pos]
  cases l with
  |nil=>simp at h1
  |cons a r=>obtain⟨q,rfl⟩:∃q,k=q+1:=⟨k-1,by omega⟩;simp
theorem sepB_le1 (l:List ByteArray) (k:Nat):(sepB (l.take k)).size<=(sepB (l.take (k+1))).size:=by
 by_cases h:k<l.length
 ·rw[sepB_take l k _ (List.getElem?_eq_getElem h),ByteArray.size_append]
  split
  ·omega
  ·rw[ByteArray.size_append];omega
 ·rw[List.take_of_length_le (by omega),List.take_of_length_le (by omega)]
  exact Nat.le_refl _
theorem sepB_le (l:List ByteArray) (k:Nat):(sepB (l.take k)).size<=(sepB l).size:=by
 have h:∀d,(sepB (l.take k)).size<=(sepB (l.take (k+d))).size:=by
  intro d
  induction d with
  |zero=>exact Nat.le_refl _
  |succ d ih=>exact Nat.le_trans ih (sepB_le1 l (k+d))
 have:=h l.length
 rwa [List.take_of_length_le (show l.length<=k+l.length by omega)]at this
theorem line_any (w0:World) (vt:Value) (T:ByteArray) (t:Nat) (w:World) (h:Pr w0 vt T t w) (ht:t<=1000000) (hl:T.size+(t+1)<=140737488355328):
  Calls Tryz.prog 74 #[.pointer (some ⟨w0.heap.size,0,none⟩)] w fun e w'=>e= .returned (.tuple #[])/\Pr w0 vt (T++lineB t) t w'/\Kq w0.heap.size w w':=by
 have HP:Hid (Pr w0 vt T t w):=h
 clear h
 go_enter Tryz.func74,Tryz.ntmps74
 go_wp2_with (go_at_call 12;refine(say_any w0 vt T _ _ _ HP.out (by show T.size+1<=_;omega)).mono ?_;rintro e w1 ⟨rfl,p1,k1⟩)
 have H1:Hid (Pr w0 vt (T++⟨#[10]⟩) t w1/\Kq w0.heap.size w w1):=⟨p1,k1⟩
 clear p1 k1
 go_loopw [2] (fun i wr=>∃k:Nat,k<=t/\i= .int .i64 k/\Hid (Pr w0 vt (T++(⟨#[10]⟩++tabB k)) t wr/\Kq w0.heap.size w wr)) (fun i _=>t-(intOf i).toNat)
 case atStart=>exact⟨0,by omega,rfl,by rw[show(⟨#[10]⟩:ByteArray)++tabB 0=⟨#[10]⟩ from rfl];exact H1.out⟩
 case round=>
  obtain⟨k,hk,rfl,HS⟩:=hrel
  obtain⟨c0,c2,cf⟩:=HS.out.1.cells
  by_cases hlt:k<t
  ·have hki:(k:Int)<(t:Int):=by omega
   go_wp2_with (go_at_call 12;refine(say_any w0 vt _ _ _ _ HS.out.1 (by rw[ByteArray.size_append,ByteArray.size_append,tabB_size];show T.size+(1+k)+1<=_;omega)).mono ?_;rintro e w2 ⟨rfl,p2,k2⟩)
   refine⟨⟨k+1,by omega,by go_num,?_⟩,by simp[intOf];omega⟩
   refine⟨?_,HS.out.2.trans k2⟩
   rw[show T++((⟨#[10]⟩:ByteArray)++tabB (k+1))=T++(⟨#[10]⟩++tabB k)++⟨#[9]⟩ by rw[tabB,ByteArray.append_assoc,ByteArray.append_assoc]]
   exact p2
  ·obtain rfl:k=t:=by omega
   go_wp2_with fail
   go_end0
   exact⟨rfl,HS.out.1,HS.out.2⟩
theorem names_any (w0:World) (vt vn:Value) (l:List ByteArray) (T:ByteArray) (t:Int) (w:World) (h:Pr w0 vt T t w) (hs:StrsAt w0 vn l) (hn:l.length<=1048576) (hl:T.size+(sepB l).size<=140737488355328):
  Calls Tryz.prog 22 #[.pointer (some ⟨w0.heap.size,0,none⟩),vn] w fun e w'=>e= .returned (.tuple #[])/\Pr w0 vt (T++sepB l) t w'/\Kq w0.heap.size w w':=by
 have HP:Hid (Pr w0 vt T t w/\StrsAt w0 vn l):=⟨h,hs⟩
 obtain⟨a,c,rfl⟩:=hs.form
 clear h hs
 obtain⟨n,hN⟩:∃n,l.length=n:=⟨_,rfl⟩
 rw[hN]at hn HP⊢
 have HN:Hid (l.length=n):=hN
 clear hN
 go_enter Tryz.func22,Tryz.ntmps22
 go_wp2_with fail
 go_loopw [8] (fun i wr=>∃k:Nat,k<=n/\i= .int .i64 k/\Hid (Pr w0 vt (T++sepB (l.take k)) t wr/\Kq w0.heap.size w wr)) (fun i _=>n-(intOf i).toNat)
 case atStart=>exact⟨0,by omega,rfl,by rw[show T++sepB (l.take 0)=T from ByteArray.append_empty];exact HP.out.1,Kq.refl _ _⟩
 case round=>
  obtain⟨k,hk,rfl,HS⟩:=hrel
  by_cases hlt:k<n
  ·obtain⟨s,hsk⟩:=some_at HN.out hlt
   obtain⟨a',rfl,cs⟩:=(HP.out.2.below HS.out.1.bel).get hsk
   have hki:(k:Int)<(n:Int):=by omega
   have hk0:(0:Int)<=(k:Int):=by omega
   have h1:=sepB_take l k s hsk
   have h2:=sepB_le l (k+1)
   have HH:Hid (sepB (l.take (k+1))=(if k=0 then sepB (l.take k) else sepB (l.take k)++commaB)++s/\(sepB (l.take (k+1))).size<=(sepB l).size):=⟨h1,h2⟩
   clear h1 h2 hsk
   by_cases h0:k=0
   ·subst h0
    have e1:sepB (l.take (0+1))=sepB (l.take 0)++s:=by rw[HH.out.1,if_pos rfl]
    have e2:=HH.out.2
    rw[e1,ByteArray.size_append]at e2
    have E1:Hid (sepB (l.take (0+1))=sepB (l.take 0)++s):=e1
    clear e1 HH
    have cs0:wr.cell? a'=some (.string s):=by simpa [Addr.add] using cs
    go_wp2_with (go_at_call 12;refine(say_any w0 vt _ _ _ _ HS.out.1 (by rw[ByteArray.size_append];omega)).mono ?_;rintro e w2 ⟨rfl,p2,k2⟩)
    refine⟨⟨1,by omega,by go_num,?_,HS.out.2.trans k2⟩,by simp[intOf];omega⟩
    rw[show(1:Nat)=0+1 from rfl,E1.out,<-ByteArray.append_assoc]
    exact p2
   ·have e1:sepB (l.take (k+1))=sepB (l.take k)++commaB++s:=by rw[HH.out.1,if_neg h0]
    have e2:=HH.out.2
    rw[e1,ByteArray.size_append,ByteArray.size_append]at e2
    have e3:commaB.size=2:=rfl
    have E1:Hid (sepB (l.take (k+1))=sepB (l.take k)++commaB++s/\(sepB (l.take k)).size+commaB.size+s.size<=(sepB l).size/\commaB.size=2):=⟨e1,e2,e3⟩
    clear e1 e2 e3 HH
    have hkp:(0:Int)<(k:Int):=by omega
    go_wp2_with (go_at_call 12;fail)
    refine(say_any w0 vt _ _ _ _ HS.out.1 (by have:=E1.out.2;rw[ByteArray.size_append];show _+commaB.size<=_;omega)).mono ?_
    rintro e w2 ⟨rfl,p2,k2⟩
    have H2:Hid (Pr w0 vt (T++sepB (l.take k)++commaB) t w2/\Kq w0.heap.size wr w2):=⟨p2,k2⟩
    clear p2 k2
    go_wp2_with (go_at_call 12;fail)
    refine(say_any w0 vt _ _ _ _ H2.out.1 (by have:=E1.out.2;rw[ByteArray.size_append,ByteArray.size_append];omega)).mono ?_
    rintro e w3 ⟨rfl,p3,k3⟩
    have H3:Hid (Pr w0 vt (T++sepB (l.take k)++commaB++s) t w3/\Kq w0.heap.size w2 w3):=⟨p3,k3⟩
    clear p3 k3
    go_wp2_with fail
    refine⟨⟨k+1,by omega,by go_num,?_,(HS.out.2.trans H2.out.2).trans H3.out.2⟩,by simp[intOf];omega⟩
    rw[E1.out.1,<-ByteArray.append_assoc,<-ByteArray.append_assoc]
    exact H3.out.1
  ·obtain rfl:k=n:=by omega
   go_wp2_with fail
   go_end0
   refine⟨rfl,?_,HS.out.2⟩
   have:=HS.out.1
   rwa [List.take_of_length_le (by rw[HN.out];exact Nat.le_refl _)]at this
def exprK (k:Int):Bool:=decide (20<=k/\k<=37)
def statK (k:Int):Bool:=decide (1<=k/\k<=16)
def targK (k:Int):Bool:=decide (k=26\/k=32\/k=33)
theorem l2expr_any (k:Int) (w:World):Calls Tryz.prog 136 #[.int .i64 k] w fun e w'=>e= .returned (.bool (exprK k))/\w'=w:=by
 unfold exprK
 rcases(show(20<=k/\k<=37)\/(20<=k/\¬k<=37)\/¬20<=k by omega) with⟨h1,h2⟩|⟨h1,h2⟩|h1
 ·rw[decide_eq_true ⟨h1,h2⟩]
  go_enter Tryz.func136,Tryz.ntmps136
  go_wp2
  go_ret
  exact⟨rfl,rfl⟩
 ·rw[decide_eq_false (fun h=>h2 h.2)]
  go_enter Tryz.func136,Tryz.ntmps136
  go_wp2
  go_ret
  exact⟨rfl,rfl⟩
 ·rw[decide_eq_false (fun h=>h1 h.1)]
  go_enter Tryz.func136,Tryz.ntmps136
  go_wp2
  go_ret
  exact⟨rfl,rfl⟩
theorem l2stat_any (k:Int) (w:World):Calls Tryz.prog 71 #[.int .i64 k] w fun e w'=>e= .returned (.bool (statK k))/\w'=w:=by
 unfold statK
 rcases(show(1<=k/\k<=16)\/(1<=k/\¬k<=16)\/¬1<=k by omega) with⟨h1,h2⟩|⟨h1,h2⟩|h1
 ·rw[decide_eq_true ⟨h1,h2⟩]
  go_enter Tryz.func71,Tryz.ntmps71
  go_wp2
  go_ret
  exact⟨rfl,rfl⟩
 ·rw[decide_eq_false (fun h=>h2 h.2)]
  go_enter Tryz.func71,Tryz.ntmps71
  go_wp2
  go_ret
  exact⟨rfl,rfl⟩
 ·rw[decide_eq_false (fun h=>h1 h.1)]
  go_enter Tryz.func71,Tryz.ntmps71
  go_wp2
  go_ret
  exact⟨rfl,rfl⟩
theorem l2target_any (k:Int) (w:World):Calls Tryz.prog 111 #[.int .i64 k] w fun e w'=>e= .returned (.bool (targK k))/\w'=w:=by
 unfold targK
 by_cases h1:k=26
 ·subst h1
  go_enter Tryz.func111,Tryz.ntmps111
  go_wp2
  go_ret
  exact⟨rfl,rfl⟩
 have g1:(k==26)=false:=by rw[beq_eq_false_iff_ne];exact h1
 by_cases h2:k=32
 ·subst h2
  go_enter Tryz.func111,Tryz.ntmps111
  go_wp2
  go_ret
  exact⟨rfl,rfl⟩
 have g2:(k==32)=false:=by rw[beq_eq_false_iff_ne];exact h2
 by_cases h3:k=33
 ·subst h3
  go_enter Tryz.func111,Tryz.ntmps111
  go_wp2
  go_ret
  exact⟨rfl,rfl⟩
 have g3:(k==33)=false:=by rw[beq_eq_false_iff_ne];exact h3
 rw[decide_eq_false (by omega)]
 go_enter Tryz.func111,Tryz.ntmps111
 go_wp2
 go_ret
 exact⟨rfl,rfl⟩
theorem l2kid_any (w:World) (vt:Value) (ns:List Nd) (N M:Nd) (vn vk:Value) (i:Nat) (z:Nat) (ht:NdsAt w vt ns) (hn:StrsAt w vn N.nm) (hk:IntsAt w vk N.ks) (hi:N.ks[i]?=some (z:Int)) (hM:ns[z]?=some M) (hb1:ns.length<=1048576) (hb2:N.ks.length<=1048576):
  Calls Tryz.prog 107 #[.agg #[vt],vNd N vn vk,.int .i64 i] w fun e w'=>e= .returned (.int .i64 M.k)/\Below w.heap.size w w':=by
 have hb0:∀o1 o2,Below w.heap.size w ((w.alloc o1).alloc o2):=fun o1 o2=>((Below.refl _ w).alloc (Nat.le_refl _) o1).alloc (by simp) o2
 obtain⟨a1,c1,rfl⟩:=ht.form
 obtain⟨a2,c2,rfl⟩:=hn.form
 obtain⟨a3,c3,rfl⟩:=hk.form
 obtain⟨p1,rfl,vn1,vk1,g1⟩:=ht.get hM
 obtain⟨p3,rfl,g3⟩:=hk.get hi
 have hz:z<ns.length:=by rcases Nat.lt_or_ge z ns.length with h|h;exact h;rw[List.getElem?_eq_none h]at hM;cases hM
 have hil:i<N.ks.length:=by rcases Nat.lt_or_ge i N.ks.length with h|h;exact h;rw[List.getElem?_eq_none h]at hi;cases hi
 have e1:=g1.c0
 have l1:=cell_lt g3
 have l2:=cell_lt e1
 unfold vNd
 generalize ns.length=n at hb1 hz
 generalize N.ks.length=L2 at hb2 hil
 generalize N.nm.length=L1
 generalize M.k=R at e1
 have hzi:(z:Int)<(n:Int):=by omega
 have hii:(i:Int)<(L2:Int):=by omega
 have hz0:(0:Int)<=(z:Int):=by omega
 have hi0:(0:Int)<=(i:Int):=by omega
 clear ht hn hk hi hM g1
 obtain⟨nk,nf,nt,nl,nop,nn,nx,nnm,nks⟩:=N
 simp only
 go_enter Tryz.func107,Tryz.ntmps107
 go_wp2_with fail
 go_quiet (fail)
 go_wp2_with fail
 go_ret
 exact⟨rfl,bel_drew (hb0 _ _) _⟩
def kidK (ns:List Nd) (N:Nd) (j:Nat):Int:=(ns.getD ((N.ks.getD j 0).toNat) zNd).k
def exB (ns:List Nd) (N:Nd):Nat->Nat->Bool
 |0,_=>true
 |f+1,j=>exprK (kidK ns N j)&&exB ns N f (j+1)
structure ExIs (ns:List Nd) (N:Nd) (f j:Nat) (R:Bool):Prop where
 out:exB ns N f j=R
structure KidsOk (ns:List Nd) (N:Nd):Prop where
 ok:∀z∈N.ks,0<=z/\z<(ns.length:Int)
theorem KidsOk.get {ns:List Nd}{N:Nd}(h:KidsOk ns N) {j:Nat}(hj:j<N.ks.length):∃(z:Nat) (M:Nd),N.ks[j]?=some (z:Int)/\ns[z]?=some M/\kidK ns N j=M.k/\z<ns.length:=by
 have e1:N.ks[j]?=some N.ks[j]:=List.getElem?_eq_getElem hj
 obtain⟨h0,h1⟩:=h.ok N.ks[j] (List.getElem_mem hj)
 obtain⟨z,hz⟩:∃z:Nat,N.ks[j]=(z:Int):=⟨N.ks[j].toNat,by omega⟩
 have hzl:z<ns.length:=by omega
 refine⟨z,ns[z],by rw[e1,hz],List.getElem?_eq_getElem hzl,?_,hzl⟩
 unfold kidK
 rw[List.getD_eq_getElem?_getD,List.getD_eq_getElem?_getD,e1,hz]
 simp[hzl]
theorem l2exprs_any (w:World) (vt:Value) (ns:List Nd) (N:Nd) (vn vk:Value) (i k:Nat) (ht:NdsAt w vt ns) (hn:StrsAt w vn N.nm) (hk:IntsAt w vk N.ks) (hK:KidsOk ns N) (hkl:k<=N.ks.length) (hb1:ns.length<=1048576) (hb2:N.ks.length<=1048576):
  Calls Tryz.prog 110 #[.agg #[vt],vNd N vn vk,.int .i64 i,.int .i64 k] w fun e w'=>e= .returned (.bool (exB ns N (k-i) i))/\Below w.heap.size w w':=by
 obtain⟨R,hR⟩:∃R,exB ns N (k-i) i=R:=⟨_,rfl⟩
 rw[hR]
 have HR:ExIs ns N (k-i) i R:=⟨hR⟩
 clear hR
 have hb0:∀o1 o2,Below w.heap.size w ((w.alloc o1).alloc o2):=fun o1 o2=>((Below.refl _ w).alloc (Nat.le_refl _) o1).alloc (by simp) o2
 have HT:Hid (NdsAt w vt ns/\IntsAt w vk N.ks):=⟨ht,hk⟩
 obtain⟨a1,c1,rfl⟩:=ht.form
 obtain⟨a2,c2,rfl⟩:=hn.form
 obtain⟨a3,c3,rfl⟩:=hk.form
 clear ht hn hk
 unfold vNd
 obtain⟨n,hn⟩:∃n,ns.length=n:=⟨_,rfl⟩
 obtain⟨L2,hL2⟩:∃n,N.ks.length=n:=⟨_,rfl⟩
 have HL:Hid (ns.length=n/\N.ks.length=L2):=⟨hn,hL2⟩
 rw[hn]at HT hb1⊢
 rw[hL2]at HT hb2 hkl⊢
 clear hn hL2
 generalize N.nm.length=L1
 go_enter Tryz.func110,Tryz.ntmps110
 go_wp2_with fail
 obtain⟨W2,hW2⟩:∃W2,(w.alloc (.cells #[.slice a1 n c1] 29)).alloc (.cells #[.int .i64 N.k,.int .i64 N.f,.int .i64 N.t,.int .i64 N.l,.int .i64 N.op,.int .i64 N.n,.string N.x,.slice a2 L1 c2,.slice a3 L2 c3] 44)=W2:=⟨_,rfl⟩
 have d1:W2.cell? ⟨w.heap.size,0,none⟩=some (.slice a1 n c1):=by
  rw[<-hW2,cell_of_row _ _ _ _ _ _ ((Below.heap_alloc _ _ _ (by simp)).trans (heap_alloc_new w _))];rfl
 have d2:W2.cell? ⟨w.heap.size+1,8,none⟩=some (.slice a3 L2 c3):=by
  have:=heap_alloc_new (w.alloc (.cells #[.slice a1 n c1] 29)) (.cells #[.int .i64 N.k,.int .i64 N.f,.int .i64 N.t,.int .i64 N.l,.int .i64 N.op,.int .i64 N.n,.string N.x,.slice a2 L1 c2,.slice a3 L2 c3] 44)
  rw[World.size_alloc]at this
  rw[<-hW2,cell_of_row _ _ _ _ _ _ this];rfl
 have hB2:Below w.heap.size w W2:=by rw[<-hW2];exact hb0 _ _
 rw[hW2]
 clear hW2 hb0
 go_loopw [9] (fun vj wr=>∃(j:Nat),vj= .int .i64 j/\i<=j/\(i<=k->j<=k)/\ExIs ns N (k-j) j R/\Below W2.heap.size W2 wr) (fun vj _=>k-(intOf vj).toNat)
 case atStart=>exact⟨i,rfl,Nat.le_refl _,fun h=>h,HR,Below.refl _ _⟩
 case round=>
  obtain⟨j,rfl,hij,hjk,HJ,hb⟩:=hrel
  have hbw:=hB2.trans (hb.mono hB2.size)
  by_cases hlt:j<k
  ·obtain⟨z,M,e1,e2,e3,e4⟩:=hK.get (j:=j) (by rw[HL.out.2];omega)
   rw[HL.out.1]at e4
   obtain⟨p1,rfl,vn1,vk1,g1⟩:=(HT.out.1.below hbw).get e2
   obtain⟨p3,rfl,g3⟩:=(HT.out.2.below hbw).get e1
   have f1:=cell_kept hb d1
   have f2:=cell_kept hb d2
   have f3:=g1.c0
   have hst:=HJ.out
   rw[show k-j=(k-(j+1))+1 by omega,exB,e3]at hst
   have hji:(j:Int)<(k:Int):=by omega
   have hjl:(j:Int)<(L2:Int):=by omega
   have hzi:(z:Int)<(n:Int):=by omega
   have hz0:(0:Int)<=(z:Int):=by omega
   have hj0:(0:Int)<=(j:Int):=by omega
   have ke:=fun w=>l2expr_any M.k w
   generalize M.k=m at f3 hst ke
   clear e1 e2 e3 g1
   cases hx:exprK m with
   |true=>
    rw[hx,Bool.true_and]at hst
    rw[hx]at ke
    have HS:ExIs ns N (k-(j+1)) (j+1) R:=⟨hst⟩
    clear hst hx
    go_wp2_with fail
    go_quiet ((go_at_call 136;exact Calls.quiet_of_same (ke _)))
    go_wp2_with fail
    exact⟨⟨j+1,by go_num,by omega,fun _=>by omega,HS,bel_drew hb _⟩,by simp[intOf];omega⟩
   |false=>
    rw[hx,Bool.false_and]at hst
    rw[hx]at ke
    have HS:Hid (false=R):=hst
    clear hst hx
    go_wp2_with fail
    go_quiet ((go_at_call 136;exact Calls.quiet_of_same (ke _)))
    go_wp2_with fail
    go_ret
    exact⟨by rw[<-HS.out];rfl,bel_drew hbw _⟩
  ·have hst:=HJ.out
   rw[show k-j=0 by omega,exB]at hst
   have HS:Hid (true=R):=hst
   have hji:¬(j:Int)<(k:Int):=by omega
   clear hst
   go_wp2_with fail
   go_ret
   exact⟨by rw[<-HS.out];rfl,hbw⟩
end Go.Proofs.YtelfejiiabbpfaaGreatDoor
namespace Go.Proofs.YtelfejiiabbpfaaGreatDoor
open Go.RowKit Go.Maps Go.WideMaps
def nmsB (l:List ByteArray):Nat->Nat->Bool
 |0,_=>true
 |f+1,j=>nmok (l.getD j ByteArray.empty)&&nmsB l f (j+1)
structure NmsIs (l:List ByteArray) (f j:Nat) (R:Bool):Prop where
 out:nmsB l f j=R
def namedB (N:Nd) (least most:Int):Bool:=decide (least<=(N.nm.length:Int)/\(N.nm.length:Int)<=most)&&nmsB N.nm N.nm.length 0
theorem l2named_any (w:World) (N:Nd) (vn vk:Value) (least most:Int) (hn:StrsAt w vn N.nm) (hk:IntsAt w vk N.ks) (hl:N.nm.length<=1048576) (hs:∀s∈N.nm,s.size<=1048576):
  Calls Tryz.prog 109 #[vNd N vn vk,.int .i64 least,.int .i64 most] w fun e w'=>e= .returned (.bool (namedB N least most))/\Below w.heap.size w w':=by
 have hb0:∀o,Below w.heap.size w (w.alloc o):=fun o=>(Below.refl _ w).alloc (Nat.le_refl _) o
 have HT:Hid (StrsAt w vn N.nm/\∀s∈N.nm,s.size<=1048576):=⟨hn,hs⟩
 obtain⟨a2,c2,rfl⟩:=hn.form
 obtain⟨a3,c3,rfl⟩:=hk.form
 clear hn hk hs
 obtain⟨R,hR⟩:∃R,namedB N least most=R:=⟨_,rfl⟩
 rw[hR]
 unfold namedB at hR
 unfold vNd
 obtain⟨L1,hL1⟩:∃n,N.nm.length=n:=⟨_,rfl⟩
 have HL:Hid (N.nm.length=L1):=hL1
 rw[hL1]at HT hl hR⊢
 clear hL1
 generalize N.ks.length=L2
 by_cases g1:(L1:Int)<least
 ·have HR:Hid (false=R):=by rw[decide_eq_false (by omega)]at hR;exact hR
  clear hR
  go_enter Tryz.func109,Tryz.ntmps109
  go_wp2
  go_ret
  exact⟨by rw[<-HR.out];rfl,hb0 _⟩
 by_cases g2:most<(L1:Int)
 ·have HR:Hid (false=R):=by rw[decide_eq_false (by omega)]at hR;exact hR
  clear hR
  go_enter Tryz.func109,Tryz.ntmps109
  go_wp2
  go_ret
  exact⟨by rw[<-HR.out];rfl,hb0 _⟩
 have HR:NmsIs N.nm L1 0 R:=⟨by rw[decide_eq_true (by omega)]at hR;simpa using hR⟩
 clear hR
 go_enter Tryz.func109,Tryz.ntmps109
 go_wp2_with fail
 have hB2:=hb0 (.cells #[.int .i64 N.k,.int .i64 N.f,.int .i64 N.t,.int .i64 N.l,.int .i64 N.op,.int .i64 N.n,.string N.x,.slice a2 L1 c2,.slice a3 L2 c3] 44)
 generalize w.alloc (.cells #[.int .i64 N.k,.int .i64 N.f,.int .i64 N.t,.int .i64 N.l,.int .i64 N.op,.int .i64 N.n,.string N.x,.slice a2 L1 c2,.slice a3 L2 c3] 44)=W2 at hB2⊢
 clear hb0
 go_loopw [24,8] (fun vj _ wr=>∃(j:Nat),vj= .int .i64 j/\j<=L1/\NmsIs N.nm (L1-j) j R/\Below W2.heap.size W2 wr) (fun vj _ _=>L1-(intOf vj).toNat)
 case atStart=>exact⟨0,rfl,by omega,HR,Below.refl _ _⟩
 case round=>
  obtain⟨j,rfl,hj,HJ,hb⟩:=hrel
  have hbw:=hB2.trans (hb.mono hB2.size)
  have hst:=HJ.out
  by_cases hlt:j<L1
  ·obtain⟨s,hsk⟩:=some_at HL.out hlt
   have hss:=HT.out.2 s (List.mem_of_getElem? hsk)
   obtain⟨p3,rfl,g3⟩:=(HT.out.1.below hbw).get hsk
   rw[show L1-j=(L1-(j+1))+1 by omega,nmsB,List.getD_eq_getElem?_getD,hsk,Option.getD_some]at hst
   have hji:(j:Int)<(L1:Int):=by omega
   have hj0:(0:Int)<=(j:Int):=by omega
   have ke:=l1nameok_any s (by omega) wr
   clear hsk
   cases hx:nmok s with
   |true=>
    rw[hx,Bool.true_and]at hst
    rw[hx]at ke
    have HS:NmsIs N.nm (L1-(j+1)) (j+1) R:=⟨hst⟩
    clear hst hx
    go_wp2_with (go_at_call 113;refine ke.mono ?_;rintro e w3 ⟨rfl,hb3⟩)
    exact⟨⟨j+1,by go_num,by omega,HS,hb.trans (hb3.mono hb.size)⟩,by simp[intOf];omega⟩
   |false=>
    rw[hx,Bool.false_and]at hst
    rw[hx]at ke
    have HS:Hid (false=R):=hst
    clear hst hx
    go_wp2_with (go_at_call 113;refine ke.mono ?_;rintro e w3 ⟨rfl,hb3⟩)
    go_ret
    exact⟨by rw[<-HS.out];rfl,hbw.trans (hb3.mono hbw.size)⟩
  ·rw[show L1-j=0 by omega,nmsB]at hst
   have HS:Hid (true=R):=hst
   have hji:¬(j:Int)<(L1:Int):=by omega
   clear hst
   go_wp2_with fail
   go_ret
   exact⟨by rw[<-HS.out];rfl,hbw⟩
end Go.Proofs.YtelfejiiabbpfaaGreatDoor
namespace Go.Proofs.YtelfejiiabbpfaaGreatDoor
open Go.RowKit
def wB:Nat->ByteArray
 |0=>⟨#[115,116,97,116]⟩
 |1=>⟨#[98,108,111,99,107]⟩
 |2=>⟨#[101,108,115,101]⟩
 |3=>⟨#[101,120,112,114]⟩
 |4=>⟨#[98,97,115,101]⟩
 |5=>⟨#[116,97,114,103,101,116]⟩
 |6=>⟨#[99,97,108,108]⟩
 |7=>⟨#[109,97,110,121]⟩
 |8=>⟨#[102,110]⟩
 |_=>⟨#[101,110,116,114,121]⟩
def ms:Nat->Int->Bool
 |0,k=>statK k
 |1,k=>k==1
 |2,k=>k==1||k==7
 |3,k=>exprK k
 |4,k=>exprK k&&k !=27
 |5,k=>k==26||k==32||k==33
 |6,k=>k==34
 |7,k=>k==34||k==27
 |8,k=>k==36
 |_,k=>decide (40<=k/\k<=42)
theorem isExpr_any (k:Int) (w:World):Calls Tryz.prog 170 #[.int .i64 k] w fun e w'=>e= .returned (.bool (exprK k))/\w'=w:=by
 unfold exprK
 rcases(show(20<=k/\k<=37)\/(20<=k/\¬k<=37)\/¬20<=k by omega) with⟨h1,h2⟩|⟨h1,h2⟩|h1
 ·rw[decide_eq_true ⟨h1,h2⟩]
  go_enter Tryz.func170,Tryz.ntmps170
  go_wp2
  go_ret
  exact⟨rfl,rfl⟩
 ·rw[decide_eq_false (fun h=>h2 h.2)]
  go_enter Tryz.func170,Tryz.ntmps170
  go_wp2
  go_ret
  exact⟨rfl,rfl⟩
 ·rw[decide_eq_false (fun h=>h1 h.1)]
  go_enter Tryz.func170,Tryz.ntmps170
  go_wp2
  go_ret
  exact⟨rfl,rfl⟩
theorem mayStand0 (k:Int) (w:World):Calls Tryz.prog 151 #[.string ⟨#[115,116,97,116]⟩,.int .i64 k] w fun e w'=>e= .returned (.bool (ms 0 k))/\w'=w:=by
 rcases(show(1<=k/\k<=16)\/(1<=k/\¬k<=16)\/(¬1<=k) by omega) with⟨h0,h1⟩|⟨h0,h1⟩|h0
 ·rw[show ms 0 k=true from decide_eq_true (by omega)]
  go_enter Tryz.func151,Tryz.ntmps151
  go_wp2
  go_ret
  exact⟨rfl,rfl⟩
 ·rw[show ms 0 k=false from decide_eq_false (by omega)]
  go_enter Tryz.func151,Tryz.ntmps151
  go_wp2
  go_ret
  exact⟨rfl,rfl⟩
 ·rw[show ms 0 k=false from decide_eq_false (by omega)]
  go_enter Tryz.func151,Tryz.ntmps151
  go_wp2
  go_ret
  exact⟨rfl,rfl⟩
theorem mayStand1 (k:Int) (w:World):Calls Tryz.prog 151 #[.string ⟨#[98,108,111,99,107]⟩,.int .i64 k] w fun e w'=>e= .returned (.bool (ms 1 k))/\w'=w:=by
 unfold ms
 go_enter Tryz.func151,Tryz.ntmps151
 go_wp2
 go_ret
 exact⟨rfl,rfl⟩
theorem mayStand2 (k:Int) (w:World):Calls Tryz.prog 151 #[.string ⟨#[101,108,115,101]⟩,.int .i64 k] w fun e w'=>e= .returned (.bool (ms 2 k))/\w'=w:=by
 unfold ms
 rcases(show(k=1)\/(k=7)\/(¬k=1/\¬k=7) by omega) with rfl|rfl|⟨h0,h1⟩
 ·go_enter Tryz.func151,Tryz.ntmps151
  go_wp2
  go_ret
  exact⟨rfl,rfl⟩
 ·go_enter Tryz.func151,Tryz.ntmps151
  go_wp2
  go_ret
  exact⟨rfl,rfl⟩
 ·go_enter Tryz.func151,Tryz.ntmps151
  go_wp2
  go_ret
  exact⟨rfl,rfl⟩
theorem mayStand3 (k:Int) (w:World):Calls Tryz.prog 151 #[.string ⟨#[101,120,112,114]⟩,.int .i64 k] w fun e w'=>e= .returned (.bool (ms 3 k))/\w'=w:=by
 have ke:=fun w=>isExpr_any k w
 obtain⟨b,hb⟩:∃b,exprK k=b:=⟨_,rfl⟩
 show Calls _ _ _ _ fun e w'=>e= .returned (.bool (exprK k))/\w'=w
 rw[hb]at ke⊢
 clear hb
 go_enter Tryz.func151,Tryz.ntmps151
 go_wp2_with (go_at_call 170;refine(ke _).mono ?_;rintro e w' ⟨rfl,rfl⟩)
 go_ret
 exact⟨rfl,rfl⟩
theorem mayStand4 (k:Int) (w:World):Calls Tryz.prog 151 #[.string ⟨#[98,97,115,101]⟩,.int .i64 k] w fun e w'=>e= .returned (.bool (ms 4 k))/\w'=w:=by
 have ke:=fun w=>isExpr_any k w
 obtain⟨b,hb⟩:∃b,exprK k=b:=⟨_,rfl⟩
 show Calls _ _ _ _ fun e w'=>e= .returned (.bool (exprK k&&k !=27))/\w'=w
 rw[hb]at ke⊢
 clear hb
 cases b
 ·rw[Bool.false_and]
  go_enter Tryz.func151,Tryz.ntmps151
  go_wp2_with (go_at_call 170;refine(ke _).mono ?_;rintro e w' ⟨rfl,rfl⟩)
  go_ret
  exact⟨rfl,rfl⟩
 ·rw[Bool.true_and]
  go_enter Tryz.func151,Tryz.ntmps151
  go_wp2_with (go_at_call 170;refine(ke _).mono ?_;rintro e w' ⟨rfl,rfl⟩)
  go_ret
  exact⟨rfl,rfl⟩
theorem mayStand5 (k:Int) (w:World):Calls Tryz.prog 151 #[.string ⟨#[116,97,114,103,101,116]⟩,.int .i64 k] w fun e w'=>e= .returned (.bool (ms 5 k))/\w'=w:=by
 unfold ms
 rcases(show(k=26)\/(k=32)\/(k=33)\/(¬k=26/\¬k=32/\¬k=33) by omega) with rfl|rfl|rfl|⟨h0,h1,h2⟩
 ·go_enter Tryz.func151,Tryz.ntmps151
  go_wp2
  go_ret
  exact⟨rfl,rfl⟩
 ·go_enter Tryz.func151,Tryz.ntmps151
  go_wp2
  go_ret
  exact⟨rfl,rfl⟩
 ·go_enter Tryz.func151,Tryz.ntmps151
  go_wp2
  go_ret
  exact⟨rfl,rfl⟩
 ·go_enter Tryz.func151,Tryz.ntmps151
  go_wp2
  go_ret
  exact⟨rfl,rfl⟩
theorem mayStand6 (k:Int) (w:World):Calls Tryz.prog 151 #[.string ⟨#[99,97,108,108]⟩,.int .i64 k] w fun e w'=>e= .returned (.bool (ms 6 k))/\w'=w:=by
 unfold ms
 go_enter Tryz.func151,Tryz.ntmps151
 go_wp2
 go_ret
 exact⟨rfl,rfl⟩
theorem mayStand7 (k:Int) (w:World):Calls Tryz.prog 151 #[.string ⟨#[109,97,110,121]⟩,.int .i64 k] w fun e w'=>e= .returned (.bool (ms 7 k))/\w'=w:=by
 unfold ms
 rcases(show(k=34)\/(k=27)\/(¬k=34/\¬k=27) by omega) with rfl|rfl|⟨h0,h1⟩
 ·go_enter Tryz.func151,Tryz.ntmps151
  go_wp2
  go_ret
  exact⟨rfl,rfl⟩
 ·go_enter Tryz.func151,Tryz.ntmps151
  go_wp2
  go_ret
  exact⟨rfl,rfl⟩
 ·go_enter Tryz.func151,Tryz.ntmps151
  go_wp2
  go_ret
  exact⟨rfl,rfl⟩
theorem mayStand8 (k:Int) (w:World):Calls Tryz.prog 151 #[.string ⟨#[102,110]⟩,.int .i64 k] w fun e w'=>e= .returned (.bool (ms 8 k))/\w'=w:=by
 unfold ms
 go_enter Tryz.func151,Tryz.ntmps151
 go_wp2
 go_ret
 exact⟨rfl,rfl⟩
theorem mayStand9 (k:Int) (w:World):Calls Tryz.prog 151 #[.string ⟨#[101,110,116,114,121]⟩,.int .i64 k] w fun e w'=>e= .returned (.bool (ms 9 k))/\w'=w:=by
 rcases(show(40<=k/\k<=42)\/(40<=k/\¬k<=42)\/(¬40<=k) by omega) with⟨h0,h1⟩|⟨h0,h1⟩|h0
 ·rw[show ms 9 k=true from decide_eq_true (by omega)]
  go_enter Tryz.func151,Tryz.ntmps151
  go_wp2
  go_ret
  exact⟨rfl,rfl⟩
 ·rw[show ms 9 k=false from decide_eq_false (by omega)]
  go_enter Tryz.func151,Tryz.ntmps151
  go_wp2
  go_ret
  exact⟨rfl,rfl⟩
 ·rw[show ms 9 k=false from decide_eq_false (by omega)]
  go_enter Tryz.func151,Tryz.ntmps151
  go_wp2
  go_ret
  exact⟨rfl,rfl⟩
theorem mayStand_any (i:Nat) (hi:i<10) (k:Int) (w:World):Calls Tryz.prog 151 #[.string (wB i),.int .i64 k] w fun e w'=>e= .returned (.bool (ms i k))/\w'=w:=by
 match i,hi with
 |0,_=>exact mayStand0 k w
 |1,_=>exact mayStand1 k w
 |2,_=>exact mayStand2 k w
 |3,_=>exact mayStand3 k w
 |4,_=>exact mayStand4 k w
 |5,_=>exact mayStand5 k w
 |6,_=>exact mayStand6 k w
 |7,_=>exact mayStand7 k w
 |8,_=>exact mayStand8 k w
 |9,_=>exact mayStand9 k w
def pwF (op:Int):Int×Int:=
 if 13<=op/\op<=18 then(3,4) else if op=12 then(4,4) else if op=8 then(5,6) else if op=9 then(6,7) else if op=7 then(7,8) else if op=10\/op=11 then(8,9) else if op=1\/op=2 then(9,10) else(10,11)
theorem l3power_any (op:Int) (h0:1<=op) (h1:op<=18) (w:World):
  Calls Tryz.prog 114 #[.int .i64 (60+op)] w fun e w'=>e= .returned (.tuple #[.int .i64 (pwF op).1,.int .i64 (pwF op).2])/\w'=w:=by
 have h:op=1\/op=2\/op=3\/op=4\/op=5\/op=6\/op=7\/op=8\/op=9\/op=10\/op=11\/op=12\/op=13\/op=14\/op=15\/op=16\/op=17\/op=18:=by omega
 clear h0 h1
 rcases h with rfl|rfl|rfl|rfl|rfl|rfl|rfl|rfl|rfl|rfl|rfl|rfl|rfl|rfl|rfl|rfl|rfl|rfl<;>
  (go_enter Tryz.func114,Tryz.ntmps114
   go_wp2
   exact bodyPost_ret (results_tmp2 rfl _ _ _) rfl ⟨rfl,rfl⟩)
def powP (k op:Int):Int:=if k=29 then 1 else if k=28 then 2 else if k=31 then(pwF op).1 else if k=30 then 11 else 12
def rgtK (k op:Int):Int:=if k=29 then 2 else if k=28 then 3 else(pwF op).2
def baseK (k:Int):Bool:=k==26||k==32||k==33||k==34||k==37
theorem l4power_any (N:Nd) (vn vk:Value) (hop:N.k=31->1<=N.op/\N.op<=18) (w:World):
  Calls Tryz.prog 75 #[vNd N vn vk] w fun e w'=>e= .returned (.int .i64 (powP N.k N.op))/\Below w.heap.size w w':=by
 have hb:Below w.heap.size w (w.alloc (.cells #[.int .i64 N.k,.int .i64 N.f,.int .i64 N.t,.int .i64 N.l,.int .i64 N.op,.int .i64 N.n,.string N.x,vn,vk] 44)):=(Below.refl _ w).alloc (Nat.le_refl _) _
 unfold vNd
 by_cases e1:N.k=29
 ·have f1:(N.k==29)=true:=by simpa using e1
  have HR:Hid (powP N.k N.op=1):=by show _=_;unfold powP;rw[if_pos e1]
  clear e1 hop
  go_enter Tryz.func75,Tryz.ntmps75
  go_wp2
  go_ret
  exact⟨by rw[HR.out];rfl,hb⟩
 have f1:(N.k==29)=false:=by simpa using e1
 by_cases e2:N.k=28
 ·have f2:(N.k==28)=true:=by simpa using e2
  have HR:Hid (powP N.k N.op=2):=by show _=_;unfold powP;rw[if_neg e1,if_pos e2]
  clear e1 e2 hop
  go_enter Tryz.func75,Tryz.ntmps75
  go_wp2
  go_ret
  exact⟨by rw[HR.out];rfl,hb⟩
 have f2:(N.k==28)=false:=by simpa using e2
 by_cases e3:N.k=31
 ·have f3:(N.k==31)=true:=by simpa using e3
  have HR:Hid (powP N.k N.op=(pwF N.op).1):=by show _=_;unfold powP;rw[if_neg e1,if_neg e2,if_pos e3]
  obtain⟨o0,o1⟩:=hop e3
  have kp:=l3power_any N.op o0 o1
  generalize pwF N.op=R at kp HR
  obtain⟨r1,r2⟩:=R
  simp only at kp HR
  clear e1 e2 e3 hop
  go_enter Tryz.func75,Tryz.ntmps75
  go_wp2_with (go_at_call 114;refine(kp _).mono ?_;rintro e w' ⟨rfl,hw'⟩;subst w')
  go_ret
  exact⟨by rw[HR.out];rfl,hb⟩
 have f3:(N.k==31)=false:=by simpa using e3
 by_cases e4:N.k=30
 ·have f4:(N.k==30)=true:=by simpa using e4
  have HR:Hid (powP N.k N.op=11):=by show _=_;unfold powP;rw[if_neg e1,if_neg e2,if_neg e3,if_pos e4]
  clear e1 e2 e3 e4 hop
  go_enter Tryz.func75,Tryz.ntmps75
  go_wp2
  go_ret
  exact⟨by rw[HR.out];rfl,hb⟩
 have f4:(N.k==30)=false:=by simpa using e4
 have HR:Hid (powP N.k N.op=12):=by show _=_;unfold powP;rw[if_neg e1,if_neg e2,if_neg e3,if_neg e4]
 clear e1 e2 e3 e4 hop
 go_enter Tryz.func75,Tryz.ntmps75
 go_wp2
 go_ret
 exact⟨by rw[HR.out];rfl,hb⟩
theorem l4right_any (N:Nd) (vn vk:Value) (hop:N.k≠29->N.k≠28->1<=N.op/\N.op<=18) (w:World):
  Calls Tryz.prog 115 #[vNd N vn vk] w fun e w'=>e= .returned (.int .i64 (rgtK N.k N.op))/\Below w.heap.size w w':=by
 have hb:Below w.heap.size w (w.alloc (.cells #[.int .i64 N.k,.int .i64 N.f,.int .i64 N.t,.int .i64 N.l,.int .i64 N.op,.int .i64 N.n,.string N.x,vn,vk] 44)):=(Below.refl _ w).alloc (Nat.le_refl _) _
 unfold vNd
 by_cases e1:N.k=29
 ·have f1:(N.k==29)=true:=by simpa using e1
  have HR:Hid (rgtK N.k N.op=2):=by show _=_;unfold rgtK;rw[if_pos e1]
  clear e1 hop
  go_enter Tryz.func115,Tryz.ntmps115
  go_wp2
  go_ret
  exact⟨by rw[HR.out];rfl,hb⟩
 have f1:(N.k==29)=false:=by simpa using e1
 by_cases e2:N.k=28
 ·have f2:(N.k==28)=true:=by simpa using e2
  have HR:Hid (rgtK N.k N.op=3):=by show _=_;unfold rgtK;rw[if_neg e1,if_pos e2]
  clear e1 e2 hop
  go_enter Tryz.func115,Tryz.ntmps115
  go_wp2
  go_ret
  exact⟨by rw[HR.out];rfl,hb⟩
 have f2:(N.k==28)=false:=by simpa using e2
 have HR:Hid (rgtK N.k N.op=(pwF N.op).2):=by show _=_;unfold rgtK;rw[if_neg e1,if_neg e2]
 obtain⟨o0,o1⟩:=hop e1 e2
 have kp:=l3power_any N.op o0 o1
 generalize pwF N.op=R at kp HR
 obtain⟨r1,r2⟩:=R
 simp only at kp HR
 clear e1 e2 hop
 go_enter Tryz.func115,Tryz.ntmps115
 go_wp2_with (go_at_call 114;refine(kp _).mono ?_;rintro e w' ⟨rfl,hw'⟩;subst w')
 go_ret
 exact⟨by rw[HR.out];rfl,hb⟩
theorem l4base_any (k:Int) (w:World):Calls Tryz.prog 119 #[.int .i64 k] w fun e w'=>e= .returned (.bool (baseK k))/\w'=w:=by
 unfold baseK
 cases f1:(k==26)<;>cases f2:(k==32)<;>cases f3:(k==33)<;>cases f4:(k==34)<;>cases f5:(k==37)<;>
  (go_enter Tryz.func119,Tryz.ntmps119
   go_wp2
   go_ret
   exact⟨rfl,rfl⟩)
end Go.Proofs.YtelfejiiabbpfaaGreatDoor
