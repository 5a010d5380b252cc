import Derived.Test.YtelfejiiabbpfaaGreatDoorHRk02
import Derived.Laws.Tables
import Derived.Deep.Strs
import Derived.Deep.Slices
import Derived.ChangeSlices
import Derived.WideShapes
import Derived.OpenShut
import Derived.Test.YtelfejiiabbpfaaGreatDoorRows
import Derived.ProofKit
import Derived.LaidMore
import Derived.LaidSub
import Derived.OpenVars
import Derived.Stop.Joined
set_option linter.unusedVariables false
set_option maxRecDepth 100000
set_option maxHeartbeats 3200000
namespace Go.Proofs.YtelfejiiabbpfaaGreatDoor
open Go.RowKit
abbrev mv (b:Nat) (f:FuncId):Value:= .func (.func f) #[.pointer (some ⟨b,0,none⟩)] #[]
def mths (b:Nat):Array Value:=#[.nilFunc,mv b 32,mv b 33,mv b 34,mv b 35,mv b 36,mv b 37,mv b 38,mv b 39,mv b 40,mv b 41,mv b 42,mv b 43,mv b 44,mv b 45,mv b 46,mv b 47,.nilFunc,.nilFunc,.nilFunc,mv b 48,mv b 49,mv b 50,mv b 51,mv b 52,mv b 53,mv b 54,mv b 55,mv b 56,mv b 56,mv b 57,mv b 56,mv b 58,mv b 59,mv b 60,mv b 61,mv b 62,mv b 63,.nilFunc,.nilFunc,mv b 64,mv b 65,mv b 66]
theorem setRow_below {base g:Nat}{w W:World}(h:Below base w W) (hg:base<=g) (cs:Array Value):Below base w (W.setRow g cs):=
 ⟨h.os,h.tape,h.output,by unfold World.setRow;simp;exact h.size,fun k hk=>by
  unfold World.setRow
  have:k≠g:=by omega
  simp only[Array.getElem?_modify]
  rw[if_neg (by omega)]
  exact h.block k hk⟩
theorem newVisitor_any (w:World):
  Calls Tryz.prog 15 #[] w fun e w'=>e= .returned (.pointer (some ⟨w.heap.size,0,none⟩))/\w'.heap[w.heap.size]?=some (.cells (mths w.heap.size) 80 (0,0))/\Below w.heap.size w w':=by
 have hmf:∀(fn:Fn) (first cap:Array Value) (w:World),(Instr.makeFunc fn first cap).run Tryz.prog w= .ok (.func fn first cap) w:=fun _ _ _ _=>rfl
 have hnew:=heap_alloc_new w (.cells #[.nilFunc,.nilFunc,.nilFunc,.nilFunc,.nilFunc,.nilFunc,.nilFunc,.nilFunc,.nilFunc,.nilFunc,.nilFunc,.nilFunc,.nilFunc,.nilFunc,.nilFunc,.nilFunc,.nilFunc,.nilFunc,.nilFunc,.nilFunc,.nilFunc,.nilFunc,.nilFunc,.nilFunc,.nilFunc,.nilFunc,.nilFunc,.nilFunc,.nilFunc,.nilFunc,.nilFunc,.nilFunc,.nilFunc,.nilFunc,.nilFunc,.nilFunc,.nilFunc,.nilFunc,.nilFunc,.nilFunc,.nilFunc,.nilFunc,.nilFunc] 80)
 have hbel:Below w.heap.size w (w.alloc (.cells #[.nilFunc,.nilFunc,.nilFunc,.nilFunc,.nilFunc,.nilFunc,.nilFunc,.nilFunc,.nilFunc,.nilFunc,.nilFunc,.nilFunc,.nilFunc,.nilFunc,.nilFunc,.nilFunc,.nilFunc,.nilFunc,.nilFunc,.nilFunc,.nilFunc,.nilFunc,.nilFunc,.nilFunc,.nilFunc,.nilFunc,.nilFunc,.nilFunc,.nilFunc,.nilFunc,.nilFunc,.nilFunc,.nilFunc,.nilFunc,.nilFunc,.nilFunc,.nilFunc,.nilFunc,.nilFunc,.nilFunc,.nilFunc,.nilFunc,.nilFunc] 80)):=(Below.refl _ w).alloc (Nat.le_refl _) _
 go_enter Tryz.func15,Tryz.ntmps15
 go_wp2_with fail
 have key:=run_storeVar_row (P:=Tryz.prog) _ w.heap.size 80 78 _ (mths w.heap.size) hnew (by kernel_rfl) rfl (by kernel_rfl)
 simp[go_sem,mths,mv]at key
 rw[key]
 go_wp2_with fail
 go_ret
 exact⟨rfl,setRow_heap _ _ _ _ _ _ hnew,setRow_below hbel (Nat.le_refl _) _⟩
def sumN:List Nd->Nat
 |[]=>0
 |N::l=>bulkN N+sumN l
theorem sumN_app (a b:List Nd):sumN (a++b)=sumN a+sumN b:=by
 induction a with
 |nil=>simp[sumN]
 |cons x r ih=>simp[sumN,ih];omega
theorem sumN_take (l:List Nd) (k:Nat) (s:Nd) (h:l[k]?=some s):sumN (l.take (k+1))=sumN (l.take k)+bulkN s:=by
 rw[List.take_add_one,h,sumN_app];simp[sumN]
theorem sumN_le (l:List Nd) (k:Nat):sumN (l.take k)<=sumN l:=by
 have h:=sumN_app (l.take k) (l.drop k)
 rw[List.take_append_drop]at h
 omega
def bulkT (l:List Nd):Nat:=l.length+sumN l
theorem szNodeS_any (w:World) (v:Value) (l:List Nd) (left:Int) (h:NdsAt w v l) (hs:∀N∈l,NdLen N) (hl:l.length<=9223372036854775807) (h0:0<=left) (h1:left<=1048576):
  Calls Tryz.prog 9 #[v,.int .i64 left] w fun e w'=>e= .returned (.int .i64 (lessI left (bulkT l)))/\Below w.heap.size w w':=by
 obtain⟨a,c,rfl⟩:=h.form
 obtain⟨n,hn⟩:∃n,l.length=n:=⟨_,rfl⟩
 have HN:Hid (l.length=n):=hn
 rw[hn]at hl⊢
 by_cases g1:left<(n:Int)
 ·have hneg:left-(n:Int)<0:=by omega
  have hb:¬((bulkT l:Nat):Int)<=left:=by unfold bulkT;omega
  rw[lessI_no hb]
  clear hn HN
  go_enter Tryz.func9,Tryz.ntmps9
  go_wp2
  go_ret
  exact⟨rfl,Below.refl _ _⟩
 ·have hneg:¬left-(n:Int)<0:=by omega
  have HS:Hid (∀N∈l,NdLen N):=hs
  have HA:Hid (NdsAt w (.slice a n c) l):=by rw[<-hn];exact h
  clear hs h hn
  go_enter Tryz.func9,Tryz.ntmps9
  go_wp2_with fail
  go_loopw [1,5] (fun vl vi wr=>∃(k:Nat) (z:Int),k<=n/\vi= .int .i64 k/\vl= .int .i64 z/\0<=z/\z<=1048576/\Hid (z=left-(n:Int)-(sumN (l.take k):Int))/\Below w.heap.size w wr) (fun _ vi _=>n-(intOf vi).toNat)
  case atStart=>exact⟨0,left-n,by omega,rfl,rfl,by omega,by omega,by show _=_;simp[sumN],Below.refl _ _⟩
  case round=>
   obtain⟨k,z,hk,rfl,rfl,z0,z1,HZ,hb⟩:=hrel
   by_cases hlt:k<n
   ·obtain⟨N,hsk⟩:=some_at HN.out hlt
    have hss:=HS.out N (List.mem_of_getElem? hsk)
    have hst:=sumN_take l k N hsk
    have hle:=sumN_le l (k+1)
    obtain⟨a',rfl,vn,vk,hNd⟩:=(HA.out.below hb).get hsk
    have hki:(k:Int)<(n:Int):=by omega
    have hk0:(0:Int)<=(k:Int):=by omega
    obtain⟨c0,c1,c2,c3,c4,c5,c6,c7,c8,hn,hkk⟩:=hNd
    have kz:=fun w hn hkk=>szNode_any w N vn vk z hn hkk hss z0 z1
    obtain⟨b,hB⟩:∃b,bulkN N=b:=⟨_,rfl⟩
    rw[hB]at hst kz
    have HB:Hid (bulkN N=b):=hB
    obtain⟨av,cv,rfl⟩:=hn.form
    obtain⟨ak,ck,rfl⟩:=hkk.form
    unfold vNd at kz
    by_cases hfit:(b:Int)<=z
    ·rw[lessI_yes hfit]at kz
     have hng:¬z-(b:Int)<0:=by omega
     have HR:Hid (z-(b:Int)=left-(n:Int)-(sumN (l.take (k+1)):Int)):=by show _=_;have:=HZ.out;omega
     have kz':=kz wr hn hkk
     clear hst hle HZ hsk kz hB hn hkk hss
     go_wp2_with (go_at_call 18;refine kz'.mono ?_;rintro e w3 ⟨rfl,hb3⟩)
     exact⟨⟨k+1,z-b,by omega,by go_num,by go_num,by omega,by omega,HR,hb.trans (hb3.mono hb.size)⟩,by simp[intOf];omega⟩
    ·rw[lessI_no hfit]at kz
     have HR:Hid (lessI left (bulkT l)= -1):=by show _=_;have:=HZ.out;have:=HN.out;exact lessI_no (by unfold bulkT;omega)
     have kz':=kz wr hn hkk
     clear hst hle HZ hsk kz hB hn hkk hss
     go_wp2_with (go_at_call 18;refine kz'.mono ?_;rintro e w3 ⟨rfl,hb3⟩)
     go_ret
     exact⟨by rw[HR.out];rfl,hb.trans (hb3.mono hb.size)⟩
   ·obtain rfl:k=n:=by omega
    have hz:z=lessI left (bulkT l):=by
     have:=HZ.out
     have hn:=HN.out
     rw[List.take_of_length_le (by omega)]at this
     rw[lessI_yes (by unfold bulkT;omega)]
     unfold bulkT;omega
    have HF:Hid (z=lessI left (bulkT l)):=hz
    clear hz
    go_wp2_with fail
    go_ret
    exact⟨by rw[<-HF.out];rfl,hb⟩
theorem szTree_any (w:World) (v:Value) (l:List Nd) (left:Int) (h:NdsAt w v l) (hs:∀N∈l,NdLen N) (hl:l.length<=9223372036854775807) (h0:0<=left) (h1:left<=1048576):
  Calls Tryz.prog 4 #[.agg #[v],.int .i64 left] w fun e w'=>e= .returned (.int .i64 (lessI left (bulkT l)))/\Below w.heap.size w w':=by
 have hb0:∀o,Below w.heap.size w (w.alloc o):=fun o=>(Below.refl _ w).alloc (Nat.le_refl _) o
 have kz:=fun o=>szNodeS_any (w.alloc o) v l left (h.below (hb0 o)) hs hl h0 h1
 obtain⟨a,c,rfl⟩:=h.form
 generalize l.length=n at kz
 have f3:∃R,lessI left (bulkT l)=R/\ -1<=R:=⟨_,rfl,by unfold lessI;split<;>omega⟩
 obtain⟨R,hR,hR1⟩:=f3
 rw[hR]at kz⊢
 clear hR h hs hl
 by_cases f4:R<0
 ·obtain rfl:R= -1:=by omega
  go_enter Tryz.func4,Tryz.ntmps4
  go_wp2_with (go_at_call 9;refine(kz _).mono ?_;rintro e w3 ⟨rfl,hb3⟩)
  go_ret
  exact⟨rfl,(hb0 _).trans (hb3.mono (by simp))⟩
 ·go_enter Tryz.func4,Tryz.ntmps4
  go_wp2_with (go_at_call 9;refine(kz _).mono ?_;rintro e w3 ⟨rfl,hb3⟩)
  go_ret
  exact⟨rfl,(hb0 _).trans (hb3.mono (by simp))⟩
end Go.Proofs.YtelfejiiabbpfaaGreatDoor
namespace Go.Proofs.YtelfejiiabbpfaaGreatDoor
open Go.ChangeShapes Go.WideShapes Go.ChangeAt Go.WideMaps Go.WideElems Go.RowKit Go.Deep
theorem int_wf {n:Int}(h:(Lit.int .i64 n).wf=true): -9223372036854775808<=n/\n<=9223372036854775807:=bounds_i64 h
structure NdInt (N:Nd):Prop where
 k: -9223372036854775808<=N.k/\N.k<=9223372036854775807
 f: -9223372036854775808<=N.f/\N.f<=9223372036854775807
 t: -9223372036854775808<=N.t/\N.t<=9223372036854775807
 l: -9223372036854775808<=N.l/\N.l<=9223372036854775807
 op: -9223372036854775808<=N.op/\N.op<=9223372036854775807
 n: -9223372036854775808<=N.n/\N.n<=9223372036854775807
 ks:∀z∈N.ks, -9223372036854775808<=z/\z<=9223372036854775807
theorem strs_of_trod {H:Type}{enc:TypeId×Value->H}{W:World}{base fuel:Nat}{sp:Nat->Bool}{held:Bool}{v:Value}{y:DataW H×List MemPlace}(h:DataW.trod enc Tryz.prog W base sp held fuel 41 [v]=some y):
  ∃l,StrsAt W v l/\l.length<=9223372036854775807/\∀s∈l,s.size<=9223372036854775807:=by
 rcases open_strs Tryz.underlying41 Tryz.underlying9 (by kernel_rfl) h with⟨e,_⟩|⟨a,len,cap,m,Sx,e,hb,hl,hm,hmm,hx,hall⟩
 ·simp only[List.cons.injEq,and_true]at e;subst e;exact⟨[],.inl ⟨rfl,_,_,rfl⟩,by simp,by simp⟩
 ·simp only[List.cons.injEq,and_true]at e;subst e
  have hlm:len<=m:=by rw[hmm];split<;>omega
  refine⟨(List.range len).map Sx,.inr ⟨a,cap,by simp,fun j s hs=>?_⟩,by simp;unfold maxLen at hm;omega,fun s hs=>?_⟩
  ·have hj:j<len:=by have:=(List.getElem?_eq_some_iff.1 hs).1;simpa using this
   have e:Sx j=s:=by rw[List.getElem?_map,List.getElem?_range hj]at hs;exact Option.some.inj hs
   rw[<-e];exact(hall j (by omega)).1
  ·obtain⟨j,hj,rfl⟩:=List.mem_map.1 hs
   have:=(hall j (by have:=List.mem_range.1 hj;omega)).2
   unfold maxLen at this;omega
theorem ints_of_trod {H:Type}{enc:TypeId×Value->H}{W:World}{base fuel:Nat}{sp:Nat->Bool}{held:Bool}{v:Value}{y:DataW H×List MemPlace}(h:DataW.trod enc Tryz.prog W base sp held fuel 42 [v]=some y):
  ∃l,IntsAt W v l/\l.length<=9223372036854775807/\∀z∈l, -9223372036854775808<=z/\z<=9223372036854775807:=by
 rcases open_ints Tryz.underlying42 Tryz.underlying3 (by kernel_rfl) h with⟨e,_⟩|⟨a,len,cap,zs,e,hb,hl,hm,hmm,hx,hall,hwf⟩
 ·simp only[List.cons.injEq,and_true]at e;subst e;exact⟨[],.inl ⟨rfl,_,_,rfl⟩,by simp,by simp⟩
 ·simp only[List.cons.injEq,and_true]at e;subst e
  have hlm:len<=zs.length:=by rw[hmm];split<;>omega
  have hlt:(zs.take len).length=len:=by rw[List.length_take];omega
  refine⟨zs.take len,.inr ⟨a,cap,by rw[hlt],fun j s hs=>?_⟩,by rw[hlt];unfold maxLen at hm;omega,fun s hs=>int_wf (hwf s (List.mem_of_mem_take hs))⟩
  have hj:j<len:=by have:=(List.getElem?_eq_some_iff.1 hs).1;omega
  rw[List.getElem?_take,if_pos hj]at hs
  rw[hall j (by omega)]
  simp[List.getD,hs]
theorem list9 {α:Type}{l:List α}(h:l.length=9):∃c0 c1 c2 c3 c4 c5 c6 c7 c8,l=[c0,c1,c2,c3,c4,c5,c6,c7,c8]:=by
 match l,h with
 |[c0,c1,c2,c3,c4,c5,c6,c7,c8],_=>exact⟨c0,c1,c2,c3,c4,c5,c6,c7,c8,rfl⟩
theorem add_pos (a:Addr) (j:Nat) (h:j≠0):a.add j=⟨a.block,a.off+j,none⟩:=by unfold Addr.add;rw[if_neg h]
theorem nd_of_trod {H:Type}{enc:TypeId×Value->H}{W:World}{base b2 fuel:Nat}{sp:Nat->Bool}{held:Bool}{a:Addr}{cs:List Value}{y:DataW H×List MemPlace}(hc:W.cells? b2 a 9=some cs) (h:DataW.trod enc Tryz.prog W base sp held fuel 62 cs=some y):
  ∃N vn vk,NdAt W a N vn vk/\NdLen N/\NdInt N:=by
 obtain⟨_,hlen,hcell⟩:=World.cells?_some hc
 obtain⟨xs,m,_,hx,hl,hxl,hfl⟩:=DataW.trod_struct Tryz.underlying62 h
 obtain⟨v0,v1,v2,v3,v4,v5,v6,v7,v8,rfl⟩:=list9 hlen
 have cI:Tryz.prog.cellsOf 3=1:=by kernel_rfl
 have cJ:Tryz.prog.cellsOf 2=1:=by kernel_rfl
 have cS:Tryz.prog.cellsOf 9=1:=by kernel_rfl
 have cN:Tryz.prog.cellsOf 41=1:=by kernel_rfl
 have cK:Tryz.prog.cellsOf 42=1:=by kernel_rfl
 obtain⟨y0,y1,y2,y3,y4,y5,y6,y7,y8,rfl⟩:=list9 (hxl.trans (by kernel_rfl))
 have g0:=hfl 0 _ rfl
 have g1:=hfl 1 _ rfl
 have g2:=hfl 2 _ rfl
 have g3:=hfl 3 _ rfl
 have g4:=hfl 4 _ rfl
 have g5:=hfl 5 _ rfl
 have g6:=hfl 6 _ rfl
 have g7:=hfl 7 _ rfl
 have g8:=hfl 8 _ rfl
 simp[cI,cJ,cS,cN,cK]at g0 g1 g2 g3 g4 g5 g6 g7 g8
 obtain⟨k,e0,_,w0⟩:=DataW.trod_int Tryz.underlying3 g0
 obtain⟨f,e1,_,w1⟩:=DataW.trod_int Tryz.underlying3 g1
 obtain⟨t,e2,_,w2⟩:=DataW.trod_int Tryz.underlying3 g2
 obtain⟨l,e3,_,w3⟩:=DataW.trod_int Tryz.underlying3 g3
 obtain⟨op,e4,_,w4⟩:=DataW.trod_int Tryz.underlying3 g4
 obtain⟨n,e5,_,w5⟩:=DataW.trod_int Tryz.underlying2 g5
 obtain⟨x,e6,_,w6⟩:=DataW.trod_string Tryz.underlying9 g6
 obtain⟨nm,hnm,ln,sn⟩:=strs_of_trod g7
 obtain⟨ks,hks,lk,sk⟩:=ints_of_trod g8
 simp only[List.cons.injEq,and_true]at e0 e1 e2 e3 e4 e5 e6
 subst e0 e1 e2 e3 e4 e5 e6
 have c0:=hcell 0 (by omega)
 have c1:=hcell 1 (by omega)
 have c2:=hcell 2 (by omega)
 have c3:=hcell 3 (by omega)
 have c4:=hcell 4 (by omega)
 have c5:=hcell 5 (by omega)
 have c6:=hcell 6 (by omega)
 have c7:=hcell 7 (by omega)
 have c8:=hcell 8 (by omega)
 rw[add_pos a _ (by omega)]at c1 c2 c3 c4 c5 c6 c7 c8
 refine⟨⟨k,f,t,l,op,n,x,nm,ks⟩,v7,v8,⟨?_,c1,c2,c3,c4,c5,c6,c7,c8,hnm,hks⟩,⟨by unfold maxLen at w6;exact(by omega:x.size<=9223372036854775807),sn,ln,lk⟩,⟨int_wf w0,int_wf w1,int_wf w2,int_wf w3,int_wf w4,int_wf w5,sk⟩⟩
 have e:a.add 0=a:=by unfold Addr.add;rw[if_pos rfl]
 rw[e]at c0
 exact c0
theorem choose_list {α:Type}{p:Nat->α->Prop}:∀n,(∀i,i<n->∃x,p i x)->∃l:List α,l.length=n/\∀i x,l[i]?=some x->p i x
 |0,_=>⟨[],rfl,fun i x h=>by simp at h⟩
 |n+1,h=>by
  obtain⟨l,hl,hp⟩:=choose_list n fun i hi=>h i (by omega)
  obtain⟨x,hx⟩:=h n (by omega)
  refine⟨l++[x],by simp[hl],fun i y hy=>?_⟩
  rcases Nat.lt_or_ge i n with g|g
  ·rw[List.getElem?_append_left (by omega)]at hy;exact hp i y hy
  ·rw[List.getElem?_append_right (by omega),hl]at hy
   rcases Nat.eq_or_lt_of_le g with rfl|g
   ·simp at hy;subst hy;exact hx
   ·rw[List.getElem?_eq_none (by simp;omega)]at hy;cases hy
theorem nds_of_trod {H:Type}{enc:TypeId×Value->H}{W:World}{base fuel:Nat}{sp:Nat->Bool}{held:Bool}{v:Value}{y:DataW H×List MemPlace}(h:DataW.trod enc Tryz.prog W base sp held fuel 22 [v]=some y):
  ∃ns,NdsAt W v ns/\ns.length<=9223372036854775807/\(∀N∈ns,NdLen N)/\∀N∈ns,NdInt N:=by
 have cN:Tryz.prog.cellsOf 62=9:=by kernel_rfl
 rcases open_slice Tryz.underlying22 h with⟨e,_⟩|⟨a,len,cap,m,n,D,Pl,e,hb,hl,hm,hmm,hx,hall⟩
 ·simp only[List.cons.injEq,and_true]at e;subst e;exact⟨[],.inl ⟨rfl,_,_,rfl⟩,by simp,by simp,by simp⟩
 ·simp only[List.cons.injEq,and_true]at e;subst e
  have hlm:len<=m:=by rw[hmm];split<;>omega
  obtain⟨ns,hns,hp⟩:=choose_list (p:=fun i N=>(∃vn vk,NdAt W (a.add (i*9)) N vn vk)/\NdLen N/\NdInt N) len fun i hi=>by
   obtain⟨cs',h1,h2⟩:=hall i (by omega)
   rw[cN]at h1
   obtain⟨N,vn,vk,h3,h4,h5⟩:=nd_of_trod h1 h2
   exact⟨N,⟨vn,vk,h3⟩,h4,h5⟩
  refine⟨ns,.inr ⟨a,cap,by rw[hns],fun i N hN=>(hp i N hN).1⟩,by rw[hns];unfold maxLen at hm;omega,fun N hN=>?_,fun N hN=>?_⟩
  ·obtain⟨i,hi,e⟩:=List.getElem_of_mem hN
   exact(hp i N (by rw[List.getElem?_eq_getElem hi,e])).2.1
  ·obtain⟨i,hi,e⟩:=List.getElem_of_mem hN
   exact(hp i N (by rw[List.getElem?_eq_getElem hi,e])).2.2
theorem tree_of {H:Type}{enc:TypeId×Value->H}{W:World}{b0 base:Nat}{sp:Nat->Bool}{held:Bool}{v:Value}{d:DataW H}{p:List MemPlace}(hv:Value.okWide Tryz.prog W .any b0 24 v) (h:DataW.Trod enc Tryz.prog W base sp held 24 v d p):
  ∃u ns,v= .agg #[u]/\NdsAt W u ns/\ns.length<=9223372036854775807/\(∀N∈ns,NdLen N)/\∀N∈ns,NdInt N:=by
 obtain⟨cs,rfl,hsz⟩:=okWide_struct Tryz.underlying24 hv
 obtain⟨l⟩:=cs
 have hl1:l.length=1:=hsz.trans (by kernel_rfl)
 match l,hl1 with
 |[u],_=>
  obtain⟨fuel,hf⟩:=h
  obtain⟨xs,m,_,hx,hl,hlen,hfl⟩:=DataW.trod_struct Tryz.underlying24 hf
  have cN:Tryz.prog.cellsOf 22=1:=by kernel_rfl
  match xs,hlen with
  |[y0],_=>
   have g0:=hfl 0 _ rfl
   simp[Value.cells,cN]at g0
   obtain⟨ns,h1,h2,h3,h4⟩:=nds_of_trod g0
   exact⟨u,ns,rfl,h1,h2,h3,h4⟩
end Go.Proofs.YtelfejiiabbpfaaGreatDoor
namespace Go.Proofs.YtelfejiiabbpfaaGreatDoor
open Go.ChangeShapes Go.WideShapes Go.ChangeAt Go.WideMaps Go.WideElems Go.RowKit
theorem cells_of_strs {H:Type}{enc:TypeId×Value->H}{P:Program}{w:World}{base:Nat}{sp:Nat->Bool}{held:Bool}{fuel:Nat}{t e:TypeId}{n:Nat}{cs:List Value}{ls:List (List UInt8)}{p:List MemPlace}
  (ht:P.underlying t=some (.array n e)) (he:P.underlying e=some .string) (hce:P.cellsOf e=1) (hct:P.cellsOf t=n)
  (h:DataW.trod enc P w base sp held fuel t cs=some (.agg (ls.map fun b=> .lit (.string b)),p)):cs=ls.map fun b=>Value.string ⟨b.toArray⟩:=by
 obtain⟨xs,m,rfl,hx,hlen,hxl,hel⟩:=DataW.trod_array ht h
 simp only[Prod.mk.injEq,DataW.agg.injEq]at hx
 have hll:ls.length=n:=by have:=congrArg List.length hx.1;simpa [hxl] using this
 apply List.ext_getElem (by simp[hlen,hct,hll])
 intro i h1 h2
 have hi:i<n:=by omega
 have hd:=hel i hi
 rw[hce,Nat.mul_one,List.getElem?_eq_getElem (by omega)]at hd
 obtain⟨s,e1,e2,_⟩:=DataW.trod_string he hd
 have hci:cs[i]= .string s:=by
  have:((cs.drop i).take 1)[0]?=some (.string s):=by rw[e1];rfl
  simpa [List.getElem?_take,List.getElem?_drop,List.getElem?_eq_getElem h1] using this
 have hls:(xs.map (·.1))[i]?=(ls.map fun b=>(DataW.lit (.string b):DataW H))[i]?:=by rw[hx.1]
 rw[List.getElem?_map,List.getElem?_map,List.getElem?_eq_getElem (by omega),List.getElem?_eq_getElem (by omega)]at hls
 simp only[Option.map_some,Option.some.injEq]at hls
 rw[e2]at hls
 simp only[DataW.lit.injEq,Lit.string.injEq]at hls
 rw[hci,List.getElem_map,<-hls]
theorem own:ownKnob Tryz.prog.godebug=none:=by kernel_rfl
theorem laidOut:laidOutB Tryz.prog=true:=by kernel_rfl
end Go.Proofs.YtelfejiiabbpfaaGreatDoor
