import Derived.Test.YtelfejiiabbpfaaGreatDoorHRk17
import Derived.Test.YtelfejiiabbpfaaGreatDoorHRk18
import Derived.Test.YtelfejiiabbpfaaGreatDoorHRk19
import Derived.Test.YtelfejiiabbpfaaGreatDoorHRk20
import Derived.Test.YtelfejiiabbpfaaGreatDoorHRk21
import Derived.Test.YtelfejiiabbpfaaGreatDoorHRk12
import Derived.Test.YtelfejiiabbpfaaGreatDoorHRk22
import Derived.Test.YtelfejiiabbpfaaGreatDoorHRk23
import Derived.Test.YtelfejiiabbpfaaGreatDoorHRk24
import Derived.Test.YtelfejiiabbpfaaGreatDoorHRk25
import Derived.Test.YtelfejiiabbpfaaGreatDoorHRk26
import Derived.Test.YtelfejiiabbpfaaGreatDoorHRk16
import Derived.Test.YtelfejiiabbpfaaGreatDoorHRk03
import Derived.Deep.AppendLies
import Derived.Maps.AppendAt
import Derived.Test.YtelfejiiabbpfaaGreatDoorHRk04
import Derived.Test.YtelfejiiabbpfaaGreatDoorHRk28
import Derived.Defers
set_option linter.unusedVariables false
set_option maxRecDepth 100000
set_option maxHeartbeats 3200000
namespace Go.Proofs.YtelfejiiabbpfaaGreatDoor
open Go.RowKit Go.Maps Go.WideMaps
def stB (ns:List Nd) (N:Nd):Bool:=
 if N.k=1 then(sbB ns N N.ks.length 0&&bareB N false false false false)
 else if N.k=2 then(bareB N false false false true&&namedB N 1 200&&exB ns N N.ks.length 0)
 else if N.k=3 then(bareB N false false false true&&namedB N 1 1&&((N.ks.length:Int)==1)&&exB ns N 1 0)
 else if N.k=4 then(bareB N false false false true&&namedB N 1 1&&((N.ks.length:Int)==1)&&(kidK ns N 0==36))
 else if N.k=5 then(bareB N false true false false&&(decide (1<=N.n/\N.n<(N.ks.length:Int))&&(tgB ns N N.n.toNat 0&&exB ns N (N.ks.length-N.n.toNat) N.n.toNat)))
 else if N.k=6 then(bareB N false false false false&&((N.ks.length:Int)==1)&&(kidK ns N 0==34))
 else if N.k=7 then(bareB N false false false false&&(decide (2<=N.ks.length/\N.ks.length<=3)&&(exB ns N 1 0&&(!(kidK ns N 1 !=1)&&((N.ks.length:Int)==2||(kidK ns N 2==1||kidK ns N 2==7))))))
 else if N.k=8 then(bareB N false false false false&&((N.ks.length:Int)==2)&&exB ns N 1 0&&(kidK ns N 1==1))
 else if N.k=9 then(bareB N false false false true&&(namedB N 1 1&&(((N.ks.length:Int)==3||(N.ks.length:Int)==4)&&(exB ns N (N.ks.length-1) 0&&(kidK ns N (N.ks.length-1)==1)))))
 else if N.k=10 then(bareB N false false false true&&namedB N 1 200&&((N.ks.length:Int)==2)&&exB ns N 1 0&&(kidK ns N 1==1))
 else if N.k=11 then(bareB N false false false false&&((N.ks.length:Int)==0))
 else if N.k=12 then(bareB N false false false false&&((N.ks.length:Int)==0))
 else if N.k=13 then(bareB N false false false false&&exB ns N N.ks.length 0)
 else if N.k=14 then(bareB N false false false true&&namedB N 1 2&&((N.ks.length:Int)==2)&&(kidK ns N 0==1)&&(kidK ns N 1==1))
 else if N.k=15 then(bareB N false false false false&&((N.ks.length:Int)==1)&&exB ns N 1 0)
 else if N.k=16 then(bareB N false false false false&&((N.ks.length:Int)==1)&&(kidK ns N 0==34))
 else false
def exprB (ns:List Nd) (N:Nd):Bool:=
 if N.k=20 then(((N.ks.length:Int)==0)&&bareB N false false false false)
 else if N.k=21 then(((N.ks.length:Int)==0)&&bareB N false false false false)
 else if N.k=22 then(((N.ks.length:Int)==0)&&bareB N false false false false)
 else if N.k=27 then(((N.ks.length:Int)==0)&&bareB N false false false false)
 else if N.k=23 then(((N.ks.length:Int)==0)&&bareB N false true false false)
 else if N.k=24 then(((N.ks.length:Int)==0)&&bareB N false false true false&&fok N.x)
 else if N.k=25 then(((N.ks.length:Int)==0)&&bareB N false false true false&&decide ((N.x.size:Int)<=4000))
 else if N.k=26 then(((N.ks.length:Int)==0)&&bareB N false false true false&&nmok N.x)
 else if N.k=28 then(((N.ks.length:Int)==2)&&exB ns N 2 0&&bareB N false false false false)
 else if N.k=29 then(((N.ks.length:Int)==2)&&exB ns N 2 0&&bareB N false false false false)
 else if N.k=32 then(((N.ks.length:Int)==2)&&exB ns N 2 0&&(kidK ns N 0 !=27)&&bareB N false false false false)
 else if N.k=30 then(((N.ks.length:Int)==1)&&exB ns N 1 0&&bareB N true false false false&&decide ((19:Int)<=N.op)&&decide (N.op<=22))
 else if N.k=31 then(((N.ks.length:Int)==2)&&exB ns N 2 0&&bareB N true false false false&&decide ((1:Int)<=N.op)&&decide (N.op<=18))
 else if N.k=33 then(((N.ks.length:Int)==1)&&exB ns N 1 0&&(kidK ns N 0 !=27)&&bareB N false false true false&&nmok N.x)
 else if N.k=34 then(decide ((1:Int)<=(N.ks.length:Int))&&exB ns N N.ks.length 0&&(kidK ns N 0 !=27)&&bareB N false false false false)
 else if N.k=35 then(enB ns N N.ks.length 0&&bareB N false false false false)
 else if N.k=36 then(((N.ks.length:Int)==1)&&(kidK ns N 0==1)&&bareB N true false false true&&namedB N 0 200&&(N.op==0||N.op==1))
 else if N.k=37 then(((N.ks.length:Int)==1)&&(kidK ns N 0==34||kidK ns N 0==27)&&bareB N false false false false)
 else if N.k=40 then(((N.ks.length:Int)==1)&&exB ns N 1 0&&bareB N false false false false)
 else if N.k=41 then(((N.ks.length:Int)==2)&&exB ns N 2 0&&bareB N false false false false)
 else if N.k=42 then(((N.ks.length:Int)==1)&&exB ns N 1 0&&bareB N false false true false&&nmok N.x)
 else false
theorem l2statement_any {w:World}{vt:Value}{ns:List Nd}{N:Nd}{vn vk:Value}(A:NArg w vt ns N vn vk) (h:statK N.k=true):
  Calls Tryz.prog 72 #[.agg #[vt],vNd N vn vk] w fun e w'=>e= .returned (.bool (stB ns N))/\Below w.heap.size w w':=by
 unfold stB
 by_cases k1:N.k=1
 ·rw[if_pos k1];exact l2st_s1 A k1
 rw[if_neg k1]
 by_cases k2:N.k=2
 ·rw[if_pos k2];exact l2st_s2 A k2
 rw[if_neg k2]
 by_cases k3:N.k=3
 ·rw[if_pos k3];exact l2st_s3 A k3
 rw[if_neg k3]
 by_cases k4:N.k=4
 ·rw[if_pos k4];exact l2st_s4 A k4
 rw[if_neg k4]
 by_cases k5:N.k=5
 ·rw[if_pos k5];exact l2st_s5 A k5
 rw[if_neg k5]
 by_cases k6:N.k=6
 ·rw[if_pos k6];exact l2st_s6 A k6
 rw[if_neg k6]
 by_cases k7:N.k=7
 ·rw[if_pos k7];exact l2st_s7 A k7
 rw[if_neg k7]
 by_cases k8:N.k=8
 ·rw[if_pos k8];exact l2st_s8 A k8
 rw[if_neg k8]
 by_cases k9:N.k=9
 ·rw[if_pos k9];exact l2st_s9 A k9
 rw[if_neg k9]
 by_cases k10:N.k=10
 ·rw[if_pos k10];exact l2st_s10 A k10
 rw[if_neg k10]
 by_cases k11:N.k=11
 ·rw[if_pos k11];exact l2st_s11 A k11
 rw[if_neg k11]
 by_cases k12:N.k=12
 ·rw[if_pos k12];exact l2st_s12 A k12
 rw[if_neg k12]
 by_cases k13:N.k=13
 ·rw[if_pos k13];exact l2st_s13 A k13
 rw[if_neg k13]
 by_cases k14:N.k=14
 ·rw[if_pos k14];exact l2st_s14 A k14
 rw[if_neg k14]
 by_cases k15:N.k=15
 ·rw[if_pos k15];exact l2st_s15 A k15
 rw[if_neg k15]
 by_cases k16:N.k=16
 ·rw[if_pos k16];exact l2st_s16 A k16
 rw[if_neg k16]
 exact absurd (of_decide_eq_true h) (by omega)
theorem l2expression_any {w:World}{vt:Value}{ns:List Nd}{N:Nd}{vn vk:Value}(A:NArg w vt ns N vn vk):
  Calls Tryz.prog 73 #[.agg #[vt],vNd N vn vk] w fun e w'=>e= .returned (.bool (exprB ns N))/\Below w.heap.size w w':=by
 unfold exprB
 by_cases k20:N.k=20
 ·rw[if_pos k20];exact l2ex_e20 A k20
 rw[if_neg k20]
 by_cases k21:N.k=21
 ·rw[if_pos k21];exact l2ex_e21 A k21
 rw[if_neg k21]
 by_cases k22:N.k=22
 ·rw[if_pos k22];exact l2ex_e22 A k22
 rw[if_neg k22]
 by_cases k27:N.k=27
 ·rw[if_pos k27];exact l2ex_e27 A k27
 rw[if_neg k27]
 by_cases k23:N.k=23
 ·rw[if_pos k23];exact l2ex_e23 A k23
 rw[if_neg k23]
 by_cases k24:N.k=24
 ·rw[if_pos k24];exact l2ex_e24 A k24
 rw[if_neg k24]
 by_cases k25:N.k=25
 ·rw[if_pos k25];exact l2ex_e25 A k25
 rw[if_neg k25]
 by_cases k26:N.k=26
 ·rw[if_pos k26];exact l2ex_e26 A k26
 rw[if_neg k26]
 by_cases k28:N.k=28
 ·rw[if_pos k28];exact l2ex_e28 A k28
 rw[if_neg k28]
 by_cases k29:N.k=29
 ·rw[if_pos k29];exact l2ex_e29 A k29
 rw[if_neg k29]
 by_cases k32:N.k=32
 ·rw[if_pos k32];exact l2ex_e32 A k32
 rw[if_neg k32]
 by_cases k30:N.k=30
 ·rw[if_pos k30];exact l2ex_e30 A k30
 rw[if_neg k30]
 by_cases k31:N.k=31
 ·rw[if_pos k31];exact l2ex_e31 A k31
 rw[if_neg k31]
 by_cases k33:N.k=33
 ·rw[if_pos k33];exact l2ex_e33 A k33
 rw[if_neg k33]
 by_cases k34:N.k=34
 ·rw[if_pos k34];exact l2ex_e34 A k34
 rw[if_neg k34]
 by_cases k35:N.k=35
 ·rw[if_pos k35];exact l2ex_e35 A k35
 rw[if_neg k35]
 by_cases k36:N.k=36
 ·rw[if_pos k36];exact l2ex_e36 A k36
 rw[if_neg k36]
 by_cases k37:N.k=37
 ·rw[if_pos k37];exact l2ex_e37 A k37
 rw[if_neg k37]
 by_cases k40:N.k=40
 ·rw[if_pos k40];exact l2ex_e40 A k40
 rw[if_neg k40]
 by_cases k41:N.k=41
 ·rw[if_pos k41];exact l2ex_e41 A k41
 rw[if_neg k41]
 by_cases k42:N.k=42
 ·rw[if_pos k42];exact l2ex_e42 A k42
 rw[if_neg k42]
 refine l2ex_no A fun c hc=>?_
 simp only[exKinds,List.mem_cons,List.not_mem_nil,or_false]at hc
 omega
def klB (l:List Int) (i:Int):Nat->Nat->Bool
 |0,_=>true
 |f+1,j=>decide (0<=l.getD j 0/\l.getD j 0<i)&&klB l i f (j+1)
structure KlIs (l:List Int) (i:Int) (f j:Nat) (R:Bool):Prop where
 out:klB l i f j=R
theorem klB_all (l:List Int) (i:Int):∀(f j:Nat),klB l i f j=true->∀k,j<=k->k<j+f->0<=l.getD k 0/\l.getD k 0<i
 |0,j,_,k,h1,h2=>by omega
 |f+1,j,h,k,h1,h2=>by
  rw[klB,Bool.and_eq_true]at h
  rcases Nat.eq_or_lt_of_le h1 with rfl|h3
  ·exact of_decide_eq_true h.1
  ·exact klB_all l i f (j+1) h.2 k h3 (by omega)
theorem klB_ok {ns:List Nd}{N:Nd}{i:Nat}(h:klB N.ks i N.ks.length 0=true) (hi:i<=ns.length):KidsOk ns N:=by
 refine⟨fun z hz=>?_⟩
 obtain⟨k,hk,rfl⟩:=List.getElem_of_mem hz
 have:=klB_all N.ks i N.ks.length 0 h k (by omega) (by omega)
 rw[List.getD_eq_getElem?_getD,List.getElem?_eq_getElem hk]at this
 simp only[Option.getD_some]at this
 omega
def fldB (N:Nd):Bool:=decide (0<=N.f/\N.f<=N.t/\0<=N.l/\N.ks.length<=200)
def seB (ns:List Nd) (N:Nd):Bool:=if statK N.k=true then stB ns N else exprB ns N
def nodeB (ns:List Nd) (i:Nat) (N:Nd):Bool:=fldB N&&(klB N.ks i N.ks.length 0&&seB ns N)
structure NdSmall (N:Nd):Prop where
 l1:N.nm.length<=1048576
 l2:N.ks.length<=1048576
 lx:N.x.size<=1048576
 ls:∀s∈N.nm,s.size<=1048576
theorem l2nodeok_any (w:World) (vt:Value) (ns:List Nd) (i:Nat) (N:Nd) (ht:NdsAt w vt ns) (hln:ns.length<=1048576) (hi:ns[i]?=some N) (hS:NdSmall N):
  Calls Tryz.prog 19 #[.agg #[vt],.int .i64 i] w fun e w'=>e= .returned (.bool (nodeB ns i N))/\Below w.heap.size w w':=by
 obtain⟨a1,c1,rfl⟩:=ht.form
 obtain⟨p1,rfl,vn,vk,g1⟩:=ht.get hi
 have hil:i<ns.length:=by rcases Nat.lt_or_ge i ns.length with h|h;exact h;rw[List.getElem?_eq_none h]at hi;cases hi
 have hii:(i:Int)<(ns.length:Int):=by omega
 have hi0:(0:Int)<=(i:Int):=by omega
 obtain⟨d0,d1,d2,d3,d4,d5,d6,d7,d8,hn,hk⟩:=g1
 obtain⟨a2,c2,rfl⟩:=hn.form
 obtain⟨a3,c3,rfl⟩:=hk.form
 have hb2:Below w.heap.size w ((w.alloc (.cells #[.slice (some p1) ns.length c1] 29)).alloc (.cells #[.int .i64 N.k,.int .i64 N.f,.int .i64 N.t,.int .i64 N.l,.int .i64 N.op,.int .i64 N.n,.string N.x,.slice a2 N.nm.length c2,.slice a3 N.ks.length c3] 44)):=((Below.refl _ w).alloc (Nat.le_refl _) _).alloc (by simp) _
 have hpl:=cell_lt d0
 have HS:Hid (NdSmall N):=hS
 have HT:Hid (NdsAt w (.slice (some p1) ns.length c1) ns/\StrsAt w (.slice a2 N.nm.length c2) N.nm/\IntsAt w (.slice a3 N.ks.length c3) N.ks):=⟨ht,hn,hk⟩
 have hl2:=hS.l2
 have hbt:((w.alloc (.cells #[.slice (some p1) ns.length c1] 29)).alloc (.cells #[.int .i64 N.k,.int .i64 N.f,.int .i64 N.t,.int .i64 N.l,.int .i64 N.op,.int .i64 N.n,.string N.x,.slice a2 N.nm.length c2,.slice a3 N.ks.length c3] 44)).cell? ⟨w.heap.size,0,none⟩=some (.slice (some p1) ns.length c1):=by
  rw[cell_of_row _ _ _ _ _ _ ((Below.heap_alloc _ _ _ (by simp)).trans (heap_alloc_new w _))];rfl
 have hbn:NdBox (w.heap.size+1) ((w.alloc (.cells #[.slice (some p1) ns.length c1] 29)).alloc (.cells #[.int .i64 N.k,.int .i64 N.f,.int .i64 N.t,.int .i64 N.l,.int .i64 N.op,.int .i64 N.n,.string N.x,.slice a2 N.nm.length c2,.slice a3 N.ks.length c3] 44)) 44 N (.slice a2 N.nm.length c2) (.slice a3 N.ks.length c3):=by
  have:=heap_alloc_new (w.alloc (.cells #[.slice (some p1) ns.length c1] 29)) (.cells #[.int .i64 N.k,.int .i64 N.f,.int .i64 N.t,.int .i64 N.l,.int .i64 N.op,.int .i64 N.n,.string N.x,.slice a2 N.nm.length c2,.slice a3 N.ks.length c3] 44)
  rw[World.size_alloc]at this
  exact this
 clear ht hn hk hS hi
 unfold nodeB
 by_cases f1:N.f<0
 ·rw[show fldB N=false from decide_eq_false (by omega)]
  go_enter Tryz.func19,Tryz.ntmps19
  go_wp2
  all_goals (go_ret;exact⟨rfl,hb2⟩)
 by_cases f2:N.t<N.f
 ·rw[show fldB N=false from decide_eq_false (by omega)]
  go_enter Tryz.func19,Tryz.ntmps19
  go_wp2
  all_goals (go_ret;exact⟨rfl,hb2⟩)
 by_cases f3:N.l<0
 ·rw[show fldB N=false from decide_eq_false (by omega)]
  go_enter Tryz.func19,Tryz.ntmps19
  go_wp2
  all_goals (go_ret;exact⟨rfl,hb2⟩)
 by_cases f4:(200:Int)<(N.ks.length:Int)
 ·rw[show fldB N=false from decide_eq_false (by omega)]
  go_enter Tryz.func19,Tryz.ntmps19
  go_wp2
  all_goals (go_ret;exact⟨rfl,hb2⟩)
 rw[show fldB N=true from decide_eq_true (by omega)]
 obtain⟨S,hS⟩:∃S,seB ns N=S:=⟨_,rfl⟩
 rw[hS]
 have HSE:Hid (seB ns N=S):=hS
 clear hS
 obtain⟨R,hR⟩:∃R,klB N.ks i N.ks.length 0=R:=⟨_,rfl⟩
 rw[hR]
 have HR0:KlIs N.ks i N.ks.length 0 R:=⟨hR⟩
 clear hR
 go_enter Tryz.func19,Tryz.ntmps19
 go_wp2_with fail
 generalize (w.alloc (.cells #[.slice (some p1) ns.length c1] 29)).alloc (.cells #[.int .i64 N.k,.int .i64 N.f,.int .i64 N.t,.int .i64 N.l,.int .i64 N.op,.int .i64 N.n,.string N.x,.slice a2 N.nm.length c2,.slice a3 N.ks.length c3] 44)=W2 at hb2 hbt hbn⊢
 clear d0 d1 d2 d3 d4 d5 d6 d7 d8
 go_loop [7,37] (fun _ vj=>∃j:Nat,vj= .int .i64 j/\j<=N.ks.length/\KlIs N.ks i (N.ks.length-j) j R) (fun _ vj=>N.ks.length-(intOf vj).toNat)
 case atStart=>exact⟨0,rfl,by omega,HR0⟩
 case round=>
  obtain⟨j,rfl,hj,HJ⟩:=hrel
  have hst:=HJ.out
  by_cases hlt:j<N.ks.length
  ·have hsk:N.ks[j]?=some N.ks[j]:=List.getElem?_eq_getElem hlt
   obtain⟨p3,rfl,g3⟩:=(HT.out.2.2.below hb2).get hsk
   rw[show N.ks.length-j=(N.ks.length-(j+1))+1 by omega,klB,List.getD_eq_getElem?_getD,hsk,Option.getD_some]at hst
   have hji:(j:Int)<(N.ks.length:Int):=by omega
   have hj0:(0:Int)<=(j:Int):=by omega
   generalize N.ks[j]=z at hst g3
   clear hsk
   by_cases z0:z<0
   ·rw[decide_eq_false (by omega),Bool.false_and]at hst
    have HS2:Hid (false=R):=hst
    clear hst
    go_wp2_with fail
    go_ret
    exact⟨by rw[<-HS2.out];rfl,hb2⟩
   by_cases z1:(i:Int)<=z
   ·rw[decide_eq_false (by omega),Bool.false_and]at hst
    have HS2:Hid (false=R):=hst
    clear hst
    go_wp2_with fail
    go_ret
    exact⟨by rw[<-HS2.out];rfl,hb2⟩
   rw[decide_eq_true (by omega),Bool.true_and]at hst
   have HS2:KlIs N.ks i (N.ks.length-(j+1)) (j+1) R:=⟨hst⟩
   clear hst
   go_wp2_with fail
   go_round
   case rel=>exact⟨j+1,by go_num,by omega,HS2⟩
   case measure=>simp[intOf];omega
  ·rw[show N.ks.length-j=0 by omega,klB]at hst
   have HS2:Hid (true=R):=hst
   have hji:¬(j:Int)<(N.ks.length:Int):=by omega
   have hok:KidsOk ns N:=klB_ok (by rw[HR0.out,<-HS2.out]) (Nat.le_of_lt hil)
   have A:NArg W2 (.slice (some p1) ns.length c1) ns N (.slice a2 N.nm.length c2) (.slice a3 N.ks.length c3):=⟨HT.out.1.below hb2,HT.out.2.1.below hb2,HT.out.2.2.below hb2,hok,hln,HS.out.l1,HS.out.l2,HS.out.lx,HS.out.ls⟩
   obtain⟨x0,x1,x2,x3,x4,x5,x6,x7,x8,xf⟩:=nd_cells hbn
   have kq:=fun w=>l2stat_any N.k w
   clear hst
   cases hx:statK N.k with
   |true=>
    have kz:=l2statement_any A hx
    rw[hx]at kq
    rw[show stB ns N=S by rw[<-HSE.out];unfold seB;rw[if_pos hx]]at kz
    unfold vNd at kz
    clear hx A hok
    go_wp2_with (first|(go_at_call 71;refine(kq _).mono ?_;rintro e w' ⟨rfl,rfl⟩)|(go_at_call 72;refine kz.mono ?_;rintro e w3 ⟨rfl,hb3⟩))
    go_ret
    exact⟨by rw[<-HS2.out];rfl,hb2.trans (hb3.mono hb2.size)⟩
   |false=>
    have kz:=l2expression_any A
    rw[hx]at kq
    rw[show exprB ns N=S by rw[<-HSE.out];unfold seB;rw[if_neg (by rw[hx];simp)]]at kz
    unfold vNd at kz
    clear hx A hok
    go_wp2_with (first|(go_at_call 71;refine(kq _).mono ?_;rintro e w' ⟨rfl,rfl⟩)|(go_at_call 73;refine kz.mono ?_;rintro e w3 ⟨rfl,hb3⟩))
    go_ret
    exact⟨by rw[<-HS2.out];rfl,hb2.trans (hb3.mono hb2.size)⟩
structure Im where
 N:Nd
 b:Nat
 vn:Value
 kv:Value
def nV (x:Im):Value:=nodeV x.N.k x.b
def kidsIn (L:List Im) (ks:List Int):List Value:=ks.map fun z=>match L[z.toNat]? with|some y=>nV y|none=> .nilIface
structure NsAt (W:World) (base:Nat) (vs:Value) (L:List Im):Prop where
 row:W.ownsRow base 49 1 vs L.length (L.map nV)
 box:∀(i:Nat) x,L[i]?=some x->InBox W x.b x.N x.vn i x.kv
 kid:∀(i:Nat) x,L[i]?=some x->W.ownsRow base 49 1 x.kv x.N.ks.length (kidsIn (L.take i) x.N.ks)
 far:∀x∈L,x.kv.ownBlock=none\/x.kv.ownBlock≠vs.ownBlock
 rng:∀(i:Nat) x z,L[i]?=some x->z∈x.N.ks->0<=z/\z<(i:Int)
theorem InBox.below {W W':World}{b:Nat}{N:Nd}{vn kv:Value}{num:Int}(h:InBox W b N vn num kv) (hb:Below W.heap.size W W'):InBox W' b N vn num kv:=(hb.block _ (lt_of_block h)).trans h
theorem NsAt.below {W W':World}{base:Nat}{vs:Value}{L:List Im}(h:NsAt W base vs L) (hb:Below W.heap.size W W'):NsAt W' base vs L:=
 ⟨own_keep h.row hb,fun i x hx=>(h.box i x hx).below hb,fun i x hx=>own_keep (h.kid i x hx) hb,h.far,h.rng⟩
theorem blk_ne {W:World}{a b:Nat}{c1 c2:Array Value}{t1 t2:TypeId}{f1 f2:Nat×Nat}(h1:W.heap[a]?=some (.cells c1 t1 f1)) (h2:W.heap[b]?=some (.cells c2 t2 f2)) (ht:t1≠t2):a≠b:=by
 rintro rfl
 have e:=h1.symm.trans h2
 simp only[Option.some.injEq,Obj.cells.injEq]at e
 exact ht e.2.1
theorem stT_ne (c:Nat):stT c≠49/\stT c≠74/\stT c≠44:=by
 unfold stT
 split<;>decide
theorem map_ne {W:World}{mb b:Nat}{cs:Array Value}{t:TypeId}{f:Nat×Nat}(h:W.ownsMap Tryz.prog 9 (plainElem (H:=Unit) Tryz.prog 3) mb 22 (wkD 22)) (h2:W.heap[b]?=some (.cells cs t f)):mb≠b:=by
 rintro rfl
 obtain⟨es,clock,hh,rest⟩:=h
 rw[h2]at hh
 cases hh
def IsRow (W:World) (g:Nat):Prop:=∃cs,W.heap[g]?=some (.cells cs 49 (0,0))
theorem own_isRow {W:World}{base n g:Nat}{v:Value}{xs:List Value}(h:W.ownsRow base 49 1 v n xs) (hg:v.ownBlock=some g):IsRow W g/\base<=g:=by
 rcases own_zero_or h with⟨_,rfl⟩|⟨g',c,rfl⟩
 ·simp[Value.ownBlock]at hg
 ·obtain rfl:g'=g:=by simpa [Value.ownBlock] using hg
  rcases h.2 with⟨h1,_⟩|⟨g2,cap,cur,h1,h2,h3,_⟩
  ·cases h1
  ·cases h1;exact⟨⟨cur,h3⟩,h2⟩
structure AdSt (w0:World) (lb mb p bn:Nat) (vs:Value) (L:List Im) (N:Nd) (vn vk kv:Value) (j:Nat) (W:World):Prop where
 lk:Lk W lb mb vs
 ns:NsAt W w0.heap.size vs L
 rb:NdBox p W 44 N vn vk
 bx:InBox W bn N vn L.length kv
 kr:W.ownsRow w0.heap.size 49 1 kv j (kidsIn L (N.ks.take j))
 fr:kv.ownBlock=none\/kv.ownBlock≠vs.ownBlock
 fo:∀x∈L,x.kv.ownBlock=none\/x.kv.ownBlock≠kv.ownBlock
 bl:Below w0.heap.size w0 W
 lo:w0.heap.size<=lb/\w0.heap.size<=bn/\w0.heap.size<=p
theorem AdSt.below {w0:World}{lb mb p bn:Nat}{vs:Value}{L:List Im}{N:Nd}{vn vk kv:Value}{j:Nat}{W W':World}(h:AdSt w0 lb mb p bn vs L N vn vk kv j W) (hb:Below W.heap.size W W'):AdSt w0 lb mb p bn vs L N vn vk kv j W':=
 ⟨h.lk.below hb,h.ns.below hb,h.rb.below hb,h.bx.below hb,own_keep h.kr hb,h.fr,h.fo,h.bl.trans (hb.mono h.bl.size),h.lo⟩
theorem AdSt.kid {w0:World}{lb mb p bn:Nat}{vs:Value}{L:List Im}{N:Nd}{vn vk kv:Value}{j:Nat}{W W':World}(he:Errs w0) (h:AdSt w0 lb mb p bn vs L N vn vk kv j W) (hg:W.grownBy W' kv.ownBlock) {g cap H:Nat}(ho:W'.ownsRow w0.heap.size 49 1 (.slice (some ⟨g,0,none⟩) (j+1) cap) (j+1) (kidsIn L (N.ks.take (j+1)))) (hat:kv.ownBlock=some g\/g=H) (hH:W.heap.size=H):
  InBox W' bn N vn L.length kv/\AdSt w0 lb mb p bn vs L N vn vk (.slice (some ⟨g,0,none⟩) (j+1) cap) (j+1) (W'.setCell ⟨bn,5,none⟩ (.slice (some ⟨g,0,none⟩) (j+1) cap)):=by
 have hrow:∀k,kv.ownBlock=some k->IsRow W k/\w0.heap.size<=k:=fun k hk=>own_isRow h.kr hk
 have keep:∀{b:Nat}{cs:Array Value}{t:TypeId},W.heap[b]?=some (.cells cs t (0,0))->t≠49->W'.heap[b]?=some (.cells cs t (0,0)):=fun hb ht=>
  (hg.block _ (lt_of_block hb) (fun e=>by obtain⟨⟨c,hc⟩,_⟩:=hrow _ e.symm;exact blk_ne hb hc ht rfl)).trans hb
 have bx':InBox W' bn N vn L.length kv:=keep h.bx (stT_ne _).1
 have bel':Below w0.heap.size w0 W':=h.bl.grown hg h.bl.size (fun k hk=>(hrow k hk).2)
 have hs:Below w0.heap.size w0 (W'.setCell ⟨bn,5,none⟩ (.slice (some ⟨g,0,none⟩) (j+1) cap)):=bel'.setCell h.lo.2.1 _
 have set:∀{b:Nat}{cs:Array Value}{t:TypeId},W'.heap[b]?=some (.cells cs t (0,0))->t≠stT (cls N.k)->(W'.setCell ⟨bn,5,none⟩ (.slice (some ⟨g,0,none⟩) (j+1) cap)).heap[b]?=some (.cells cs t (0,0)):=fun hb ht=>
  (heap_setCell_other _ _ _ _ (fun e=>by exact blk_ne hb bx' ht e)).trans hb
 have setr:∀{v:Value}{n:Nat}{xs:List Value},W'.ownsRow w0.heap.size 49 1 v n xs->(W'.setCell ⟨bn,5,none⟩ (.slice (some ⟨g,0,none⟩) (j+1) cap)).ownsRow w0.heap.size 49 1 v n xs:=fun ho=>
  ho.kept (row:=some bn) ⟨rfl,rfl,rfl,by simp[World.setCell],fun k hk hne=>heap_setCell_other _ _ _ _ (fun e=>hne (by rw[e]))⟩ (by
   cases hv:Value.ownBlock _ with
   |none=>exact .inl rfl
   |some k=>exact .inr (fun e=>by obtain⟨⟨c,hc⟩,_⟩:=own_isRow ho hv;obtain rfl:=Option.some.inj e;exact blk_ne bx' hc (stT_ne _).1 rfl))
 have vsk:vs.ownBlock=none\/vs.ownBlock≠kv.ownBlock:=by
  rcases h.fr with e|e
  ·cases hv:vs.ownBlock with
   |none=>exact .inl rfl
   |some k=>rw[e];exact .inr (by simp)
  ·exact .inr (Ne.symm e)
 have fresh:∀k,k<W.heap.size->kv.ownBlock≠some k->some g≠some k:=fun k hk hne e=>by
  obtain rfl:=Option.some.inj e
  rcases hat with e2|e2
  ·exact hne e2
  ·omega
 refine⟨bx',⟨⟨set (keep h.lk.b (by decide)) (Ne.symm (stT_ne _).2.1),?_,he.keep hs⟩,⟨setr (h.ns.row.kept hg vsk),?_,?_,h.ns.far,h.ns.rng⟩,set (keep h.rb (by decide)) (Ne.symm (stT_ne _).2.2),?_,setr ho,?_,?_,hs,h.lo⟩⟩
 ·have hm:=wd_keep h.lk.m (hg.block _ h.lk.m.lt (fun e=>by obtain⟨⟨c,hc⟩,_⟩:=hrow _ e.symm;exact map_ne h.lk.m hc rfl))
  exact wd_keep hm (heap_setCell_other _ _ _ _ (fun e=>by exact map_ne hm bx' e))
 ·intro i x hx
  have hb:=keep (h.ns.box i x hx) (stT_ne _).1
  by_cases hne:x.b=bn
  ·exfalso
   have e1:=h.ns.box i x hx
   have e2:=h.bx
   unfold InBox at e1 e2
   rw[hne,e2]at e1
   have e3:=congrArg (fun o=>match o with|some (Obj.cells c _ _)=>c[4]?|_=>none) e1
   simp at e3
   have hil:i<L.length:=(List.getElem?_eq_some_iff.1 hx).1
   omega
  ·exact(heap_setCell_other _ _ _ _ hne).trans hb
 ·intro i x hx
  exact setr ((h.ns.kid i x hx).kept hg (h.fo x (List.mem_of_getElem? hx)))
 ·unfold InBox at bx'⊢
  have:=heap_setCell_same W' bn 5 _ _ (.slice (some ⟨g,0,none⟩) (j+1) cap) bx'
  rw[this]
  simp
 ·refine .inr fun e=>?_
  have hvb:=e.symm
  have hlt:=(h.ns.row.lt g hvb).2
  exact fresh g hlt (by rcases vsk with e2|e2;rw[e2]at hvb;cases hvb;rw[hvb]at e2;exact Ne.symm e2) rfl
 ·intro x hx
  cases hxk:x.kv.ownBlock with
  |none=>exact .inl rfl
  |some k=>
   refine .inr fun e=>?_
   obtain⟨i,hi,ei⟩:=List.getElem_of_mem hx
   have hlt:=((h.ns.kid i x (by rw[List.getElem?_eq_getElem hi,ei])).lt k hxk).2
   refine fresh k hlt ?_ e.symm
   rcases h.fo x hx with e2|e2
   ·rw[hxk]at e2;cases e2
   ·rw[hxk]at e2;exact Ne.symm e2
structure Ps (w0:World) (vb:Nat) (T:ByteArray) (W:World):Prop where
 pg:Pg w0 T W
 ne:vb≠w0.heap.size
 vi:W.heap[vb]?=some (.cells (mths vb) 80 (0,0))
theorem Ps.below {w0:World}{vb:Nat}{T:ByteArray}{W W':World}(h:Ps w0 vb T W) (hb:Below W.heap.size W W'):Ps w0 vb T W':=
 ⟨h.pg.below hb,h.ne,(hb.block _ (lt_of_block h.vi)).trans h.vi⟩
theorem Ps.next {w0:World}{vb:Nat}{T T2:ByteArray}{W W':World}(h:Ps w0 vb T W) (p:Pg w0 T2 W') (k:Kq w0.heap.size W W'):Ps w0 vb T2 W':=
 ⟨p,h.ne,(k.block vb (lt_of_block h.vi) h.ne (fun cs fr e=>by rw[h.vi]at e;cases e)).trans h.vi⟩
def Pw (w0:World) (vb:Nat) (f:FuncId) (args:Array Value) (Y:ByteArray):Prop:=
 ∀(T':ByteArray) (W':World),Ps w0 vb T' W'->Calls Tryz.prog f args W' fun e w'=>e= .returned (.tuple #[])/\Ps w0 vb (T'++Y) w'/\Kq w0.heap.size W' w'
abbrev vP (vb:Nat):Value:= .pointer (some ⟨vb,0,none⟩)
theorem put_pw (w0:World) (vb t:Nat) (s:ByteArray) (hs:s.size<=100000000):Pw w0 vb 232 #[mgA w0 t,.string s] s:=fun T' W' h=>
 (put_any w0 t T' s W' h.pg hs).mono fun e w' ⟨h1,h2,h3⟩=>⟨h1,h.next h2 h3,h3⟩
theorem line_pw (w0:World) (vb t:Nat) (ht:t<=1000000):Pw w0 vb 231 #[mgA w0 t] (lineB t):=fun T' W' h=>
 (newLine_any w0 t ht T' W' h.pg).mono fun e w' ⟨h1,h2,h3⟩=>⟨h1,h.next h2 h3,h3⟩
def imD:Im:=⟨ndD,0,.nilIface,.nilIface⟩
def imI (L:List Im) (z:Int):Im:=L.getD z.toNat imD
def SlAt (W:World) (L:List Im) (v:Value) (zs:List Int):Prop:=
 (zs=[]/\∃a c,v= .slice a 0 c)\/∃a c,v= .slice (some a) zs.length c/\zs.length<=c/\∀j z,zs[j]?=some z->W.cell? (a.add j)=some (nV (imI L z))
theorem SlAt.below {W W':World}{L:List Im}{v:Value}{zs:List Int}(h:SlAt W L v zs) (hb:Below W.heap.size W W'):SlAt W' L v zs:=by
 rcases h with h|⟨a,c,h1,h2,h3⟩
 ·exact .inl h
 ·exact .inr ⟨a,c,h1,h2,fun j z hz=>cell_kept hb (h3 j z hz)⟩
theorem SlAt.form {W:World}{L:List Im}{v:Value}{zs:List Int}(h:SlAt W L v zs):∃a c,v= .slice a zs.length c:=by
 rcases h with⟨rfl,a,c,rfl⟩|⟨a,c,rfl,_⟩
 ·exact⟨a,c,rfl⟩
 ·exact⟨some a,c,rfl⟩
theorem SlAt.get {W:World}{L:List Im}{a:Option Addr}{n c:Nat}{zs:List Int}(h:SlAt W L (.slice a n c) zs) {j:Nat}{z:Int}(hj:zs[j]?=some z):∃a',a=some a'/\zs.length<=c/\W.cell? (a'.add j)=some (nV (imI L z)):=by
 rcases h with⟨rfl,_⟩|⟨a',c',e,h2,h3⟩
 ·simp at hj
 ·cases e
  exact⟨a',rfl,h2,h3 j z hj⟩
def StrsJ (vn:Value):Prop:=∀a n c,vn= .slice (some a) n c->n<=c/\a=⟨a.block,a.off,none⟩
structure Tp (w0:World) (ns:List Nd) (L:List Im) (base:Nat) (vs:Value):Prop where
 at_:NsAt w0 base vs L
 map:L.map Im.N=ns
 nms:∀x∈L,StrsAt w0 x.vn x.N.nm
 jn:∀x∈L,StrsJ x.vn
theorem imI_N {L:List Im}{ns:List Nd}(h:L.map Im.N=ns) (z:Int):(imI L z).N=nodeI ns z:=by
 unfold imI nodeI
 rw[<-h,List.getD_eq_getElem?_getD,List.getD_eq_getElem?_getD,List.getElem?_map]
 cases L[z.toNat]?<;>rfl
structure NdQ (w0:World) (L:List Im) (N:Nd) (b:Nat) (vn:Value) (a:Option Addr) (n c:Nat):Prop where
 hn:N.ks.length=n
 rd:∀W,Below w0.heap.size w0 W->∃num,InBox W b N vn num (.slice a n c)
 ks:SlAt w0 L (.slice a n c) N.ks
 nm:StrsAt w0 vn N.nm
 jn:StrsJ vn
theorem nd_q {w0:World}{ns:List Nd}{L:List Im}{base:Nat}{vs:Value}(T:Tp w0 ns L base vs) {i:Nat}(hi:i<ns.length):∃b vn a n c,nV (imI L i)= .iface (ptT (cls (nodeI ns i).k)) (.pointer (some ⟨b,0,none⟩))/\NdQ w0 L (nodeI ns i) b vn a n c:=by
 have hl:i<L.length:=by rw[<-T.map,List.length_map]at hi;exact hi
 have hx:L[i]?=some (imI L i):=by
  unfold imI
  rw[Int.toNat_natCast,List.getD_eq_getElem?_getD,List.getElem?_eq_getElem hl];rfl
 have hN:=imI_N T.map (i:Int)
 have hbx:=T.at_.box i _ hx
 have hkd:=T.at_.kid i _ hx
 obtain⟨a,c,hkv⟩:=own_form hkd
 have hks:SlAt w0 L (imI L i).kv (imI L i).N.ks:=by
  rcases hkd.2 with⟨h1,h2⟩|⟨g,cap,cur,h1,h2,h3,h4,h5,h6,h7⟩
  ·exact .inl ⟨List.eq_nil_of_length_eq_zero h2,none,0,h1⟩
  ·refine .inr ⟨⟨g,0,none⟩,cap,h1,h4,fun j z hz=>?_⟩
   have hj:=(List.getElem?_eq_some_iff.1 hz).1
   have h0:=hkd
   rw[h1]at h0
   have hadd:(⟨g,0,none⟩:Addr).add j=⟨g,j,none⟩:=by unfold Addr.add;split<;>simp_all
   rw[hadd,h0.cellAt j (by omega)]
   unfold kidsIn
   rw[List.getElem?_map,hz]
   obtain⟨z0,z1⟩:=T.at_.rng i _ z hx (List.mem_of_getElem? hz)
   have hzl:z.toNat<L.length:=by omega
   have e1:(L.take i)[z.toNat]?=some (L[z.toNat]):=by rw[List.getElem?_take,if_pos (by omega),List.getElem?_eq_getElem hzl]
   have e2:imI L z=L[z.toNat]:=by unfold imI;rw[List.getD_eq_getElem?_getD,List.getElem?_eq_getElem hzl];rfl
   simp only[Option.map_some,e1,e2]
 refine⟨(imI L i).b,(imI L i).vn,a,_,c,?_,rfl,fun W hb=>⟨i,?_⟩,?_,?_,T.jn _ (List.mem_of_getElem? hx)⟩
 ·rw[<-hN];rfl
 ·rw[<-hN,<-hkv];exact hbx.below hb
 ·rw[<-hN,<-hkv];exact hks
 ·rw[<-hN];exact T.nms _ (List.mem_of_getElem? hx)
theorem NdQ.cells {w0:World}{L:List Im}{N:Nd}{b:Nat}{vn:Value}{a:Option Addr}{n c:Nat}(h:NdQ w0 L N b vn a n c) {W:World}(hb:Below w0.heap.size w0 W):W.cell? ⟨b,0,none⟩=some (.int .i64 N.k)/\W.cell? ⟨b,5,none⟩=some (.slice a n c)/\∀v,(exT N vn (cls N.k))[0]?=some v->W.cell? ⟨b,6,none⟩=some v:=by
 obtain⟨num,hx⟩:=h.rd W hb
 unfold InBox at hx
 refine⟨by rw[cell_of_row _ _ _ _ _ _ hx];rfl,by rw[cell_of_row _ _ _ _ _ _ hx];rfl,fun v hv=>?_⟩
 rw[cell_of_row _ _ _ _ _ _ hx]
 simpa using hv
abbrev Vis (w0:World) (vb:Nat) (L:List Im) (t:Nat) (z:Int) (Y:ByteArray):Prop:=Pw w0 vb 67 #[vP vb,mgV w0 t,nV (imI L z)] Y
theorem methC (k:Nat) (b:Nat) (w:World):(method 371 (ptT k) (.pointer (some ⟨b,0,none⟩)) "loop.example/warp/impl.head").run Tryz.prog w= .ok (233,.pointer (some ⟨b,0,none⟩)) w:=by
 match k with
 |0=>exact meth0 b w
 |1=>exact meth1 b w
 |2=>exact meth2 b w
 |3=>exact meth3 b w
 |4=>exact meth4 b w
 |5=>exact meth5 b w
 |k+6=>exact meth6 b w
theorem Ps.mth {w0:World}{vb:Nat}{T:ByteArray}{W:World}(h:Ps w0 vb T W) {k:Nat}{v:Value}(hk:(mths vb)[k]?=some v):W.cell? ⟨vb,k,none⟩=some v:=by
 rw[cell_of_row _ _ _ _ _ _ h.vi]
 exact hk
theorem visit_of (w0:World) (vb:Nat) (ns:List Nd) (L:List Im) (base:Nat) (vs:Value) (Tp0:Tp w0 ns L base vs) (t i:Nat) (hi:i<ns.length) (kn:Nat) (hk:(nodeI ns i).k=(kn:Int)) (hkn:kn<43) (f:FuncId) (hf:(mths vb)[kn]?=some (mv vb f)) (hcf:∀(args:Array Value) (w:World),(callFunc f args).run Tryz.prog w= .ok (.enter f args) w) (Y:ByteArray)
  (hm:Pw w0 vb f #[vP vb,mgV w0 t,nV (imI L i)] Y):Vis w0 vb L t i Y:=by
 intro T w h
 obtain⟨b,vn,a,n,c,hv,Q⟩:=nd_q Tp0 hi
 rw[hk]at hv
 have c0:=(Q.cells h.pg.bel).1
 rw[hk]at c0
 have cm:=h.mth hf
 have kh:=fun w=>head_any b w
 have hmt:=fun w=>methC (cls (kn:Int)) b w
 have Hm:Hid (Pw w0 vb f #[vP vb,mgV w0 t,nV (imI L i)] Y):=hm
 have hd:Ps w0 vb T w.drew:=h.below (bel_drew1 (Below.refl _ _))
 have HP:Hid (Ps w0 vb T w/\Ps w0 vb T w.drew):=⟨h,hd⟩
 have sX:Hid (∀T' W',Ps w0 vb T' W'->W'.cell? ⟨b,0,none⟩=some (.int .i64 (kn:Int))/\W'.cell? ⟨vb,kn,none⟩=some (mv vb f)):=fun T' W' h'=>⟨by have:=(Q.cells h'.pg.bel).1;rwa [hk]at this,h'.mth hf⟩
 rw[hv]at Hm⊢
 generalize mgV w0 t=mg at Hm⊢
 generalize ptT (cls (kn:Int))=tp at Hm hmt⊢
 have hk0:(0:Int)<=(kn:Int):=by omega
 have hk1:(kn:Int)<43:=by omega
 clear hm hv Q h hf hk hd
 go_enter Tryz.func67,Tryz.ntmps67
 go_wp2_with fail
 go_region_held3 (fun W'=>W'.cell? ⟨b,0,none⟩=some (.int .i64 (kn:Int))/\W'.cell? ⟨vb,kn,none⟩=some (mv vb f)) (first|exact sX.out _ _ HP.out.2|exact sX.out _ _ q7|go_keep) (first|(go_at_call 233;refine(kh _).mono ?_;rintro e w' ⟨rfl,hw'⟩;subst w')|(refine(Hm.out _ _ HP.out.2).mono ?_;rintro e w7 ⟨rfl,q7,k7⟩))
 go_wp2_with fail
 go_end0
 exact⟨rfl,q7,(Kq.of_below (bel_drew1 (Below.refl _ _))).trans k7⟩
end Go.Proofs.YtelfejiiabbpfaaGreatDoor
