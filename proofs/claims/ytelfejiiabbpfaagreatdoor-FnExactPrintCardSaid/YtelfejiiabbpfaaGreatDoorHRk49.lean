import Derived.Test.YtelfejiiabbpfaaGreatDoorHRk34
import Derived.Test.YtelfejiiabbpfaaGreatDoorHRk31
import Derived.Test.YtelfejiiabbpfaaGreatDoorHRk28
import Derived.Test.YtelfejiiabbpfaaGreatDoorHRk33
import Derived.Test.YtelfejiiabbpfaaGreatDoorHRk48
set_option linter.unusedSimpArgs false
set_option linter.unusedVariables false
set_option maxRecDepth 100000
set_option maxHeartbeats 6400000
namespace Go.Proofs.YtelfejiiabbpfaaGreatDoor
open Go.RowKit Go.Maps Go.WideMaps
def pfxB (op:Int):ByteArray:=if op=19 then⟨#[45]⟩ else if op=20 then⟨#[126]⟩ else if op=22 then⟨#[35]⟩ else⟨#[110,111,116,32]⟩
theorem prefixText_any (op:Int) (w:World):Calls Tryz.prog 101 #[.int .i64 op] w fun e w'=>e= .returned (.string (pfxB op))/\Below w.heap.size w w':=by
 unfold pfxB
 by_cases e1:op=19
 ·rw[if_pos e1]
  subst e1
  go_enter Tryz.func101,Tryz.ntmps101
  go_wp2
  go_ret
  exact⟨rfl,Below.refl _ _⟩
 rw[if_neg e1]
 have g1:(op==19)=false:=by simpa using e1
 by_cases e2:op=20
 ·rw[if_pos e2]
  subst e2
  go_enter Tryz.func101,Tryz.ntmps101
  go_wp2
  go_ret
  exact⟨rfl,Below.refl _ _⟩
 rw[if_neg e2]
 have g2:(op==20)=false:=by simpa using e2
 by_cases e3:op=22
 ·rw[if_pos e3]
  subst e3
  go_enter Tryz.func101,Tryz.ntmps101
  go_wp2
  go_ret
  exact⟨rfl,Below.refl _ _⟩
 rw[if_neg e3]
 have g3:(op==22)=false:=by simpa using e3
 clear e1 e2 e3
 go_enter Tryz.func101,Tryz.ntmps101
 go_wp2
 go_ret
 exact⟨rfl,Below.refl _ _⟩
theorem isNeg_any (w0:World) (ns:List Nd) (L:List Im) (base:Nat) (vs:Value) (Tp0:Tp w0 ns L base vs) (i:Nat) (hi:i<ns.length) (w:World) (hb:Below w0.heap.size w0 w):
  Calls Tryz.prog 102 #[nV (imI L i)] w fun e w'=>e= .returned (.bool (negK (nodeI ns i)))/\Below w.heap.size w w':=by
 obtain⟨b,vn,a,n,c,hv,Q⟩:=nd_q Tp0 hi
 have kh:=fun w=>head_any b w
 have hmt:=fun w=>methC (cls (nodeI ns i).k) b w
 have x0:=(Q.cells hb).1
 rw[hv]
 unfold negK
 by_cases e1:(nodeI ns i).k=30
 ·have hc:cls (nodeI ns i).k=4:=by rw[e1];rfl
  have x6:=(Q.cells hb).2.2 _ (by rw[hc];rfl)
  rw[hc]at hmt⊢
  simp only[ptT]at hmt⊢
  have has:=fun w=>asP4 b w
  have HE:Hid ((nodeI ns i).k=30):=e1
  rw[e1]at x0
  generalize hop:(nodeI ns i).op=op at x6
  have HO:Hid ((nodeI ns i).op=op):=hop
  clear hop e1 Q hv
  go_enter Tryz.func102,Tryz.ntmps102
  go_wp2_with (go_at_call 233;refine(kh _).mono ?_;rintro e w' ⟨rfl,hw'⟩;subst w')
  go_ret
  exact⟨by rw[HE.out];rfl,Below.refl _ _⟩
 ·have g1:((nodeI ns i).k==30)=false:=by simpa using e1
  have HG:Hid (((nodeI ns i).k==30)=false):=g1
  generalize hkk:(nodeI ns i).k=kk at x0 g1 hmt HG
  generalize ptT (cls kk)=tp at hmt⊢
  clear e1 Q hv hkk
  go_enter Tryz.func102,Tryz.ntmps102
  go_wp2_with (go_at_call 233;refine(kh _).mono ?_;rintro e w' ⟨rfl,hw'⟩;subst w')
  go_ret
  exact⟨by rw[HG.out];rfl,Below.refl _ _⟩
end Go.Proofs.YtelfejiiabbpfaaGreatDoor
namespace Go.Proofs.YtelfejiiabbpfaaGreatDoor
open Go.RowKit
theorem body_any (w0:World) (vt:Value) (ns:List Nd) (S:Int->Nat->ByteArray) (B:Nat) (hO:OkS w0 vt ns S B) (hNs:NdsAt w0 vt ns) (hln:ns.length<=1048576) (i:Nat) (hi:i<ns.length) (k:Nat) (hk:(nodeI ns i).ks[0]?=some (k:Int)) (hkl:k<ns.length) (hA:StAll ns B (nodeI ns k).ks) (hl2:(nodeI ns k).ks.length<=1048576) (hln2:(nodeI ns i).nm.length<=1048576) (hlk:(nodeI ns i).ks.length<=1048576) (tab:Nat) (htab:tab+B<500000)
  (T:ByteArray) (w:World) (h:Pr w0 vt T tab w) (hl:T.size+(bodB ns S (nodeI ns i) tab).size<=140737488355328):
  Calls Tryz.prog 25 #[.pointer (some ⟨w0.heap.size,0,none⟩),.int .i64 (i:Int)] w fun e w'=>e= .returned (.tuple #[])/\Pr w0 vt (T++bodB ns S (nodeI ns i) tab) tab w'/\Kq w0.heap.size w w':=by
 have hn:=node_at hi
 have kb:=fun T' W'=>block_any w0 vt ns S B hO hNs hln k hkl hA hl2 tab htab T' W'
 obtain⟨a1,c1,rfl⟩:=hNs.form
 obtain⟨p1,rfl,vn,vk,g2⟩:=hNs.get hn
 obtain⟨z0,z2,zf⟩:=h.cells
 obtain⟨p',e0,vn',vk',g1⟩:=(hNs.below h.bel).get hn
 cases e0
 have e7:=cell_kept h.bel g2.c7
 have e8:=cell_kept h.bel g2.c8
 rw[g1.c7]at e7
 rw[g1.c8]at e8
 obtain rfl:vn'=vn:=by simpa using e7
 obtain rfl:vk'=vk:=by simpa using e8
 have hks:=g2.hk
 have hnm:=g2.hn
 have hkid:kidI (nodeI ns i) 0=(k:Int):=by unfold kidI;rw[List.getD,hk];rfl
 obtain⟨X,hX⟩:∃X,bodB ns S (nodeI ns i) tab=X:=⟨_,rfl⟩
 rw[hX]at hl⊢
 unfold bodB prmB at hX
 rw[hkid]at hX
 generalize hNN:nodeI ns i=N at hk g1 hks hnm hln2 hlk hX
 obtain⟨an,cn,rfl⟩:=hnm.form
 obtain⟨ak,ck,rfl⟩:=hks.form
 obtain⟨pk,rfl,_⟩:=hks.get hk
 have hlen:0<N.ks.length:=by rcases Nat.lt_or_ge 0 N.ks.length with e|e;exact e;rw[List.getElem?_eq_none e]at hk;cases hk
 obtain⟨n,hN⟩:∃n,ns.length=n:=⟨_,rfl⟩
 obtain⟨L,hL⟩:∃L,N.ks.length=L:=⟨_,rfl⟩
 obtain⟨M,hM⟩:∃M,N.nm.length=M:=⟨_,rfl⟩
 rw[hN]at z0 h kb hi⊢
 rw[hL]at g1 hks hlk hlen
 rw[hM]at g1 hnm hln2
 obtain⟨m0,m1,m2,m3,m4,m5,m6,m7,m8,_,_⟩:=g1
 have hb:Below w.heap.size w (w.alloc (.cells #[.int .i64 N.k,.int .i64 N.f,.int .i64 N.t,.int .i64 N.l,.int .i64 N.op,.int .i64 N.n,.string N.x,.slice an M cn,.slice (some pk) L ck] 44)):=(Below.refl _ w).alloc (Nat.le_refl _) _
 have hbx:NdBox w.heap.size (w.alloc (.cells #[.int .i64 N.k,.int .i64 N.f,.int .i64 N.t,.int .i64 N.l,.int .i64 N.op,.int .i64 N.n,.string N.x,.slice an M cn,.slice (some pk) L ck] 44)) 44 N (.slice an M cn) (.slice (some pk) L ck):=heap_alloc_new w _
 have hlt:=h.lt
 have HP:Hid (Pr w0 (.slice (some p1) n c1) T tab (w.alloc (.cells #[.int .i64 N.k,.int .i64 N.f,.int .i64 N.t,.int .i64 N.l,.int .i64 N.op,.int .i64 N.n,.string N.x,.slice an M cn,.slice (some pk) L ck] 44))/\Kq w0.heap.size w (w.alloc (.cells #[.int .i64 N.k,.int .i64 N.f,.int .i64 N.t,.int .i64 N.l,.int .i64 N.op,.int .i64 N.n,.string N.x,.slice an M cn,.slice (some pk) L ck] 44))
  /\NdBox w.heap.size (w.alloc (.cells #[.int .i64 N.k,.int .i64 N.f,.int .i64 N.t,.int .i64 N.l,.int .i64 N.op,.int .i64 N.n,.string N.x,.slice an M cn,.slice (some pk) L ck] 44)) 44 N (.slice an M cn) (.slice (some pk) L ck)/\StrsAt w0 (.slice an M cn) N.nm/\IntsAt w0 (.slice (some pk) L ck) N.ks/\N.ks[0]?=some (k:Int)/\N.nm.length=M):=⟨h.below hb,Kq.of_below hb,hbx,hnm,hks,hk,hM⟩
 have HK:Hid (∀(T':ByteArray) (W':World),Pr w0 (.slice (some p1) n c1) T' tab W'->T'.size+(blB S (nodeI ns k).ks tab).size<=140737488355328->Calls Tryz.prog 21 #[.pointer (some ⟨w0.heap.size,0,none⟩),.int .i64 (k:Int)] W' fun e w'=>e= .returned (.tuple #[])/\Pr w0 (.slice (some p1) n c1) (T'++blB S (nodeI ns k).ks tab) tab w'/\Kq w0.heap.size W' w'):=kb
 generalize blB S (nodeI ns k).ks tab=Y at hX HK
 have hii:(i:Int)<(n:Int):=by omega
 have hii0:(0:Int)<=(i:Int):=by omega
 have hL1:(0:Int)<(L:Int):=by omega
 obtain⟨md,hmd⟩:∃md,(if N.op=1 then(if N.nm=[] then⟨#[46,46,46]⟩ else commaB++⟨#[46,46,46]⟩) else ByteArray.empty)=md:=⟨_,rfl⟩
 rw[hmd]at hX
 have HX:Hid (⟨#[40]⟩++sepB N.nm++md++⟨#[41,32]⟩++Y=X):=hX
 have hsz:T.size+(1+(sepB N.nm).size+md.size+2+Y.size)<=140737488355328:=by
  rw[<-hX]at hl
  simp only[ByteArray.size_append]at hl
  exact hl
 have HZ:Hid (T.size+(1+(sepB N.nm).size+md.size+2+Y.size)<=140737488355328):=hsz
 clear h hNs g2 hn hO hks hnm hk hkid hX hl hsz hN hL hM hb hbx kb hA hl2 e7 e8 hNN
 go_enter Tryz.func25,Tryz.ntmps25
 go_wp2_with (go_at_call 12;fail)
 refine(say_any w0 _ T ⟨#[40]⟩ _ _ HP.out.1 (by have:=HZ.out;show T.size+1<=_;omega)).mono ?_
 rintro e w2 ⟨rfl,q2,k2⟩
 have b2:=k2.box HP.out.2.2.1 (by omega)
 obtain⟨_,_,_,_,_,_,_,u7,_,_⟩:=nd_cells b2
 have H2:Hid (Pr w0 (.slice (some p1) n c1) (T++⟨#[40]⟩) tab w2/\Kq w0.heap.size w w2/\NdBox w.heap.size w2 44 N (.slice an M cn) (.slice (some pk) L ck)):=⟨q2,HP.out.2.1.trans k2,b2⟩
 clear q2 k2 b2 m0 m1 m2 m3 m4 m5 m6 m7 m8 z0 z2 zf
 go_wp2_with (go_at_call 22;fail)
 refine(names_any w0 _ _ N.nm _ _ w2 H2.out.1 HP.out.2.2.2.1 (by rw[HP.out.2.2.2.2.2.2];exact hln2) (by have:=HZ.out;rw[ByteArray.size_append];show T.size+1+_<=_;omega)).mono ?_
 rintro e w3 ⟨rfl,q3,k3⟩
 have b3:=k3.box H2.out.2.2 (by omega)
 obtain⟨_,_,_,_,v4,_,_,v7,v8,_⟩:=nd_cells b3
 have H3:Hid (Pr w0 (.slice (some p1) n c1) (T++⟨#[40]⟩++sepB N.nm) tab w3/\Kq w0.heap.size w w3/\NdBox w.heap.size w3 44 N (.slice an M cn) (.slice (some pk) L ck)):=⟨q3,H2.out.2.1.trans k3,b3⟩
 clear q3 k3 b3 u7
 by_cases ho:N.op=1
 ·have g1:(N.op==1)=true:=by simpa using ho
  rw[if_pos ho]at hmd
  clear ho
  by_cases he:N.nm=[]
  ·rw[if_pos he]at hmd
   have hM0:M=0:=by have:=HP.out.2.2.2.2.2.2;rw[he]at this;simpa using this.symm
   have HMD:Hid ((⟨#[46,46,46]⟩:ByteArray)=md):=hmd
   have hM1:¬(0:Int)<(M:Int):=by omega
   clear hmd he hM0
   go_wp2_with (go_at_call 12;fail)
   refine(say_any w0 _ _ ⟨#[46,46,46]⟩ _ _ H3.out.1 (by have:=HZ.out;rw[<-HMD.out]at this;simp only[ByteArray.size_append];have e1:(⟨#[40]⟩:ByteArray).size=1:=rfl;omega)).mono ?_
   rintro e w5 ⟨rfl,q5,k5⟩
   rw[HMD.out]at q5
   have H5:Hid (Pr w0 (.slice (some p1) n c1) (T++⟨#[40]⟩++sepB N.nm++md) tab w5/\Kq w0.heap.size w w5/\NdBox w.heap.size w5 44 N (.slice an M cn) (.slice (some pk) L ck)):=⟨q5,H3.out.2.1.trans k5,k5.box H3.out.2.2 (by omega)⟩
   clear q5 k5 v4 v7 v8
   have b5:=nd_cells H5.out.2.2
   obtain⟨_,_,_,_,_,_,_,_,x8,_⟩:=b5
   obtain⟨p',e1,xp⟩:=(HP.out.2.2.2.2.1.below H5.out.1.bel).get HP.out.2.2.2.2.2.1
   cases e1
   clear xp
   go_wp2_with (go_at_call 12;fail)
   refine(say_any w0 _ _ ⟨#[41,32]⟩ _ _ H5.out.1 (by have:=HZ.out;simp only[ByteArray.size_append];have e1:(⟨#[40]⟩:ByteArray).size=1:=rfl;have e2:(⟨#[41,32]⟩:ByteArray).size=2:=rfl;omega)).mono ?_
   rintro e w6 ⟨rfl,q6,k6⟩
   have b6:=k6.box H5.out.2.2 (by omega)
   obtain⟨_,_,_,_,_,_,_,_,y8,_⟩:=nd_cells b6
   obtain⟨p',e1,yp⟩:=(HP.out.2.2.2.2.1.below q6.bel).get HP.out.2.2.2.2.2.1
   cases e1
   have yp0:w6.cell? pk=some (.int .i64 (k:Int)):=by simpa [Addr.add] using yp
   have H6:Hid (Pr w0 (.slice (some p1) n c1) (T++⟨#[40]⟩++sepB N.nm++md++⟨#[41,32]⟩) (tab:Int) w6/\Kq w0.heap.size w w6):=⟨q6,H5.out.2.1.trans k6⟩
   clear q6 k6 b6 yp x8
   go_wp2_with (go_at_call 21;fail)
   refine(HK.out _ w6 H6.out.1 (by have:=HZ.out;simp only[ByteArray.size_append];have e1:(⟨#[40]⟩:ByteArray).size=1:=rfl;have e2:(⟨#[41,32]⟩:ByteArray).size=2:=rfl;omega)).mono ?_
   rintro e w7 ⟨rfl,q7,k7⟩
   go_wp2_with fail
   go_end0
   refine⟨rfl,?_,H6.out.2.trans k7⟩
   rw[<-HX.out]
   simp only[ByteArray.append_assoc]at q7⊢
   exact q7
  ·rw[if_neg he]at hmd
   have hM0:0<M:=by
    have:=HP.out.2.2.2.2.2.2
    rcases Nat.eq_zero_or_pos M with e|e
    ·rw[e]at this;exact absurd (List.eq_nil_of_length_eq_zero this) he
    ·exact e
   have HMD:Hid (commaB++(⟨#[46,46,46]⟩:ByteArray)=md):=hmd
   have hM1:(0:Int)<(M:Int):=by omega
   clear hmd he hM0
   go_wp2_with (go_at_call 12;fail)
   refine(say_any w0 _ _ commaB _ _ H3.out.1 (by have:=HZ.out;rw[<-HMD.out]at this;simp only[ByteArray.size_append]at this⊢;have e1:(⟨#[40]⟩:ByteArray).size=1:=rfl;omega)).mono ?_
   rintro e w4 ⟨rfl,q4,k4⟩
   have H4:Hid (Pr w0 (.slice (some p1) n c1) (T++⟨#[40]⟩++sepB N.nm++commaB) tab w4/\Kq w0.heap.size w w4/\NdBox w.heap.size w4 44 N (.slice an M cn) (.slice (some pk) L ck)):=⟨q4,H3.out.2.1.trans k4,k4.box H3.out.2.2 (by omega)⟩
   clear q4 k4 v4 v7 v8
   go_wp2_with (go_at_call 12;fail)
   refine(say_any w0 _ _ ⟨#[46,46,46]⟩ _ _ H4.out.1 (by have:=HZ.out;rw[<-HMD.out]at this;simp only[ByteArray.size_append]at this⊢;have e1:(⟨#[40]⟩:ByteArray).size=1:=rfl;omega)).mono ?_
   rintro e w5 ⟨rfl,q5,k5⟩
   rw[ByteArray.append_assoc (b:=commaB),HMD.out]at q5
   have H5:Hid (Pr w0 (.slice (some p1) n c1) (T++⟨#[40]⟩++sepB N.nm++md) tab w5/\Kq w0.heap.size w w5/\NdBox w.heap.size w5 44 N (.slice an M cn) (.slice (some pk) L ck)):=⟨q5,H4.out.2.1.trans k5,k5.box H4.out.2.2 (by omega)⟩
   clear q5 k5
   have b5:=nd_cells H5.out.2.2
   obtain⟨_,_,_,_,_,_,_,_,x8,_⟩:=b5
   obtain⟨p',e1,xp⟩:=(HP.out.2.2.2.2.1.below H5.out.1.bel).get HP.out.2.2.2.2.2.1
   cases e1
   clear xp
   go_wp2_with (go_at_call 12;fail)
   refine(say_any w0 _ _ ⟨#[41,32]⟩ _ _ H5.out.1 (by have:=HZ.out;simp only[ByteArray.size_append];have e1:(⟨#[40]⟩:ByteArray).size=1:=rfl;have e2:(⟨#[41,32]⟩:ByteArray).size=2:=rfl;omega)).mono ?_
   rintro e w6 ⟨rfl,q6,k6⟩
   have b6:=k6.box H5.out.2.2 (by omega)
   obtain⟨_,_,_,_,_,_,_,_,y8,_⟩:=nd_cells b6
   obtain⟨p',e1,yp⟩:=(HP.out.2.2.2.2.1.below q6.bel).get HP.out.2.2.2.2.2.1
   cases e1
   have yp0:w6.cell? pk=some (.int .i64 (k:Int)):=by simpa [Addr.add] using yp
   have H6:Hid (Pr w0 (.slice (some p1) n c1) (T++⟨#[40]⟩++sepB N.nm++md++⟨#[41,32]⟩) (tab:Int) w6/\Kq w0.heap.size w w6):=⟨q6,H5.out.2.1.trans k6⟩
   clear q6 k6 b6 yp x8
   go_wp2_with (go_at_call 21;fail)
   refine(HK.out _ w6 H6.out.1 (by have:=HZ.out;simp only[ByteArray.size_append];have e1:(⟨#[40]⟩:ByteArray).size=1:=rfl;have e2:(⟨#[41,32]⟩:ByteArray).size=2:=rfl;omega)).mono ?_
   rintro e w7 ⟨rfl,q7,k7⟩
   go_wp2_with fail
   go_end0
   refine⟨rfl,?_,H6.out.2.trans k7⟩
   rw[<-HX.out]
   simp only[ByteArray.append_assoc]at q7⊢
   exact q7
 ·have g1:(N.op==1)=false:=by simpa using ho
  rw[if_neg ho]at hmd
  clear ho
  have H5:Hid (Pr w0 (.slice (some p1) n c1) (T++⟨#[40]⟩++sepB N.nm++md) tab w3/\Kq w0.heap.size w w3/\NdBox w.heap.size w3 44 N (.slice an M cn) (.slice (some pk) L ck)):=by
   rw[<-hmd,ByteArray.append_empty]
   exact H3.out
  clear hmd
  have b5:=nd_cells H5.out.2.2
  obtain⟨_,_,_,_,_,_,_,_,x8,_⟩:=b5
  obtain⟨p',e1,xp⟩:=(HP.out.2.2.2.2.1.below H5.out.1.bel).get HP.out.2.2.2.2.2.1
  cases e1
  clear xp
  go_wp2_with (go_at_call 12;fail)
  refine(say_any w0 _ _ ⟨#[41,32]⟩ _ _ H5.out.1 (by have:=HZ.out;simp only[ByteArray.size_append];have e1:(⟨#[40]⟩:ByteArray).size=1:=rfl;have e2:(⟨#[41,32]⟩:ByteArray).size=2:=rfl;omega)).mono ?_
  rintro e w6 ⟨rfl,q6,k6⟩
  have b6:=k6.box H5.out.2.2 (by omega)
  obtain⟨_,_,_,_,_,_,_,_,y8,_⟩:=nd_cells b6
  obtain⟨p',e1,yp⟩:=(HP.out.2.2.2.2.1.below q6.bel).get HP.out.2.2.2.2.2.1
  cases e1
  have yp0:w6.cell? pk=some (.int .i64 (k:Int)):=by simpa [Addr.add] using yp
  have H6:Hid (Pr w0 (.slice (some p1) n c1) (T++⟨#[40]⟩++sepB N.nm++md++⟨#[41,32]⟩) (tab:Int) w6/\Kq w0.heap.size w w6):=⟨q6,H5.out.2.1.trans k6⟩
  clear q6 k6 b6 yp x8
  go_wp2_with (go_at_call 21;fail)
  refine(HK.out _ w6 H6.out.1 (by have:=HZ.out;simp only[ByteArray.size_append];have e1:(⟨#[40]⟩:ByteArray).size=1:=rfl;have e2:(⟨#[41,32]⟩:ByteArray).size=2:=rfl;omega)).mono ?_
  rintro e w7 ⟨rfl,q7,k7⟩
  go_wp2_with fail
  go_end0
  refine⟨rfl,?_,H6.out.2.trans k7⟩
  rw[<-HX.out]
  simp only[ByteArray.append_assoc]at q7⊢
  exact q7
theorem branch_two (w0:World) (vt:Value) (E Y1:ByteArray) (tab:Nat) (N:Nd) (vn vk:Value) (hks:IntsAt w0 vk N.ks) (k0 k1:Nat) (hk0:N.ks[0]?=some (k0:Int)) (hk1:N.ks[1]?=some (k1:Int)) (hl3:N.ks.length<3)
  (hE:∀(T':ByteArray) (W':World),Pr w0 vt T' tab W'->T'.size+(E).size<=140737488355328->Calls Tryz.prog 24 #[.pointer (some ⟨w0.heap.size,0,none⟩),.int .i64 (k0:Int),.int .i64 0] W' fun e w'=>e= .returned (.tuple #[])/\Pr w0 vt (T'++E) tab w'/\Kq w0.heap.size W' w')
  (hB:∀(T':ByteArray) (W':World),Pr w0 vt T' tab W'->T'.size+(Y1).size<=140737488355328->Calls Tryz.prog 21 #[.pointer (some ⟨w0.heap.size,0,none⟩),.int .i64 (k1:Int)] W' fun e w'=>e= .returned (.tuple #[])/\Pr w0 vt (T'++Y1) tab w'/\Kq w0.heap.size W' w')
  (word T:ByteArray) (w:World) (h:Pr w0 vt T tab w) (hl:T.size+(word++E++⟨#[32]⟩++Y1).size<=140737488355328):
  Calls Tryz.prog 26 #[.pointer (some ⟨w0.heap.size,0,none⟩),vNd N vn vk,.string word] w fun e w'=>e= .returned (.tuple #[])/\Pr w0 vt (T++(word++E++⟨#[32]⟩++Y1)) tab w'/\Kq w0.heap.size w w':=by
 obtain⟨a1,ck,rfl⟩:=hks.form
 obtain⟨pk,rfl,_⟩:=hks.get hk0
 obtain⟨L,hL⟩:∃L,N.ks.length=L:=⟨_,rfl⟩
 have hlen:1<N.ks.length:=by rcases Nat.lt_or_ge 1 N.ks.length with e|e;exact e;rw[List.getElem?_eq_none e]at hk1;cases hk1
 rw[hL]at hks hl3 hlen⊢
 have hb:Below w.heap.size w (w.alloc (.cells #[.int .i64 N.k,.int .i64 N.f,.int .i64 N.t,.int .i64 N.l,.int .i64 N.op,.int .i64 N.n,.string N.x,vn,.slice (some pk) L ck] 44)):=(Below.refl _ w).alloc (Nat.le_refl _) _
 have hbx:NdBox w.heap.size (w.alloc (.cells #[.int .i64 N.k,.int .i64 N.f,.int .i64 N.t,.int .i64 N.l,.int .i64 N.op,.int .i64 N.n,.string N.x,vn,.slice (some pk) L ck] 44)) 44 N vn (.slice (some pk) L ck):=heap_alloc_new w _
 have hlt:=h.lt
 simp only[ByteArray.size_append]at hl
 have e1:(⟨#[32]⟩:ByteArray).size=1:=rfl
 rw[e1]at hl
 have HP:Hid (Pr w0 vt T tab (w.alloc (.cells #[.int .i64 N.k,.int .i64 N.f,.int .i64 N.t,.int .i64 N.l,.int .i64 N.op,.int .i64 N.n,.string N.x,vn,.slice (some pk) L ck] 44))/\Kq w0.heap.size w (w.alloc (.cells #[.int .i64 N.k,.int .i64 N.f,.int .i64 N.t,.int .i64 N.l,.int .i64 N.op,.int .i64 N.n,.string N.x,vn,.slice (some pk) L ck] 44))/\NdBox w.heap.size (w.alloc (.cells #[.int .i64 N.k,.int .i64 N.f,.int .i64 N.t,.int .i64 N.l,.int .i64 N.op,.int .i64 N.n,.string N.x,vn,.slice (some pk) L ck] 44)) 44 N vn (.slice (some pk) L ck)/\IntsAt w0 (.slice (some pk) L ck) N.ks/\N.ks[0]?=some (k0:Int)/\N.ks[1]?=some (k1:Int)):=⟨h.below hb,Kq.of_below hb,hbx,hks,hk0,hk1⟩
 have HE:Hid (∀(T':ByteArray) (W':World),Pr w0 vt T' tab W'->T'.size+(E).size<=140737488355328->Calls Tryz.prog 24 #[.pointer (some ⟨w0.heap.size,0,none⟩),.int .i64 (k0:Int),.int .i64 0] W' fun e w'=>e= .returned (.tuple #[])/\Pr w0 vt (T'++E) tab w'/\Kq w0.heap.size W' w'):=hE
 have HB:Hid (∀(T':ByteArray) (W':World),Pr w0 vt T' tab W'->T'.size+(Y1).size<=140737488355328->Calls Tryz.prog 21 #[.pointer (some ⟨w0.heap.size,0,none⟩),.int .i64 (k1:Int)] W' fun e w'=>e= .returned (.tuple #[])/\Pr w0 vt (T'++Y1) tab w'/\Kq w0.heap.size W' w'):=hB
 clear h hb hbx hks hk0 hk1 hE hB hL e1
 unfold vNd
 have hi1:(0:Int)<(L:Int):=by omega
 have hi2:(1:Int)<(L:Int):=by omega
 have hi3:(L:Int)<3:=by omega
 have cel:∀W,Below w0.heap.size w0 W->NdBox w.heap.size W 44 N vn (.slice (some pk) L ck)->W.cell? ⟨w.heap.size,8,none⟩=some (.slice (some pk) L ck)/\W.cell? pk=some (.int .i64 (k0:Int))/\W.cell? ⟨pk.block,pk.off+1,none⟩=some (.int .i64 (k1:Int)):=by
  intro W hb bx
  obtain⟨_,_,_,_,_,_,_,_,x8,_⟩:=nd_cells bx
  obtain⟨p',e1,xp⟩:=(HP.out.2.2.2.1.below hb).get HP.out.2.2.2.2.1
  cases e1
  obtain⟨p',e1,xq⟩:=(HP.out.2.2.2.1.below hb).get HP.out.2.2.2.2.2
  cases e1
  exact⟨x8,by simpa [Addr.add] using xp,add_cell xq (by decide)⟩
 go_enter Tryz.func26,Tryz.ntmps26
 go_wp2_with (go_at_call 12;fail)
 refine(say_any w0 _ T word _ _ HP.out.1 (by omega)).mono ?_
 rintro e w2 ⟨rfl,q2,k2⟩
 have b2:=k2.box HP.out.2.2.1 (by omega)
 obtain⟨x8,xp,xq⟩:=cel w2 q2.bel b2
 have H2:Hid (Pr w0 vt (T++word) tab w2/\Kq w0.heap.size w w2/\NdBox w.heap.size w2 44 N vn (.slice (some pk) L ck)):=⟨q2,HP.out.2.1.trans k2,b2⟩
 clear q2 k2 b2
 go_wp2_with (go_at_call 24;fail)
 refine(HE.out _ _ H2.out.1 (by rw[ByteArray.size_append];omega)).mono ?_
 rintro e w3 ⟨rfl,q3,k3⟩
 have H3:Hid (Pr w0 vt (T++word++E) tab w3/\Kq w0.heap.size w w3/\NdBox w.heap.size w3 44 N vn (.slice (some pk) L ck)):=⟨q3,H2.out.2.1.trans k3,k3.box H2.out.2.2 (by omega)⟩
 clear q3 k3 x8 xp xq
 go_wp2_with (go_at_call 12;fail)
 refine(say_any w0 _ _ ⟨#[32]⟩ _ _ H3.out.1 (by simp only[ByteArray.size_append];have e1:(⟨#[32]⟩:ByteArray).size=1:=rfl;omega)).mono ?_
 rintro e w4 ⟨rfl,q4,k4⟩
 have b4:=k4.box H3.out.2.2 (by omega)
 obtain⟨x8,xp,xq⟩:=cel w4 q4.bel b4
 have H4:Hid (Pr w0 vt (T++word++E++⟨#[32]⟩) tab w4/\Kq w0.heap.size w w4/\NdBox w.heap.size w4 44 N vn (.slice (some pk) L ck)):=⟨q4,H3.out.2.1.trans k4,b4⟩
 clear q4 k4 b4
 go_wp2_with (go_at_call 21;fail)
 refine(HB.out _ _ H4.out.1 (by simp only[ByteArray.size_append];have e1:(⟨#[32]⟩:ByteArray).size=1:=rfl;omega)).mono ?_
 rintro e w5 ⟨rfl,q5,k5⟩
 have b5:=k5.box H4.out.2.2 (by omega)
 have q5':Pr w0 vt (T++(word++E++⟨#[32]⟩++Y1)) tab w5:=by
  have:=q5
  simp only[ByteArray.append_assoc]at this⊢
  exact this
 obtain⟨x8',xp',xq'⟩:=cel w5 q5.bel b5
 have H5:Hid (Pr w0 vt (T++(word++E++⟨#[32]⟩++Y1)) tab w5/\Kq w0.heap.size w w5):=⟨q5',H4.out.2.1.trans k5⟩
 clear q5 k5 b5 q5' x8 xp xq xp' xq'
 go_wp2_with fail
 exact bodyPost_ret (results_none rfl _ _ _) rfl ⟨rfl,H5.out.1,H5.out.2⟩
theorem branch_elif (w0:World) (p1:Addr) (n c1:Nat) (ns:List Nd) (hNs:NdsAt w0 (.slice (some p1) n c1) ns) (hnn:ns.length=n) (hln:n<=1048576) (E Y1 Y2:ByteArray) (tab:Nat) (N:Nd) (vn vk:Value) (hks:IntsAt w0 vk N.ks) (k0 k1:Nat) (hk0:N.ks[0]?=some (k0:Int)) (hk1:N.ks[1]?=some (k1:Int)) (k2:Nat) (hk2:N.ks[2]?=some (k2:Int)) (hk2n:k2<n) (hM7:(nodeI ns k2).k=7)
  (hC:∀(vn' vk':Value),StrsAt w0 vn' (nodeI ns k2).nm->IntsAt w0 vk' (nodeI ns k2).ks->∀(T':ByteArray) (W':World),Pr w0 (.slice (some p1) n c1) T' tab W'->T'.size+(Y2).size<=140737488355328->Calls Tryz.prog 26 #[.pointer (some ⟨w0.heap.size,0,none⟩),vNd (nodeI ns k2) vn' vk',.string ⟨#[32,101,108,105,102,32]⟩] W' fun e w'=>e= .returned (.tuple #[])/\Pr w0 (.slice (some p1) n c1) (T'++Y2) tab w'/\Kq w0.heap.size W' w')
  (hE:∀(T':ByteArray) (W':World),Pr w0 (.slice (some p1) n c1) T' tab W'->T'.size+(E).size<=140737488355328->Calls Tryz.prog 24 #[.pointer (some ⟨w0.heap.size,0,none⟩),.int .i64 (k0:Int),.int .i64 0] W' fun e w'=>e= .returned (.tuple #[])/\Pr w0 (.slice (some p1) n c1) (T'++E) tab w'/\Kq w0.heap.size W' w')
  (hB:∀(T':ByteArray) (W':World),Pr w0 (.slice (some p1) n c1) T' tab W'->T'.size+(Y1).size<=140737488355328->Calls Tryz.prog 21 #[.pointer (some ⟨w0.heap.size,0,none⟩),.int .i64 (k1:Int)] W' fun e w'=>e= .returned (.tuple #[])/\Pr w0 (.slice (some p1) n c1) (T'++Y1) tab w'/\Kq w0.heap.size W' w')
  (word T:ByteArray) (w:World) (h:Pr w0 (.slice (some p1) n c1) T tab w) (hl:T.size+(word++E++⟨#[32]⟩++Y1++Y2).size<=140737488355328):
  Calls Tryz.prog 26 #[.pointer (some ⟨w0.heap.size,0,none⟩),vNd N vn vk,.string word] w fun e w'=>e= .returned (.tuple #[])/\Pr w0 (.slice (some p1) n c1) (T++(word++E++⟨#[32]⟩++Y1++Y2)) tab w'/\Kq w0.heap.size w w':=by
 obtain⟨a1,ck,rfl⟩:=hks.form
 obtain⟨pk,rfl,_⟩:=hks.get hk0
 obtain⟨L,hL⟩:∃L,N.ks.length=L:=⟨_,rfl⟩
 have hlen:2<N.ks.length:=by rcases Nat.lt_or_ge 2 N.ks.length with e|e;exact e;rw[List.getElem?_eq_none e]at hk2;cases hk2
 rw[hL]at hks hlen⊢
 have hb:Below w.heap.size w (w.alloc (.cells #[.int .i64 N.k,.int .i64 N.f,.int .i64 N.t,.int .i64 N.l,.int .i64 N.op,.int .i64 N.n,.string N.x,vn,.slice (some pk) L ck] 44)):=(Below.refl _ w).alloc (Nat.le_refl _) _
 have hbx:NdBox w.heap.size (w.alloc (.cells #[.int .i64 N.k,.int .i64 N.f,.int .i64 N.t,.int .i64 N.l,.int .i64 N.op,.int .i64 N.n,.string N.x,vn,.slice (some pk) L ck] 44)) 44 N vn (.slice (some pk) L ck):=heap_alloc_new w _
 have hlt:=h.lt
 simp only[ByteArray.size_append]at hl
 have e1:(⟨#[32]⟩:ByteArray).size=1:=rfl
 rw[e1]at hl
 have HP:Hid (Pr w0 (.slice (some p1) n c1) T tab (w.alloc (.cells #[.int .i64 N.k,.int .i64 N.f,.int .i64 N.t,.int .i64 N.l,.int .i64 N.op,.int .i64 N.n,.string N.x,vn,.slice (some pk) L ck] 44))/\Kq w0.heap.size w (w.alloc (.cells #[.int .i64 N.k,.int .i64 N.f,.int .i64 N.t,.int .i64 N.l,.int .i64 N.op,.int .i64 N.n,.string N.x,vn,.slice (some pk) L ck] 44))/\NdBox w.heap.size (w.alloc (.cells #[.int .i64 N.k,.int .i64 N.f,.int .i64 N.t,.int .i64 N.l,.int .i64 N.op,.int .i64 N.n,.string N.x,vn,.slice (some pk) L ck] 44)) 44 N vn (.slice (some pk) L ck)/\IntsAt w0 (.slice (some pk) L ck) N.ks/\N.ks[0]?=some (k0:Int)/\N.ks[1]?=some (k1:Int)/\N.ks[2]?=some (k2:Int)/\NdsAt w0 (.slice (some p1) n c1) ns/\ns[k2]?=some (nodeI ns k2)):=⟨h.below hb,Kq.of_below hb,hbx,hks,hk0,hk1,hk2,hNs,node_at (by rw[hnn];exact hk2n)⟩
 have HE:Hid (∀(T':ByteArray) (W':World),Pr w0 (.slice (some p1) n c1) T' tab W'->T'.size+(E).size<=140737488355328->Calls Tryz.prog 24 #[.pointer (some ⟨w0.heap.size,0,none⟩),.int .i64 (k0:Int),.int .i64 0] W' fun e w'=>e= .returned (.tuple #[])/\Pr w0 (.slice (some p1) n c1) (T'++E) tab w'/\Kq w0.heap.size W' w'):=hE
 have HB:Hid (∀(T':ByteArray) (W':World),Pr w0 (.slice (some p1) n c1) T' tab W'->T'.size+(Y1).size<=140737488355328->Calls Tryz.prog 21 #[.pointer (some ⟨w0.heap.size,0,none⟩),.int .i64 (k1:Int)] W' fun e w'=>e= .returned (.tuple #[])/\Pr w0 (.slice (some p1) n c1) (T'++Y1) tab w'/\Kq w0.heap.size W' w'):=hB
 have HC:Hid (∀(vn' vk':Value),StrsAt w0 vn' (nodeI ns k2).nm->IntsAt w0 vk' (nodeI ns k2).ks->∀(T':ByteArray) (W':World),Pr w0 (.slice (some p1) n c1) T' tab W'->T'.size+(Y2).size<=140737488355328->Calls Tryz.prog 26 #[.pointer (some ⟨w0.heap.size,0,none⟩),vNd (nodeI ns k2) vn' vk',.string ⟨#[32,101,108,105,102,32]⟩] W' fun e w'=>e= .returned (.tuple #[])/\Pr w0 (.slice (some p1) n c1) (T'++Y2) tab w'/\Kq w0.heap.size W' w'):=hC
 clear h hb hbx hks hk0 hk1 hk2 hE hB hL e1 hC hNs hnn
 unfold vNd
 have hi1:(0:Int)<(L:Int):=by omega
 have hi2:(1:Int)<(L:Int):=by omega
 have hi3:¬(L:Int)<3:=by omega
 have hi4:(2:Int)<(L:Int):=by omega
 have hi5:(k2:Int)<(n:Int):=by omega
 have hi6:(0:Int)<=(k2:Int):=by omega
 have cel:∀W,Below w0.heap.size w0 W->NdBox w.heap.size W 44 N vn (.slice (some pk) L ck)->W.cell? ⟨w.heap.size,8,none⟩=some (.slice (some pk) L ck)/\W.cell? pk=some (.int .i64 (k0:Int))/\W.cell? ⟨pk.block,pk.off+1,none⟩=some (.int .i64 (k1:Int))/\W.cell? ⟨pk.block,pk.off+2,none⟩=some (.int .i64 (k2:Int)):=by
  intro W hb bx
  obtain⟨_,_,_,_,_,_,_,_,x8,_⟩:=nd_cells bx
  obtain⟨p',e1,xp⟩:=(HP.out.2.2.2.1.below hb).get HP.out.2.2.2.2.1
  cases e1
  obtain⟨p',e1,xq⟩:=(HP.out.2.2.2.1.below hb).get HP.out.2.2.2.2.2.1
  cases e1
  obtain⟨p',e1,xr⟩:=(HP.out.2.2.2.1.below hb).get HP.out.2.2.2.2.2.2.1
  cases e1
  exact⟨x8,by simpa [Addr.add] using xp,add_cell xq (by decide),add_cell xr (by decide)⟩
 go_enter Tryz.func26,Tryz.ntmps26
 go_wp2_with (go_at_call 12;fail)
 refine(say_any w0 _ T word _ _ HP.out.1 (by omega)).mono ?_
 rintro e w2 ⟨rfl,q2,k2⟩
 have b2:=k2.box HP.out.2.2.1 (by omega)
 obtain⟨x8,xp,xq,xr⟩:=cel w2 q2.bel b2
 have H2:Hid (Pr w0 (.slice (some p1) n c1) (T++word) tab w2/\Kq w0.heap.size w w2/\NdBox w.heap.size w2 44 N vn (.slice (some pk) L ck)):=⟨q2,HP.out.2.1.trans k2,b2⟩
 clear q2 k2 b2
 go_wp2_with (go_at_call 24;fail)
 refine(HE.out _ _ H2.out.1 (by rw[ByteArray.size_append];omega)).mono ?_
 rintro e w3 ⟨rfl,q3,k3⟩
 have H3:Hid (Pr w0 (.slice (some p1) n c1) (T++word++E) tab w3/\Kq w0.heap.size w w3/\NdBox w.heap.size w3 44 N vn (.slice (some pk) L ck)):=⟨q3,H2.out.2.1.trans k3,k3.box H2.out.2.2 (by omega)⟩
 clear q3 k3 x8 xp xq xr
 go_wp2_with (go_at_call 12;fail)
 refine(say_any w0 _ _ ⟨#[32]⟩ _ _ H3.out.1 (by simp only[ByteArray.size_append];have e1:(⟨#[32]⟩:ByteArray).size=1:=rfl;omega)).mono ?_
 rintro e w4 ⟨rfl,q4,k4⟩
 have b4:=k4.box H3.out.2.2 (by omega)
 obtain⟨x8,xp,xq,xr⟩:=cel w4 q4.bel b4
 have H4:Hid (Pr w0 (.slice (some p1) n c1) (T++word++E++⟨#[32]⟩) tab w4/\Kq w0.heap.size w w4/\NdBox w.heap.size w4 44 N vn (.slice (some pk) L ck)):=⟨q4,H3.out.2.1.trans k4,b4⟩
 clear q4 k4 b4
 go_wp2_with (go_at_call 21;fail)
 refine(HB.out _ _ H4.out.1 (by simp only[ByteArray.size_append];have e1:(⟨#[32]⟩:ByteArray).size=1:=rfl;omega)).mono ?_
 rintro e w5 ⟨rfl,q5,k5⟩
 have b5:=k5.box H4.out.2.2 (by omega)
 have q5':Pr w0 (.slice (some p1) n c1) (T++(word++E++⟨#[32]⟩++Y1)) tab w5:=by
  have:=q5
  simp only[ByteArray.append_assoc]at this⊢
  exact this
 obtain⟨x8',xp',xq',xr'⟩:=cel w5 q5.bel b5
 obtain⟨p'',e2,vn1,vk1,gM⟩:=(HP.out.2.2.2.2.2.2.2.1.below q5.bel).get HP.out.2.2.2.2.2.2.2.2
 cases e2
 obtain⟨z0,z2,zf⟩:=q5.cells
 obtain⟨p'',e2,vn2,vk2,gM2⟩:=HP.out.2.2.2.2.2.2.2.1.get HP.out.2.2.2.2.2.2.2.2
 cases e2
 have e7:=cell_kept q5.bel gM2.c7
 have e8:=cell_kept q5.bel gM2.c8
 rw[gM.c7]at e7
 rw[gM.c8]at e8
 obtain rfl:vn1=vn2:=by simpa using e7
 obtain rfl:vk1=vk2:=by simpa using e8
 have HM:Hid (StrsAt w0 vn1 (nodeI ns k2).nm/\IntsAt w0 vk1 (nodeI ns k2).ks):=⟨gM2.hn,gM2.hk⟩
 obtain⟨m0,m1,m2,m3,m4,m5,m6,m7,m8,hmn,hmk⟩:=gM
 obtain⟨xn,yn,rfl⟩:=hmn.form
 obtain⟨xk,yk,rfl⟩:=hmk.form
 have hlt5:=lt_of_block b5
 have H5:Hid (Pr w0 (.slice (some p1) n c1) (T++(word++E++⟨#[32]⟩++Y1)) tab w5/\Kq w0.heap.size w w5/\NdBox w.heap.size w5 44 N vn (.slice (some pk) L ck)):=⟨q5',H4.out.2.1.trans k5,b5⟩
 clear q5 k5 b5 q5' x8 xp xq xr xp' xq' hmn hmk gM2 e7 e8
 generalize hMM:nodeI ns k2=M at m0 m1 m2 m3 m4 m5 m6 m7 m8 HM HC hM7
 generalize M.nm.length=L1 at m7 HM
 generalize M.ks.length=L2 at m8 HM
 clear hMM
 have g7:(M.k==7)=true:=by simpa using hM7
 clear hM7
 go_wp2_with fail
 go_region_held3 (fun w'=>w'.cell? ⟨w0.heap.size,0,none⟩=some (.slice (some p1) n c1)/\w'.cell? ⟨w.heap.size,8,none⟩=some (.slice (some pk) L ck)/\w'.cell? ⟨pk.block,pk.off+2,none⟩=some (.int .i64 (k2:Int))/\w'.cell? (p1.add (k2*9))=some (.int .i64 M.k)/\w'.cell? ⟨(p1.add (k2*9)).block,(p1.add (k2*9)).off+1,none⟩=some (.int .i64 M.f)/\w'.cell? ⟨(p1.add (k2*9)).block,(p1.add (k2*9)).off+2,none⟩=some (.int .i64 M.t)/\w'.cell? ⟨(p1.add (k2*9)).block,(p1.add (k2*9)).off+3,none⟩=some (.int .i64 M.l)/\w'.cell? ⟨(p1.add (k2*9)).block,(p1.add (k2*9)).off+4,none⟩=some (.int .i64 M.op)/\w'.cell? ⟨(p1.add (k2*9)).block,(p1.add (k2*9)).off+5,none⟩=some (.int .i64 M.n)/\w'.cell? ⟨(p1.add (k2*9)).block,(p1.add (k2*9)).off+6,none⟩=some (.string M.x)/\w'.cell? ⟨(p1.add (k2*9)).block,(p1.add (k2*9)).off+7,none⟩=some (.slice xn L1 yn)/\w'.cell? ⟨(p1.add (k2*9)).block,(p1.add (k2*9)).off+8,none⟩=some (.slice xk L2 yk)) (go_keep) (fail)
 have hb6:Below w5.heap.size w5 (w5.alloc (.cells #[.int .i64 M.k,.int .i64 M.f,.int .i64 M.t,.int .i64 M.l,.int .i64 M.op,.int .i64 M.n,.string M.x,.slice xn L1 yn,.slice xk L2 yk] 44)).drew:=bel_drew1 ((Below.refl _ w5).alloc (Nat.le_refl _) _)
 have hn6:NdBox w5.heap.size (w5.alloc (.cells #[.int .i64 M.k,.int .i64 M.f,.int .i64 M.t,.int .i64 M.l,.int .i64 M.op,.int .i64 M.n,.string M.x,.slice xn L1 yn,.slice xk L2 yk] 44)).drew 44 M (.slice xn L1 yn) (.slice xk L2 yk):=heap_alloc_new w5 _
 generalize (w5.alloc (.cells #[.int .i64 M.k,.int .i64 M.f,.int .i64 M.t,.int .i64 M.l,.int .i64 M.op,.int .i64 M.n,.string M.x,.slice xn L1 yn,.slice xk L2 yk] 44)).drew=W6 at hb6 hn6⊢
 have H6:Hid (Pr w0 (.slice (some p1) n c1) (T++(word++E++⟨#[32]⟩++Y1)) tab W6/\Kq w0.heap.size w W6/\NdBox w.heap.size W6 44 N vn (.slice (some pk) L ck)):=⟨H5.out.1.below hb6,H5.out.2.1.trans (Kq.of_below hb6),H5.out.2.2.below hb6⟩
 obtain⟨d0,d1,d2,d3,d4,d5,d6,d7,d8,_⟩:=nd_cells hn6
 clear hb6 hn6 m0 m1 m2 m3 m4 m5 m6 m7 m8 z0 z2 zf x8' xr'
 unfold vNd at HC
 go_wp2_with (go_at_call 26;fail)
 refine(HC.out _ _ HM.out.1 HM.out.2 _ _ H6.out.1 (by simp only[ByteArray.size_append];have e1:(⟨#[32]⟩:ByteArray).size=1:=rfl;omega)).mono ?_
 rintro e w7 ⟨rfl,q7,k7⟩
 rw[ByteArray.append_assoc]at q7
 have H7:Hid (Pr w0 (.slice (some p1) n c1) (T++(word++E++⟨#[32]⟩++Y1++Y2)) tab w7/\Kq w0.heap.size w w7):=⟨q7,H6.out.2.1.trans k7⟩
 clear q7 k7
 go_wp2_with fail
 exact bodyPost_ret (results_none rfl _ _ _) rfl ⟨rfl,H7.out.1,H7.out.2⟩
theorem branch_else (w0:World) (p1:Addr) (n c1:Nat) (ns:List Nd) (hNs:NdsAt w0 (.slice (some p1) n c1) ns) (hnn:ns.length=n) (hln:n<=1048576) (E Y1 Y2:ByteArray) (tab:Nat) (N:Nd) (vn vk:Value) (hks:IntsAt w0 vk N.ks) (k0 k1:Nat) (hk0:N.ks[0]?=some (k0:Int)) (hk1:N.ks[1]?=some (k1:Int)) (k2:Nat) (hk2:N.ks[2]?=some (k2:Int)) (hk2n:k2<n) (hM7:(nodeI ns k2).k≠7)
  (hC:∀(T':ByteArray) (W':World),Pr w0 (.slice (some p1) n c1) T' tab W'->T'.size+(Y2).size<=140737488355328->Calls Tryz.prog 21 #[.pointer (some ⟨w0.heap.size,0,none⟩),.int .i64 (k2:Int)] W' fun e w'=>e= .returned (.tuple #[])/\Pr w0 (.slice (some p1) n c1) (T'++Y2) tab w'/\Kq w0.heap.size W' w')
  (hE:∀(T':ByteArray) (W':World),Pr w0 (.slice (some p1) n c1) T' tab W'->T'.size+(E).size<=140737488355328->Calls Tryz.prog 24 #[.pointer (some ⟨w0.heap.size,0,none⟩),.int .i64 (k0:Int),.int .i64 0] W' fun e w'=>e= .returned (.tuple #[])/\Pr w0 (.slice (some p1) n c1) (T'++E) tab w'/\Kq w0.heap.size W' w')
  (hB:∀(T':ByteArray) (W':World),Pr w0 (.slice (some p1) n c1) T' tab W'->T'.size+(Y1).size<=140737488355328->Calls Tryz.prog 21 #[.pointer (some ⟨w0.heap.size,0,none⟩),.int .i64 (k1:Int)] W' fun e w'=>e= .returned (.tuple #[])/\Pr w0 (.slice (some p1) n c1) (T'++Y1) tab w'/\Kq w0.heap.size W' w')
  (word T:ByteArray) (w:World) (h:Pr w0 (.slice (some p1) n c1) T tab w) (hl:T.size+(word++E++⟨#[32]⟩++Y1++(⟨#[32,101,108,115,101,32]⟩++Y2)).size<=140737488355328):
  Calls Tryz.prog 26 #[.pointer (some ⟨w0.heap.size,0,none⟩),vNd N vn vk,.string word] w fun e w'=>e= .returned (.tuple #[])/\Pr w0 (.slice (some p1) n c1) (T++(word++E++⟨#[32]⟩++Y1++(⟨#[32,101,108,115,101,32]⟩++Y2))) tab w'/\Kq w0.heap.size w w':=by
 obtain⟨a1,ck,rfl⟩:=hks.form
 obtain⟨pk,rfl,_⟩:=hks.get hk0
 obtain⟨L,hL⟩:∃L,N.ks.length=L:=⟨_,rfl⟩
 have hlen:2<N.ks.length:=by rcases Nat.lt_or_ge 2 N.ks.length with e|e;exact e;rw[List.getElem?_eq_none e]at hk2;cases hk2
 rw[hL]at hks hlen⊢
 have hb:Below w.heap.size w (w.alloc (.cells #[.int .i64 N.k,.int .i64 N.f,.int .i64 N.t,.int .i64 N.l,.int .i64 N.op,.int .i64 N.n,.string N.x,vn,.slice (some pk) L ck] 44)):=(Below.refl _ w).alloc (Nat.le_refl _) _
 have hbx:NdBox w.heap.size (w.alloc (.cells #[.int .i64 N.k,.int .i64 N.f,.int .i64 N.t,.int .i64 N.l,.int .i64 N.op,.int .i64 N.n,.string N.x,vn,.slice (some pk) L ck] 44)) 44 N vn (.slice (some pk) L ck):=heap_alloc_new w _
 have hlt:=h.lt
 simp only[ByteArray.size_append]at hl
 have e1:(⟨#[32]⟩:ByteArray).size=1:=rfl
 rw[e1]at hl
 have e6:(⟨#[32,101,108,115,101,32]⟩:ByteArray).size=6:=rfl
 rw[e6]at hl
 clear e6
 have HP:Hid (Pr w0 (.slice (some p1) n c1) T tab (w.alloc (.cells #[.int .i64 N.k,.int .i64 N.f,.int .i64 N.t,.int .i64 N.l,.int .i64 N.op,.int .i64 N.n,.string N.x,vn,.slice (some pk) L ck] 44))/\Kq w0.heap.size w (w.alloc (.cells #[.int .i64 N.k,.int .i64 N.f,.int .i64 N.t,.int .i64 N.l,.int .i64 N.op,.int .i64 N.n,.string N.x,vn,.slice (some pk) L ck] 44))/\NdBox w.heap.size (w.alloc (.cells #[.int .i64 N.k,.int .i64 N.f,.int .i64 N.t,.int .i64 N.l,.int .i64 N.op,.int .i64 N.n,.string N.x,vn,.slice (some pk) L ck] 44)) 44 N vn (.slice (some pk) L ck)/\IntsAt w0 (.slice (some pk) L ck) N.ks/\N.ks[0]?=some (k0:Int)/\N.ks[1]?=some (k1:Int)/\N.ks[2]?=some (k2:Int)/\NdsAt w0 (.slice (some p1) n c1) ns/\ns[k2]?=some (nodeI ns k2)):=⟨h.below hb,Kq.of_below hb,hbx,hks,hk0,hk1,hk2,hNs,node_at (by rw[hnn];exact hk2n)⟩
 have HE:Hid (∀(T':ByteArray) (W':World),Pr w0 (.slice (some p1) n c1) T' tab W'->T'.size+(E).size<=140737488355328->Calls Tryz.prog 24 #[.pointer (some ⟨w0.heap.size,0,none⟩),.int .i64 (k0:Int),.int .i64 0] W' fun e w'=>e= .returned (.tuple #[])/\Pr w0 (.slice (some p1) n c1) (T'++E) tab w'/\Kq w0.heap.size W' w'):=hE
 have HB:Hid (∀(T':ByteArray) (W':World),Pr w0 (.slice (some p1) n c1) T' tab W'->T'.size+(Y1).size<=140737488355328->Calls Tryz.prog 21 #[.pointer (some ⟨w0.heap.size,0,none⟩),.int .i64 (k1:Int)] W' fun e w'=>e= .returned (.tuple #[])/\Pr w0 (.slice (some p1) n c1) (T'++Y1) tab w'/\Kq w0.heap.size W' w'):=hB
 have HC:Hid (∀(T':ByteArray) (W':World),Pr w0 (.slice (some p1) n c1) T' tab W'->T'.size+(Y2).size<=140737488355328->Calls Tryz.prog 21 #[.pointer (some ⟨w0.heap.size,0,none⟩),.int .i64 (k2:Int)] W' fun e w'=>e= .returned (.tuple #[])/\Pr w0 (.slice (some p1) n c1) (T'++Y2) tab w'/\Kq w0.heap.size W' w'):=hC
 clear h hb hbx hks hk0 hk1 hk2 hE hB hL e1 hC hNs hnn
 unfold vNd
 have hi1:(0:Int)<(L:Int):=by omega
 have hi2:(1:Int)<(L:Int):=by omega
 have hi3:¬(L:Int)<3:=by omega
 have hi4:(2:Int)<(L:Int):=by omega
 have hi5:(k2:Int)<(n:Int):=by omega
 have hi6:(0:Int)<=(k2:Int):=by omega
 have cel:∀W,Below w0.heap.size w0 W->NdBox w.heap.size W 44 N vn (.slice (some pk) L ck)->W.cell? ⟨w.heap.size,8,none⟩=some (.slice (some pk) L ck)/\W.cell? pk=some (.int .i64 (k0:Int))/\W.cell? ⟨pk.block,pk.off+1,none⟩=some (.int .i64 (k1:Int))/\W.cell? ⟨pk.block,pk.off+2,none⟩=some (.int .i64 (k2:Int)):=by
  intro W hb bx
  obtain⟨_,_,_,_,_,_,_,_,x8,_⟩:=nd_cells bx
  obtain⟨p',e1,xp⟩:=(HP.out.2.2.2.1.below hb).get HP.out.2.2.2.2.1
  cases e1
  obtain⟨p',e1,xq⟩:=(HP.out.2.2.2.1.below hb).get HP.out.2.2.2.2.2.1
  cases e1
  obtain⟨p',e1,xr⟩:=(HP.out.2.2.2.1.below hb).get HP.out.2.2.2.2.2.2.1
  cases e1
  exact⟨x8,by simpa [Addr.add] using xp,add_cell xq (by decide),add_cell xr (by decide)⟩
 go_enter Tryz.func26,Tryz.ntmps26
 go_wp2_with (go_at_call 12;fail)
 refine(say_any w0 _ T word _ _ HP.out.1 (by omega)).mono ?_
 rintro e w2 ⟨rfl,q2,k2⟩
 have b2:=k2.box HP.out.2.2.1 (by omega)
 obtain⟨x8,xp,xq,xr⟩:=cel w2 q2.bel b2
 have H2:Hid (Pr w0 (.slice (some p1) n c1) (T++word) tab w2/\Kq w0.heap.size w w2/\NdBox w.heap.size w2 44 N vn (.slice (some pk) L ck)):=⟨q2,HP.out.2.1.trans k2,b2⟩
 clear q2 k2 b2
 go_wp2_with (go_at_call 24;fail)
 refine(HE.out _ _ H2.out.1 (by rw[ByteArray.size_append];omega)).mono ?_
 rintro e w3 ⟨rfl,q3,k3⟩
 have H3:Hid (Pr w0 (.slice (some p1) n c1) (T++word++E) tab w3/\Kq w0.heap.size w w3/\NdBox w.heap.size w3 44 N vn (.slice (some pk) L ck)):=⟨q3,H2.out.2.1.trans k3,k3.box H2.out.2.2 (by omega)⟩
 clear q3 k3 x8 xp xq xr
 go_wp2_with (go_at_call 12;fail)
 refine(say_any w0 _ _ ⟨#[32]⟩ _ _ H3.out.1 (by simp only[ByteArray.size_append];have e1:(⟨#[32]⟩:ByteArray).size=1:=rfl;omega)).mono ?_
 rintro e w4 ⟨rfl,q4,k4⟩
 have b4:=k4.box H3.out.2.2 (by omega)
 obtain⟨x8,xp,xq,xr⟩:=cel w4 q4.bel b4
 have H4:Hid (Pr w0 (.slice (some p1) n c1) (T++word++E++⟨#[32]⟩) tab w4/\Kq w0.heap.size w w4/\NdBox w.heap.size w4 44 N vn (.slice (some pk) L ck)):=⟨q4,H3.out.2.1.trans k4,b4⟩
 clear q4 k4 b4
 go_wp2_with (go_at_call 21;fail)
 refine(HB.out _ _ H4.out.1 (by simp only[ByteArray.size_append];have e1:(⟨#[32]⟩:ByteArray).size=1:=rfl;omega)).mono ?_
 rintro e w5 ⟨rfl,q5,k5⟩
 have b5:=k5.box H4.out.2.2 (by omega)
 have q5':Pr w0 (.slice (some p1) n c1) (T++(word++E++⟨#[32]⟩++Y1)) tab w5:=by
  have:=q5
  simp only[ByteArray.append_assoc]at this⊢
  exact this
 obtain⟨x8',xp',xq',xr'⟩:=cel w5 q5.bel b5
 obtain⟨p'',e2,vn1,vk1,gM⟩:=(HP.out.2.2.2.2.2.2.2.1.below q5.bel).get HP.out.2.2.2.2.2.2.2.2
 cases e2
 obtain⟨z0,z2,zf⟩:=q5.cells
 obtain⟨p'',e2,vn2,vk2,gM2⟩:=HP.out.2.2.2.2.2.2.2.1.get HP.out.2.2.2.2.2.2.2.2
 cases e2
 have e7:=cell_kept q5.bel gM2.c7
 have e8:=cell_kept q5.bel gM2.c8
 rw[gM.c7]at e7
 rw[gM.c8]at e8
 obtain rfl:vn1=vn2:=by simpa using e7
 obtain rfl:vk1=vk2:=by simpa using e8
 have HM:Hid (StrsAt w0 vn1 (nodeI ns k2).nm/\IntsAt w0 vk1 (nodeI ns k2).ks):=⟨gM2.hn,gM2.hk⟩
 obtain⟨m0,m1,m2,m3,m4,m5,m6,m7,m8,hmn,hmk⟩:=gM
 obtain⟨xn,yn,rfl⟩:=hmn.form
 obtain⟨xk,yk,rfl⟩:=hmk.form
 have hlt5:=lt_of_block b5
 have H5:Hid (Pr w0 (.slice (some p1) n c1) (T++(word++E++⟨#[32]⟩++Y1)) tab w5/\Kq w0.heap.size w w5/\NdBox w.heap.size w5 44 N vn (.slice (some pk) L ck)):=⟨q5',H4.out.2.1.trans k5,b5⟩
 clear q5 k5 b5 q5' x8 xp xq xr xp' xq' hmn hmk gM2 e7 e8
 generalize hMM:nodeI ns k2=M at m0 m1 m2 m3 m4 m5 m6 m7 m8 HM HC hM7
 generalize M.nm.length=L1 at m7 HM
 generalize M.ks.length=L2 at m8 HM
 clear hMM
 have g7:(M.k==7)=false:=by simpa using hM7
 clear hM7
 go_wp2_with fail
 go_region_held3 (fun w'=>w'.cell? ⟨w0.heap.size,0,none⟩=some (.slice (some p1) n c1)/\w'.cell? ⟨w.heap.size,8,none⟩=some (.slice (some pk) L ck)/\w'.cell? ⟨pk.block,pk.off+2,none⟩=some (.int .i64 (k2:Int))/\w'.cell? (p1.add (k2*9))=some (.int .i64 M.k)/\w'.cell? ⟨(p1.add (k2*9)).block,(p1.add (k2*9)).off+1,none⟩=some (.int .i64 M.f)/\w'.cell? ⟨(p1.add (k2*9)).block,(p1.add (k2*9)).off+2,none⟩=some (.int .i64 M.t)/\w'.cell? ⟨(p1.add (k2*9)).block,(p1.add (k2*9)).off+3,none⟩=some (.int .i64 M.l)/\w'.cell? ⟨(p1.add (k2*9)).block,(p1.add (k2*9)).off+4,none⟩=some (.int .i64 M.op)/\w'.cell? ⟨(p1.add (k2*9)).block,(p1.add (k2*9)).off+5,none⟩=some (.int .i64 M.n)/\w'.cell? ⟨(p1.add (k2*9)).block,(p1.add (k2*9)).off+6,none⟩=some (.string M.x)/\w'.cell? ⟨(p1.add (k2*9)).block,(p1.add (k2*9)).off+7,none⟩=some (.slice xn L1 yn)/\w'.cell? ⟨(p1.add (k2*9)).block,(p1.add (k2*9)).off+8,none⟩=some (.slice xk L2 yk)) (go_keep) (fail)
 have hb6:Below w5.heap.size w5 (w5.alloc (.cells #[.int .i64 M.k,.int .i64 M.f,.int .i64 M.t,.int .i64 M.l,.int .i64 M.op,.int .i64 M.n,.string M.x,.slice xn L1 yn,.slice xk L2 yk] 44)).drew:=bel_drew1 ((Below.refl _ w5).alloc (Nat.le_refl _) _)
 have hn6:NdBox w5.heap.size (w5.alloc (.cells #[.int .i64 M.k,.int .i64 M.f,.int .i64 M.t,.int .i64 M.l,.int .i64 M.op,.int .i64 M.n,.string M.x,.slice xn L1 yn,.slice xk L2 yk] 44)).drew 44 M (.slice xn L1 yn) (.slice xk L2 yk):=heap_alloc_new w5 _
 generalize (w5.alloc (.cells #[.int .i64 M.k,.int .i64 M.f,.int .i64 M.t,.int .i64 M.l,.int .i64 M.op,.int .i64 M.n,.string M.x,.slice xn L1 yn,.slice xk L2 yk] 44)).drew=W6 at hb6 hn6⊢
 have H6:Hid (Pr w0 (.slice (some p1) n c1) (T++(word++E++⟨#[32]⟩++Y1)) tab W6/\Kq w0.heap.size w W6/\NdBox w.heap.size W6 44 N vn (.slice (some pk) L ck)):=⟨H5.out.1.below hb6,H5.out.2.1.trans (Kq.of_below hb6),H5.out.2.2.below hb6⟩
 obtain⟨d0,d1,d2,d3,d4,d5,d6,d7,d8,_⟩:=nd_cells hn6
 clear hb6 hn6 m0 m1 m2 m3 m4 m5 m6 m7 m8 z0 z2 zf x8' xr'
 go_wp2_with (go_at_call 12;fail)
 refine(say_any w0 _ _ ⟨#[32,101,108,115,101,32]⟩ _ _ H6.out.1 (by simp only[ByteArray.size_append];have e1:(⟨#[32]⟩:ByteArray).size=1:=rfl;have e6:(⟨#[32,101,108,115,101,32]⟩:ByteArray).size=6:=rfl;omega)).mono ?_
 rintro e w7 ⟨rfl,q7,k7⟩
 obtain⟨x8,_,_,xr⟩:=cel w7 q7.bel (k7.box H6.out.2.2 (by omega))
 have H7:Hid (Pr w0 (.slice (some p1) n c1) (T++(word++E++⟨#[32]⟩++Y1)++⟨#[32,101,108,115,101,32]⟩) tab w7/\Kq w0.heap.size w w7):=⟨q7,H6.out.2.1.trans k7⟩
 clear q7 k7 d0 d1 d2 d3 d4 d5 d6 d7 d8
 go_wp2_with (go_at_call 21;fail)
 refine(HC.out _ _ H7.out.1 (by simp only[ByteArray.size_append];have e1:(⟨#[32]⟩:ByteArray).size=1:=rfl;have e6:(⟨#[32,101,108,115,101,32]⟩:ByteArray).size=6:=rfl;omega)).mono ?_
 rintro e w8 ⟨rfl,q8,k8⟩
 rw[ByteArray.append_assoc,ByteArray.append_assoc]at q8
 have H8:Hid (Pr w0 (.slice (some p1) n c1) (T++(word++E++⟨#[32]⟩++Y1++(⟨#[32,101,108,115,101,32]⟩++Y2))) tab w8/\Kq w0.heap.size w w8):=⟨q8,H7.out.2.trans k8⟩
 clear q8 k8
 go_wp2_with fail
 go_end0
 exact⟨rfl,H8.out.1,H8.out.2⟩
theorem order_lt {S:List Int}{n:Nat}(hS:SzOk S) (hl:S.length=n) (hn:1<=n):S.getD (n-1) 0≠(n:Int)↔S.getD (n-1) 0<(n:Int):=by
 obtain⟨z,hz⟩:=some_at hl (show n-1<n by omega)
 have h:=hS _ z hz
 rw[List.getD_eq_getElem?_getD,hz,Option.getD_some]
 omega
end Go.Proofs.YtelfejiiabbpfaaGreatDoor
namespace Go.Proofs.YtelfejiiabbpfaaGreatDoor
open Go.RowKit Go.Maps Go.WideMaps
theorem emptyB_iff (x:ByteArray):emptyB x=decide (x=⟨#[]⟩):=by
 unfold emptyB
 rw[ByteArray.toList_eq]
 by_cases h:x=⟨#[]⟩
 ·subst h;rfl
 ·rw[decide_eq_false h,decide_eq_false]
  intro e
  apply h
  cases x
  simp only at e
  congr 1
  exact Array.toList_inj.1 e
theorem sameB_bare (N:Nd):sameB (rowN N (cls N.k)) N=(match cls N.k with
  |0=>bareB N false false false true
  |1=>bareB N false true false false
  |2=>bareB N false true false false
  |3=>bareB N false false true false
  |4=>bareB N true false false false
  |5=>bareB N true false false true&&(N.op==0||N.op==1)
  |_=>bareB N false false false false):=by
 have d3:∀(a b c:Bool) (P Q S T:Prop) [Decidable P] [Decidable Q] [Decidable S] [Decidable T],decide (P/\Q/\S/\T)=(decide P&&decide Q&&decide S&&decide T):=fun a b c P Q S T _ _ _ _=>by
  by_cases h1:P<;>by_cases h2:Q<;>by_cases h3:S<;>by_cases h4:T<;>simp[h1,h2,h3,h4]
 have o0:decide ((0:Int)=N.op)=(N.op==0):=by
  by_cases h:N.op=0
  ·rw[decide_eq_true h.symm,h];rfl
  ·rw[decide_eq_false (fun e=>h e.symm)];exact(beq_eq_false_iff_ne.2 h).symm
 have n0:decide ((0:Int)=N.n)=(N.n==0):=by
  by_cases h:N.n=0
  ·rw[decide_eq_true h.symm,h];rfl
  ·rw[decide_eq_false (fun e=>h e.symm)];exact(beq_eq_false_iff_ne.2 h).symm
 have x0:decide ((⟨#[]⟩:ByteArray)=N.x)=emptyB N.x:=by
  rw[emptyB_iff]
  by_cases h:N.x=⟨#[]⟩
  ·rw[decide_eq_true h.symm,decide_eq_true h]
  ·rw[decide_eq_false (fun e=>h e.symm),decide_eq_false h]
 have m0:decide (([]:List ByteArray)=N.nm)=decide (N.nm.length=0):=by
  by_cases h:N.nm=[]
  ·rw[decide_eq_true h.symm,decide_eq_true (by rw[h];rfl)]
  ·rw[decide_eq_false (fun e=>h e.symm),decide_eq_false (fun e=>h (List.eq_nil_of_length_eq_zero e))]
 unfold sameB bareB
 rw[d3 true true true]
 rcases cls_lt N.k with hc|hc|hc|hc|hc|hc|hc
 ·rw[hc];simp only[rowN,o0,n0,x0];simp
 ·rw[hc];simp only[rowN,o0,x0,m0];simp
 ·rw[hc];simp only[rowN,o0,x0,m0];simp
 ·rw[hc];simp only[rowN,o0,n0,m0];simp
 ·rw[hc];simp only[rowN,n0,x0,m0];simp
 ·rw[hc];simp only[rowN,n0,x0]
  have e:decide ((if N.op=1 then(1:Int) else 0)=N.op)=(N.op==0||N.op==1):=by
   by_cases h1:N.op=1
   ·rw[if_pos h1,h1];rfl
   ·rw[if_neg h1,o0]
    rw[beq_eq_false_iff_ne.2 h1,Bool.or_false]
  rw[e]
  simp
  cases (N.op==0||N.op==1)<;>cases (N.n==0)<;>cases emptyB N.x<;>rfl
 ·rw[hc];simp only[rowN,o0,n0,x0,m0];simp
theorem kinds_len (ns:List Nd) (ks:List Int):(kinds ns ks).length=ks.length:=by simp[kinds]
theorem kinds_at (ns:List Nd) (N:Nd) (j:Nat) (h:j<N.ks.length):(kinds ns N.ks)[j]?=some (kidK ns N j):=by
 unfold kinds kidK
 rw[List.getElem?_map,List.getElem?_eq_getElem h]
 simp[List.getD,List.getElem?_eq_getElem h]
theorem km_nil (K:List Int):kmatch [] K=K.isEmpty:=rfl
theorem km_star (i:Nat) (K:List Int):kmatch [(i,1)] K=K.all (ms i):=by
 rw[kmatch,if_neg (by omega),km_nil]
 have e:tkN i 1 K=(K.takeWhile (ms i)).length:=by unfold tkN;rw[if_pos rfl]
 rw[e]
 induction K with
 |nil=>rfl
 |cons a r ih=>
  cases h:ms i a with
  |false=>rw[List.takeWhile_cons_of_neg (by simp[h])];simp[h]
  |true=>
   rw[List.takeWhile_cons_of_pos (by simp[h]),List.all_cons,h,Bool.true_and,List.length_cons,List.drop_succ_cons]
   exact ih (by unfold tkN;rw[if_pos rfl])
theorem tk01 (i f:Nat) (hf:f≠1) (a:Int) (r:List Int):tkN i f (a::r)=if ms i a=true then 1 else 0:=by
 unfold tkN
 rw[if_neg hf]
 cases h:ms i a with
 |false=>rw[List.takeWhile_cons_of_neg (by simp[h])];simp
 |true=>rw[List.takeWhile_cons_of_pos (by simp[h]),List.length_cons,if_pos rfl];omega
theorem km_one (i:Nat) (ws:List (Nat×Nat)) (a:Int) (r:List Int):kmatch ((i,0)::ws) (a::r)=(ms i a&&kmatch ws r):=by
 rw[kmatch,tk01 i 0 (by omega)]
 cases h:ms i a with
 |false=>simp
 |true=>simp
theorem km_one0 (i:Nat) (ws:List (Nat×Nat)):kmatch ((i,0)::ws) []=false:=by
 rw[kmatch];simp[tkN]
theorem km_opt (i:Nat) (ws:List (Nat×Nat)) (a:Int) (r:List Int):kmatch ((i,2)::ws) (a::r)=if ms i a=true then kmatch ws r else kmatch ws (a::r):=by
 rw[kmatch,tk01 i 2 (by omega)]
 cases h:ms i a with
 |false=>simp
 |true=>simp
theorem km_opt0 (i:Nat) (ws:List (Nat×Nat)):kmatch ((i,2)::ws) []=kmatch ws []:=by
 rw[kmatch];simp[tkN]
theorem km_set (n:Nat):∀(K:List Int),n<K.length->kmatch (setW n) K=((K.take n).all (ms 5)&&(K.drop n).all (ms 3)):=by
 induction n with
 |zero=>
  intro K hK
  match K,hK with
  |a::r,_=>
   show kmatch ((3,0)::[(3,1)]) (a::r)=_
   rw[km_one,km_star];simp
 |succ n ih=>
  intro K hK
  match K,hK with
  |a::r,hK=>
   show kmatch ((5,0)::setW n) (a::r)=_
   rw[km_one,ih r (by simpa using hK)]
   simp[Bool.and_assoc]
theorem getD_kid (ns:List Nd) (N:Nd) (j:Nat) (h:j<N.ks.length):kidK ns N j=(kinds ns N.ks).getD j 0:=by
 rw[List.getD_eq_getElem?_getD,kinds_at ns N j h];rfl
theorem all_step (K:List Int) (p:Int->Bool) (f j:Nat) (h:j+(f+1)<=K.length):((K.drop j).take (f+1)).all p=(p (K.getD j 0)&&((K.drop (j+1)).take f).all p):=by
 have hj:j<K.length:=by omega
 rw[List.drop_eq_getElem_cons hj,List.take_succ_cons,List.all_cons,List.getD_eq_getElem?_getD,List.getElem?_eq_getElem hj]
 rfl
theorem ex_all (ns:List Nd) (N:Nd):∀(f j:Nat),j+f<=N.ks.length->exB ns N f j=(((kinds ns N.ks).drop j).take f).all exprK
 |0,j,_=>by simp[exB]
 |f+1,j,h=>by
  rw[exB,ex_all ns N f (j+1) (by omega),all_step _ _ _ _ (by rw[kinds_len];exact h),getD_kid ns N j (by omega)]
theorem sb_all (ns:List Nd) (N:Nd):∀(f j:Nat),j+f<=N.ks.length->sbB ns N f j=(((kinds ns N.ks).drop j).take f).all statK
 |0,j,_=>by simp[sbB]
 |f+1,j,h=>by
  rw[sbB,sb_all ns N f (j+1) (by omega),all_step _ _ _ _ (by rw[kinds_len];exact h),getD_kid ns N j (by omega)]
theorem tg_all (ns:List Nd) (N:Nd):∀(f j:Nat),j+f<=N.ks.length->tgB ns N f j=(((kinds ns N.ks).drop j).take f).all targK
 |0,j,_=>by simp[tgB]
 |f+1,j,h=>by
  rw[tgB,tg_all ns N f (j+1) (by omega),all_step _ _ _ _ (by rw[kinds_len];exact h),getD_kid ns N j (by omega)]
theorem en_all (ns:List Nd) (N:Nd):∀(f j:Nat),j+f<=N.ks.length->enB ns N f j=(((kinds ns N.ks).drop j).take f).all (ms 9)
 |0,j,_=>by simp[enB]
 |f+1,j,h=>by
  rw[enB,en_all ns N f (j+1) (by omega),all_step _ _ _ _ (by rw[kinds_len];exact h),getD_kid ns N j (by omega)]
  rfl
theorem targ_ms (k:Int):ms 5 k=targK k:=by
 unfold ms targK
 by_cases h1:k=26<;>by_cases h2:k=32<;>by_cases h3:k=33<;>simp[h1,h2,h3]
def coreL (ns:List Nd) (N:Nd):Bool:=sameB (rowN N (cls N.k)) N&&(ffB N N.ks.length (cls N.k)&&kfB N (kinds ns N.ks))
theorem core1 (ns:List Nd) (N:Nd) (hk:N.k=1) (h2:N.nm.length<=200):coreL ns N=seB ns N:=by
 have e1:cls N.k=6:=by rw[hk];rfl
 have e3:seB ns N=(sbB ns N N.ks.length 0&&bareB N false false false false):=by
  unfold seB
  rw[if_pos (by rw[hk];rfl)]
  unfold stB
  rw[if_pos hk]
 have e2:rowW N.k=some [(0,1)]:=by rw[hk];rfl
 have e4:mostN 1=1:=rfl
 have e5:rkB N.k (kinds ns N.ks)=kmatch [(0,1)] (kinds ns N.ks):=by unfold rkB;rw[e2]
 unfold coreL kfB
 rw[sameB_bare,e1,e3,if_neg (by decide),e5]
 simp only[ffB,txB,hk,e4]
 have hlen:=kinds_len ns N.ks
 have hd:=getD_kid ns N
 have hx:=ex_all ns N
 have hs:=sb_all ns N
 have he:=en_all ns N
 have h0:=hs N.ks.length 0 (by omega)
 rw[<-hlen]at h0
 rw[List.drop_zero,List.take_length]at h0
 rw[km_star,<-hlen,h0]
 have e9:(kinds ns N.ks).all (ms 0)=(kinds ns N.ks).all statK:=rfl
 rw[e9]
 generalize (kinds ns N.ks).all statK=z
 generalize bareB N false false false false=B
 cases B<;>cases z<;>rfl
theorem core2 (ns:List Nd) (N:Nd) (hk:N.k=2) (h2:N.nm.length<=200):coreL ns N=seB ns N:=by
 have e1:cls N.k=0:=by rw[hk];rfl
 have e3:seB ns N=(bareB N false false false true&&namedB N 1 200&&exB ns N N.ks.length 0):=by
  unfold seB
  rw[if_pos (by rw[hk];rfl)]
  unfold stB
  rw[if_neg (by rw[hk];decide),if_pos hk]
 have e2:rowW N.k=some [(3,1)]:=by rw[hk];rfl
 have e4:mostN 2=200:=rfl
 have e5:rkB N.k (kinds ns N.ks)=kmatch [(3,1)] (kinds ns N.ks):=by unfold rkB;rw[e2]
 unfold coreL kfB
 rw[sameB_bare,e1,e3,if_neg (by decide),e5]
 simp only[ffB,txB,hk,e4]
 have hlen:=kinds_len ns N.ks
 have hd:=getD_kid ns N
 have hx:=ex_all ns N
 have hs:=sb_all ns N
 have he:=en_all ns N
 have h0:=hx N.ks.length 0 (by omega)
 rw[<-hlen]at h0
 rw[List.drop_zero,List.take_length]at h0
 rw[km_star,<-hlen,h0]
 have e9:(kinds ns N.ks).all (ms 3)=(kinds ns N.ks).all exprK:=rfl
 rw[e9]
 generalize (kinds ns N.ks).all exprK=z
 unfold namedB
 generalize bareB N false false false true=B
 generalize nmsB N.nm N.nm.length 0=y
 generalize decide (1<=(N.nm.length:Int)/\(N.nm.length:Int)<=200)=u
 cases B<;>cases z<;>cases y<;>cases u<;>rfl
theorem core3 (ns:List Nd) (N:Nd) (hk:N.k=3) (h2:N.nm.length<=200):coreL ns N=seB ns N:=by
 have e1:cls N.k=0:=by rw[hk];rfl
 have e3:seB ns N=(bareB N false false false true&&namedB N 1 1&&((N.ks.length:Int)==1)&&exB ns N 1 0):=by
  unfold seB
  rw[if_pos (by rw[hk];rfl)]
  unfold stB
  rw[if_neg (by rw[hk];decide),if_neg (by rw[hk];decide),if_pos hk]
 have e2:rowW N.k=some [(3,0)]:=by rw[hk];rfl
 have e4:mostN 3=1:=rfl
 have e5:rkB N.k (kinds ns N.ks)=kmatch [(3,0)] (kinds ns N.ks):=by unfold rkB;rw[e2]
 unfold coreL kfB
 rw[sameB_bare,e1,e3,if_neg (by decide),e5]
 simp only[ffB,txB,hk,e4]
 have hlen:=kinds_len ns N.ks
 have hd:=getD_kid ns N
 revert hlen hd
 generalize kinds ns N.ks=K
 intro hlen hd
 rcases K with _|⟨a,_|⟨q,r⟩⟩
 ·have hl:N.ks.length=0:=by rw[<-hlen];rfl
  simp[hl,exB,namedB,km_one,km_one0,km_nil,km_opt,km_opt0,ms]<;>grind
 ·have hl:N.ks.length=1:=by rw[<-hlen];rfl
  have k0:kidK ns N 0=a:=hd 0 (by omega)
  simp[hl,exB,namedB,k0,km_one,km_one0,km_nil,km_opt,km_opt0,ms]<;>grind
 ·have hl:N.ks.length=r.length+2:=by rw[<-hlen];rfl
  have k0:kidK ns N 0=a:=hd 0 (by omega)
  have k1:kidK ns N 1=q:=hd 1 (by omega)
  simp[hl,exB,namedB,k0,k1,km_one,km_one0,km_nil,km_opt,km_opt0,ms]<;>grind
theorem core4 (ns:List Nd) (N:Nd) (hk:N.k=4) (h2:N.nm.length<=200):coreL ns N=seB ns N:=by
 have e1:cls N.k=0:=by rw[hk];rfl
 have e3:seB ns N=(bareB N false false false true&&namedB N 1 1&&((N.ks.length:Int)==1)&&(kidK ns N 0==36)):=by
  unfold seB
  rw[if_pos (by rw[hk];rfl)]
  unfold stB
  rw[if_neg (by rw[hk];decide),if_neg (by rw[hk];decide),if_neg (by rw[hk];decide),if_pos hk]
 have e2:rowW N.k=some [(8,0)]:=by rw[hk];rfl
 have e4:mostN 4=1:=rfl
 have e5:rkB N.k (kinds ns N.ks)=kmatch [(8,0)] (kinds ns N.ks):=by unfold rkB;rw[e2]
 unfold coreL kfB
 rw[sameB_bare,e1,e3,if_neg (by decide),e5]
 simp only[ffB,txB,hk,e4]
 have hlen:=kinds_len ns N.ks
 have hd:=getD_kid ns N
 revert hlen hd
 generalize kinds ns N.ks=K
 intro hlen hd
 rcases K with _|⟨a,_|⟨q,r⟩⟩
 ·have hl:N.ks.length=0:=by rw[<-hlen];rfl
  simp[hl,exB,namedB,km_one,km_one0,km_nil,km_opt,km_opt0,ms]<;>grind
 ·have hl:N.ks.length=1:=by rw[<-hlen];rfl
  have k0:kidK ns N 0=a:=hd 0 (by omega)
  simp[hl,exB,namedB,k0,km_one,km_one0,km_nil,km_opt,km_opt0,ms]<;>grind
 ·have hl:N.ks.length=r.length+2:=by rw[<-hlen];rfl
  have k0:kidK ns N 0=a:=hd 0 (by omega)
  have k1:kidK ns N 1=q:=hd 1 (by omega)
  simp[hl,exB,namedB,k0,k1,km_one,km_one0,km_nil,km_opt,km_opt0,ms]<;>grind
theorem core6 (ns:List Nd) (N:Nd) (hk:N.k=6) (h2:N.nm.length<=200):coreL ns N=seB ns N:=by
 have e1:cls N.k=6:=by rw[hk];rfl
 have e3:seB ns N=(bareB N false false false false&&((N.ks.length:Int)==1)&&(kidK ns N 0==34)):=by
  unfold seB
  rw[if_pos (by rw[hk];rfl)]
  unfold stB
  rw[if_neg (by rw[hk];decide),if_neg (by rw[hk];decide),if_neg (by rw[hk];decide),if_neg (by rw[hk];decide),if_neg (by rw[hk];decide),if_pos hk]
 have e2:rowW N.k=some [(6,0)]:=by rw[hk];rfl
 have e4:mostN 6=1:=rfl
 have e5:rkB N.k (kinds ns N.ks)=kmatch [(6,0)] (kinds ns N.ks):=by unfold rkB;rw[e2]
 unfold coreL kfB
 rw[sameB_bare,e1,e3,if_neg (by decide),e5]
 simp only[ffB,txB,hk,e4]
 have hlen:=kinds_len ns N.ks
 have hd:=getD_kid ns N
 revert hlen hd
 generalize kinds ns N.ks=K
 intro hlen hd
 rcases K with _|⟨a,_|⟨q,r⟩⟩
 ·have hl:N.ks.length=0:=by rw[<-hlen];rfl
  simp[hl,exB,namedB,km_one,km_one0,km_nil,km_opt,km_opt0,ms]<;>grind
 ·have hl:N.ks.length=1:=by rw[<-hlen];rfl
  have k0:kidK ns N 0=a:=hd 0 (by omega)
  simp[hl,exB,namedB,k0,km_one,km_one0,km_nil,km_opt,km_opt0,ms]<;>grind
 ·have hl:N.ks.length=r.length+2:=by rw[<-hlen];rfl
  have k0:kidK ns N 0=a:=hd 0 (by omega)
  have k1:kidK ns N 1=q:=hd 1 (by omega)
  simp[hl,exB,namedB,k0,k1,km_one,km_one0,km_nil,km_opt,km_opt0,ms]<;>grind
theorem core7 (ns:List Nd) (N:Nd) (hk:N.k=7) (h2:N.nm.length<=200):coreL ns N=seB ns N:=by
 have e1:cls N.k=6:=by rw[hk];rfl
 have e3:seB ns N=(bareB N false false false false&&(decide (2<=N.ks.length/\N.ks.length<=3)&&(exB ns N 1 0&&(!(kidK ns N 1 !=1)&&((N.ks.length:Int)==2||(kidK ns N 2==1||kidK ns N 2==7)))))):=by
  unfold seB
  rw[if_pos (by rw[hk];rfl)]
  unfold stB
  rw[if_neg (by rw[hk];decide),if_neg (by rw[hk];decide),if_neg (by rw[hk];decide),if_neg (by rw[hk];decide),if_neg (by rw[hk];decide),if_neg (by rw[hk];decide),if_pos hk]
 have e2:rowW N.k=some [(3,0),(1,0),(2,2)]:=by rw[hk];rfl
 have e4:mostN 7=1:=rfl
 have e5:rkB N.k (kinds ns N.ks)=kmatch [(3,0),(1,0),(2,2)] (kinds ns N.ks):=by unfold rkB;rw[e2]
 unfold coreL kfB
 rw[sameB_bare,e1,e3,if_neg (by decide),e5]
 simp only[ffB,txB,hk,e4]
 have hlen:=kinds_len ns N.ks
 have hd:=getD_kid ns N
 revert hlen hd
 generalize kinds ns N.ks=K
 intro hlen hd
 rcases K with _|⟨a,_|⟨b,_|⟨c,_|⟨q,r⟩⟩⟩⟩
 ·have hl:N.ks.length=0:=by rw[<-hlen];rfl
  simp[hl,exB,namedB,km_one,km_one0,km_nil,km_opt,km_opt0,ms]<;>grind
 ·have hl:N.ks.length=1:=by rw[<-hlen];rfl
  have k0:kidK ns N 0=a:=hd 0 (by omega)
  simp[hl,exB,namedB,k0,km_one,km_one0,km_nil,km_opt,km_opt0,ms]<;>grind
 ·have hl:N.ks.length=2:=by rw[<-hlen];rfl
  have k0:kidK ns N 0=a:=hd 0 (by omega)
  have k1:kidK ns N 1=b:=hd 1 (by omega)
  simp[hl,exB,namedB,k0,k1,km_one,km_one0,km_nil,km_opt,km_opt0,ms]<;>grind
 ·have hl:N.ks.length=3:=by rw[<-hlen];rfl
  have k0:kidK ns N 0=a:=hd 0 (by omega)
  have k1:kidK ns N 1=b:=hd 1 (by omega)
  have k2:kidK ns N 2=c:=hd 2 (by omega)
  simp[hl,exB,namedB,k0,k1,k2,km_one,km_one0,km_nil,km_opt,km_opt0,ms]<;>grind
 ·have hl:N.ks.length=r.length+4:=by rw[<-hlen];rfl
  have k0:kidK ns N 0=a:=hd 0 (by omega)
  have k1:kidK ns N 1=b:=hd 1 (by omega)
  have k2:kidK ns N 2=c:=hd 2 (by omega)
  have k3:kidK ns N 3=q:=hd 3 (by omega)
  simp[hl,exB,namedB,k0,k1,k2,k3,km_one,km_one0,km_nil,km_opt,km_opt0,ms]<;>grind
theorem core8 (ns:List Nd) (N:Nd) (hk:N.k=8) (h2:N.nm.length<=200):coreL ns N=seB ns N:=by
 have e1:cls N.k=6:=by rw[hk];rfl
 have e3:seB ns N=(bareB N false false false false&&((N.ks.length:Int)==2)&&exB ns N 1 0&&(kidK ns N 1==1)):=by
  unfold seB
  rw[if_pos (by rw[hk];rfl)]
  unfold stB
  rw[if_neg (by rw[hk];decide),if_neg (by rw[hk];decide),if_neg (by rw[hk];decide),if_neg (by rw[hk];decide),if_neg (by rw[hk];decide),if_neg (by rw[hk];decide),if_neg (by rw[hk];decide),if_pos hk]
 have e2:rowW N.k=some [(3,0),(1,0)]:=by rw[hk];rfl
 have e4:mostN 8=1:=rfl
 have e5:rkB N.k (kinds ns N.ks)=kmatch [(3,0),(1,0)] (kinds ns N.ks):=by unfold rkB;rw[e2]
 unfold coreL kfB
 rw[sameB_bare,e1,e3,if_neg (by decide),e5]
 simp only[ffB,txB,hk,e4]
 have hlen:=kinds_len ns N.ks
 have hd:=getD_kid ns N
 revert hlen hd
 generalize kinds ns N.ks=K
 intro hlen hd
 rcases K with _|⟨a,_|⟨b,_|⟨q,r⟩⟩⟩
 ·have hl:N.ks.length=0:=by rw[<-hlen];rfl
  simp[hl,exB,namedB,km_one,km_one0,km_nil,km_opt,km_opt0,ms]<;>grind
 ·have hl:N.ks.length=1:=by rw[<-hlen];rfl
  have k0:kidK ns N 0=a:=hd 0 (by omega)
  simp[hl,exB,namedB,k0,km_one,km_one0,km_nil,km_opt,km_opt0,ms]<;>grind
 ·have hl:N.ks.length=2:=by rw[<-hlen];rfl
  have k0:kidK ns N 0=a:=hd 0 (by omega)
  have k1:kidK ns N 1=b:=hd 1 (by omega)
  simp[hl,exB,namedB,k0,k1,km_one,km_one0,km_nil,km_opt,km_opt0,ms]<;>grind
 ·have hl:N.ks.length=r.length+3:=by rw[<-hlen];rfl
  have k0:kidK ns N 0=a:=hd 0 (by omega)
  have k1:kidK ns N 1=b:=hd 1 (by omega)
  have k2:kidK ns N 2=q:=hd 2 (by omega)
  simp[hl,exB,namedB,k0,k1,k2,km_one,km_one0,km_nil,km_opt,km_opt0,ms]<;>grind
theorem core9 (ns:List Nd) (N:Nd) (hk:N.k=9) (h2:N.nm.length<=200):coreL ns N=seB ns N:=by
 have e1:cls N.k=0:=by rw[hk];rfl
 have e3:seB ns N=(bareB N false false false true&&(namedB N 1 1&&(((N.ks.length:Int)==3||(N.ks.length:Int)==4)&&(exB ns N (N.ks.length-1) 0&&(kidK ns N (N.ks.length-1)==1))))):=by
  unfold seB
  rw[if_pos (by rw[hk];rfl)]
  unfold stB
  rw[if_neg (by rw[hk];decide),if_neg (by rw[hk];decide),if_neg (by rw[hk];decide),if_neg (by rw[hk];decide),if_neg (by rw[hk];decide),if_neg (by rw[hk];decide),if_neg (by rw[hk];decide),if_neg (by rw[hk];decide),if_pos hk]
 have e2:rowW N.k=some [(3,0),(3,0),(3,2),(1,0)]:=by rw[hk];rfl
 have e4:mostN 9=1:=rfl
 have e5:rkB N.k (kinds ns N.ks)=kmatch [(3,0),(3,0),(3,2),(1,0)] (kinds ns N.ks):=by unfold rkB;rw[e2]
 unfold coreL kfB
 rw[sameB_bare,e1,e3,if_neg (by decide),e5]
 simp only[ffB,txB,hk,e4]
 have hlen:=kinds_len ns N.ks
 have hd:=getD_kid ns N
 revert hlen hd
 generalize kinds ns N.ks=K
 intro hlen hd
 rcases K with _|⟨a,_|⟨b,_|⟨c,_|⟨d,_|⟨q,r⟩⟩⟩⟩⟩
 ·have hl:N.ks.length=0:=by rw[<-hlen];rfl
  simp[hl,exB,namedB,km_one,km_one0,km_nil,km_opt,km_opt0,ms]<;>grind
 ·have hl:N.ks.length=1:=by rw[<-hlen];rfl
  have k0:kidK ns N 0=a:=hd 0 (by omega)
  simp[hl,exB,namedB,k0,km_one,km_one0,km_nil,km_opt,km_opt0,ms]<;>grind
 ·have hl:N.ks.length=2:=by rw[<-hlen];rfl
  have k0:kidK ns N 0=a:=hd 0 (by omega)
  have k1:kidK ns N 1=b:=hd 1 (by omega)
  simp[hl,exB,namedB,k0,k1,km_one,km_one0,km_nil,km_opt,km_opt0,ms]<;>grind
 ·have hl:N.ks.length=3:=by rw[<-hlen];rfl
  have k0:kidK ns N 0=a:=hd 0 (by omega)
  have k1:kidK ns N 1=b:=hd 1 (by omega)
  have k2:kidK ns N 2=c:=hd 2 (by omega)
  have hc1:c=1->exprK c=false:=by rintro rfl;rfl
  simp[hl,exB,namedB,k0,k1,k2,km_one,km_one0,km_nil,km_opt,km_opt0,ms]<;>grind
 ·have hl:N.ks.length=4:=by rw[<-hlen];rfl
  have k0:kidK ns N 0=a:=hd 0 (by omega)
  have k1:kidK ns N 1=b:=hd 1 (by omega)
  have k2:kidK ns N 2=c:=hd 2 (by omega)
  have k3:kidK ns N 3=d:=hd 3 (by omega)
  simp[hl,exB,namedB,k0,k1,k2,k3,km_one,km_one0,km_nil,km_opt,km_opt0,ms]<;>grind
 ·have hl:N.ks.length=r.length+5:=by rw[<-hlen];rfl
  have k0:kidK ns N 0=a:=hd 0 (by omega)
  have k1:kidK ns N 1=b:=hd 1 (by omega)
  have k2:kidK ns N 2=c:=hd 2 (by omega)
  have k3:kidK ns N 3=d:=hd 3 (by omega)
  have k4:kidK ns N 4=q:=hd 4 (by omega)
  simp[hl,exB,namedB,k0,k1,k2,k3,k4,km_one,km_one0,km_nil,km_opt,km_opt0,ms]<;>grind
theorem core10 (ns:List Nd) (N:Nd) (hk:N.k=10) (h2:N.nm.length<=200):coreL ns N=seB ns N:=by
 have e1:cls N.k=0:=by rw[hk];rfl
 have e3:seB ns N=(bareB N false false false true&&namedB N 1 200&&((N.ks.length:Int)==2)&&exB ns N 1 0&&(kidK ns N 1==1)):=by
  unfold seB
  rw[if_pos (by rw[hk];rfl)]
  unfold stB
  rw[if_neg (by rw[hk];decide),if_neg (by rw[hk];decide),if_neg (by rw[hk];decide),if_neg (by rw[hk];decide),if_neg (by rw[hk];decide),if_neg (by rw[hk];decide),if_neg (by rw[hk];decide),if_neg (by rw[hk];decide),if_neg (by rw[hk];decide),if_pos hk]
 have e2:rowW N.k=some [(3,0),(1,0)]:=by rw[hk];rfl
 have e4:mostN 10=200:=rfl
 have e5:rkB N.k (kinds ns N.ks)=kmatch [(3,0),(1,0)] (kinds ns N.ks):=by unfold rkB;rw[e2]
 unfold coreL kfB
 rw[sameB_bare,e1,e3,if_neg (by decide),e5]
 simp only[ffB,txB,hk,e4]
 have hlen:=kinds_len ns N.ks
 have hd:=getD_kid ns N
 revert hlen hd
 generalize kinds ns N.ks=K
 intro hlen hd
 rcases K with _|⟨a,_|⟨b,_|⟨q,r⟩⟩⟩
 ·have hl:N.ks.length=0:=by rw[<-hlen];rfl
  simp[hl,exB,namedB,km_one,km_one0,km_nil,km_opt,km_opt0,ms]<;>grind
 ·have hl:N.ks.length=1:=by rw[<-hlen];rfl
  have k0:kidK ns N 0=a:=hd 0 (by omega)
  simp[hl,exB,namedB,k0,km_one,km_one0,km_nil,km_opt,km_opt0,ms]<;>grind
 ·have hl:N.ks.length=2:=by rw[<-hlen];rfl
  have k0:kidK ns N 0=a:=hd 0 (by omega)
  have k1:kidK ns N 1=b:=hd 1 (by omega)
  simp[hl,exB,namedB,k0,k1,km_one,km_one0,km_nil,km_opt,km_opt0,ms]<;>grind
 ·have hl:N.ks.length=r.length+3:=by rw[<-hlen];rfl
  have k0:kidK ns N 0=a:=hd 0 (by omega)
  have k1:kidK ns N 1=b:=hd 1 (by omega)
  have k2:kidK ns N 2=q:=hd 2 (by omega)
  simp[hl,exB,namedB,k0,k1,k2,km_one,km_one0,km_nil,km_opt,km_opt0,ms]<;>grind
theorem core11 (ns:List Nd) (N:Nd) (hk:N.k=11) (h2:N.nm.length<=200):coreL ns N=seB ns N:=by
 have e1:cls N.k=6:=by rw[hk];rfl
 have e3:seB ns N=(bareB N false false false false&&((N.ks.length:Int)==0)):=by
  unfold seB
  rw[if_pos (by rw[hk];rfl)]
  unfold stB
  rw[if_neg (by rw[hk];decide),if_neg (by rw[hk];decide),if_neg (by rw[hk];decide),if_neg (by rw[hk];decide),if_neg (by rw[hk];decide),if_neg (by rw[hk];decide),if_neg (by rw[hk];decide),if_neg (by rw[hk];decide),if_neg (by rw[hk];decide),if_neg (by rw[hk];decide),if_pos hk]
 have e2:rowW N.k=some []:=by rw[hk];rfl
 have e4:mostN 11=1:=rfl
 have e5:rkB N.k (kinds ns N.ks)=kmatch [] (kinds ns N.ks):=by unfold rkB;rw[e2]
 unfold coreL kfB
 rw[sameB_bare,e1,e3,if_neg (by decide),e5]
 simp only[ffB,txB,hk,e4]
 have hlen:=kinds_len ns N.ks
 have hd:=getD_kid ns N
 revert hlen hd
 generalize kinds ns N.ks=K
 intro hlen hd
 rcases K with _|⟨q,r⟩
 ·have hl:N.ks.length=0:=by rw[<-hlen];rfl
  simp[hl,exB,namedB,km_one,km_one0,km_nil,km_opt,km_opt0,ms]<;>grind
 ·have hl:N.ks.length=r.length+1:=by rw[<-hlen];rfl
  have k0:kidK ns N 0=q:=hd 0 (by omega)
  simp[hl,exB,namedB,k0,km_one,km_one0,km_nil,km_opt,km_opt0,ms]<;>grind
theorem core12 (ns:List Nd) (N:Nd) (hk:N.k=12) (h2:N.nm.length<=200):coreL ns N=seB ns N:=by
 have e1:cls N.k=6:=by rw[hk];rfl
 have e3:seB ns N=(bareB N false false false false&&((N.ks.length:Int)==0)):=by
  unfold seB
  rw[if_pos (by rw[hk];rfl)]
  unfold stB
  rw[if_neg (by rw[hk];decide),if_neg (by rw[hk];decide),if_neg (by rw[hk];decide),if_neg (by rw[hk];decide),if_neg (by rw[hk];decide),if_neg (by rw[hk];decide),if_neg (by rw[hk];decide),if_neg (by rw[hk];decide),if_neg (by rw[hk];decide),if_neg (by rw[hk];decide),if_neg (by rw[hk];decide),if_pos hk]
 have e2:rowW N.k=some []:=by rw[hk];rfl
 have e4:mostN 12=1:=rfl
 have e5:rkB N.k (kinds ns N.ks)=kmatch [] (kinds ns N.ks):=by unfold rkB;rw[e2]
 unfold coreL kfB
 rw[sameB_bare,e1,e3,if_neg (by decide),e5]
 simp only[ffB,txB,hk,e4]
 have hlen:=kinds_len ns N.ks
 have hd:=getD_kid ns N
 revert hlen hd
 generalize kinds ns N.ks=K
 intro hlen hd
 rcases K with _|⟨q,r⟩
 ·have hl:N.ks.length=0:=by rw[<-hlen];rfl
  simp[hl,exB,namedB,km_one,km_one0,km_nil,km_opt,km_opt0,ms]<;>grind
 ·have hl:N.ks.length=r.length+1:=by rw[<-hlen];rfl
  have k0:kidK ns N 0=q:=hd 0 (by omega)
  simp[hl,exB,namedB,k0,km_one,km_one0,km_nil,km_opt,km_opt0,ms]<;>grind
theorem core13 (ns:List Nd) (N:Nd) (hk:N.k=13) (h2:N.nm.length<=200):coreL ns N=seB ns N:=by
 have e1:cls N.k=6:=by rw[hk];rfl
 have e3:seB ns N=(bareB N false false false false&&exB ns N N.ks.length 0):=by
  unfold seB
  rw[if_pos (by rw[hk];rfl)]
  unfold stB
  rw[if_neg (by rw[hk];decide),if_neg (by rw[hk];decide),if_neg (by rw[hk];decide),if_neg (by rw[hk];decide),if_neg (by rw[hk];decide),if_neg (by rw[hk];decide),if_neg (by rw[hk];decide),if_neg (by rw[hk];decide),if_neg (by rw[hk];decide),if_neg (by rw[hk];decide),if_neg (by rw[hk];decide),if_neg (by rw[hk];decide),if_pos hk]
 have e2:rowW N.k=some [(3,1)]:=by rw[hk];rfl
 have e4:mostN 13=1:=rfl
 have e5:rkB N.k (kinds ns N.ks)=kmatch [(3,1)] (kinds ns N.ks):=by unfold rkB;rw[e2]
 unfold coreL kfB
 rw[sameB_bare,e1,e3,if_neg (by decide),e5]
 simp only[ffB,txB,hk,e4]
 have hlen:=kinds_len ns N.ks
 have hd:=getD_kid ns N
 have hx:=ex_all ns N
 have hs:=sb_all ns N
 have he:=en_all ns N
 have h0:=hx N.ks.length 0 (by omega)
 rw[<-hlen]at h0
 rw[List.drop_zero,List.take_length]at h0
 rw[km_star,<-hlen,h0]
 have e9:(kinds ns N.ks).all (ms 3)=(kinds ns N.ks).all exprK:=rfl
 rw[e9]
 generalize (kinds ns N.ks).all exprK=z
 generalize bareB N false false false false=B
 cases B<;>cases z<;>rfl
theorem core14 (ns:List Nd) (N:Nd) (hk:N.k=14) (h2:N.nm.length<=200):coreL ns N=seB ns N:=by
 have e1:cls N.k=0:=by rw[hk];rfl
 have e3:seB ns N=(bareB N false false false true&&namedB N 1 2&&((N.ks.length:Int)==2)&&(kidK ns N 0==1)&&(kidK ns N 1==1)):=by
  unfold seB
  rw[if_pos (by rw[hk];rfl)]
  unfold stB
  rw[if_neg (by rw[hk];decide),if_neg (by rw[hk];decide),if_neg (by rw[hk];decide),if_neg (by rw[hk];decide),if_neg (by rw[hk];decide),if_neg (by rw[hk];decide),if_neg (by rw[hk];decide),if_neg (by rw[hk];decide),if_neg (by rw[hk];decide),if_neg (by rw[hk];decide),if_neg (by rw[hk];decide),if_neg (by rw[hk];decide),if_neg (by rw[hk];decide),if_pos hk]
 have e2:rowW N.k=some [(1,0),(1,0)]:=by rw[hk];rfl
 have e4:mostN 14=2:=rfl
 have e5:rkB N.k (kinds ns N.ks)=kmatch [(1,0),(1,0)] (kinds ns N.ks):=by unfold rkB;rw[e2]
 unfold coreL kfB
 rw[sameB_bare,e1,e3,if_neg (by decide),e5]
 simp only[ffB,txB,hk,e4]
 have hlen:=kinds_len ns N.ks
 have hd:=getD_kid ns N
 revert hlen hd
 generalize kinds ns N.ks=K
 intro hlen hd
 rcases K with _|⟨a,_|⟨b,_|⟨q,r⟩⟩⟩
 ·have hl:N.ks.length=0:=by rw[<-hlen];rfl
  simp[hl,exB,namedB,km_one,km_one0,km_nil,km_opt,km_opt0,ms]<;>grind
 ·have hl:N.ks.length=1:=by rw[<-hlen];rfl
  have k0:kidK ns N 0=a:=hd 0 (by omega)
  simp[hl,exB,namedB,k0,km_one,km_one0,km_nil,km_opt,km_opt0,ms]<;>grind
 ·have hl:N.ks.length=2:=by rw[<-hlen];rfl
  have k0:kidK ns N 0=a:=hd 0 (by omega)
  have k1:kidK ns N 1=b:=hd 1 (by omega)
  simp[hl,exB,namedB,k0,k1,km_one,km_one0,km_nil,km_opt,km_opt0,ms]<;>grind
 ·have hl:N.ks.length=r.length+3:=by rw[<-hlen];rfl
  have k0:kidK ns N 0=a:=hd 0 (by omega)
  have k1:kidK ns N 1=b:=hd 1 (by omega)
  have k2:kidK ns N 2=q:=hd 2 (by omega)
  simp[hl,exB,namedB,k0,k1,k2,km_one,km_one0,km_nil,km_opt,km_opt0,ms]<;>grind
theorem core15 (ns:List Nd) (N:Nd) (hk:N.k=15) (h2:N.nm.length<=200):coreL ns N=seB ns N:=by
 have e1:cls N.k=6:=by rw[hk];rfl
 have e3:seB ns N=(bareB N false false false false&&((N.ks.length:Int)==1)&&exB ns N 1 0):=by
  unfold seB
  rw[if_pos (by rw[hk];rfl)]
  unfold stB
  rw[if_neg (by rw[hk];decide),if_neg (by rw[hk];decide),if_neg (by rw[hk];decide),if_neg (by rw[hk];decide),if_neg (by rw[hk];decide),if_neg (by rw[hk];decide),if_neg (by rw[hk];decide),if_neg (by rw[hk];decide),if_neg (by rw[hk];decide),if_neg (by rw[hk];decide),if_neg (by rw[hk];decide),if_neg (by rw[hk];decide),if_neg (by rw[hk];decide),if_neg (by rw[hk];decide),if_pos hk]
 have e2:rowW N.k=some [(3,0)]:=by rw[hk];rfl
 have e4:mostN 15=1:=rfl
 have e5:rkB N.k (kinds ns N.ks)=kmatch [(3,0)] (kinds ns N.ks):=by unfold rkB;rw[e2]
 unfold coreL kfB
 rw[sameB_bare,e1,e3,if_neg (by decide),e5]
 simp only[ffB,txB,hk,e4]
 have hlen:=kinds_len ns N.ks
 have hd:=getD_kid ns N
 revert hlen hd
 generalize kinds ns N.ks=K
 intro hlen hd
 rcases K with _|⟨a,_|⟨q,r⟩⟩
 ·have hl:N.ks.length=0:=by rw[<-hlen];rfl
  simp[hl,exB,namedB,km_one,km_one0,km_nil,km_opt,km_opt0,ms]<;>grind
 ·have hl:N.ks.length=1:=by rw[<-hlen];rfl
  have k0:kidK ns N 0=a:=hd 0 (by omega)
  simp[hl,exB,namedB,k0,km_one,km_one0,km_nil,km_opt,km_opt0,ms]<;>grind
 ·have hl:N.ks.length=r.length+2:=by rw[<-hlen];rfl
  have k0:kidK ns N 0=a:=hd 0 (by omega)
  have k1:kidK ns N 1=q:=hd 1 (by omega)
  simp[hl,exB,namedB,k0,k1,km_one,km_one0,km_nil,km_opt,km_opt0,ms]<;>grind
theorem core16 (ns:List Nd) (N:Nd) (hk:N.k=16) (h2:N.nm.length<=200):coreL ns N=seB ns N:=by
 have e1:cls N.k=6:=by rw[hk];rfl
 have e3:seB ns N=(bareB N false false false false&&((N.ks.length:Int)==1)&&(kidK ns N 0==34)):=by
  unfold seB
  rw[if_pos (by rw[hk];rfl)]
  unfold stB
  rw[if_neg (by rw[hk];decide),if_neg (by rw[hk];decide),if_neg (by rw[hk];decide),if_neg (by rw[hk];decide),if_neg (by rw[hk];decide),if_neg (by rw[hk];decide),if_neg (by rw[hk];decide),if_neg (by rw[hk];decide),if_neg (by rw[hk];decide),if_neg (by rw[hk];decide),if_neg (by rw[hk];decide),if_neg (by rw[hk];decide),if_neg (by rw[hk];decide),if_neg (by rw[hk];decide),if_neg (by rw[hk];decide),if_pos hk]
 have e2:rowW N.k=some [(6,0)]:=by rw[hk];rfl
 have e4:mostN 16=1:=rfl
 have e5:rkB N.k (kinds ns N.ks)=kmatch [(6,0)] (kinds ns N.ks):=by unfold rkB;rw[e2]
 unfold coreL kfB
 rw[sameB_bare,e1,e3,if_neg (by decide),e5]
 simp only[ffB,txB,hk,e4]
 have hlen:=kinds_len ns N.ks
 have hd:=getD_kid ns N
 revert hlen hd
 generalize kinds ns N.ks=K
 intro hlen hd
 rcases K with _|⟨a,_|⟨q,r⟩⟩
 ·have hl:N.ks.length=0:=by rw[<-hlen];rfl
  simp[hl,exB,namedB,km_one,km_one0,km_nil,km_opt,km_opt0,ms]<;>grind
 ·have hl:N.ks.length=1:=by rw[<-hlen];rfl
  have k0:kidK ns N 0=a:=hd 0 (by omega)
  simp[hl,exB,namedB,k0,km_one,km_one0,km_nil,km_opt,km_opt0,ms]<;>grind
 ·have hl:N.ks.length=r.length+2:=by rw[<-hlen];rfl
  have k0:kidK ns N 0=a:=hd 0 (by omega)
  have k1:kidK ns N 1=q:=hd 1 (by omega)
  simp[hl,exB,namedB,k0,k1,km_one,km_one0,km_nil,km_opt,km_opt0,ms]<;>grind
theorem core20 (ns:List Nd) (N:Nd) (hk:N.k=20) (h2:N.nm.length<=200):coreL ns N=seB ns N:=by
 have e1:cls N.k=6:=by rw[hk];rfl
 have e3:seB ns N=(((N.ks.length:Int)==0)&&bareB N false false false false):=by
  unfold seB
  rw[if_neg (by rw[hk];decide)]
  unfold exprB
  rw[if_pos hk]
 have e2:rowW N.k=some []:=by rw[hk];rfl
 have e4:mostN 20=1:=rfl
 have e5:rkB N.k (kinds ns N.ks)=kmatch [] (kinds ns N.ks):=by unfold rkB;rw[e2]
 unfold coreL kfB
 rw[sameB_bare,e1,e3,if_neg (by decide),e5]
 simp only[ffB,txB,hk,e4]
 have hlen:=kinds_len ns N.ks
 have hd:=getD_kid ns N
 revert hlen hd
 generalize kinds ns N.ks=K
 intro hlen hd
 rcases K with _|⟨q,r⟩
 ·have hl:N.ks.length=0:=by rw[<-hlen];rfl
  simp[hl,exB,namedB,km_one,km_one0,km_nil,km_opt,km_opt0,ms]<;>grind
 ·have hl:N.ks.length=r.length+1:=by rw[<-hlen];rfl
  have k0:kidK ns N 0=q:=hd 0 (by omega)
  simp[hl,exB,namedB,k0,km_one,km_one0,km_nil,km_opt,km_opt0,ms]<;>grind
theorem core21 (ns:List Nd) (N:Nd) (hk:N.k=21) (h2:N.nm.length<=200):coreL ns N=seB ns N:=by
 have e1:cls N.k=6:=by rw[hk];rfl
 have e3:seB ns N=(((N.ks.length:Int)==0)&&bareB N false false false false):=by
  unfold seB
  rw[if_neg (by rw[hk];decide)]
  unfold exprB
  rw[if_neg (by rw[hk];decide),if_pos hk]
 have e2:rowW N.k=some []:=by rw[hk];rfl
 have e4:mostN 21=1:=rfl
 have e5:rkB N.k (kinds ns N.ks)=kmatch [] (kinds ns N.ks):=by unfold rkB;rw[e2]
 unfold coreL kfB
 rw[sameB_bare,e1,e3,if_neg (by decide),e5]
 simp only[ffB,txB,hk,e4]
 have hlen:=kinds_len ns N.ks
 have hd:=getD_kid ns N
 revert hlen hd
 generalize kinds ns N.ks=K
 intro hlen hd
 rcases K with _|⟨q,r⟩
 ·have hl:N.ks.length=0:=by rw[<-hlen];rfl
  simp[hl,exB,namedB,km_one,km_one0,km_nil,km_opt,km_opt0,ms]<;>grind
 ·have hl:N.ks.length=r.length+1:=by rw[<-hlen];rfl
  have k0:kidK ns N 0=q:=hd 0 (by omega)
  simp[hl,exB,namedB,k0,km_one,km_one0,km_nil,km_opt,km_opt0,ms]<;>grind
theorem core22 (ns:List Nd) (N:Nd) (hk:N.k=22) (h2:N.nm.length<=200):coreL ns N=seB ns N:=by
 have e1:cls N.k=6:=by rw[hk];rfl
 have e3:seB ns N=(((N.ks.length:Int)==0)&&bareB N false false false false):=by
  unfold seB
  rw[if_neg (by rw[hk];decide)]
  unfold exprB
  rw[if_neg (by rw[hk];decide),if_neg (by rw[hk];decide),if_pos hk]
 have e2:rowW N.k=some []:=by rw[hk];rfl
 have e4:mostN 22=1:=rfl
 have e5:rkB N.k (kinds ns N.ks)=kmatch [] (kinds ns N.ks):=by unfold rkB;rw[e2]
 unfold coreL kfB
 rw[sameB_bare,e1,e3,if_neg (by decide),e5]
 simp only[ffB,txB,hk,e4]
 have hlen:=kinds_len ns N.ks
 have hd:=getD_kid ns N
 revert hlen hd
 generalize kinds ns N.ks=K
 intro hlen hd
 rcases K with _|⟨q,r⟩
 ·have hl:N.ks.length=0:=by rw[<-hlen];rfl
  simp[hl,exB,namedB,km_one,km_one0,km_nil,km_opt,km_opt0,ms]<;>grind
 ·have hl:N.ks.length=r.length+1:=by rw[<-hlen];rfl
  have k0:kidK ns N 0=q:=hd 0 (by omega)
  simp[hl,exB,namedB,k0,km_one,km_one0,km_nil,km_opt,km_opt0,ms]<;>grind
theorem core27 (ns:List Nd) (N:Nd) (hk:N.k=27) (h2:N.nm.length<=200):coreL ns N=seB ns N:=by
 have e1:cls N.k=6:=by rw[hk];rfl
 have e3:seB ns N=(((N.ks.length:Int)==0)&&bareB N false false false false):=by
  unfold seB
  rw[if_neg (by rw[hk];decide)]
  unfold exprB
  rw[if_neg (by rw[hk];decide),if_neg (by rw[hk];decide),if_neg (by rw[hk];decide),if_pos hk]
 have e2:rowW N.k=some []:=by rw[hk];rfl
 have e4:mostN 27=1:=rfl
 have e5:rkB N.k (kinds ns N.ks)=kmatch [] (kinds ns N.ks):=by unfold rkB;rw[e2]
 unfold coreL kfB
 rw[sameB_bare,e1,e3,if_neg (by decide),e5]
 simp only[ffB,txB,hk,e4]
 have hlen:=kinds_len ns N.ks
 have hd:=getD_kid ns N
 revert hlen hd
 generalize kinds ns N.ks=K
 intro hlen hd
 rcases K with _|⟨q,r⟩
 ·have hl:N.ks.length=0:=by rw[<-hlen];rfl
  simp[hl,exB,namedB,km_one,km_one0,km_nil,km_opt,km_opt0,ms]<;>grind
 ·have hl:N.ks.length=r.length+1:=by rw[<-hlen];rfl
  have k0:kidK ns N 0=q:=hd 0 (by omega)
  simp[hl,exB,namedB,k0,km_one,km_one0,km_nil,km_opt,km_opt0,ms]<;>grind
theorem core23 (ns:List Nd) (N:Nd) (hk:N.k=23) (h2:N.nm.length<=200):coreL ns N=seB ns N:=by
 have e1:cls N.k=2:=by rw[hk];rfl
 have e3:seB ns N=(((N.ks.length:Int)==0)&&bareB N false true false false):=by
  unfold seB
  rw[if_neg (by rw[hk];decide)]
  unfold exprB
  rw[if_neg (by rw[hk];decide),if_neg (by rw[hk];decide),if_neg (by rw[hk];decide),if_neg (by rw[hk];decide),if_pos hk]
 have e2:rowW N.k=some []:=by rw[hk];rfl
 have e4:mostN 23=1:=rfl
 have e5:rkB N.k (kinds ns N.ks)=kmatch [] (kinds ns N.ks):=by unfold rkB;rw[e2]
 unfold coreL kfB
 rw[sameB_bare,e1,e3,if_neg (by decide),e5]
 simp only[ffB,txB,hk,e4]
 have hlen:=kinds_len ns N.ks
 have hd:=getD_kid ns N
 revert hlen hd
 generalize kinds ns N.ks=K
 intro hlen hd
 rcases K with _|⟨q,r⟩
 ·have hl:N.ks.length=0:=by rw[<-hlen];rfl
  simp[hl,exB,namedB,km_one,km_one0,km_nil,km_opt,km_opt0,ms]<;>grind
 ·have hl:N.ks.length=r.length+1:=by rw[<-hlen];rfl
  have k0:kidK ns N 0=q:=hd 0 (by omega)
  simp[hl,exB,namedB,k0,km_one,km_one0,km_nil,km_opt,km_opt0,ms]<;>grind
theorem core24 (ns:List Nd) (N:Nd) (hk:N.k=24) (h2:N.nm.length<=200):coreL ns N=seB ns N:=by
 have e1:cls N.k=3:=by rw[hk];rfl
 have e3:seB ns N=(((N.ks.length:Int)==0)&&bareB N false false true false&&fok N.x):=by
  unfold seB
  rw[if_neg (by rw[hk];decide)]
  unfold exprB
  rw[if_neg (by rw[hk];decide),if_neg (by rw[hk];decide),if_neg (by rw[hk];decide),if_neg (by rw[hk];decide),if_neg (by rw[hk];decide),if_pos hk]
 have e2:rowW N.k=some []:=by rw[hk];rfl
 have e4:mostN 24=1:=rfl
 have e5:rkB N.k (kinds ns N.ks)=kmatch [] (kinds ns N.ks):=by unfold rkB;rw[e2]
 unfold coreL kfB
 rw[sameB_bare,e1,e3,if_neg (by decide),e5]
 simp only[ffB,txB,hk,e4]
 have hlen:=kinds_len ns N.ks
 have hd:=getD_kid ns N
 revert hlen hd
 generalize kinds ns N.ks=K
 intro hlen hd
 rcases K with _|⟨q,r⟩
 ·have hl:N.ks.length=0:=by rw[<-hlen];rfl
  simp[hl,exB,namedB,km_one,km_one0,km_nil,km_opt,km_opt0,ms]<;>grind
 ·have hl:N.ks.length=r.length+1:=by rw[<-hlen];rfl
  have k0:kidK ns N 0=q:=hd 0 (by omega)
  simp[hl,exB,namedB,k0,km_one,km_one0,km_nil,km_opt,km_opt0,ms]<;>grind
theorem core25 (ns:List Nd) (N:Nd) (hk:N.k=25) (h2:N.nm.length<=200):coreL ns N=seB ns N:=by
 have e1:cls N.k=3:=by rw[hk];rfl
 have e3:seB ns N=(((N.ks.length:Int)==0)&&bareB N false false true false&&decide ((N.x.size:Int)<=4000)):=by
  unfold seB
  rw[if_neg (by rw[hk];decide)]
  unfold exprB
  rw[if_neg (by rw[hk];decide),if_neg (by rw[hk];decide),if_neg (by rw[hk];decide),if_neg (by rw[hk];decide),if_neg (by rw[hk];decide),if_neg (by rw[hk];decide),if_pos hk]
 have e2:rowW N.k=some []:=by rw[hk];rfl
 have e4:mostN 25=1:=rfl
 have e5:rkB N.k (kinds ns N.ks)=kmatch [] (kinds ns N.ks):=by unfold rkB;rw[e2]
 unfold coreL kfB
 rw[sameB_bare,e1,e3,if_neg (by decide),e5]
 simp only[ffB,txB,hk,e4]
 have hlen:=kinds_len ns N.ks
 have hd:=getD_kid ns N
 revert hlen hd
 generalize kinds ns N.ks=K
 intro hlen hd
 rcases K with _|⟨q,r⟩
 ·have hl:N.ks.length=0:=by rw[<-hlen];rfl
  simp[hl,exB,namedB,km_one,km_one0,km_nil,km_opt,km_opt0,ms]<;>grind
 ·have hl:N.ks.length=r.length+1:=by rw[<-hlen];rfl
  have k0:kidK ns N 0=q:=hd 0 (by omega)
  simp[hl,exB,namedB,k0,km_one,km_one0,km_nil,km_opt,km_opt0,ms]<;>grind
theorem core26 (ns:List Nd) (N:Nd) (hk:N.k=26) (h2:N.nm.length<=200):coreL ns N=seB ns N:=by
 have e1:cls N.k=3:=by rw[hk];rfl
 have e3:seB ns N=(((N.ks.length:Int)==0)&&bareB N false false true false&&nmok N.x):=by
  unfold seB
  rw[if_neg (by rw[hk];decide)]
  unfold exprB
  rw[if_neg (by rw[hk];decide),if_neg (by rw[hk];decide),if_neg (by rw[hk];decide),if_neg (by rw[hk];decide),if_neg (by rw[hk];decide),if_neg (by rw[hk];decide),if_neg (by rw[hk];decide),if_pos hk]
 have e2:rowW N.k=some []:=by rw[hk];rfl
 have e4:mostN 26=1:=rfl
 have e5:rkB N.k (kinds ns N.ks)=kmatch [] (kinds ns N.ks):=by unfold rkB;rw[e2]
 unfold coreL kfB
 rw[sameB_bare,e1,e3,if_neg (by decide),e5]
 simp only[ffB,txB,hk,e4]
 have hlen:=kinds_len ns N.ks
 have hd:=getD_kid ns N
 revert hlen hd
 generalize kinds ns N.ks=K
 intro hlen hd
 rcases K with _|⟨q,r⟩
 ·have hl:N.ks.length=0:=by rw[<-hlen];rfl
  simp[hl,exB,namedB,km_one,km_one0,km_nil,km_opt,km_opt0,ms]<;>grind
 ·have hl:N.ks.length=r.length+1:=by rw[<-hlen];rfl
  have k0:kidK ns N 0=q:=hd 0 (by omega)
  simp[hl,exB,namedB,k0,km_one,km_one0,km_nil,km_opt,km_opt0,ms]<;>grind
theorem core28 (ns:List Nd) (N:Nd) (hk:N.k=28) (h2:N.nm.length<=200):coreL ns N=seB ns N:=by
 have e1:cls N.k=6:=by rw[hk];rfl
 have e3:seB ns N=(((N.ks.length:Int)==2)&&exB ns N 2 0&&bareB N false false false false):=by
  unfold seB
  rw[if_neg (by rw[hk];decide)]
  unfold exprB
  rw[if_neg (by rw[hk];decide),if_neg (by rw[hk];decide),if_neg (by rw[hk];decide),if_neg (by rw[hk];decide),if_neg (by rw[hk];decide),if_neg (by rw[hk];decide),if_neg (by rw[hk];decide),if_neg (by rw[hk];decide),if_pos hk]
 have e2:rowW N.k=some [(3,0),(3,0)]:=by rw[hk];rfl
 have e4:mostN 28=1:=rfl
 have e5:rkB N.k (kinds ns N.ks)=kmatch [(3,0),(3,0)] (kinds ns N.ks):=by unfold rkB;rw[e2]
 unfold coreL kfB
 rw[sameB_bare,e1,e3,if_neg (by decide),e5]
 simp only[ffB,txB,hk,e4]
 have hlen:=kinds_len ns N.ks
 have hd:=getD_kid ns N
 revert hlen hd
 generalize kinds ns N.ks=K
 intro hlen hd
 rcases K with _|⟨a,_|⟨b,_|⟨q,r⟩⟩⟩
 ·have hl:N.ks.length=0:=by rw[<-hlen];rfl
  simp[hl,exB,namedB,km_one,km_one0,km_nil,km_opt,km_opt0,ms]<;>grind
 ·have hl:N.ks.length=1:=by rw[<-hlen];rfl
  have k0:kidK ns N 0=a:=hd 0 (by omega)
  simp[hl,exB,namedB,k0,km_one,km_one0,km_nil,km_opt,km_opt0,ms]<;>grind
 ·have hl:N.ks.length=2:=by rw[<-hlen];rfl
  have k0:kidK ns N 0=a:=hd 0 (by omega)
  have k1:kidK ns N 1=b:=hd 1 (by omega)
  simp[hl,exB,namedB,k0,k1,km_one,km_one0,km_nil,km_opt,km_opt0,ms]<;>grind
 ·have hl:N.ks.length=r.length+3:=by rw[<-hlen];rfl
  have k0:kidK ns N 0=a:=hd 0 (by omega)
  have k1:kidK ns N 1=b:=hd 1 (by omega)
  have k2:kidK ns N 2=q:=hd 2 (by omega)
  simp[hl,exB,namedB,k0,k1,k2,km_one,km_one0,km_nil,km_opt,km_opt0,ms]<;>grind
theorem core29 (ns:List Nd) (N:Nd) (hk:N.k=29) (h2:N.nm.length<=200):coreL ns N=seB ns N:=by
 have e1:cls N.k=6:=by rw[hk];rfl
 have e3:seB ns N=(((N.ks.length:Int)==2)&&exB ns N 2 0&&bareB N false false false false):=by
  unfold seB
  rw[if_neg (by rw[hk];decide)]
  unfold exprB
  rw[if_neg (by rw[hk];decide),if_neg (by rw[hk];decide),if_neg (by rw[hk];decide),if_neg (by rw[hk];decide),if_neg (by rw[hk];decide),if_neg (by rw[hk];decide),if_neg (by rw[hk];decide),if_neg (by rw[hk];decide),if_neg (by rw[hk];decide),if_pos hk]
 have e2:rowW N.k=some [(3,0),(3,0)]:=by rw[hk];rfl
 have e4:mostN 29=1:=rfl
 have e5:rkB N.k (kinds ns N.ks)=kmatch [(3,0),(3,0)] (kinds ns N.ks):=by unfold rkB;rw[e2]
 unfold coreL kfB
 rw[sameB_bare,e1,e3,if_neg (by decide),e5]
 simp only[ffB,txB,hk,e4]
 have hlen:=kinds_len ns N.ks
 have hd:=getD_kid ns N
 revert hlen hd
 generalize kinds ns N.ks=K
 intro hlen hd
 rcases K with _|⟨a,_|⟨b,_|⟨q,r⟩⟩⟩
 ·have hl:N.ks.length=0:=by rw[<-hlen];rfl
  simp[hl,exB,namedB,km_one,km_one0,km_nil,km_opt,km_opt0,ms]<;>grind
 ·have hl:N.ks.length=1:=by rw[<-hlen];rfl
  have k0:kidK ns N 0=a:=hd 0 (by omega)
  simp[hl,exB,namedB,k0,km_one,km_one0,km_nil,km_opt,km_opt0,ms]<;>grind
 ·have hl:N.ks.length=2:=by rw[<-hlen];rfl
  have k0:kidK ns N 0=a:=hd 0 (by omega)
  have k1:kidK ns N 1=b:=hd 1 (by omega)
  simp[hl,exB,namedB,k0,k1,km_one,km_one0,km_nil,km_opt,km_opt0,ms]<;>grind
 ·have hl:N.ks.length=r.length+3:=by rw[<-hlen];rfl
  have k0:kidK ns N 0=a:=hd 0 (by omega)
  have k1:kidK ns N 1=b:=hd 1 (by omega)
  have k2:kidK ns N 2=q:=hd 2 (by omega)
  simp[hl,exB,namedB,k0,k1,k2,km_one,km_one0,km_nil,km_opt,km_opt0,ms]<;>grind
theorem core32 (ns:List Nd) (N:Nd) (hk:N.k=32) (h2:N.nm.length<=200):coreL ns N=seB ns N:=by
 have e1:cls N.k=6:=by rw[hk];rfl
 have e3:seB ns N=(((N.ks.length:Int)==2)&&exB ns N 2 0&&(kidK ns N 0 !=27)&&bareB N false false false false):=by
  unfold seB
  rw[if_neg (by rw[hk];decide)]
  unfold exprB
  rw[if_neg (by rw[hk];decide),if_neg (by rw[hk];decide),if_neg (by rw[hk];decide),if_neg (by rw[hk];decide),if_neg (by rw[hk];decide),if_neg (by rw[hk];decide),if_neg (by rw[hk];decide),if_neg (by rw[hk];decide),if_neg (by rw[hk];decide),if_neg (by rw[hk];decide),if_pos hk]
 have e2:rowW N.k=some [(4,0),(3,0)]:=by rw[hk];rfl
 have e4:mostN 32=1:=rfl
 have e5:rkB N.k (kinds ns N.ks)=kmatch [(4,0),(3,0)] (kinds ns N.ks):=by unfold rkB;rw[e2]
 unfold coreL kfB
 rw[sameB_bare,e1,e3,if_neg (by decide),e5]
 simp only[ffB,txB,hk,e4]
 have hlen:=kinds_len ns N.ks
 have hd:=getD_kid ns N
 revert hlen hd
 generalize kinds ns N.ks=K
 intro hlen hd
 rcases K with _|⟨a,_|⟨b,_|⟨q,r⟩⟩⟩
 ·have hl:N.ks.length=0:=by rw[<-hlen];rfl
  simp[hl,exB,namedB,km_one,km_one0,km_nil,km_opt,km_opt0,ms]<;>grind
 ·have hl:N.ks.length=1:=by rw[<-hlen];rfl
  have k0:kidK ns N 0=a:=hd 0 (by omega)
  simp[hl,exB,namedB,k0,km_one,km_one0,km_nil,km_opt,km_opt0,ms]<;>grind
 ·have hl:N.ks.length=2:=by rw[<-hlen];rfl
  have k0:kidK ns N 0=a:=hd 0 (by omega)
  have k1:kidK ns N 1=b:=hd 1 (by omega)
  simp[hl,exB,namedB,k0,k1,km_one,km_one0,km_nil,km_opt,km_opt0,ms]<;>grind
 ·have hl:N.ks.length=r.length+3:=by rw[<-hlen];rfl
  have k0:kidK ns N 0=a:=hd 0 (by omega)
  have k1:kidK ns N 1=b:=hd 1 (by omega)
  have k2:kidK ns N 2=q:=hd 2 (by omega)
  simp[hl,exB,namedB,k0,k1,k2,km_one,km_one0,km_nil,km_opt,km_opt0,ms]<;>grind
theorem core30 (ns:List Nd) (N:Nd) (hk:N.k=30) (h2:N.nm.length<=200):coreL ns N=seB ns N:=by
 have e1:cls N.k=4:=by rw[hk];rfl
 have e3:seB ns N=(((N.ks.length:Int)==1)&&exB ns N 1 0&&bareB N true false false false&&decide ((19:Int)<=N.op)&&decide (N.op<=22)):=by
  unfold seB
  rw[if_neg (by rw[hk];decide)]
  unfold exprB
  rw[if_neg (by rw[hk];decide),if_neg (by rw[hk];decide),if_neg (by rw[hk];decide),if_neg (by rw[hk];decide),if_neg (by rw[hk];decide),if_neg (by rw[hk];decide),if_neg (by rw[hk];decide),if_neg (by rw[hk];decide),if_neg (by rw[hk];decide),if_neg (by rw[hk];decide),if_neg (by rw[hk];decide),if_pos hk]
 have e2:rowW N.k=some [(3,0)]:=by rw[hk];rfl
 have e4:mostN 30=1:=rfl
 have e5:rkB N.k (kinds ns N.ks)=kmatch [(3,0)] (kinds ns N.ks):=by unfold rkB;rw[e2]
 unfold coreL kfB
 rw[sameB_bare,e1,e3,if_neg (by decide),e5]
 simp only[ffB,txB,hk,e4]
 have hlen:=kinds_len ns N.ks
 have hd:=getD_kid ns N
 revert hlen hd
 generalize kinds ns N.ks=K
 intro hlen hd
 rcases K with _|⟨a,_|⟨q,r⟩⟩
 ·have hl:N.ks.length=0:=by rw[<-hlen];rfl
  simp[hl,exB,namedB,km_one,km_one0,km_nil,km_opt,km_opt0,ms]<;>grind
 ·have hl:N.ks.length=1:=by rw[<-hlen];rfl
  have k0:kidK ns N 0=a:=hd 0 (by omega)
  simp[hl,exB,namedB,k0,km_one,km_one0,km_nil,km_opt,km_opt0,ms]<;>grind
 ·have hl:N.ks.length=r.length+2:=by rw[<-hlen];rfl
  have k0:kidK ns N 0=a:=hd 0 (by omega)
  have k1:kidK ns N 1=q:=hd 1 (by omega)
  simp[hl,exB,namedB,k0,k1,km_one,km_one0,km_nil,km_opt,km_opt0,ms]<;>grind
theorem core31 (ns:List Nd) (N:Nd) (hk:N.k=31) (h2:N.nm.length<=200):coreL ns N=seB ns N:=by
 have e1:cls N.k=4:=by rw[hk];rfl
 have e3:seB ns N=(((N.ks.length:Int)==2)&&exB ns N 2 0&&bareB N true false false false&&decide ((1:Int)<=N.op)&&decide (N.op<=18)):=by
  unfold seB
  rw[if_neg (by rw[hk];decide)]
  unfold exprB
  rw[if_neg (by rw[hk];decide),if_neg (by rw[hk];decide),if_neg (by rw[hk];decide),if_neg (by rw[hk];decide),if_neg (by rw[hk];decide),if_neg (by rw[hk];decide),if_neg (by rw[hk];decide),if_neg (by rw[hk];decide),if_neg (by rw[hk];decide),if_neg (by rw[hk];decide),if_neg (by rw[hk];decide),if_neg (by rw[hk];decide),if_pos hk]
 have e2:rowW N.k=some [(3,0),(3,0)]:=by rw[hk];rfl
 have e4:mostN 31=1:=rfl
 have e5:rkB N.k (kinds ns N.ks)=kmatch [(3,0),(3,0)] (kinds ns N.ks):=by unfold rkB;rw[e2]
 unfold coreL kfB
 rw[sameB_bare,e1,e3,if_neg (by decide),e5]
 simp only[ffB,txB,hk,e4]
 have hlen:=kinds_len ns N.ks
 have hd:=getD_kid ns N
 revert hlen hd
 generalize kinds ns N.ks=K
 intro hlen hd
 rcases K with _|⟨a,_|⟨b,_|⟨q,r⟩⟩⟩
 ·have hl:N.ks.length=0:=by rw[<-hlen];rfl
  simp[hl,exB,namedB,km_one,km_one0,km_nil,km_opt,km_opt0,ms]<;>grind
 ·have hl:N.ks.length=1:=by rw[<-hlen];rfl
  have k0:kidK ns N 0=a:=hd 0 (by omega)
  simp[hl,exB,namedB,k0,km_one,km_one0,km_nil,km_opt,km_opt0,ms]<;>grind
 ·have hl:N.ks.length=2:=by rw[<-hlen];rfl
  have k0:kidK ns N 0=a:=hd 0 (by omega)
  have k1:kidK ns N 1=b:=hd 1 (by omega)
  simp[hl,exB,namedB,k0,k1,km_one,km_one0,km_nil,km_opt,km_opt0,ms]<;>grind
 ·have hl:N.ks.length=r.length+3:=by rw[<-hlen];rfl
  have k0:kidK ns N 0=a:=hd 0 (by omega)
  have k1:kidK ns N 1=b:=hd 1 (by omega)
  have k2:kidK ns N 2=q:=hd 2 (by omega)
  simp[hl,exB,namedB,k0,k1,k2,km_one,km_one0,km_nil,km_opt,km_opt0,ms]<;>grind
theorem core33 (ns:List Nd) (N:Nd) (hk:N.k=33) (h2:N.nm.length<=200):coreL ns N=seB ns N:=by
 have e1:cls N.k=3:=by rw[hk];rfl
 have e3:seB ns N=(((N.ks.length:Int)==1)&&exB ns N 1 0&&(kidK ns N 0 !=27)&&bareB N false false true false&&nmok N.x):=by
  unfold seB
  rw[if_neg (by rw[hk];decide)]
  unfold exprB
  rw[if_neg (by rw[hk];decide),if_neg (by rw[hk];decide),if_neg (by rw[hk];decide),if_neg (by rw[hk];decide),if_neg (by rw[hk];decide),if_neg (by rw[hk];decide),if_neg (by rw[hk];decide),if_neg (by rw[hk];decide),if_neg (by rw[hk];decide),if_neg (by rw[hk];decide),if_neg (by rw[hk];decide),if_neg (by rw[hk];decide),if_neg (by rw[hk];decide),if_pos hk]
 have e2:rowW N.k=some [(4,0)]:=by rw[hk];rfl
 have e4:mostN 33=1:=rfl
 have e5:rkB N.k (kinds ns N.ks)=kmatch [(4,0)] (kinds ns N.ks):=by unfold rkB;rw[e2]
 unfold coreL kfB
 rw[sameB_bare,e1,e3,if_neg (by decide),e5]
 simp only[ffB,txB,hk,e4]
 have hlen:=kinds_len ns N.ks
 have hd:=getD_kid ns N
 revert hlen hd
 generalize kinds ns N.ks=K
 intro hlen hd
 rcases K with _|⟨a,_|⟨q,r⟩⟩
 ·have hl:N.ks.length=0:=by rw[<-hlen];rfl
  simp[hl,exB,namedB,km_one,km_one0,km_nil,km_opt,km_opt0,ms]<;>grind
 ·have hl:N.ks.length=1:=by rw[<-hlen];rfl
  have k0:kidK ns N 0=a:=hd 0 (by omega)
  simp[hl,exB,namedB,k0,km_one,km_one0,km_nil,km_opt,km_opt0,ms]<;>grind
 ·have hl:N.ks.length=r.length+2:=by rw[<-hlen];rfl
  have k0:kidK ns N 0=a:=hd 0 (by omega)
  have k1:kidK ns N 1=q:=hd 1 (by omega)
  simp[hl,exB,namedB,k0,k1,km_one,km_one0,km_nil,km_opt,km_opt0,ms]<;>grind
theorem core34 (ns:List Nd) (N:Nd) (hk:N.k=34) (h2:N.nm.length<=200):coreL ns N=seB ns N:=by
 have e1:cls N.k=6:=by rw[hk];rfl
 have e3:seB ns N=(decide ((1:Int)<=(N.ks.length:Int))&&exB ns N N.ks.length 0&&(kidK ns N 0 !=27)&&bareB N false false false false):=by
  unfold seB
  rw[if_neg (by rw[hk];decide)]
  unfold exprB
  rw[if_neg (by rw[hk];decide),if_neg (by rw[hk];decide),if_neg (by rw[hk];decide),if_neg (by rw[hk];decide),if_neg (by rw[hk];decide),if_neg (by rw[hk];decide),if_neg (by rw[hk];decide),if_neg (by rw[hk];decide),if_neg (by rw[hk];decide),if_neg (by rw[hk];decide),if_neg (by rw[hk];decide),if_neg (by rw[hk];decide),if_neg (by rw[hk];decide),if_neg (by rw[hk];decide),if_pos hk]
 have e2:rowW N.k=some [(4,0),(3,1)]:=by rw[hk];rfl
 have e4:mostN 34=1:=rfl
 have e5:rkB N.k (kinds ns N.ks)=kmatch [(4,0),(3,1)] (kinds ns N.ks):=by unfold rkB;rw[e2]
 unfold coreL kfB
 rw[sameB_bare,e1,e3,if_neg (by decide),e5]
 simp only[ffB,txB,hk,e4]
 have hlen:=kinds_len ns N.ks
 have hd:=getD_kid ns N
 have hx:=ex_all ns N
 have hs:=sb_all ns N
 have he:=en_all ns N
 revert hlen hd hx
 generalize kinds ns N.ks=K
 intro hlen hd hx
 rcases K with _|⟨a,r⟩
 ·simp at hlen
  simp[km_one0,<-hlen]
 ·have k0:kidK ns N 0=a:=hd 0 (by rw[<-hlen];simp)
  have h0:=hx N.ks.length 0 (by omega)
  rw[<-hlen,List.drop_zero,List.take_length,List.all_cons]at h0
  rw[km_one,km_star,<-hlen,h0,k0]
  have hl1:decide ((1:Int)<=(((a::r).length:Nat):Int))=true:=decide_eq_true (by simp;omega)
  rw[hl1]
  simp only[ms]
  generalize bareB N false false false false=B
  have e9:r.all (ms 3)=r.all exprK:=rfl
  rw[e9]
  generalize exprK a=x
  generalize (a !=27)=y
  generalize r.all exprK=z
  cases B<;>cases x<;>cases y<;>cases z<;>rfl
theorem core35 (ns:List Nd) (N:Nd) (hk:N.k=35) (h2:N.nm.length<=200):coreL ns N=seB ns N:=by
 have e1:cls N.k=6:=by rw[hk];rfl
 have e3:seB ns N=(enB ns N N.ks.length 0&&bareB N false false false false):=by
  unfold seB
  rw[if_neg (by rw[hk];decide)]
  unfold exprB
  rw[if_neg (by rw[hk];decide),if_neg (by rw[hk];decide),if_neg (by rw[hk];decide),if_neg (by rw[hk];decide),if_neg (by rw[hk];decide),if_neg (by rw[hk];decide),if_neg (by rw[hk];decide),if_neg (by rw[hk];decide),if_neg (by rw[hk];decide),if_neg (by rw[hk];decide),if_neg (by rw[hk];decide),if_neg (by rw[hk];decide),if_neg (by rw[hk];decide),if_neg (by rw[hk];decide),if_neg (by rw[hk];decide),if_pos hk]
 have e2:rowW N.k=some [(9,1)]:=by rw[hk];rfl
 have e4:mostN 35=1:=rfl
 have e5:rkB N.k (kinds ns N.ks)=kmatch [(9,1)] (kinds ns N.ks):=by unfold rkB;rw[e2]
 unfold coreL kfB
 rw[sameB_bare,e1,e3,if_neg (by decide),e5]
 simp only[ffB,txB,hk,e4]
 have hlen:=kinds_len ns N.ks
 have hd:=getD_kid ns N
 have hx:=ex_all ns N
 have hs:=sb_all ns N
 have he:=en_all ns N
 have h0:=he N.ks.length 0 (by omega)
 rw[<-hlen]at h0
 rw[List.drop_zero,List.take_length]at h0
 rw[km_star,<-hlen,h0]
 have e9:(kinds ns N.ks).all (ms 9)=(kinds ns N.ks).all (ms 9):=rfl
 rw[e9]
 generalize (kinds ns N.ks).all (ms 9)=z
 generalize bareB N false false false false=B
 cases B<;>cases z<;>rfl
theorem core36 (ns:List Nd) (N:Nd) (hk:N.k=36) (h2:N.nm.length<=200):coreL ns N=seB ns N:=by
 have e1:cls N.k=5:=by rw[hk];rfl
 have e3:seB ns N=(((N.ks.length:Int)==1)&&(kidK ns N 0==1)&&bareB N true false false true&&namedB N 0 200&&(N.op==0||N.op==1)):=by
  unfold seB
  rw[if_neg (by rw[hk];decide)]
  unfold exprB
  rw[if_neg (by rw[hk];decide),if_neg (by rw[hk];decide),if_neg (by rw[hk];decide),if_neg (by rw[hk];decide),if_neg (by rw[hk];decide),if_neg (by rw[hk];decide),if_neg (by rw[hk];decide),if_neg (by rw[hk];decide),if_neg (by rw[hk];decide),if_neg (by rw[hk];decide),if_neg (by rw[hk];decide),if_neg (by rw[hk];decide),if_neg (by rw[hk];decide),if_neg (by rw[hk];decide),if_neg (by rw[hk];decide),if_neg (by rw[hk];decide),if_pos hk]
 have e2:rowW N.k=some [(1,0)]:=by rw[hk];rfl
 have e4:mostN 36=1:=rfl
 have e5:rkB N.k (kinds ns N.ks)=kmatch [(1,0)] (kinds ns N.ks):=by unfold rkB;rw[e2]
 unfold coreL kfB
 rw[sameB_bare,e1,e3,if_neg (by decide),e5]
 simp only[ffB,txB,hk,e4]
 have hlen:=kinds_len ns N.ks
 have hd:=getD_kid ns N
 revert hlen hd
 generalize kinds ns N.ks=K
 intro hlen hd
 rcases K with _|⟨a,_|⟨q,r⟩⟩
 ·have hl:N.ks.length=0:=by rw[<-hlen];rfl
  simp[hl,exB,namedB,km_one,km_one0,km_nil,km_opt,km_opt0,ms]<;>grind
 ·have hl:N.ks.length=1:=by rw[<-hlen];rfl
  have k0:kidK ns N 0=a:=hd 0 (by omega)
  simp[hl,exB,namedB,k0,km_one,km_one0,km_nil,km_opt,km_opt0,ms]<;>grind
 ·have hl:N.ks.length=r.length+2:=by rw[<-hlen];rfl
  have k0:kidK ns N 0=a:=hd 0 (by omega)
  have k1:kidK ns N 1=q:=hd 1 (by omega)
  simp[hl,exB,namedB,k0,k1,km_one,km_one0,km_nil,km_opt,km_opt0,ms]<;>grind
theorem core37 (ns:List Nd) (N:Nd) (hk:N.k=37) (h2:N.nm.length<=200):coreL ns N=seB ns N:=by
 have e1:cls N.k=6:=by rw[hk];rfl
 have e3:seB ns N=(((N.ks.length:Int)==1)&&(kidK ns N 0==34||kidK ns N 0==27)&&bareB N false false false false):=by
  unfold seB
  rw[if_neg (by rw[hk];decide)]
  unfold exprB
  rw[if_neg (by rw[hk];decide),if_neg (by rw[hk];decide),if_neg (by rw[hk];decide),if_neg (by rw[hk];decide),if_neg (by rw[hk];decide),if_neg (by rw[hk];decide),if_neg (by rw[hk];decide),if_neg (by rw[hk];decide),if_neg (by rw[hk];decide),if_neg (by rw[hk];decide),if_neg (by rw[hk];decide),if_neg (by rw[hk];decide),if_neg (by rw[hk];decide),if_neg (by rw[hk];decide),if_neg (by rw[hk];decide),if_neg (by rw[hk];decide),if_neg (by rw[hk];decide),if_pos hk]
 have e2:rowW N.k=some [(7,0)]:=by rw[hk];rfl
 have e4:mostN 37=1:=rfl
 have e5:rkB N.k (kinds ns N.ks)=kmatch [(7,0)] (kinds ns N.ks):=by unfold rkB;rw[e2]
 unfold coreL kfB
 rw[sameB_bare,e1,e3,if_neg (by decide),e5]
 simp only[ffB,txB,hk,e4]
 have hlen:=kinds_len ns N.ks
 have hd:=getD_kid ns N
 revert hlen hd
 generalize kinds ns N.ks=K
 intro hlen hd
 rcases K with _|⟨a,_|⟨q,r⟩⟩
 ·have hl:N.ks.length=0:=by rw[<-hlen];rfl
  simp[hl,exB,namedB,km_one,km_one0,km_nil,km_opt,km_opt0,ms]<;>grind
 ·have hl:N.ks.length=1:=by rw[<-hlen];rfl
  have k0:kidK ns N 0=a:=hd 0 (by omega)
  simp[hl,exB,namedB,k0,km_one,km_one0,km_nil,km_opt,km_opt0,ms]<;>grind
 ·have hl:N.ks.length=r.length+2:=by rw[<-hlen];rfl
  have k0:kidK ns N 0=a:=hd 0 (by omega)
  have k1:kidK ns N 1=q:=hd 1 (by omega)
  simp[hl,exB,namedB,k0,k1,km_one,km_one0,km_nil,km_opt,km_opt0,ms]<;>grind
theorem core40 (ns:List Nd) (N:Nd) (hk:N.k=40) (h2:N.nm.length<=200):coreL ns N=seB ns N:=by
 have e1:cls N.k=6:=by rw[hk];rfl
 have e3:seB ns N=(((N.ks.length:Int)==1)&&exB ns N 1 0&&bareB N false false false false):=by
  unfold seB
  rw[if_neg (by rw[hk];decide)]
  unfold exprB
  rw[if_neg (by rw[hk];decide),if_neg (by rw[hk];decide),if_neg (by rw[hk];decide),if_neg (by rw[hk];decide),if_neg (by rw[hk];decide),if_neg (by rw[hk];decide),if_neg (by rw[hk];decide),if_neg (by rw[hk];decide),if_neg (by rw[hk];decide),if_neg (by rw[hk];decide),if_neg (by rw[hk];decide),if_neg (by rw[hk];decide),if_neg (by rw[hk];decide),if_neg (by rw[hk];decide),if_neg (by rw[hk];decide),if_neg (by rw[hk];decide),if_neg (by rw[hk];decide),if_neg (by rw[hk];decide),if_pos hk]
 have e2:rowW N.k=some [(3,0)]:=by rw[hk];rfl
 have e4:mostN 40=1:=rfl
 have e5:rkB N.k (kinds ns N.ks)=kmatch [(3,0)] (kinds ns N.ks):=by unfold rkB;rw[e2]
 unfold coreL kfB
 rw[sameB_bare,e1,e3,if_neg (by decide),e5]
 simp only[ffB,txB,hk,e4]
 have hlen:=kinds_len ns N.ks
 have hd:=getD_kid ns N
 revert hlen hd
 generalize kinds ns N.ks=K
 intro hlen hd
 rcases K with _|⟨a,_|⟨q,r⟩⟩
 ·have hl:N.ks.length=0:=by rw[<-hlen];rfl
  simp[hl,exB,namedB,km_one,km_one0,km_nil,km_opt,km_opt0,ms]<;>grind
 ·have hl:N.ks.length=1:=by rw[<-hlen];rfl
  have k0:kidK ns N 0=a:=hd 0 (by omega)
  simp[hl,exB,namedB,k0,km_one,km_one0,km_nil,km_opt,km_opt0,ms]<;>grind
 ·have hl:N.ks.length=r.length+2:=by rw[<-hlen];rfl
  have k0:kidK ns N 0=a:=hd 0 (by omega)
  have k1:kidK ns N 1=q:=hd 1 (by omega)
  simp[hl,exB,namedB,k0,k1,km_one,km_one0,km_nil,km_opt,km_opt0,ms]<;>grind
theorem core41 (ns:List Nd) (N:Nd) (hk:N.k=41) (h2:N.nm.length<=200):coreL ns N=seB ns N:=by
 have e1:cls N.k=6:=by rw[hk];rfl
 have e3:seB ns N=(((N.ks.length:Int)==2)&&exB ns N 2 0&&bareB N false false false false):=by
  unfold seB
  rw[if_neg (by rw[hk];decide)]
  unfold exprB
  rw[if_neg (by rw[hk];decide),if_neg (by rw[hk];decide),if_neg (by rw[hk];decide),if_neg (by rw[hk];decide),if_neg (by rw[hk];decide),if_neg (by rw[hk];decide),if_neg (by rw[hk];decide),if_neg (by rw[hk];decide),if_neg (by rw[hk];decide),if_neg (by rw[hk];decide),if_neg (by rw[hk];decide),if_neg (by rw[hk];decide),if_neg (by rw[hk];decide),if_neg (by rw[hk];decide),if_neg (by rw[hk];decide),if_neg (by rw[hk];decide),if_neg (by rw[hk];decide),if_neg (by rw[hk];decide),if_neg (by rw[hk];decide),if_pos hk]
 have e2:rowW N.k=some [(3,0),(3,0)]:=by rw[hk];rfl
 have e4:mostN 41=1:=rfl
 have e5:rkB N.k (kinds ns N.ks)=kmatch [(3,0),(3,0)] (kinds ns N.ks):=by unfold rkB;rw[e2]
 unfold coreL kfB
 rw[sameB_bare,e1,e3,if_neg (by decide),e5]
 simp only[ffB,txB,hk,e4]
 have hlen:=kinds_len ns N.ks
 have hd:=getD_kid ns N
 revert hlen hd
 generalize kinds ns N.ks=K
 intro hlen hd
 rcases K with _|⟨a,_|⟨b,_|⟨q,r⟩⟩⟩
 ·have hl:N.ks.length=0:=by rw[<-hlen];rfl
  simp[hl,exB,namedB,km_one,km_one0,km_nil,km_opt,km_opt0,ms]<;>grind
 ·have hl:N.ks.length=1:=by rw[<-hlen];rfl
  have k0:kidK ns N 0=a:=hd 0 (by omega)
  simp[hl,exB,namedB,k0,km_one,km_one0,km_nil,km_opt,km_opt0,ms]<;>grind
 ·have hl:N.ks.length=2:=by rw[<-hlen];rfl
  have k0:kidK ns N 0=a:=hd 0 (by omega)
  have k1:kidK ns N 1=b:=hd 1 (by omega)
  simp[hl,exB,namedB,k0,k1,km_one,km_one0,km_nil,km_opt,km_opt0,ms]<;>grind
 ·have hl:N.ks.length=r.length+3:=by rw[<-hlen];rfl
  have k0:kidK ns N 0=a:=hd 0 (by omega)
  have k1:kidK ns N 1=b:=hd 1 (by omega)
  have k2:kidK ns N 2=q:=hd 2 (by omega)
  simp[hl,exB,namedB,k0,k1,k2,km_one,km_one0,km_nil,km_opt,km_opt0,ms]<;>grind
theorem core42 (ns:List Nd) (N:Nd) (hk:N.k=42) (h2:N.nm.length<=200):coreL ns N=seB ns N:=by
 have e1:cls N.k=3:=by rw[hk];rfl
 have e3:seB ns N=(((N.ks.length:Int)==1)&&exB ns N 1 0&&bareB N false false true false&&nmok N.x):=by
  unfold seB
  rw[if_neg (by rw[hk];decide)]
  unfold exprB
  rw[if_neg (by rw[hk];decide),if_neg (by rw[hk];decide),if_neg (by rw[hk];decide),if_neg (by rw[hk];decide),if_neg (by rw[hk];decide),if_neg (by rw[hk];decide),if_neg (by rw[hk];decide),if_neg (by rw[hk];decide),if_neg (by rw[hk];decide),if_neg (by rw[hk];decide),if_neg (by rw[hk];decide),if_neg (by rw[hk];decide),if_neg (by rw[hk];decide),if_neg (by rw[hk];decide),if_neg (by rw[hk];decide),if_neg (by rw[hk];decide),if_neg (by rw[hk];decide),if_neg (by rw[hk];decide),if_neg (by rw[hk];decide),if_neg (by rw[hk];decide),if_pos hk]
 have e2:rowW N.k=some [(3,0)]:=by rw[hk];rfl
 have e4:mostN 42=1:=rfl
 have e5:rkB N.k (kinds ns N.ks)=kmatch [(3,0)] (kinds ns N.ks):=by unfold rkB;rw[e2]
 unfold coreL kfB
 rw[sameB_bare,e1,e3,if_neg (by decide),e5]
 simp only[ffB,txB,hk,e4]
 have hlen:=kinds_len ns N.ks
 have hd:=getD_kid ns N
 revert hlen hd
 generalize kinds ns N.ks=K
 intro hlen hd
 rcases K with _|⟨a,_|⟨q,r⟩⟩
 ·have hl:N.ks.length=0:=by rw[<-hlen];rfl
  simp[hl,exB,namedB,km_one,km_one0,km_nil,km_opt,km_opt0,ms]<;>grind
 ·have hl:N.ks.length=1:=by rw[<-hlen];rfl
  have k0:kidK ns N 0=a:=hd 0 (by omega)
  simp[hl,exB,namedB,k0,km_one,km_one0,km_nil,km_opt,km_opt0,ms]<;>grind
 ·have hl:N.ks.length=r.length+2:=by rw[<-hlen];rfl
  have k0:kidK ns N 0=a:=hd 0 (by omega)
  have k1:kidK ns N 1=q:=hd 1 (by omega)
  simp[hl,exB,namedB,k0,k1,km_one,km_one0,km_nil,km_opt,km_opt0,ms]<;>grind
theorem core5 (ns:List Nd) (N:Nd) (hk:N.k=5) (h2:N.nm.length<=200):coreL ns N=seB ns N:=by
 have e1:cls N.k=1:=by rw[hk];rfl
 have e3:seB ns N=(bareB N false true false false&&(decide (1<=N.n/\N.n<(N.ks.length:Int))&&(tgB ns N N.n.toNat 0&&exB ns N (N.ks.length-N.n.toNat) N.n.toNat))):=by
  unfold seB
  rw[if_pos (by rw[hk];rfl)]
  unfold stB
  rw[if_neg (by rw[hk];decide),if_neg (by rw[hk];decide),if_neg (by rw[hk];decide),if_neg (by rw[hk];decide),if_pos hk]
 unfold coreL kfB
 rw[sameB_bare,e1,e3,if_pos rfl]
 simp only[ffB]
 by_cases h:1<=N.n/\N.n<(N.ks.length:Int)
 ·rw[decide_eq_true h,Bool.true_and,Bool.true_and,km_set _ _ (by rw[kinds_len];omega),tg_all ns N _ _ (by omega),ex_all ns N _ _ (by omega)]
  congr 1
  congr 1
  ·rw[List.drop_zero]
   congr 1
   funext k
   exact targ_ms k
  ·have:(kinds ns N.ks).drop N.n.toNat=((kinds ns N.ks).drop N.n.toNat).take (N.ks.length-N.n.toNat):=by
    rw[List.take_of_length_le (by rw[List.length_drop,kinds_len];exact Nat.le_refl _)]
   rw[<-this]
   rfl
 ·rw[decide_eq_false h,Bool.false_and,Bool.false_and]
theorem coreNo (ns:List Nd) (N:Nd) (h:N.k ∉ knownL) (h5:N.k≠5):coreL ns N=seB ns N:=by
 have hr:=(rowW_no N.k h).1
 simp only[knownL,List.mem_cons,List.not_mem_nil,or_false,not_or]at h
 have hs:statK N.k=false:=by unfold statK;exact decide_eq_false (by omega)
 have e3:seB ns N=false:=by
  unfold seB
  rw[if_neg (by rw[hs];decide)]
  unfold exprB
  rw[if_neg (by omega),if_neg (by omega),if_neg (by omega),if_neg (by omega),if_neg (by omega),if_neg (by omega),if_neg (by omega),if_neg (by omega),if_neg (by omega),if_neg (by omega),if_neg (by omega),if_neg (by omega),if_neg (by omega),if_neg (by omega),if_neg (by omega),if_neg (by omega),if_neg (by omega),if_neg (by omega),if_neg (by omega),if_neg (by omega),if_neg (by omega)]
 have e1:cls N.k=6:=by
  unfold cls
  rw[if_neg (by omega),if_neg (by omega),if_neg (by omega),if_neg (by omega),if_neg (by omega),if_neg (by omega)]
 have e5:rkB N.k (kinds ns N.ks)=false:=by unfold rkB;rw[hr]
 unfold coreL kfB
 rw[e3,e1,if_neg (by decide),e5,Bool.and_false,Bool.and_false]
theorem core_any (ns:List Nd) (N:Nd) (h2:N.nm.length<=200):coreL ns N=seB ns N:=by
 by_cases h:N.k∈knownL
 ·have h':=h
  simp only[knownL,List.mem_cons,List.not_mem_nil,or_false]at h'
  rcases h' with h|h|h|h|h|h|h|h|h|h|h|h|h|h|h|h|h|h|h|h|h|h|h|h|h|h|h|h|h|h|h|h|h|h|h|h
  ·exact core1 ns N h h2
  ·exact core2 ns N h h2
  ·exact core3 ns N h h2
  ·exact core4 ns N h h2
  ·exact core6 ns N h h2
  ·exact core7 ns N h h2
  ·exact core8 ns N h h2
  ·exact core9 ns N h h2
  ·exact core10 ns N h h2
  ·exact core11 ns N h h2
  ·exact core12 ns N h h2
  ·exact core13 ns N h h2
  ·exact core14 ns N h h2
  ·exact core15 ns N h h2
  ·exact core16 ns N h h2
  ·exact core20 ns N h h2
  ·exact core21 ns N h h2
  ·exact core22 ns N h h2
  ·exact core23 ns N h h2
  ·exact core24 ns N h h2
  ·exact core25 ns N h h2
  ·exact core26 ns N h h2
  ·exact core27 ns N h h2
  ·exact core28 ns N h h2
  ·exact core29 ns N h h2
  ·exact core30 ns N h h2
  ·exact core31 ns N h h2
  ·exact core32 ns N h h2
  ·exact core33 ns N h h2
  ·exact core34 ns N h h2
  ·exact core35 ns N h h2
  ·exact core36 ns N h h2
  ·exact core37 ns N h h2
  ·exact core40 ns N h h2
  ·exact core41 ns N h h2
  ·exact core42 ns N h h2
 ·by_cases h5:N.k=5
  ·exact core5 ns N h5 h2
  ·exact coreNo ns N h h5
theorem many_names (ns:List Nd) (N:Nd) (h2:200<N.nm.length):seB ns N=false:=by
 have hb:∀a b c,bareB N a b c false=false:=fun a b c=>by unfold bareB;rw[decide_eq_false (by omega)];simp
 have hn:∀l m,m<=200->namedB N l m=false:=fun l m hm=>by unfold namedB;rw[decide_eq_false (by omega)];rfl
 have n1:=hn 1 1 (by omega)
 have n2:=hn 1 2 (by omega)
 have n3:=hn 1 200 (by omega)
 have n4:=hn 0 200 (by omega)
 unfold seB
 split
 ·unfold stB
  simp only[hb,n1,n2,n3,Bool.false_and,Bool.and_false]
  simp
 ·unfold exprB
  simp only[hb,n4,Bool.false_and,Bool.and_false]
  simp
theorem addB_eq (ns:List Nd) (i:Nat) (N:Nd):addB ns i N=nodeB ns i N:=by
 unfold addB nodeB
 by_cases h2:N.nm.length<=200
 ·have hf:fldI N=fldB N:=by
   unfold fldI fldB
   by_cases h:0<=N.f/\N.f<=N.t/\0<=N.l/\N.ks.length<=200
   ·rw[decide_eq_true h,decide_eq_true ⟨h.1,h.2.1,h.2.2.1,h.2.2.2,h2⟩]
   ·rw[decide_eq_false h,decide_eq_false (fun g=>h ⟨g.1,g.2.1,g.2.2.1,g.2.2.2.1⟩)]
  have hc:=core_any ns N h2
  unfold coreL at hc
  rw[hf,<-hc]
  generalize sameB (rowN N (cls N.k)) N=a
  generalize klB N.ks i N.ks.length 0=b
  cases a<;>cases b<;>rfl
 ·have hf:fldI N=false:=by unfold fldI;exact decide_eq_false (fun g=>h2 g.2.2.2.2)
  rw[hf,many_names ns N (by omega),Bool.false_and,Bool.and_false,Bool.and_false]
end Go.Proofs.YtelfejiiabbpfaaGreatDoor
