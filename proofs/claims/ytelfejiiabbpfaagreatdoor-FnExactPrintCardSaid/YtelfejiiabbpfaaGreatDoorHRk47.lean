import Derived.Test.YtelfejiiabbpfaaGreatDoorHRk28
set_option linter.unusedVariables false
set_option maxRecDepth 100000
set_option maxHeartbeats 12800000
namespace Go.Proofs.YtelfejiiabbpfaaGreatDoor
open Go.RowKit
def EnW (w0:World) (vt:Value) (t:Int) (E:Int->ByteArray) (X:Nd):Prop:=
 (X.k=41/\∃ka kb:Nat,X.ks[0]?=some (ka:Int)/\X.ks[1]?=some (kb:Int)/\Wr w0 vt t 24 #[pW w0,.int .i64 (ka:Int),.int .i64 0] (E ka)/\Wr w0 vt t 24 #[pW w0,.int .i64 (kb:Int),.int .i64 0] (E kb))
  \/(X.k≠41/\∃ka:Nat,X.ks[0]?=some (ka:Int)/\Wr w0 vt t 24 #[pW w0,.int .i64 (ka:Int),.int .i64 0] (E ka))
theorem table_any (w0:World) (p1:Addr) (n c1:Nat) (ns:List Nd) (hNs:NdsAt w0 (.slice (some p1) n c1) ns) (hcap:KCap w0 p1 ns) (hnn:ns.length=n) (hln:n<=1048576) (E:Int->ByteArray) (tab:Int) (N:Nd) (vn vk:Value) (hks:IntsAt w0 vk N.ks) (hl2:N.ks.length<=1048576)
  (hA:∀z∈N.ks,∃k:Nat,z=(k:Int)/\k<ns.length/\EnW w0 (.slice (some p1) n c1) tab E (nodeI ns k)):Wr w0 (.slice (some p1) n c1) tab 80 #[pW w0,vNd N vn vk] (tblB ns E N):=by
 intro T w h hl
 obtain⟨a1,ca,rfl⟩:=hks.form
 obtain⟨L,hL⟩:∃L,N.ks.length=L:=⟨_,rfl⟩
 rw[hL]at hks hl2⊢
 have hlw:=h.lt
 have B0:Hid (Bx w0 (.slice (some p1) n c1) tab w N vn (.slice a1 L ca) T (w.alloc (boxN N vn (.slice a1 L ca)))):=Bx.new h N _ _
 obtain⟨l,hl0⟩:∃l,(N.ks.map fun k=>entB ns E (nodeI ns k))=l:=⟨_,rfl⟩
 have hll:l.length=L:=by rw[<-hl0,List.length_map];exact hL
 have hX:tblB ns E N=⟨#[123]⟩++sepB l++⟨#[125]⟩:=by unfold tblB;rw[hl0]
 rw[hX]at hl⊢
 have hsz:T.size+(1+(sepB l).size+1)<=140737488355328:=by rw[ByteArray.size_append,ByteArray.size_append]at hl;exact hl
 have HN:Hid (NdsAt w0 (.slice (some p1) n c1) ns/\KCap w0 p1 ns):=⟨hNs,hcap⟩
 have HK:Hid (IntsAt w0 (.slice a1 L ca) N.ks/\(∀z∈N.ks,∃k:Nat,z=(k:Int)/\k<ns.length/\EnW w0 (.slice (some p1) n c1) tab E (nodeI ns k))/\N.ks.length=L/\(N.ks.map fun k=>entB ns E (nodeI ns k))=l/\l.length=L/\T.size+(1+(sepB l).size+1)<=140737488355328/\ns.length=n):=⟨hks,hA,hL,hl0,hll,hsz,hnn⟩
 clear h hNs hcap hks hA hL hl0 hll hX hl hsz
 unfold vNd
 go_enter Tryz.func80,Tryz.ntmps80
 go_wp2_with (go_at_call 12;fail)
 refine(say_any w0 _ T ⟨#[123]⟩ tab _ B0.out.pr (by have:=HK.out.2.2.2.2.2.1;show T.size+1<=_;omega)).mono ?_
 rintro e w2 ⟨rfl,q2,k2⟩
 have B1:Hid (Bx w0 (.slice (some p1) n c1) tab w N vn (.slice a1 L ca) (T++⟨#[123]⟩) w2):=B0.out.next hlw q2 k2
 have b8:=B1.out.cells.2.2.2.2.2.2.2.2
 clear q2 k2
 go_wp2_with fail
 go_loopw [12] (fun v wr=>∃k:Nat,k<=L/\v= .int .i64 k/\Hid (Pr w0 (.slice (some p1) n c1) (T++⟨#[123]⟩++sepB (l.take k)) tab wr/\Kq w0.heap.size w wr)) (fun v _=>L-(intOf v).toNat)
 case atStart=>exact⟨0,by omega,rfl,by rw[show T++⟨#[123]⟩++sepB (l.take 0)=T++⟨#[123]⟩ from ByteArray.append_empty];exact B1.out.pr,B1.out.kq⟩
 case round=>
  clear b8
  obtain⟨k,hk,rfl,HS⟩:=hrel
  by_cases hkl:k<L
  ·obtain⟨z,hsk⟩:=some_at HK.out.2.2.1 hkl
   obtain⟨q,rfl,hq1,hq2⟩:=HK.out.2.1 z (List.mem_of_getElem? hsk)
   obtain⟨a',rfl,cs⟩:=(HK.out.1.below HS.out.1.bel).get hsk
   have hkL:(k:Int)<(L:Int):=by omega
   have hk0:(0:Int)<=(k:Int):=by omega
   have hsl:l[k]?=some (entB ns E (nodeI ns q)):=by rw[<-HK.out.2.2.2.1,List.getElem?_map,hsk];rfl
   have h1:=sepB_take l k _ hsl
   have h2:=sepB_le l (k+1)
   have hqn:(q:Int)<(n:Int):=by have:=HK.out.2.2.2.2.2.2;omega
   have hq0:(0:Int)<=(q:Int):=by omega
   have hz2:(T++⟨#[123]⟩++sepB (l.take (k+1))).size<=140737488355328:=by
    have b:=HK.out.2.2.2.2.2.1
    rw[ByteArray.size_append,ByteArray.size_append]
    show T.size+1+_<=_
    omega
   obtain⟨X,hX⟩:∃X,nodeI ns q=X:=⟨_,rfl⟩
   rw[hX]at h1 hq2
   have HQ:Hid (EnW w0 (.slice (some p1) n c1) tab E X):=hq2
   have HSK:Hid (N.ks[k]?=some (q:Int)):=hsk
   by_cases h0:k=0
   ·have HE:Hid (T++⟨#[123]⟩++sepB (l.take (k+1))=(T++⟨#[123]⟩++sepB (l.take k))++entB ns E X/\((T++⟨#[123]⟩++sepB (l.take k))++entB ns E X).size<=140737488355328):=by
     have e:T++⟨#[123]⟩++sepB (l.take (k+1))=(T++⟨#[123]⟩++sepB (l.take k))++entB ns E X:=by rw[h1,if_pos h0];simp only[ByteArray.append_assoc]
     exact⟨e,by rw[<-e];exact hz2⟩
    have cs0:wr.cell? a'=some (.int .i64 (q:Int)):=by subst h0;simpa [Addr.add] using cs
    have hkz:¬(0:Int)<(k:Int):=by omega
    obtain⟨Tq,hTq⟩:∃Tq,T++⟨#[123]⟩++sepB (l.take k)=Tq:=⟨_,rfl⟩
    rw[hTq]at HE HS
    subst h0
    clear h1 h2 hsk hsl hq2 hz2 cs hTq
    by_cases hk41:X.k=41
    ·have hc:∃ka kb:Nat,X.ks[0]?=some (ka:Int)/\X.ks[1]?=some (kb:Int)/\Wr w0 (.slice (some p1) n c1) tab 24 #[pW w0,.int .i64 (ka:Int),.int .i64 0] (E ka)/\Wr w0 (.slice (some p1) n c1) tab 24 #[pW w0,.int .i64 (kb:Int),.int .i64 0] (E kb):=by
      rcases HQ.out with⟨_,h⟩|⟨h,_⟩
      ·exact h
      ·exact absurd hk41 h
     obtain⟨ka,kb,hx0,hx1,hE0,hE1⟩:=hc
     obtain⟨an,M,cn,ak,L2,ck,R⟩:=nd_in HN.out.1 HN.out.2 hq1
     rw[hX]at R
     obtain⟨pk,rfl⟩:=R.ks.ptr (by have:=kid_lt hx0;omega)
     have hL2:=R.hL
     have hj0:(0:Int)<(L2:Int):=by have:=kid_lt hx0;omega
     have hj1:(1:Int)<(L2:Int):=by have:=kid_lt hx1;omega
     have hlt:=HS.out.1.lt
     obtain⟨z0,z2,zf⟩:=HS.out.1.cells
     obtain⟨m0,m1,m2,m3,m4,m5,m6,m7,m8,_,_⟩:=R.rd wr HS.out.1.bel
     have B0:Hid (Bx w0 (.slice (some p1) n c1) tab wr X (.slice an M cn) (.slice (some pk) L2 ck) (Tq) (wr.alloc (boxN X (.slice an M cn) (.slice (some pk) L2 ck)))):=Bx.new HS.out.1 X _ _
     have cel:Hid (∀(T:ByteArray) (W:World),Bx w0 (.slice (some p1) n c1) tab wr X (.slice an M cn) (.slice (some pk) L2 ck) T W->W.cell? ⟨wr.heap.size,0,none⟩=some (.int .i64 X.k)/\W.cell? ⟨wr.heap.size,6,none⟩=some (.string X.x)/\W.cell? ⟨wr.heap.size,8,none⟩=some (.slice (some pk) L2 ck)/\W.cell? pk=some (.int .i64 (ka:Int))/\W.cell? ⟨pk.block,pk.off+1,none⟩=some (.int .i64 (kb:Int))):=fun T W B=>⟨B.cells.1,B.cells.2.2.2.2.2.2.1,B.cells.2.2.2.2.2.2.2.2,B.kid0 R.ks hx0,B.kid R.ks hx1 (by decide)⟩
     have S0:Hid (Wr w0 (.slice (some p1) n c1) tab 12 _ (⟨#[91]⟩)):=fun T' W' hp hl=>say_any w0 _ T' (⟨#[91]⟩) _ W' hp hl
     have S1:Hid (Wr w0 (.slice (some p1) n c1) tab 24 _ (E (ka:Int))):=hE0
     have S2:Hid (Wr w0 (.slice (some p1) n c1) tab 12 _ (⟨#[93,32,61,32]⟩)):=fun T' W' hp hl=>say_any w0 _ T' (⟨#[93,32,61,32]⟩) _ W' hp hl
     have S3:Hid (Wr w0 (.slice (some p1) n c1) tab 24 _ (E (kb:Int))):=hE1
     have hent:entB ns E X=⟨#[91]⟩++E (ka:Int)++⟨#[93,32,61,32]⟩++E (kb:Int):=by unfold entB;rw[if_pos hk41,show kidI X 0=(ka:Int) by unfold kidI;rw[List.getD,hx0];rfl,show kidI X 1=(kb:Int) by unfold kidI;rw[List.getD,hx1];rfl]
     have hz:=HE.out.2
     rw[hent]at hz
     have KG:Hid (T++⟨#[123]⟩++sepB (l.take (0+1))=(Tq)++entB ns E X/\entB ns E X=⟨#[91]⟩++E (ka:Int)++⟨#[93,32,61,32]⟩++E (kb:Int)):=⟨HE.out.1,hent⟩
     simp only[ByteArray.size_append]at hz
     have g41:(X.k==41)=true:=by simpa using hk41
     have HR:Hid (NdR w0 p1 q X an M cn (some pk) L2 ck):=R
     have HZ:Hid (X.ks[0]?=some (ka:Int)):=hx0
     clear R hX hent hk41 z2 zf hx0 hL2 HE hE0 hq1 hx1 hE1
     obtain⟨x0,x6,x8,ya,yb⟩:=cel.out _ _ B0.out
     go_wp2_with (go_at_call 12;fail)
     refine(S0.out _ _ B0.out.pr (by(try simp only[ByteArray.size_append]);omega)).mono ?_
     rintro e yw0 ⟨rfl,qq,kk⟩
     have B1:Hid (Bx w0 (.slice (some p1) n c1) tab wr X (.slice an M cn) (.slice (some pk) L2 ck) (Tq++(⟨#[91]⟩)) yw0):=B0.out.next hlt qq kk
     obtain⟨x0,x6,x8,ya,yb⟩:=cel.out _ _ B1.out
     clear qq kk m0 m1 m2 m3 m4 m5 m6 m7 m8 z0
     go_wp2_with (go_at_call 24;fail)
     refine(S1.out _ _ B1.out.pr (by(try simp only[ByteArray.size_append]);omega)).mono ?_
     rintro e yw1 ⟨rfl,qq,kk⟩
     have B2:Hid (Bx w0 (.slice (some p1) n c1) tab wr X (.slice an M cn) (.slice (some pk) L2 ck) (Tq++(⟨#[91]⟩)++(E (ka:Int))) yw1):=B1.out.next hlt qq kk
     obtain⟨x0,x6,x8,ya,yb⟩:=cel.out _ _ B2.out
     clear qq kk
     go_wp2_with (go_at_call 12;fail)
     refine(S2.out _ _ B2.out.pr (by(try simp only[ByteArray.size_append]);omega)).mono ?_
     rintro e yw2 ⟨rfl,qq,kk⟩
     have B3:Hid (Bx w0 (.slice (some p1) n c1) tab wr X (.slice an M cn) (.slice (some pk) L2 ck) (Tq++(⟨#[91]⟩)++(E (ka:Int))++(⟨#[93,32,61,32]⟩)) yw2):=B2.out.next hlt qq kk
     obtain⟨x0,x6,x8,ya,yb⟩:=cel.out _ _ B3.out
     clear qq kk
     go_wp2_with (go_at_call 24;fail)
     refine(S3.out _ _ B3.out.pr (by(try simp only[ByteArray.size_append]);omega)).mono ?_
     rintro e yw3 ⟨rfl,qq,kk⟩
     have B4:Hid (Bx w0 (.slice (some p1) n c1) tab wr X (.slice an M cn) (.slice (some pk) L2 ck) (Tq++(⟨#[91]⟩)++(E (ka:Int))++(⟨#[93,32,61,32]⟩)++(E (kb:Int))) yw3):=B3.out.next hlt qq kk
     obtain⟨x0,x6,x8,ya,yb⟩:=cel.out _ _ B4.out
     clear qq kk
     go_wp2_with fail
     refine⟨⟨0+1,by omega,by go_num,?_,HS.out.2.trans B4.out.kq⟩,by simp[intOf];omega⟩
     rw[KG.out.1,KG.out.2]
     have:=B4.out.pr
     simpa only[ByteArray.append_assoc] using this
    ·have hc:∃ka:Nat,X.ks[0]?=some (ka:Int)/\Wr w0 (.slice (some p1) n c1) tab 24 #[pW w0,.int .i64 (ka:Int),.int .i64 0] (E ka):=by
      rcases HQ.out with⟨h,_⟩|⟨_,h⟩
      ·exact absurd h hk41
      ·exact h
     by_cases hk42:X.k=42
     ·skip
      obtain⟨ka,hx0,hE0⟩:=hc
      obtain⟨an,M,cn,ak,L2,ck,R⟩:=nd_in HN.out.1 HN.out.2 hq1
      rw[hX]at R
      obtain⟨pk,rfl⟩:=R.ks.ptr (by have:=kid_lt hx0;omega)
      have hL2:=R.hL
      have hj0:(0:Int)<(L2:Int):=by have:=kid_lt hx0;omega
      have hlt:=HS.out.1.lt
      obtain⟨z0,z2,zf⟩:=HS.out.1.cells
      obtain⟨m0,m1,m2,m3,m4,m5,m6,m7,m8,_,_⟩:=R.rd wr HS.out.1.bel
      have B0:Hid (Bx w0 (.slice (some p1) n c1) tab wr X (.slice an M cn) (.slice (some pk) L2 ck) (Tq) (wr.alloc (boxN X (.slice an M cn) (.slice (some pk) L2 ck)))):=Bx.new HS.out.1 X _ _
      have cel:Hid (∀(T:ByteArray) (W:World),Bx w0 (.slice (some p1) n c1) tab wr X (.slice an M cn) (.slice (some pk) L2 ck) T W->W.cell? ⟨wr.heap.size,0,none⟩=some (.int .i64 X.k)/\W.cell? ⟨wr.heap.size,6,none⟩=some (.string X.x)/\W.cell? ⟨wr.heap.size,8,none⟩=some (.slice (some pk) L2 ck)/\W.cell? pk=some (.int .i64 (ka:Int))):=fun T W B=>⟨B.cells.1,B.cells.2.2.2.2.2.2.1,B.cells.2.2.2.2.2.2.2.2,B.kid0 R.ks hx0⟩
      have S0:Hid (Wr w0 (.slice (some p1) n c1) tab 12 _ (⟨#[46]⟩++X.x++⟨#[32,61,32]⟩)):=fun T' W' hp hl=>say_any w0 _ T' (⟨#[46]⟩++X.x++⟨#[32,61,32]⟩) _ W' hp hl
      have S1:Hid (Wr w0 (.slice (some p1) n c1) tab 24 _ (E (ka:Int))):=hE0
      have hent:entB ns E X=(⟨#[46]⟩++X.x++⟨#[32,61,32]⟩)++E (ka:Int):=by unfold entB;rw[if_neg hk41,if_pos hk42,show kidI X 0=(ka:Int) by unfold kidI;rw[List.getD,hx0];rfl]
      have hz:=HE.out.2
      rw[hent]at hz
      have KG:Hid (T++⟨#[123]⟩++sepB (l.take (0+1))=(Tq)++entB ns E X/\entB ns E X=(⟨#[46]⟩++X.x++⟨#[32,61,32]⟩)++E (ka:Int)):=⟨HE.out.1,hent⟩
      simp only[ByteArray.size_append]at hz
      have g41:(X.k==41)=false:=by simpa using hk41
      have g42:(X.k==42)=true:=by simpa using hk42
      have HR:Hid (NdR w0 p1 q X an M cn (some pk) L2 ck):=R
      have HZ:Hid (X.ks[0]?=some (ka:Int)):=hx0
      clear R hX hent hk41 z2 zf hx0 hL2 HE hE0 hq1 hk42
      obtain⟨x0,x6,x8,ya⟩:=cel.out _ _ B0.out
      go_wp2_with (go_at_call 12;fail)
      refine(S0.out _ _ B0.out.pr (by(try simp only[ByteArray.size_append]);omega)).mono ?_
      rintro e yw0 ⟨rfl,qq,kk⟩
      have B1:Hid (Bx w0 (.slice (some p1) n c1) tab wr X (.slice an M cn) (.slice (some pk) L2 ck) (Tq++(⟨#[46]⟩++X.x++⟨#[32,61,32]⟩)) yw0):=B0.out.next hlt qq kk
      obtain⟨x0,x6,x8,ya⟩:=cel.out _ _ B1.out
      clear qq kk m0 m1 m2 m3 m4 m5 m6 m7 m8 z0
      go_wp2_with (go_at_call 24;fail)
      refine(S1.out _ _ B1.out.pr (by(try simp only[ByteArray.size_append]);omega)).mono ?_
      rintro e yw1 ⟨rfl,qq,kk⟩
      have B2:Hid (Bx w0 (.slice (some p1) n c1) tab wr X (.slice an M cn) (.slice (some pk) L2 ck) (Tq++(⟨#[46]⟩++X.x++⟨#[32,61,32]⟩)++(E (ka:Int))) yw1):=B1.out.next hlt qq kk
      obtain⟨x0,x6,x8,ya⟩:=cel.out _ _ B2.out
      clear qq kk
      go_wp2_with fail
      refine⟨⟨0+1,by omega,by go_num,?_,HS.out.2.trans B2.out.kq⟩,by simp[intOf];omega⟩
      rw[KG.out.1,KG.out.2]
      have:=B2.out.pr
      simpa only[ByteArray.append_assoc] using this
     ·skip
      obtain⟨ka,hx0,hE0⟩:=hc
      obtain⟨an,M,cn,ak,L2,ck,R⟩:=nd_in HN.out.1 HN.out.2 hq1
      rw[hX]at R
      obtain⟨pk,rfl⟩:=R.ks.ptr (by have:=kid_lt hx0;omega)
      have hL2:=R.hL
      have hj0:(0:Int)<(L2:Int):=by have:=kid_lt hx0;omega
      have hlt:=HS.out.1.lt
      obtain⟨z0,z2,zf⟩:=HS.out.1.cells
      obtain⟨m0,m1,m2,m3,m4,m5,m6,m7,m8,_,_⟩:=R.rd wr HS.out.1.bel
      have B0:Hid (Bx w0 (.slice (some p1) n c1) tab wr X (.slice an M cn) (.slice (some pk) L2 ck) (Tq) (wr.alloc (boxN X (.slice an M cn) (.slice (some pk) L2 ck)))):=Bx.new HS.out.1 X _ _
      have cel:Hid (∀(T:ByteArray) (W:World),Bx w0 (.slice (some p1) n c1) tab wr X (.slice an M cn) (.slice (some pk) L2 ck) T W->W.cell? ⟨wr.heap.size,0,none⟩=some (.int .i64 X.k)/\W.cell? ⟨wr.heap.size,6,none⟩=some (.string X.x)/\W.cell? ⟨wr.heap.size,8,none⟩=some (.slice (some pk) L2 ck)/\W.cell? pk=some (.int .i64 (ka:Int))):=fun T W B=>⟨B.cells.1,B.cells.2.2.2.2.2.2.1,B.cells.2.2.2.2.2.2.2.2,B.kid0 R.ks hx0⟩
      have S0:Hid (Wr w0 (.slice (some p1) n c1) tab 24 _ (E (ka:Int))):=hE0
      have hent:entB ns E X=E (ka:Int):=by unfold entB;rw[if_neg hk41,if_neg hk42,show kidI X 0=(ka:Int) by unfold kidI;rw[List.getD,hx0];rfl]
      have hz:=HE.out.2
      rw[hent]at hz
      have KG:Hid (T++⟨#[123]⟩++sepB (l.take (0+1))=(Tq)++entB ns E X/\entB ns E X=E (ka:Int)):=⟨HE.out.1,hent⟩
      simp only[ByteArray.size_append]at hz
      have g41:(X.k==41)=false:=by simpa using hk41
      have g42:(X.k==42)=false:=by simpa using hk42
      have HR:Hid (NdR w0 p1 q X an M cn (some pk) L2 ck):=R
      have HZ:Hid (X.ks[0]?=some (ka:Int)):=hx0
      clear R hX hent hk41 z2 zf hx0 hL2 HE hE0 hq1 hk42
      obtain⟨x0,x6,x8,ya⟩:=cel.out _ _ B0.out
      go_wp2_with (go_at_call 24;fail)
      refine(S0.out _ _ B0.out.pr (by(try simp only[ByteArray.size_append]);omega)).mono ?_
      rintro e yw0 ⟨rfl,qq,kk⟩
      have B1:Hid (Bx w0 (.slice (some p1) n c1) tab wr X (.slice an M cn) (.slice (some pk) L2 ck) (Tq++(E (ka:Int))) yw0):=B0.out.next hlt qq kk
      obtain⟨x0,x6,x8,ya⟩:=cel.out _ _ B1.out
      clear qq kk m0 m1 m2 m3 m4 m5 m6 m7 m8 z0
      go_wp2_with fail
      refine⟨⟨0+1,by omega,by go_num,?_,HS.out.2.trans B1.out.kq⟩,by simp[intOf];omega⟩
      rw[KG.out.1,KG.out.2]
      have:=B1.out.pr
      simpa only[ByteArray.append_assoc] using this
   ·have HE:Hid (T++⟨#[123]⟩++sepB (l.take (k+1))=(T++⟨#[123]⟩++sepB (l.take k)++commaB)++entB ns E X/\((T++⟨#[123]⟩++sepB (l.take k)++commaB)++entB ns E X).size<=140737488355328):=by
     have e:T++⟨#[123]⟩++sepB (l.take (k+1))=(T++⟨#[123]⟩++sepB (l.take k)++commaB)++entB ns E X:=by rw[h1,if_neg h0];simp only[ByteArray.append_assoc]
     exact⟨e,by rw[<-e];exact hz2⟩
    have hkp:(0:Int)<(k:Int):=by omega
    clear h1 h2 hsk hsl hq2 hz2
    obtain⟨Tq,hTq⟩:∃Tq,T++⟨#[123]⟩++sepB (l.take k)=Tq:=⟨_,rfl⟩
    rw[hTq]at HE HS
    clear hTq
    go_wp2_with (go_at_call 12;fail)
    refine(say_any w0 _ Tq commaB tab _ HS.out.1 (by have:=HE.out.2;simp only[ByteArray.size_append]at this;omega)).mono ?_
    rintro e w3 ⟨rfl,q3,k3⟩
    have HW:Hid (Pr w0 (.slice (some p1) n c1) (Tq++commaB) tab w3/\Kq w0.heap.size w w3):=⟨q3,HS.out.2.trans k3⟩
    have cs3:w3.cell? (a'.add k)=some (.int .i64 (q:Int)):=by
     obtain⟨a2,e2,c3⟩:=(HK.out.1.below q3.bel).get (show N.ks[k]?=some (q:Int) from HSK.out)
     cases e2
     exact c3
    clear q3 k3 cs h0 HS
    by_cases hk41:X.k=41
    ·have hc:∃ka kb:Nat,X.ks[0]?=some (ka:Int)/\X.ks[1]?=some (kb:Int)/\Wr w0 (.slice (some p1) n c1) tab 24 #[pW w0,.int .i64 (ka:Int),.int .i64 0] (E ka)/\Wr w0 (.slice (some p1) n c1) tab 24 #[pW w0,.int .i64 (kb:Int),.int .i64 0] (E kb):=by
      rcases HQ.out with⟨_,h⟩|⟨h,_⟩
      ·exact h
      ·exact absurd hk41 h
     obtain⟨ka,kb,hx0,hx1,hE0,hE1⟩:=hc
     obtain⟨an,M,cn,ak,L2,ck,R⟩:=nd_in HN.out.1 HN.out.2 hq1
     rw[hX]at R
     obtain⟨pk,rfl⟩:=R.ks.ptr (by have:=kid_lt hx0;omega)
     have hL2:=R.hL
     have hj0:(0:Int)<(L2:Int):=by have:=kid_lt hx0;omega
     have hj1:(1:Int)<(L2:Int):=by have:=kid_lt hx1;omega
     have hlt:=HW.out.1.lt
     obtain⟨z0,z2,zf⟩:=HW.out.1.cells
     obtain⟨m0,m1,m2,m3,m4,m5,m6,m7,m8,_,_⟩:=R.rd w3 HW.out.1.bel
     have B0:Hid (Bx w0 (.slice (some p1) n c1) tab w3 X (.slice an M cn) (.slice (some pk) L2 ck) (Tq++commaB) (w3.alloc (boxN X (.slice an M cn) (.slice (some pk) L2 ck)))):=Bx.new HW.out.1 X _ _
     have cel:Hid (∀(T:ByteArray) (W:World),Bx w0 (.slice (some p1) n c1) tab w3 X (.slice an M cn) (.slice (some pk) L2 ck) T W->W.cell? ⟨w3.heap.size,0,none⟩=some (.int .i64 X.k)/\W.cell? ⟨w3.heap.size,6,none⟩=some (.string X.x)/\W.cell? ⟨w3.heap.size,8,none⟩=some (.slice (some pk) L2 ck)/\W.cell? pk=some (.int .i64 (ka:Int))/\W.cell? ⟨pk.block,pk.off+1,none⟩=some (.int .i64 (kb:Int))):=fun T W B=>⟨B.cells.1,B.cells.2.2.2.2.2.2.1,B.cells.2.2.2.2.2.2.2.2,B.kid0 R.ks hx0,B.kid R.ks hx1 (by decide)⟩
     have S0:Hid (Wr w0 (.slice (some p1) n c1) tab 12 _ (⟨#[91]⟩)):=fun T' W' hp hl=>say_any w0 _ T' (⟨#[91]⟩) _ W' hp hl
     have S1:Hid (Wr w0 (.slice (some p1) n c1) tab 24 _ (E (ka:Int))):=hE0
     have S2:Hid (Wr w0 (.slice (some p1) n c1) tab 12 _ (⟨#[93,32,61,32]⟩)):=fun T' W' hp hl=>say_any w0 _ T' (⟨#[93,32,61,32]⟩) _ W' hp hl
     have S3:Hid (Wr w0 (.slice (some p1) n c1) tab 24 _ (E (kb:Int))):=hE1
     have hent:entB ns E X=⟨#[91]⟩++E (ka:Int)++⟨#[93,32,61,32]⟩++E (kb:Int):=by unfold entB;rw[if_pos hk41,show kidI X 0=(ka:Int) by unfold kidI;rw[List.getD,hx0];rfl,show kidI X 1=(kb:Int) by unfold kidI;rw[List.getD,hx1];rfl]
     have hz:=HE.out.2
     rw[hent]at hz
     have KG:Hid (T++⟨#[123]⟩++sepB (l.take (k+1))=(Tq++commaB)++entB ns E X/\entB ns E X=⟨#[91]⟩++E (ka:Int)++⟨#[93,32,61,32]⟩++E (kb:Int)):=⟨HE.out.1,hent⟩
     simp only[ByteArray.size_append]at hz
     have g41:(X.k==41)=true:=by simpa using hk41
     have HR:Hid (NdR w0 p1 q X an M cn (some pk) L2 ck):=R
     have HZ:Hid (X.ks[0]?=some (ka:Int)):=hx0
     clear R hX hent hk41 z2 zf hx0 hL2 HE hE0 hq1 hx1 hE1
     obtain⟨x0,x6,x8,ya,yb⟩:=cel.out _ _ B0.out
     go_wp2_with (go_at_call 12;fail)
     refine(S0.out _ _ B0.out.pr (by(try simp only[ByteArray.size_append]);omega)).mono ?_
     rintro e yw0 ⟨rfl,qq,kk⟩
     have B1:Hid (Bx w0 (.slice (some p1) n c1) tab w3 X (.slice an M cn) (.slice (some pk) L2 ck) (Tq++commaB++(⟨#[91]⟩)) yw0):=B0.out.next hlt qq kk
     obtain⟨x0,x6,x8,ya,yb⟩:=cel.out _ _ B1.out
     clear qq kk m0 m1 m2 m3 m4 m5 m6 m7 m8 z0
     go_wp2_with (go_at_call 24;fail)
     refine(S1.out _ _ B1.out.pr (by(try simp only[ByteArray.size_append]);omega)).mono ?_
     rintro e yw1 ⟨rfl,qq,kk⟩
     have B2:Hid (Bx w0 (.slice (some p1) n c1) tab w3 X (.slice an M cn) (.slice (some pk) L2 ck) (Tq++commaB++(⟨#[91]⟩)++(E (ka:Int))) yw1):=B1.out.next hlt qq kk
     obtain⟨x0,x6,x8,ya,yb⟩:=cel.out _ _ B2.out
     clear qq kk
     go_wp2_with (go_at_call 12;fail)
     refine(S2.out _ _ B2.out.pr (by(try simp only[ByteArray.size_append]);omega)).mono ?_
     rintro e yw2 ⟨rfl,qq,kk⟩
     have B3:Hid (Bx w0 (.slice (some p1) n c1) tab w3 X (.slice an M cn) (.slice (some pk) L2 ck) (Tq++commaB++(⟨#[91]⟩)++(E (ka:Int))++(⟨#[93,32,61,32]⟩)) yw2):=B2.out.next hlt qq kk
     obtain⟨x0,x6,x8,ya,yb⟩:=cel.out _ _ B3.out
     clear qq kk
     go_wp2_with (go_at_call 24;fail)
     refine(S3.out _ _ B3.out.pr (by(try simp only[ByteArray.size_append]);omega)).mono ?_
     rintro e yw3 ⟨rfl,qq,kk⟩
     have B4:Hid (Bx w0 (.slice (some p1) n c1) tab w3 X (.slice an M cn) (.slice (some pk) L2 ck) (Tq++commaB++(⟨#[91]⟩)++(E (ka:Int))++(⟨#[93,32,61,32]⟩)++(E (kb:Int))) yw3):=B3.out.next hlt qq kk
     obtain⟨x0,x6,x8,ya,yb⟩:=cel.out _ _ B4.out
     clear qq kk
     go_wp2_with fail
     refine⟨⟨k+1,by omega,by go_num,?_,HW.out.2.trans B4.out.kq⟩,by simp[intOf];omega⟩
     rw[KG.out.1,KG.out.2]
     have:=B4.out.pr
     simpa only[ByteArray.append_assoc] using this
    ·have hc:∃ka:Nat,X.ks[0]?=some (ka:Int)/\Wr w0 (.slice (some p1) n c1) tab 24 #[pW w0,.int .i64 (ka:Int),.int .i64 0] (E ka):=by
      rcases HQ.out with⟨h,_⟩|⟨_,h⟩
      ·exact absurd h hk41
      ·exact h
     by_cases hk42:X.k=42
     ·skip
      obtain⟨ka,hx0,hE0⟩:=hc
      obtain⟨an,M,cn,ak,L2,ck,R⟩:=nd_in HN.out.1 HN.out.2 hq1
      rw[hX]at R
      obtain⟨pk,rfl⟩:=R.ks.ptr (by have:=kid_lt hx0;omega)
      have hL2:=R.hL
      have hj0:(0:Int)<(L2:Int):=by have:=kid_lt hx0;omega
      have hlt:=HW.out.1.lt
      obtain⟨z0,z2,zf⟩:=HW.out.1.cells
      obtain⟨m0,m1,m2,m3,m4,m5,m6,m7,m8,_,_⟩:=R.rd w3 HW.out.1.bel
      have B0:Hid (Bx w0 (.slice (some p1) n c1) tab w3 X (.slice an M cn) (.slice (some pk) L2 ck) (Tq++commaB) (w3.alloc (boxN X (.slice an M cn) (.slice (some pk) L2 ck)))):=Bx.new HW.out.1 X _ _
      have cel:Hid (∀(T:ByteArray) (W:World),Bx w0 (.slice (some p1) n c1) tab w3 X (.slice an M cn) (.slice (some pk) L2 ck) T W->W.cell? ⟨w3.heap.size,0,none⟩=some (.int .i64 X.k)/\W.cell? ⟨w3.heap.size,6,none⟩=some (.string X.x)/\W.cell? ⟨w3.heap.size,8,none⟩=some (.slice (some pk) L2 ck)/\W.cell? pk=some (.int .i64 (ka:Int))):=fun T W B=>⟨B.cells.1,B.cells.2.2.2.2.2.2.1,B.cells.2.2.2.2.2.2.2.2,B.kid0 R.ks hx0⟩
      have S0:Hid (Wr w0 (.slice (some p1) n c1) tab 12 _ (⟨#[46]⟩++X.x++⟨#[32,61,32]⟩)):=fun T' W' hp hl=>say_any w0 _ T' (⟨#[46]⟩++X.x++⟨#[32,61,32]⟩) _ W' hp hl
      have S1:Hid (Wr w0 (.slice (some p1) n c1) tab 24 _ (E (ka:Int))):=hE0
      have hent:entB ns E X=(⟨#[46]⟩++X.x++⟨#[32,61,32]⟩)++E (ka:Int):=by unfold entB;rw[if_neg hk41,if_pos hk42,show kidI X 0=(ka:Int) by unfold kidI;rw[List.getD,hx0];rfl]
      have hz:=HE.out.2
      rw[hent]at hz
      have KG:Hid (T++⟨#[123]⟩++sepB (l.take (k+1))=(Tq++commaB)++entB ns E X/\entB ns E X=(⟨#[46]⟩++X.x++⟨#[32,61,32]⟩)++E (ka:Int)):=⟨HE.out.1,hent⟩
      simp only[ByteArray.size_append]at hz
      have g41:(X.k==41)=false:=by simpa using hk41
      have g42:(X.k==42)=true:=by simpa using hk42
      have HR:Hid (NdR w0 p1 q X an M cn (some pk) L2 ck):=R
      have HZ:Hid (X.ks[0]?=some (ka:Int)):=hx0
      clear R hX hent hk41 z2 zf hx0 hL2 HE hE0 hq1 hk42
      obtain⟨x0,x6,x8,ya⟩:=cel.out _ _ B0.out
      go_wp2_with (go_at_call 12;fail)
      refine(S0.out _ _ B0.out.pr (by(try simp only[ByteArray.size_append]);omega)).mono ?_
      rintro e yw0 ⟨rfl,qq,kk⟩
      have B1:Hid (Bx w0 (.slice (some p1) n c1) tab w3 X (.slice an M cn) (.slice (some pk) L2 ck) (Tq++commaB++(⟨#[46]⟩++X.x++⟨#[32,61,32]⟩)) yw0):=B0.out.next hlt qq kk
      obtain⟨x0,x6,x8,ya⟩:=cel.out _ _ B1.out
      clear qq kk m0 m1 m2 m3 m4 m5 m6 m7 m8 z0
      go_wp2_with (go_at_call 24;fail)
      refine(S1.out _ _ B1.out.pr (by(try simp only[ByteArray.size_append]);omega)).mono ?_
      rintro e yw1 ⟨rfl,qq,kk⟩
      have B2:Hid (Bx w0 (.slice (some p1) n c1) tab w3 X (.slice an M cn) (.slice (some pk) L2 ck) (Tq++commaB++(⟨#[46]⟩++X.x++⟨#[32,61,32]⟩)++(E (ka:Int))) yw1):=B1.out.next hlt qq kk
      obtain⟨x0,x6,x8,ya⟩:=cel.out _ _ B2.out
      clear qq kk
      go_wp2_with fail
      refine⟨⟨k+1,by omega,by go_num,?_,HW.out.2.trans B2.out.kq⟩,by simp[intOf];omega⟩
      rw[KG.out.1,KG.out.2]
      have:=B2.out.pr
      simpa only[ByteArray.append_assoc] using this
     ·skip
      obtain⟨ka,hx0,hE0⟩:=hc
      obtain⟨an,M,cn,ak,L2,ck,R⟩:=nd_in HN.out.1 HN.out.2 hq1
      rw[hX]at R
      obtain⟨pk,rfl⟩:=R.ks.ptr (by have:=kid_lt hx0;omega)
      have hL2:=R.hL
      have hj0:(0:Int)<(L2:Int):=by have:=kid_lt hx0;omega
      have hlt:=HW.out.1.lt
      obtain⟨z0,z2,zf⟩:=HW.out.1.cells
      obtain⟨m0,m1,m2,m3,m4,m5,m6,m7,m8,_,_⟩:=R.rd w3 HW.out.1.bel
      have B0:Hid (Bx w0 (.slice (some p1) n c1) tab w3 X (.slice an M cn) (.slice (some pk) L2 ck) (Tq++commaB) (w3.alloc (boxN X (.slice an M cn) (.slice (some pk) L2 ck)))):=Bx.new HW.out.1 X _ _
      have cel:Hid (∀(T:ByteArray) (W:World),Bx w0 (.slice (some p1) n c1) tab w3 X (.slice an M cn) (.slice (some pk) L2 ck) T W->W.cell? ⟨w3.heap.size,0,none⟩=some (.int .i64 X.k)/\W.cell? ⟨w3.heap.size,6,none⟩=some (.string X.x)/\W.cell? ⟨w3.heap.size,8,none⟩=some (.slice (some pk) L2 ck)/\W.cell? pk=some (.int .i64 (ka:Int))):=fun T W B=>⟨B.cells.1,B.cells.2.2.2.2.2.2.1,B.cells.2.2.2.2.2.2.2.2,B.kid0 R.ks hx0⟩
      have S0:Hid (Wr w0 (.slice (some p1) n c1) tab 24 _ (E (ka:Int))):=hE0
      have hent:entB ns E X=E (ka:Int):=by unfold entB;rw[if_neg hk41,if_neg hk42,show kidI X 0=(ka:Int) by unfold kidI;rw[List.getD,hx0];rfl]
      have hz:=HE.out.2
      rw[hent]at hz
      have KG:Hid (T++⟨#[123]⟩++sepB (l.take (k+1))=(Tq++commaB)++entB ns E X/\entB ns E X=E (ka:Int)):=⟨HE.out.1,hent⟩
      simp only[ByteArray.size_append]at hz
      have g41:(X.k==41)=false:=by simpa using hk41
      have g42:(X.k==42)=false:=by simpa using hk42
      have HR:Hid (NdR w0 p1 q X an M cn (some pk) L2 ck):=R
      have HZ:Hid (X.ks[0]?=some (ka:Int)):=hx0
      clear R hX hent hk41 z2 zf hx0 hL2 HE hE0 hq1 hk42
      obtain⟨x0,x6,x8,ya⟩:=cel.out _ _ B0.out
      go_wp2_with (go_at_call 24;fail)
      refine(S0.out _ _ B0.out.pr (by(try simp only[ByteArray.size_append]);omega)).mono ?_
      rintro e yw0 ⟨rfl,qq,kk⟩
      have B1:Hid (Bx w0 (.slice (some p1) n c1) tab w3 X (.slice an M cn) (.slice (some pk) L2 ck) (Tq++commaB++(E (ka:Int))) yw0):=B0.out.next hlt qq kk
      obtain⟨x0,x6,x8,ya⟩:=cel.out _ _ B1.out
      clear qq kk m0 m1 m2 m3 m4 m5 m6 m7 m8 z0
      go_wp2_with fail
      refine⟨⟨k+1,by omega,by go_num,?_,HW.out.2.trans B1.out.kq⟩,by simp[intOf];omega⟩
      rw[KG.out.1,KG.out.2]
      have:=B1.out.pr
      simpa only[ByteArray.append_assoc] using this
  ·obtain rfl:k=L:=by omega
   go_wp2_with (go_at_call 12;fail)
   refine(say_any w0 _ _ ⟨#[125]⟩ _ _ HS.out.1 (by have:=sepB_le l k;have:=HK.out.2.2.2.2.2.1;rw[ByteArray.size_append,ByteArray.size_append];show T.size+1+_+1<=_;omega)).mono ?_
   rintro e w8 ⟨rfl,q8,k8⟩
   go_wp2_with fail
   go_end0
   refine⟨rfl,?_,HS.out.2.trans k8⟩
   rw[List.take_of_length_le (by rw[HK.out.2.2.2.2.1];exact Nat.le_refl _)]at q8
   rw[<-ByteArray.append_assoc,<-ByteArray.append_assoc]
   exact q8
end Go.Proofs.YtelfejiiabbpfaaGreatDoor
