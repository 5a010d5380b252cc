import Derived.Test.YtelfejiiabbpfaaGreatDoorHRk34
import Derived.Test.YtelfejiiabbpfaaGreatDoorHRk31
set_option linter.unusedVariables false
set_option maxRecDepth 100000
set_option maxHeartbeats 12800000
namespace Go.Proofs.YtelfejiiabbpfaaGreatDoor
open Go.RowKit Go.Maps Go.WideMaps
def heldL (N M:Nd):Bool:=isInf M.k&&decide (infR M<=infL N)
def heldR2 (N M:Nd):Bool:=isInf M.k&&decide (infL M<infR N)
def sgnB (N:Nd):ByteArray:=⟨#[32]⟩++fixI (infK N)++⟨#[32]⟩
theorem skipAt {P:Program}{md:Region.Mode}{ops:Array Oper}{Q:Exit->Act->World->Prop}{S:World->Prop}(i:Nat) (d:Tmp) {oi:Oper}{fuel:Nat}{listed:Array Bool}{a:Act}{w:World}(hi:ops[i]?=some oi) (hd:oi.dst=some d)
  (hs:Region.noSelect ops=true) (hf:Region.free md ops listed i=true) (hr:(Region.ready md ops listed).contains i=true)
  (hQ:∀c a w,Q (.panic c) (a.put (some d) undef) w->Q (.panic c) a w) (hw:Region.wanted oi (yielded ops a.tmps)=false) (hS:S w)
  (h:wpAnyH P md ops Q S fuel (listed.setIfInBounds i true) (a.put (some d) undef) w):wpAnyH P md ops Q S (fuel+1) listed a w:=
 wpAnyH_take hi hs hf hr (by rw[hd];exact hQ) (Or.inr ⟨hw,rfl⟩) hS (by rw[hd];exact h)
structure Ix (w0:World) (vb:Nat) (w:World) (p q r:Nat) (ik il ir ak al ar bk bl br:Int) (T:ByteArray) (W:World):Prop where
 ps:Ps w0 vb T W
 kq:Kq w0.heap.size w W
 ba:PwBox p W ik il ir
 bb:PwBox q W ak al ar
 bc:PwBox r W bk bl br
theorem PwBox.kq {b k:Nat}{W W':World}{x y z:Int}(h:PwBox k W x y z) (q:Kq b W W') (hne:k≠b):PwBox k W' x y z:=
 (q.block k (lt_of_block h) hne (fun cs fr e=>by unfold PwBox at h;rw[h]at e;cases e)).trans h
theorem Ix.below {w0:World}{vb:Nat}{w:World}{p q r:Nat}{ik il ir ak al ar bk bl br:Int}{T:ByteArray}{W W':World}(h:Ix w0 vb w p q r ik il ir ak al ar bk bl br T W) (hb:Below W.heap.size W W'):Ix w0 vb w p q r ik il ir ak al ar bk bl br T W':=
 ⟨h.ps.below hb,h.kq.trans (Kq.of_below hb),(hb.block _ (lt_of_block h.ba)).trans h.ba,(hb.block _ (lt_of_block h.bb)).trans h.bb,(hb.block _ (lt_of_block h.bc)).trans h.bc⟩
theorem Ix.next {w0:World}{vb:Nat}{w:World}{p q r:Nat}{ik il ir ak al ar bk bl br:Int}{T T2:ByteArray}{W W':World}(h:Ix w0 vb w p q r ik il ir ak al ar bk bl br T W) (hn:p≠w0.heap.size/\q≠w0.heap.size/\r≠w0.heap.size) (ps:Ps w0 vb T2 W') (k:Kq w0.heap.size W W'):Ix w0 vb w p q r ik il ir ak al ar bk bl br T2 W':=
 ⟨ps,h.kq.trans k,h.ba.kq k hn.1,h.bb.kq k hn.2.1,h.bc.kq k hn.2.2⟩
theorem m_infix (w0:World) (vb:Nat) (ns:List Nd) (L:List Im) (base:Nat) (vs:Value) (Tp0:Tp w0 ns L base vs) (hP:PowAt w0) (hTb:Tabs w0) (t:Nat) (i:Nat) (hi:i<ns.length) (hinf:isInf (nodeI ns i).k=true) (hop:∀j:Nat,j<ns.length->(nodeI ns j).k=31->1<=(nodeI ns j).op/\(nodeI ns j).op<=18)
  (q0:Nat) (hk0:(nodeI ns i).ks[0]?=some (q0:Int)) (hq0:q0<ns.length) (E0:ByteArray) (hV0:Vis w0 vb L t (q0:Int) E0) (q1:Nat) (hk1:(nodeI ns i).ks[1]?=some (q1:Int)) (hq1:q1<ns.length) (E1:ByteArray) (hV1:Vis w0 vb L t (q1:Int) E1)
  (hkd:infK (nodeI ns i)<=100/\0<=infK (nodeI ns i)) (hsz:(fixI (infK (nodeI ns i))).size<=100):
  Pw w0 vb 56 #[vP vb,mgV w0 t,nV (imI L i)] ((if heldL (nodeI ns i) (nodeI ns q0)=true then parB E0 else E0)++sgnB (nodeI ns i)++(if heldR2 (nodeI ns i) (nodeI ns q1)=true then parB E1 else E1)):=by
 intro T w h
 have KI:Hid (∀W,Below w0.heap.size w0 W->Calls Tryz.prog 98 #[nV (imI L i)] W fun e w'=>e= .returned (.tuple #[.agg #[.int .i64 (infK (nodeI ns i)),.int .i64 (infL (nodeI ns i)),.int .i64 (infR (nodeI ns i))],.bool (isInf (nodeI ns i).k)])/\Below W.heap.size W w'):=fun W hb=>infixOf_any w0 ns L base vs Tp0 hP i hi (hop i hi) W hb
 have K0:Hid (∀W,Below w0.heap.size w0 W->Calls Tryz.prog 98 #[nV (imI L (q0:Int))] W fun e w'=>e= .returned (.tuple #[.agg #[.int .i64 (infK (nodeI ns q0)),.int .i64 (infL (nodeI ns q0)),.int .i64 (infR (nodeI ns q0))],.bool (isInf (nodeI ns q0).k)])/\Below W.heap.size W w'):=fun W hb=>infixOf_any w0 ns L base vs Tp0 hP q0 hq0 (hop q0 hq0) W hb
 have K1:Hid (∀W,Below w0.heap.size w0 W->Calls Tryz.prog 98 #[nV (imI L (q1:Int))] W fun e w'=>e= .returned (.tuple #[.agg #[.int .i64 (infK (nodeI ns q1)),.int .i64 (infL (nodeI ns q1)),.int .i64 (infR (nodeI ns q1))],.bool (isInf (nodeI ns q1).k)])/\Below W.heap.size W w'):=fun W hb=>infixOf_any w0 ns L base vs Tp0 hP q1 hq1 (hop q1 hq1) W hb
 have KX:Hid (∀W,Below w0.heap.size w0 W->Calls Tryz.prog 100 #[.int .i64 (infK (nodeI ns i))] W fun e w'=>e= .returned (.string (fixI (infK (nodeI ns i))))/\Below W.heap.size W w'):=fun W hb=>(fixedText_any (infK (nodeI ns i)) (by omega) (by omega) W (hTb.below hb (Nat.le_refl _))).mono fun e w' ⟨h1,h2⟩=>⟨h1,by rw[h2];exact Below.refl _ _⟩
 have SO0:Hid (∀held,Pw w0 vb 99 #[vP vb,mgV w0 t,nV (imI L (q0:Int)),.bool held] (if held=true then parB E0 else E0)):=fun held=>operand_any w0 vb t _ E0 held hV0
 have SO1:Hid (∀held,Pw w0 vb 99 #[vP vb,mgV w0 t,nV (imI L (q1:Int)),.bool held] (if held=true then parB E1 else E1)):=fun held=>operand_any w0 vb t _ E1 held hV1
 have SP:Hid (Pw w0 vb 232 #[mgA w0 t,.string (sgnB (nodeI ns i))] (sgnB (nodeI ns i))):=put_pw w0 vb t _ (by unfold sgnB;simp only[ByteArray.size_append];show 1+_+1<=_;omega)
 obtain⟨b,vn,a,n,c,hv,Q⟩:=nd_q Tp0 hi
 have kh:=fun w=>head_any b w
 have hmp:=fun w=>m_put w0.heap.size (tabB t) w
 have hna:=fun w=>na_put w0.heap.size (tabB t) w
 have hmt:=fun w=>methC (cls (nodeI ns i).k) b w
 obtain⟨pa,rfl,hcap,_⟩:=Q.ks.get hk1
 have hj0:(0:Int)<(n:Int):=by have:=kid_lt hk0;have:=Q.hn;omega
 have hj0n:0<n:=by omega
 have hj1:(1:Int)<(n:Int):=by have:=kid_lt hk1;have:=Q.hn;omega
 obtain⟨v0,hv0⟩:∃v,nV (imI L (q0:Int))=v:=⟨_,rfl⟩
 obtain⟨v1,hv1⟩:∃v,nV (imI L (q1:Int))=v:=⟨_,rfl⟩
 have cel:Hid (∀W,Below w0.heap.size w0 W->W.cell? ⟨b,5,none⟩=some (.slice (some pa) n c)/\W.cell? pa=some v0/\W.cell? ⟨pa.block,pa.off+1,none⟩=some v1):=fun W hb=>⟨(Q.cells hb).2.1,by rw[<-hv0];obtain⟨_,e,_,x⟩:=(Q.ks.below hb).get hk0;cases e;simpa [Addr.add] using x,by rw[<-hv1];obtain⟨_,e,_,x⟩:=(Q.ks.below hb).get hk1;cases e;exact add_cell x (by decide)⟩
 rw[hv0]at K0 SO0
 rw[hv1]at K1 SO1
 rw[hv]at KI⊢
 have P0:Hid (Ps w0 vb T w/\Kq w0.heap.size w w):=⟨h,Kq.refl _ _⟩
 obtain⟨x5,y0,y1⟩:=cel.out _ h.pg.bel
 rw[hinf]at KI
 obtain⟨B0,hB0⟩:∃B,isInf (nodeI ns q0).k=B:=⟨_,rfl⟩
 obtain⟨B1,hB1⟩:∃B,isInf (nodeI ns q1).k=B:=⟨_,rfl⟩
 unfold heldL heldR2 sgnB
 unfold sgnB at SP
 rw[hB0]at K0⊢
 rw[hB1]at K1⊢
 generalize infL (nodeI ns i)=il at *
 generalize infR (nodeI ns i)=ir at *
 generalize infK (nodeI ns i)=ik at *
 generalize infK (nodeI ns q0)=ak at *
 generalize infL (nodeI ns q0)=al at *
 generalize infR (nodeI ns q0)=ar at *
 generalize infK (nodeI ns q1)=bk at *
 generalize infL (nodeI ns q1)=bl at *
 generalize infR (nodeI ns q1)=br at *
 generalize fixI ik=fx at *
 obtain⟨d0,hd0⟩:∃d,decide (ar<=il)=d:=⟨_,rfl⟩
 obtain⟨d1,hd1⟩:∃d,decide (bl<ir)=d:=⟨_,rfl⟩
 rw[hd0,hd1]
 obtain⟨TX,hTX⟩:∃TX,(if(B0&&d0)=true then parB E0 else E0)++((⟨#[32]⟩:ByteArray)++fx++⟨#[32]⟩)++(if(B1&&d1)=true then parB E1 else E1)=TX:=⟨_,rfl⟩
 rw[hTX]
 have HTX:Hid ((if(B0&&d0)=true then parB E0 else E0)++((⟨#[32]⟩:ByteArray)++fx++⟨#[32]⟩)++(if(B1&&d1)=true then parB E1 else E1)=TX):=hTX
 clear hTX
 have f0:¬9223372036854775807<1+fx.size:=by omega
 have f1:¬9223372036854775807<1+fx.size+1:=by omega
 generalize ptT (cls (nodeI ns i).k)=tp at *
 unfold mgV mgA at *
 generalize tabB t=tb at *
 clear h Q hv hinf hop hk0 hk1 hV0 hV1 hkd hsz hB0 hB1 hv0 hv1 hcap hP hTb
 go_enter Tryz.func56,Tryz.ntmps56
 go_wp2_with (first|(go_at_call 233;refine(kh _).mono ?_;rintro e w' ⟨rfl,hw'⟩;subst w')|(go_at_call 98;fail))
 refine(KI.out _ P0.out.1.pg.bel).mono ?_
 rintro e u1 ⟨rfl,hb1⟩
 have hbA:Below w.heap.size w (u1.alloc (.cells #[.int .i64 ik,.int .i64 il,.int .i64 ir] 124)):=hb1.trans (((Below.refl _ u1).alloc (Nat.le_refl _) _).mono hb1.size)
 have bxA:PwBox u1.heap.size (u1.alloc (.cells #[.int .i64 ik,.int .i64 il,.int .i64 ir] 124)) ik il ir:=heap_alloc_new u1 _
 have P1:Hid (Ps w0 vb T (u1.alloc (.cells #[.int .i64 ik,.int .i64 il,.int .i64 ir] 124))/\Kq w0.heap.size w (u1.alloc (.cells #[.int .i64 ik,.int .i64 il,.int .i64 ir] 124))/\PwBox u1.heap.size (u1.alloc (.cells #[.int .i64 ik,.int .i64 il,.int .i64 ir] 124)) ik il ir):=⟨P0.out.1.below hbA,Kq.of_below hbA,bxA⟩
 obtain⟨x5,y0,y1⟩:=cel.out _ P1.out.1.pg.bel
 have hs1:=hb1.size
 clear hbA bxA hb1
 go_wp2_with (go_at_call 98;fail)
 refine(K0.out _ P1.out.1.pg.bel).mono ?_
 rintro e u2 ⟨rfl,hb2⟩
 have hbB:Below (u1.alloc (.cells #[.int .i64 ik,.int .i64 il,.int .i64 ir] 124)).heap.size (u1.alloc (.cells #[.int .i64 ik,.int .i64 il,.int .i64 ir] 124)) (u2.alloc (.cells #[.int .i64 ak,.int .i64 al,.int .i64 ar] 124)):=hb2.trans (((Below.refl _ u2).alloc (Nat.le_refl _) _).mono hb2.size)
 have bxB:PwBox u2.heap.size (u2.alloc (.cells #[.int .i64 ak,.int .i64 al,.int .i64 ar] 124)) ak al ar:=heap_alloc_new u2 _
 have bxA2:PwBox u1.heap.size (u2.alloc (.cells #[.int .i64 ak,.int .i64 al,.int .i64 ar] 124)) ik il ir:=(hbB.block _ (lt_of_block P1.out.2.2)).trans P1.out.2.2
 have P2:Hid (Ps w0 vb T (u2.alloc (.cells #[.int .i64 ak,.int .i64 al,.int .i64 ar] 124))/\Kq w0.heap.size w (u2.alloc (.cells #[.int .i64 ak,.int .i64 al,.int .i64 ar] 124))/\PwBox u1.heap.size (u2.alloc (.cells #[.int .i64 ak,.int .i64 al,.int .i64 ar] 124)) ik il ir/\PwBox u2.heap.size (u2.alloc (.cells #[.int .i64 ak,.int .i64 al,.int .i64 ar] 124)) ak al ar):=⟨P1.out.1.below hbB,P1.out.2.1.trans (Kq.of_below hbB),bxA2,bxB⟩
 obtain⟨x5,y0,y1⟩:=cel.out _ P2.out.1.pg.bel
 have hs2:u1.heap.size<u2.heap.size:=by have:=hb2.size;rw[World.size_alloc]at this;omega
 clear hbB bxB bxA2 hb2
 go_wp2_with (go_at_call 98;fail)
 refine(K1.out _ P2.out.1.pg.bel).mono ?_
 rintro e u3 ⟨rfl,hb3⟩
 have hbC:Below (u2.alloc (.cells #[.int .i64 ak,.int .i64 al,.int .i64 ar] 124)).heap.size (u2.alloc (.cells #[.int .i64 ak,.int .i64 al,.int .i64 ar] 124)) (u3.alloc (.cells #[.int .i64 bk,.int .i64 bl,.int .i64 br] 124)):=hb3.trans (((Below.refl _ u3).alloc (Nat.le_refl _) _).mono hb3.size)
 have bxC:PwBox u3.heap.size (u3.alloc (.cells #[.int .i64 bk,.int .i64 bl,.int .i64 br] 124)) bk bl br:=heap_alloc_new u3 _
 have hs3:u2.heap.size<u3.heap.size:=by have:=hb3.size;rw[World.size_alloc]at this;omega
 have P3:Hid (Ix w0 vb w u1.heap.size u2.heap.size u3.heap.size ik il ir ak al ar bk bl br T (u3.alloc (.cells #[.int .i64 bk,.int .i64 bl,.int .i64 br] 124))):=⟨P2.out.1.below hbC,P2.out.2.1.trans (Kq.of_below hbC),(hbC.block _ (lt_of_block P2.out.2.2.1)).trans P2.out.2.2.1,(hbC.block _ (lt_of_block P2.out.2.2.2)).trans P2.out.2.2.2,bxC⟩
 have hp1:u1.heap.size≠w0.heap.size:=by have:=P0.out.1.pg.lt;have:=hs1;omega
 have hp2:u2.heap.size≠w0.heap.size:=by have:=P0.out.1.pg.lt;have:=lt_of_block P1.out.2.2;have:=hs1;have:=hs2;omega
 have hp3:u3.heap.size≠w0.heap.size:=by have:=P0.out.1.pg.lt;have:=hs1;have:=hs2;have:=hs3;omega
 have HX:Hid (∀T' W',Ix w0 vb w u1.heap.size u2.heap.size u3.heap.size ik il ir ak al ar bk bl br T' W'->W'.cell? pa=some v0/\W'.cell? ⟨pa.block,pa.off+1,none⟩=some v1/\W'.cell? ⟨u1.heap.size,0,none⟩=some (.int .i64 ik)/\W'.cell? ⟨u1.heap.size,1,none⟩=some (.int .i64 il)/\W'.cell? ⟨u1.heap.size,2,none⟩=some (.int .i64 ir)/\W'.cell? ⟨u2.heap.size,2,none⟩=some (.int .i64 ar)/\W'.cell? ⟨u3.heap.size,1,none⟩=some (.int .i64 bl)):=fun T' W' x=>⟨(cel.out _ x.ps.pg.bel).2.1,(cel.out _ x.ps.pg.bel).2.2,x.ba.cells.1,x.ba.cells.2.1,x.ba.cells.2.2.1,x.bb.cells.2.2.1,x.bc.cells.2.1⟩
 obtain⟨e0,e1,e2,e3,e4,e5,e6⟩:=HX.out _ _ P3.out
 have HPN:Hid (u1.heap.size≠w0.heap.size/\u2.heap.size≠w0.heap.size/\u3.heap.size≠w0.heap.size):=⟨hp1,hp2,hp3⟩
 clear hbC bxC hb3 x5 y0 y1 hp1 hp2 hp3 hs1 hs2 hs3 P1 P2
 cases B0
 ·skip
  have SA:=SO0.out (false)
  have HSA:Hid (Pw w0 vb 99 #[vP vb,.iface 59 (.agg #[.pointer (some ⟨w0.heap.size,0,none⟩),.string tb]),v0,.bool false] (if(false&&d0)=true then parB E0 else E0)):=SA
  clear SA
  go_wp2_with fail
  refine wp_region_held_drew (S:=fun w'=>w'.cell? pa=some v0/\w'.cell? ⟨pa.block,pa.off+1,none⟩=some v1/\w'.cell? ⟨u1.heap.size,0,none⟩=some (.int .i64 ik)/\w'.cell? ⟨u1.heap.size,1,none⟩=some (.int .i64 il)/\w'.cell? ⟨u1.heap.size,2,none⟩=some (.int .i64 ir)/\w'.cell? ⟨u2.heap.size,2,none⟩=some (.int .i64 ar)/\w'.cell? ⟨u3.heap.size,1,none⟩=some (.int .i64 bl)) (by kernel_rfl) (HX.out _ _ (P3.out.below (bel_drew1 (Below.refl _ _)))) (fun hS=>?_)
  refine takeAt 0 37 (vP vb) rfl rfl (by kernel_rfl) (by kernel_rfl) (by kernel_rfl) (fun _ _ _ h=>h) (by rfl) hS (fun w' hw'=>by obtain⟨s1,s2,s3,s4,s5,s6,s7⟩:=hw';go_simp) ?_
  try simp only[Act.put,List.setIfInBounds_toArray,List.set_cons_zero,List.set_cons_succ]
  refine takeAt 1 38 (.iface 59 (.agg #[.pointer (some ⟨w0.heap.size,0,none⟩),.string tb])) rfl rfl (by kernel_rfl) (by kernel_rfl) (by kernel_rfl) (fun _ _ _ h=>h) (by rfl) hS (fun w' hw'=>by obtain⟨s1,s2,s3,s4,s5,s6,s7⟩:=hw';go_simp) ?_
  try simp only[Act.put,List.setIfInBounds_toArray,List.set_cons_zero,List.set_cons_succ]
  refine takeAt 2 39 (.slice (some pa) n c) rfl rfl (by kernel_rfl) (by kernel_rfl) (by kernel_rfl) (fun _ _ _ h=>h) (by rfl) hS (fun w' hw'=>by obtain⟨s1,s2,s3,s4,s5,s6,s7⟩:=hw';go_simp) ?_
  try simp only[Act.put,List.setIfInBounds_toArray,List.set_cons_zero,List.set_cons_succ]
  refine takeAt 3 40 (.pointer (some pa)) rfl rfl (by kernel_rfl) (by kernel_rfl) (by kernel_rfl) (fun _ _ _ h=>h) (by rfl) hS (fun w' hw'=>by obtain⟨s1,s2,s3,s4,s5,s6,s7⟩:=hw';go_simp) ?_
  try simp only[Act.put,List.setIfInBounds_toArray,List.set_cons_zero,List.set_cons_succ]
  refine takeAt 4 41 v0 rfl rfl (by kernel_rfl) (by kernel_rfl) (by kernel_rfl) (fun _ _ _ h=>h) (by rfl) hS (fun w' hw'=>by obtain⟨s1,s2,s3,s4,s5,s6,s7⟩:=hw';go_simp) ?_
  try simp only[Act.put,List.setIfInBounds_toArray,List.set_cons_zero,List.set_cons_succ]
  refine takeAt 5 42 (.bool false) rfl rfl (by kernel_rfl) (by kernel_rfl) (by kernel_rfl) (fun _ _ _ h=>h) (by rfl) hS (fun w' hw'=>by obtain⟨s1,s2,s3,s4,s5,s6,s7⟩:=hw';go_simp) ?_
  try simp only[Act.put,List.setIfInBounds_toArray,List.set_cons_zero,List.set_cons_succ]
  refine takeAt 6 43 (.bool false) rfl rfl (by kernel_rfl) (by kernel_rfl) (by kernel_rfl) (fun _ _ _ h=>h) (by rfl) hS (fun w' hw'=>by obtain⟨s1,s2,s3,s4,s5,s6,s7⟩:=hw';go_simp) ?_
  try simp only[Act.put,List.setIfInBounds_toArray,List.set_cons_zero,List.set_cons_succ]
  refine skipAt 7 44 rfl rfl (by kernel_rfl) (by kernel_rfl) (by kernel_rfl) (fun _ _ _ h=>h) (by rfl) hS ?_
  try simp only[Act.put,List.setIfInBounds_toArray,List.set_cons_zero,List.set_cons_succ]
  refine skipAt 8 45 rfl rfl (by kernel_rfl) (by kernel_rfl) (by kernel_rfl) (fun _ _ _ h=>h) (by rfl) hS ?_
  try simp only[Act.put,List.setIfInBounds_toArray,List.set_cons_zero,List.set_cons_succ]
  refine skipAt 9 46 rfl rfl (by kernel_rfl) (by kernel_rfl) (by kernel_rfl) (fun _ _ _ h=>h) (by rfl) hS ?_
  try simp only[Act.put,List.setIfInBounds_toArray,List.set_cons_zero,List.set_cons_succ]
  refine skipAt 10 47 rfl rfl (by kernel_rfl) (by kernel_rfl) (by kernel_rfl) (fun _ _ _ h=>h) (by rfl) hS ?_
  try simp only[Act.put,List.setIfInBounds_toArray,List.set_cons_zero,List.set_cons_succ]
  refine skipAt 11 48 rfl rfl (by kernel_rfl) (by kernel_rfl) (by kernel_rfl) (fun _ _ _ h=>h) (by rfl) hS ?_
  try simp only[Act.put,List.setIfInBounds_toArray,List.set_cons_zero,List.set_cons_succ]
  refine takeAt 12 49 (.bool false) rfl rfl (by kernel_rfl) (by kernel_rfl) (by kernel_rfl) (fun _ _ _ h=>h) (by rfl) hS (fun w' hw'=>by obtain⟨s1,s2,s3,s4,s5,s6,s7⟩:=hw';go_simp) ?_
  try simp only[Act.put,List.setIfInBounds_toArray,List.set_cons_zero,List.set_cons_succ]
  refine wpAnyH_ready (rs:=[13]) (by kernel_rfl) (by simp) (AllReadyH.cons rfl (fun K3 hK3=>?_) AllReadyH.nil)
  go_simp
  refine(HSA.out _ _ (P3.out.below (bel_drew1 (Below.refl _ _))).ps).mono ?_
  rintro e z4 ⟨rfl,qq,kk⟩
  refine hK3.out _ _ (HX.out _ _ ((P3.out.below (bel_drew1 (Below.refl _ _))).next HPN.out qq kk)) (fun hS=>?_)
  clear hK3 K3
  refine wpAnyH_done (by kernel_rfl) ?_ _
  all_goals
   have X4:Hid (Ix w0 vb w u1.heap.size u2.heap.size u3.heap.size ik il ir ak al ar bk bl br (T++(if(false&&d0)=true then parB E0 else E0)) z4):=((P3.out.below (bel_drew1 (Below.refl _ _))).next HPN.out qq kk)
   obtain⟨e0,e1,e2,e3,e4,e5,e6⟩:=HX.out _ _ X4.out
   clear qq kk
   go_wp2_with fail
   go_region_held3 (fun W'=>W'.cell? pa=some v0/\W'.cell? ⟨pa.block,pa.off+1,none⟩=some v1/\W'.cell? ⟨u1.heap.size,0,none⟩=some (.int .i64 ik)/\W'.cell? ⟨u1.heap.size,1,none⟩=some (.int .i64 il)/\W'.cell? ⟨u1.heap.size,2,none⟩=some (.int .i64 ir)/\W'.cell? ⟨u2.heap.size,2,none⟩=some (.int .i64 ar)/\W'.cell? ⟨u3.heap.size,1,none⟩=some (.int .i64 bl)) (first|exact HX.out _ _ (X4.out.below (bel_drew1 (Below.refl _ _)))|exact HX.out _ _ ((X4.out.below (bel_drew1 (Below.refl _ _))).below hbwn)|exact HX.out _ _ (((X4.out.below (bel_drew1 (Below.refl _ _))).below hbwn).next HPN.out qq kk)|go_keep) (first|(go_at_call 100;refine(KX.out _ (X4.out.below (bel_drew1 (Below.refl _ _))).ps.pg.bel).mono ?_;rintro e wn ⟨rfl,hbwn⟩)|(go_at_call 232;refine(SP.out _ _ ((X4.out.below (bel_drew1 (Below.refl _ _))).below hbwn).ps).mono ?_;rintro e z5 ⟨rfl,qq,kk⟩))
   all_goals
    have X5:Hid (Ix w0 vb w u1.heap.size u2.heap.size u3.heap.size ik il ir ak al ar bk bl br (T++(if(false&&d0)=true then parB E0 else E0)++(⟨#[32]⟩++fx++⟨#[32]⟩)) z5):=(((X4.out.below (bel_drew1 (Below.refl _ _))).below hbwn).next HPN.out qq kk)
    obtain⟨e0,e1,e2,e3,e4,e5,e6⟩:=HX.out _ _ X5.out
    clear qq kk
    cases B1
    ·skip
     have SB:=SO1.out (false)
     have HSB:Hid (Pw w0 vb 99 #[vP vb,.iface 59 (.agg #[.pointer (some ⟨w0.heap.size,0,none⟩),.string tb]),v1,.bool false] (if(false&&d1)=true then parB E1 else E1)):=SB
     clear SB
     go_wp2_with fail
     refine wp_region_held_drew (S:=fun w'=>w'.cell? pa=some v0/\w'.cell? ⟨pa.block,pa.off+1,none⟩=some v1/\w'.cell? ⟨u1.heap.size,0,none⟩=some (.int .i64 ik)/\w'.cell? ⟨u1.heap.size,1,none⟩=some (.int .i64 il)/\w'.cell? ⟨u1.heap.size,2,none⟩=some (.int .i64 ir)/\w'.cell? ⟨u2.heap.size,2,none⟩=some (.int .i64 ar)/\w'.cell? ⟨u3.heap.size,1,none⟩=some (.int .i64 bl)) (by kernel_rfl) (HX.out _ _ (X5.out.below (bel_drew1 (Below.refl _ _)))) (fun hS=>?_)
     refine takeAt 0 61 (vP vb) rfl rfl (by kernel_rfl) (by kernel_rfl) (by kernel_rfl) (fun _ _ _ h=>h) (by rfl) hS (fun w' hw'=>by obtain⟨s1,s2,s3,s4,s5,s6,s7⟩:=hw';go_simp) ?_
     try simp only[Act.put,List.setIfInBounds_toArray,List.set_cons_zero,List.set_cons_succ]
     refine takeAt 1 62 (.iface 59 (.agg #[.pointer (some ⟨w0.heap.size,0,none⟩),.string tb])) rfl rfl (by kernel_rfl) (by kernel_rfl) (by kernel_rfl) (fun _ _ _ h=>h) (by rfl) hS (fun w' hw'=>by obtain⟨s1,s2,s3,s4,s5,s6,s7⟩:=hw';go_simp) ?_
     try simp only[Act.put,List.setIfInBounds_toArray,List.set_cons_zero,List.set_cons_succ]
     refine takeAt 2 63 (.slice (some pa) n c) rfl rfl (by kernel_rfl) (by kernel_rfl) (by kernel_rfl) (fun _ _ _ h=>h) (by rfl) hS (fun w' hw'=>by obtain⟨s1,s2,s3,s4,s5,s6,s7⟩:=hw';go_simp) ?_
     try simp only[Act.put,List.setIfInBounds_toArray,List.set_cons_zero,List.set_cons_succ]
     refine takeAt 3 64 (.pointer (some ⟨pa.block,pa.off+1,none⟩)) rfl rfl (by kernel_rfl) (by kernel_rfl) (by kernel_rfl) (fun _ _ _ h=>h) (by rfl) hS (fun w' hw'=>by obtain⟨s1,s2,s3,s4,s5,s6,s7⟩:=hw';go_simp) ?_
     try simp only[Act.put,List.setIfInBounds_toArray,List.set_cons_zero,List.set_cons_succ]
     refine takeAt 4 65 v1 rfl rfl (by kernel_rfl) (by kernel_rfl) (by kernel_rfl) (fun _ _ _ h=>h) (by rfl) hS (fun w' hw'=>by obtain⟨s1,s2,s3,s4,s5,s6,s7⟩:=hw';go_simp) ?_
     try simp only[Act.put,List.setIfInBounds_toArray,List.set_cons_zero,List.set_cons_succ]
     refine takeAt 5 66 (.bool false) rfl rfl (by kernel_rfl) (by kernel_rfl) (by kernel_rfl) (fun _ _ _ h=>h) (by rfl) hS (fun w' hw'=>by obtain⟨s1,s2,s3,s4,s5,s6,s7⟩:=hw';go_simp) ?_
     try simp only[Act.put,List.setIfInBounds_toArray,List.set_cons_zero,List.set_cons_succ]
     refine takeAt 6 67 (.bool false) rfl rfl (by kernel_rfl) (by kernel_rfl) (by kernel_rfl) (fun _ _ _ h=>h) (by rfl) hS (fun w' hw'=>by obtain⟨s1,s2,s3,s4,s5,s6,s7⟩:=hw';go_simp) ?_
     try simp only[Act.put,List.setIfInBounds_toArray,List.set_cons_zero,List.set_cons_succ]
     refine skipAt 7 68 rfl rfl (by kernel_rfl) (by kernel_rfl) (by kernel_rfl) (fun _ _ _ h=>h) (by rfl) hS ?_
     try simp only[Act.put,List.setIfInBounds_toArray,List.set_cons_zero,List.set_cons_succ]
     refine skipAt 8 69 rfl rfl (by kernel_rfl) (by kernel_rfl) (by kernel_rfl) (fun _ _ _ h=>h) (by rfl) hS ?_
     try simp only[Act.put,List.setIfInBounds_toArray,List.set_cons_zero,List.set_cons_succ]
     refine skipAt 9 70 rfl rfl (by kernel_rfl) (by kernel_rfl) (by kernel_rfl) (fun _ _ _ h=>h) (by rfl) hS ?_
     try simp only[Act.put,List.setIfInBounds_toArray,List.set_cons_zero,List.set_cons_succ]
     refine skipAt 10 71 rfl rfl (by kernel_rfl) (by kernel_rfl) (by kernel_rfl) (fun _ _ _ h=>h) (by rfl) hS ?_
     try simp only[Act.put,List.setIfInBounds_toArray,List.set_cons_zero,List.set_cons_succ]
     refine skipAt 11 72 rfl rfl (by kernel_rfl) (by kernel_rfl) (by kernel_rfl) (fun _ _ _ h=>h) (by rfl) hS ?_
     try simp only[Act.put,List.setIfInBounds_toArray,List.set_cons_zero,List.set_cons_succ]
     refine takeAt 12 73 (.bool false) rfl rfl (by kernel_rfl) (by kernel_rfl) (by kernel_rfl) (fun _ _ _ h=>h) (by rfl) hS (fun w' hw'=>by obtain⟨s1,s2,s3,s4,s5,s6,s7⟩:=hw';go_simp) ?_
     try simp only[Act.put,List.setIfInBounds_toArray,List.set_cons_zero,List.set_cons_succ]
     refine wpAnyH_ready (rs:=[13]) (by kernel_rfl) (by simp) (AllReadyH.cons rfl (fun K3 hK3=>?_) AllReadyH.nil)
     go_simp
     refine(HSB.out _ _ (X5.out.below (bel_drew1 (Below.refl _ _))).ps).mono ?_
     rintro e z6 ⟨rfl,qq,kk⟩
     refine hK3.out _ _ (HX.out _ _ ((X5.out.below (bel_drew1 (Below.refl _ _))).next HPN.out qq kk)) (fun hS=>?_)
     clear hK3 K3
     refine wpAnyH_done (by kernel_rfl) ?_ _
     all_goals
      have X6:Hid (Ix w0 vb w u1.heap.size u2.heap.size u3.heap.size ik il ir ak al ar bk bl br (T++(if(false&&d0)=true then parB E0 else E0)++(⟨#[32]⟩++fx++⟨#[32]⟩)++(if(false&&d1)=true then parB E1 else E1)) z6):=((X5.out.below (bel_drew1 (Below.refl _ _))).next HPN.out qq kk)
      obtain⟨e0,e1,e2,e3,e4,e5,e6⟩:=HX.out _ _ X6.out
      clear qq kk
      go_wp2_with fail
      go_end0
      refine⟨rfl,?_,X6.out.kq⟩
      have:=X6.out.ps
      rw[<-HTX.out]
      simpa only[ByteArray.append_assoc] using this
    ·skip
     have SB:=SO1.out (d1)
     have HSB:Hid (Pw w0 vb 99 #[vP vb,.iface 59 (.agg #[.pointer (some ⟨w0.heap.size,0,none⟩),.string tb]),v1,.bool d1] (if(true&&d1)=true then parB E1 else E1)):=SB
     clear SB
     go_wp2_with fail
     go_region_held3 (fun W'=>W'.cell? pa=some v0/\W'.cell? ⟨pa.block,pa.off+1,none⟩=some v1/\W'.cell? ⟨u1.heap.size,0,none⟩=some (.int .i64 ik)/\W'.cell? ⟨u1.heap.size,1,none⟩=some (.int .i64 il)/\W'.cell? ⟨u1.heap.size,2,none⟩=some (.int .i64 ir)/\W'.cell? ⟨u2.heap.size,2,none⟩=some (.int .i64 ar)/\W'.cell? ⟨u3.heap.size,1,none⟩=some (.int .i64 bl)) (first|exact HX.out _ _ (X5.out.below (bel_drew1 (Below.refl _ _)))|exact HX.out _ _ ((X5.out.below (bel_drew1 (Below.refl _ _))).next HPN.out qq kk)|go_keep) (first|(go_at_call 99;refine(HSB.out _ _ (X5.out.below (bel_drew1 (Below.refl _ _))).ps).mono ?_;rintro e z6 ⟨rfl,qq,kk⟩))
     all_goals
      have X6:Hid (Ix w0 vb w u1.heap.size u2.heap.size u3.heap.size ik il ir ak al ar bk bl br (T++(if(false&&d0)=true then parB E0 else E0)++(⟨#[32]⟩++fx++⟨#[32]⟩)++(if(true&&d1)=true then parB E1 else E1)) z6):=((X5.out.below (bel_drew1 (Below.refl _ _))).next HPN.out qq kk)
      obtain⟨e0,e1,e2,e3,e4,e5,e6⟩:=HX.out _ _ X6.out
      clear qq kk
      go_wp2_with fail
      go_end0
      refine⟨rfl,?_,X6.out.kq⟩
      have:=X6.out.ps
      rw[<-HTX.out]
      simpa only[ByteArray.append_assoc] using this
 ·skip
  have SA:=SO0.out (d0)
  have HSA:Hid (Pw w0 vb 99 #[vP vb,.iface 59 (.agg #[.pointer (some ⟨w0.heap.size,0,none⟩),.string tb]),v0,.bool d0] (if(true&&d0)=true then parB E0 else E0)):=SA
  clear SA
  go_wp2_with fail
  go_region_held3 (fun W'=>W'.cell? pa=some v0/\W'.cell? ⟨pa.block,pa.off+1,none⟩=some v1/\W'.cell? ⟨u1.heap.size,0,none⟩=some (.int .i64 ik)/\W'.cell? ⟨u1.heap.size,1,none⟩=some (.int .i64 il)/\W'.cell? ⟨u1.heap.size,2,none⟩=some (.int .i64 ir)/\W'.cell? ⟨u2.heap.size,2,none⟩=some (.int .i64 ar)/\W'.cell? ⟨u3.heap.size,1,none⟩=some (.int .i64 bl)) (first|exact HX.out _ _ (P3.out.below (bel_drew1 (Below.refl _ _)))|exact HX.out _ _ ((P3.out.below (bel_drew1 (Below.refl _ _))).next HPN.out qq kk)|go_keep) (first|(go_at_call 99;refine(HSA.out _ _ (P3.out.below (bel_drew1 (Below.refl _ _))).ps).mono ?_;rintro e z4 ⟨rfl,qq,kk⟩))
  all_goals
   have X4:Hid (Ix w0 vb w u1.heap.size u2.heap.size u3.heap.size ik il ir ak al ar bk bl br (T++(if(true&&d0)=true then parB E0 else E0)) z4):=((P3.out.below (bel_drew1 (Below.refl _ _))).next HPN.out qq kk)
   obtain⟨e0,e1,e2,e3,e4,e5,e6⟩:=HX.out _ _ X4.out
   clear qq kk
   go_wp2_with fail
   go_region_held3 (fun W'=>W'.cell? pa=some v0/\W'.cell? ⟨pa.block,pa.off+1,none⟩=some v1/\W'.cell? ⟨u1.heap.size,0,none⟩=some (.int .i64 ik)/\W'.cell? ⟨u1.heap.size,1,none⟩=some (.int .i64 il)/\W'.cell? ⟨u1.heap.size,2,none⟩=some (.int .i64 ir)/\W'.cell? ⟨u2.heap.size,2,none⟩=some (.int .i64 ar)/\W'.cell? ⟨u3.heap.size,1,none⟩=some (.int .i64 bl)) (first|exact HX.out _ _ (X4.out.below (bel_drew1 (Below.refl _ _)))|exact HX.out _ _ ((X4.out.below (bel_drew1 (Below.refl _ _))).below hbwn)|exact HX.out _ _ (((X4.out.below (bel_drew1 (Below.refl _ _))).below hbwn).next HPN.out qq kk)|go_keep) (first|(go_at_call 100;refine(KX.out _ (X4.out.below (bel_drew1 (Below.refl _ _))).ps.pg.bel).mono ?_;rintro e wn ⟨rfl,hbwn⟩)|(go_at_call 232;refine(SP.out _ _ ((X4.out.below (bel_drew1 (Below.refl _ _))).below hbwn).ps).mono ?_;rintro e z5 ⟨rfl,qq,kk⟩))
   all_goals
    have X5:Hid (Ix w0 vb w u1.heap.size u2.heap.size u3.heap.size ik il ir ak al ar bk bl br (T++(if(true&&d0)=true then parB E0 else E0)++(⟨#[32]⟩++fx++⟨#[32]⟩)) z5):=(((X4.out.below (bel_drew1 (Below.refl _ _))).below hbwn).next HPN.out qq kk)
    obtain⟨e0,e1,e2,e3,e4,e5,e6⟩:=HX.out _ _ X5.out
    clear qq kk
    cases B1
    ·skip
     have SB:=SO1.out (false)
     have HSB:Hid (Pw w0 vb 99 #[vP vb,.iface 59 (.agg #[.pointer (some ⟨w0.heap.size,0,none⟩),.string tb]),v1,.bool false] (if(false&&d1)=true then parB E1 else E1)):=SB
     clear SB
     go_wp2_with fail
     refine wp_region_held_drew (S:=fun w'=>w'.cell? pa=some v0/\w'.cell? ⟨pa.block,pa.off+1,none⟩=some v1/\w'.cell? ⟨u1.heap.size,0,none⟩=some (.int .i64 ik)/\w'.cell? ⟨u1.heap.size,1,none⟩=some (.int .i64 il)/\w'.cell? ⟨u1.heap.size,2,none⟩=some (.int .i64 ir)/\w'.cell? ⟨u2.heap.size,2,none⟩=some (.int .i64 ar)/\w'.cell? ⟨u3.heap.size,1,none⟩=some (.int .i64 bl)) (by kernel_rfl) (HX.out _ _ (X5.out.below (bel_drew1 (Below.refl _ _)))) (fun hS=>?_)
     refine takeAt 0 61 (vP vb) rfl rfl (by kernel_rfl) (by kernel_rfl) (by kernel_rfl) (fun _ _ _ h=>h) (by rfl) hS (fun w' hw'=>by obtain⟨s1,s2,s3,s4,s5,s6,s7⟩:=hw';go_simp) ?_
     try simp only[Act.put,List.setIfInBounds_toArray,List.set_cons_zero,List.set_cons_succ]
     refine takeAt 1 62 (.iface 59 (.agg #[.pointer (some ⟨w0.heap.size,0,none⟩),.string tb])) rfl rfl (by kernel_rfl) (by kernel_rfl) (by kernel_rfl) (fun _ _ _ h=>h) (by rfl) hS (fun w' hw'=>by obtain⟨s1,s2,s3,s4,s5,s6,s7⟩:=hw';go_simp) ?_
     try simp only[Act.put,List.setIfInBounds_toArray,List.set_cons_zero,List.set_cons_succ]
     refine takeAt 2 63 (.slice (some pa) n c) rfl rfl (by kernel_rfl) (by kernel_rfl) (by kernel_rfl) (fun _ _ _ h=>h) (by rfl) hS (fun w' hw'=>by obtain⟨s1,s2,s3,s4,s5,s6,s7⟩:=hw';go_simp) ?_
     try simp only[Act.put,List.setIfInBounds_toArray,List.set_cons_zero,List.set_cons_succ]
     refine takeAt 3 64 (.pointer (some ⟨pa.block,pa.off+1,none⟩)) rfl rfl (by kernel_rfl) (by kernel_rfl) (by kernel_rfl) (fun _ _ _ h=>h) (by rfl) hS (fun w' hw'=>by obtain⟨s1,s2,s3,s4,s5,s6,s7⟩:=hw';go_simp) ?_
     try simp only[Act.put,List.setIfInBounds_toArray,List.set_cons_zero,List.set_cons_succ]
     refine takeAt 4 65 v1 rfl rfl (by kernel_rfl) (by kernel_rfl) (by kernel_rfl) (fun _ _ _ h=>h) (by rfl) hS (fun w' hw'=>by obtain⟨s1,s2,s3,s4,s5,s6,s7⟩:=hw';go_simp) ?_
     try simp only[Act.put,List.setIfInBounds_toArray,List.set_cons_zero,List.set_cons_succ]
     refine takeAt 5 66 (.bool false) rfl rfl (by kernel_rfl) (by kernel_rfl) (by kernel_rfl) (fun _ _ _ h=>h) (by rfl) hS (fun w' hw'=>by obtain⟨s1,s2,s3,s4,s5,s6,s7⟩:=hw';go_simp) ?_
     try simp only[Act.put,List.setIfInBounds_toArray,List.set_cons_zero,List.set_cons_succ]
     refine takeAt 6 67 (.bool false) rfl rfl (by kernel_rfl) (by kernel_rfl) (by kernel_rfl) (fun _ _ _ h=>h) (by rfl) hS (fun w' hw'=>by obtain⟨s1,s2,s3,s4,s5,s6,s7⟩:=hw';go_simp) ?_
     try simp only[Act.put,List.setIfInBounds_toArray,List.set_cons_zero,List.set_cons_succ]
     refine skipAt 7 68 rfl rfl (by kernel_rfl) (by kernel_rfl) (by kernel_rfl) (fun _ _ _ h=>h) (by rfl) hS ?_
     try simp only[Act.put,List.setIfInBounds_toArray,List.set_cons_zero,List.set_cons_succ]
     refine skipAt 8 69 rfl rfl (by kernel_rfl) (by kernel_rfl) (by kernel_rfl) (fun _ _ _ h=>h) (by rfl) hS ?_
     try simp only[Act.put,List.setIfInBounds_toArray,List.set_cons_zero,List.set_cons_succ]
     refine skipAt 9 70 rfl rfl (by kernel_rfl) (by kernel_rfl) (by kernel_rfl) (fun _ _ _ h=>h) (by rfl) hS ?_
     try simp only[Act.put,List.setIfInBounds_toArray,List.set_cons_zero,List.set_cons_succ]
     refine skipAt 10 71 rfl rfl (by kernel_rfl) (by kernel_rfl) (by kernel_rfl) (fun _ _ _ h=>h) (by rfl) hS ?_
     try simp only[Act.put,List.setIfInBounds_toArray,List.set_cons_zero,List.set_cons_succ]
     refine skipAt 11 72 rfl rfl (by kernel_rfl) (by kernel_rfl) (by kernel_rfl) (fun _ _ _ h=>h) (by rfl) hS ?_
     try simp only[Act.put,List.setIfInBounds_toArray,List.set_cons_zero,List.set_cons_succ]
     refine takeAt 12 73 (.bool false) rfl rfl (by kernel_rfl) (by kernel_rfl) (by kernel_rfl) (fun _ _ _ h=>h) (by rfl) hS (fun w' hw'=>by obtain⟨s1,s2,s3,s4,s5,s6,s7⟩:=hw';go_simp) ?_
     try simp only[Act.put,List.setIfInBounds_toArray,List.set_cons_zero,List.set_cons_succ]
     refine wpAnyH_ready (rs:=[13]) (by kernel_rfl) (by simp) (AllReadyH.cons rfl (fun K3 hK3=>?_) AllReadyH.nil)
     go_simp
     refine(HSB.out _ _ (X5.out.below (bel_drew1 (Below.refl _ _))).ps).mono ?_
     rintro e z6 ⟨rfl,qq,kk⟩
     refine hK3.out _ _ (HX.out _ _ ((X5.out.below (bel_drew1 (Below.refl _ _))).next HPN.out qq kk)) (fun hS=>?_)
     clear hK3 K3
     refine wpAnyH_done (by kernel_rfl) ?_ _
     all_goals
      have X6:Hid (Ix w0 vb w u1.heap.size u2.heap.size u3.heap.size ik il ir ak al ar bk bl br (T++(if(true&&d0)=true then parB E0 else E0)++(⟨#[32]⟩++fx++⟨#[32]⟩)++(if(false&&d1)=true then parB E1 else E1)) z6):=((X5.out.below (bel_drew1 (Below.refl _ _))).next HPN.out qq kk)
      obtain⟨e0,e1,e2,e3,e4,e5,e6⟩:=HX.out _ _ X6.out
      clear qq kk
      go_wp2_with fail
      go_end0
      refine⟨rfl,?_,X6.out.kq⟩
      have:=X6.out.ps
      rw[<-HTX.out]
      simpa only[ByteArray.append_assoc] using this
    ·skip
     have SB:=SO1.out (d1)
     have HSB:Hid (Pw w0 vb 99 #[vP vb,.iface 59 (.agg #[.pointer (some ⟨w0.heap.size,0,none⟩),.string tb]),v1,.bool d1] (if(true&&d1)=true then parB E1 else E1)):=SB
     clear SB
     go_wp2_with fail
     go_region_held3 (fun W'=>W'.cell? pa=some v0/\W'.cell? ⟨pa.block,pa.off+1,none⟩=some v1/\W'.cell? ⟨u1.heap.size,0,none⟩=some (.int .i64 ik)/\W'.cell? ⟨u1.heap.size,1,none⟩=some (.int .i64 il)/\W'.cell? ⟨u1.heap.size,2,none⟩=some (.int .i64 ir)/\W'.cell? ⟨u2.heap.size,2,none⟩=some (.int .i64 ar)/\W'.cell? ⟨u3.heap.size,1,none⟩=some (.int .i64 bl)) (first|exact HX.out _ _ (X5.out.below (bel_drew1 (Below.refl _ _)))|exact HX.out _ _ ((X5.out.below (bel_drew1 (Below.refl _ _))).next HPN.out qq kk)|go_keep) (first|(go_at_call 99;refine(HSB.out _ _ (X5.out.below (bel_drew1 (Below.refl _ _))).ps).mono ?_;rintro e z6 ⟨rfl,qq,kk⟩))
     all_goals
      have X6:Hid (Ix w0 vb w u1.heap.size u2.heap.size u3.heap.size ik il ir ak al ar bk bl br (T++(if(true&&d0)=true then parB E0 else E0)++(⟨#[32]⟩++fx++⟨#[32]⟩)++(if(true&&d1)=true then parB E1 else E1)) z6):=((X5.out.below (bel_drew1 (Below.refl _ _))).next HPN.out qq kk)
      obtain⟨e0,e1,e2,e3,e4,e5,e6⟩:=HX.out _ _ X6.out
      clear qq kk
      go_wp2_with fail
      go_end0
      refine⟨rfl,?_,X6.out.kq⟩
      have:=X6.out.ps
      rw[<-HTX.out]
      simpa only[ByteArray.append_assoc] using this
end Go.Proofs.YtelfejiiabbpfaaGreatDoor
