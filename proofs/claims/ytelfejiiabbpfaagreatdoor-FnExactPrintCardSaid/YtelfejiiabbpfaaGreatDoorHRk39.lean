import Derived.Test.YtelfejiiabbpfaaGreatDoorHRk32
set_option linter.unusedVariables false
set_option maxRecDepth 100000
set_option maxHeartbeats 6400000
namespace Go.Proofs.YtelfejiiabbpfaaGreatDoor
open Go.RowKit Go.Maps Go.WideMaps
theorem m_const (w0:World) (vb:Nat) (ns:List Nd) (L:List Im) (base:Nat) (vs:Value) (Tp0:Tp w0 ns L base vs) (t:Nat) (ht:t<=100000) (i:Nat) (hi:i<ns.length) (N:Nd) (hN:nodeI ns i=N) (hk:N.k=3) (hlk:N.ks.length<=1048576) (hlm:N.nm.length<=1048576) (hnz:(sepB N.nm).size<=1000000) (X:ByteArray) (hLX:∀v,SlAt w0 L v (N.ks)->Pw w0 vb 93 #[vP vb,mgV w0 t,v] X):
  Pw w0 vb 34 #[vP vb,mgV w0 t,nV (imI L i)] (⟨#[99,111,110,115,116,32]⟩++sepB N.nm++⟨#[32,61,32]⟩++X):=by
 intro T w h
 obtain⟨b,vn,a,n,c,hv,Q⟩:=nd_q Tp0 hi
 rw[hN]at hv Q
 have kh:=fun w=>head_any b w
 have hmp:=fun w=>m_put w0.heap.size (tabB t) w
 have hml:=fun w=>m_line w0.heap.size (tabB t) w
 have hmi:=fun w=>m_inner w0.heap.size (tabB t) w
 have hna:=fun w=>na_put w0.heap.size (tabB t) w
 have hn:=Q.hn
 have hmt:=fun w=>methC (cls N.k) b w
 have hc:cls N.k=0:=by rw[hk];rfl
 have KN:Hid (∀W,Below w0.heap.size w0 W->Calls Tryz.prog 90 #[.iface 142 (.pointer (some ⟨b,0,none⟩))] W fun e w'=>e= .returned (.string (sepB N.nm))/\Below W.heap.size W w'):=fun W hb=>namesOf_any W b vn N.nm (Q.nm.below hb) Q.jn hlm (by omega) ((Q.cells hb).2.2 _ (by rw[hc];rfl))
 obtain⟨sn,hsn⟩:∃sn,sepB N.nm=sn:=⟨_,rfl⟩
 rw[hsn]at hnz KN
 have f0:¬9223372036854775807<6+sn.size:=by omega
 have f1:¬9223372036854775807<6+sn.size+3:=by omega
 rw[hsn]
 clear hsn
 have S0:Hid (Pw w0 vb 91 _ (((⟨#[99,111,110,115,116,32]⟩:ByteArray)++sn++(⟨#[32,61,32]⟩:ByteArray))++X)):=phrase_any w0 vb t ((⟨#[99,111,110,115,116,32]⟩:ByteArray)++sn++(⟨#[32,61,32]⟩:ByteArray)) X (by simp only[ByteArray.size_append];show 6+_+3<=_;omega) (.slice a n c) (hLX _ Q.ks)
 have cel:Hid (∀W,Below w0.heap.size w0 W->W.cell? ⟨b,0,none⟩=some (.int .i64 N.k)/\W.cell? ⟨b,5,none⟩=some (.slice a n c)/\W.cell? ⟨b,6,none⟩=some vn):=fun W hb=>⟨(Q.cells hb).1,(Q.cells hb).2.1,(Q.cells hb).2.2 _ (by rw[hc];rfl)⟩
 have P0:Hid (Ps w0 vb T w/\Kq w0.heap.size w w):=⟨h,Kq.refl _ _⟩
 obtain⟨x0,x5,x6⟩:=cel.out _ h.pg.bel
 rw[hv]
 rw[hc]at hmt⊢
 simp only[ptT]at hmt⊢
 have has:=fun w=>asP0 b w
 unfold mgV mgA at *
 generalize tabB t=tb at *
 have HQ:Hid (NdQ w0 L N b vn a n c):=Q
 clear h Q hv hk
 go_enter Tryz.func34,Tryz.ntmps34
 go_wp2_with (first|(go_at_call 233;refine(kh _).mono ?_;rintro e w' ⟨rfl,hw'⟩;subst w')|(go_at_call 90;fail))
 refine(KN.out _ P0.out.1.pg.bel).mono ?_
 rintro e wn ⟨rfl,hbwn⟩
 have R0:Hid (Ps w0 vb (T) wn/\Kq w0.heap.size w wn):=⟨P0.out.1.below hbwn,P0.out.2.trans (Kq.of_below hbwn)⟩
 obtain⟨x0,x5,x6⟩:=cel.out _ R0.out.1.pg.bel
 clear hbwn
 go_wp2_with (first|(go_at_call 233;refine(kh _).mono ?_;rintro e w' ⟨rfl,hw'⟩;subst w')|(go_at_call 91;fail))
 refine(S0.out _ _ R0.out.1).mono ?_
 rintro e u0 ⟨rfl,qq,kk⟩
 have P1:Hid (Ps w0 vb (T++(((⟨#[99,111,110,115,116,32]⟩:ByteArray)++sn++(⟨#[32,61,32]⟩:ByteArray))++X)) u0/\Kq w0.heap.size w u0):=⟨qq,R0.out.2.trans kk⟩
 obtain⟨x0,x5,x6⟩:=cel.out _ qq.pg.bel
 clear qq kk
 go_wp2_with (first|(go_at_call 233;refine(kh _).mono ?_;rintro e w' ⟨rfl,hw'⟩;subst w'))
 go_end0
 refine⟨rfl,?_,P1.out.2⟩
 have:=P1.out.1
 simpa only[ByteArray.append_assoc] using this
theorem m_fnst (w0:World) (vb:Nat) (ns:List Nd) (L:List Im) (base:Nat) (vs:Value) (Tp0:Tp w0 ns L base vs) (t:Nat) (ht:t<=100000) (i:Nat) (hi:i<ns.length) (N:Nd) (hN:nodeI ns i=N) (hk:N.k=4) (hlk:N.ks.length<=1048576) (hlm:N.nm.length<=1048576) (hnz:(sepB N.nm).size<=1000000) (q0:Nat) (hk0:N.ks[0]?=some (q0:Int)) (E0:ByteArray) (hV0:Pw w0 vb 92 #[vP vb,mgV w0 t,nV (imI L (q0:Int))] E0):
  Pw w0 vb 35 #[vP vb,mgV w0 t,nV (imI L i)] (⟨#[102,110,32]⟩++sepB N.nm++E0):=by
 intro T w h
 obtain⟨b,vn,a,n,c,hv,Q⟩:=nd_q Tp0 hi
 rw[hN]at hv Q
 have kh:=fun w=>head_any b w
 have hmp:=fun w=>m_put w0.heap.size (tabB t) w
 have hml:=fun w=>m_line w0.heap.size (tabB t) w
 have hmi:=fun w=>m_inner w0.heap.size (tabB t) w
 have hna:=fun w=>na_put w0.heap.size (tabB t) w
 have hn:=Q.hn
 have hmt:=fun w=>methC (cls N.k) b w
 have hc:cls N.k=0:=by rw[hk];rfl
 obtain⟨pa,rfl,hcap,_⟩:=Q.ks.get hk0
 rw[hn]at hcap
 have hj0:(0:Int)<(n:Int):=by have:=kid_lt hk0;omega
 have KN:Hid (∀W,Below w0.heap.size w0 W->Calls Tryz.prog 90 #[.iface 142 (.pointer (some ⟨b,0,none⟩))] W fun e w'=>e= .returned (.string (sepB N.nm))/\Below W.heap.size W w'):=fun W hb=>namesOf_any W b vn N.nm (Q.nm.below hb) Q.jn hlm (by omega) ((Q.cells hb).2.2 _ (by rw[hc];rfl))
 obtain⟨sn,hsn⟩:∃sn,sepB N.nm=sn:=⟨_,rfl⟩
 rw[hsn]at hnz KN
 have f0:¬9223372036854775807<3+sn.size:=by omega
 rw[hsn]
 clear hsn
 have S0:Hid (Pw w0 vb 232 _ ((⟨#[102,110,32]⟩:ByteArray)++sn)):=put_pw w0 vb t ((⟨#[102,110,32]⟩:ByteArray)++sn) (by simp only[ByteArray.size_append];show 3+_<=_;omega)
 have S1:Hid (Pw w0 vb 92 _ (E0)):=hV0
 obtain⟨v0,hv0⟩:∃v,nV (imI L (q0:Int))=v:=⟨_,rfl⟩
 rw[hv0]at S1
 have cel:Hid (∀W,Below w0.heap.size w0 W->W.cell? ⟨b,0,none⟩=some (.int .i64 N.k)/\W.cell? ⟨b,5,none⟩=some (.slice (some pa) n c)/\W.cell? ⟨b,6,none⟩=some vn/\W.cell? pa=some v0):=fun W hb=>⟨(Q.cells hb).1,(Q.cells hb).2.1,(Q.cells hb).2.2 _ (by rw[hc];rfl),by rw[<-hv0];obtain⟨_,e,_,x⟩:=(Q.ks.below hb).get hk0;cases e;simpa [Addr.add] using x⟩
 have P0:Hid (Ps w0 vb T w/\Kq w0.heap.size w w):=⟨h,Kq.refl _ _⟩
 obtain⟨x0,x5,x6,y0⟩:=cel.out _ h.pg.bel
 rw[hv]
 rw[hc]at hmt⊢
 simp only[ptT]at hmt⊢
 have has:=fun w=>asP0 b w
 unfold mgV mgA at *
 generalize tabB t=tb at *
 have HQ:Hid (NdQ w0 L N b vn (some pa) n c):=Q
 clear h Q hv hk
 go_enter Tryz.func35,Tryz.ntmps35
 go_wp2_with (first|(go_at_call 233;refine(kh _).mono ?_;rintro e w' ⟨rfl,hw'⟩;subst w'))
 go_region_held3 (fun W'=>W'.cell? ⟨b,0,none⟩=some (.int .i64 N.k)/\W'.cell? ⟨b,5,none⟩=some (.slice (some pa) n c)/\W'.cell? ⟨b,6,none⟩=some vn/\W'.cell? pa=some v0) (first|exact cel.out _ (P0.out.1.below (bel_drew1 (Below.refl _ _))).pg.bel|exact cel.out _ ((P0.out.1.below (bel_drew1 (Below.refl _ _))).below hbwn).pg.bel|exact cel.out _ qq.pg.bel|go_keep) (first|(go_at_call 233;refine(kh _).mono ?_;rintro e w' ⟨rfl,hw'⟩;subst w')|(go_at_call 90;refine(KN.out _ (P0.out.1.below (bel_drew1 (Below.refl _ _))).pg.bel).mono ?_;rintro e wn ⟨rfl,hbwn⟩)|(go_at_call 232;refine(S0.out _ _ ((P0.out.1.below (bel_drew1 (Below.refl _ _))).below hbwn)).mono ?_;rintro e u0 ⟨rfl,qq,kk⟩))
 all_goals
  have P1:Hid (Ps w0 vb (T++((⟨#[102,110,32]⟩:ByteArray)++sn)) u0/\Kq w0.heap.size w u0):=⟨qq,((P0.out.2.trans (Kq.of_below (bel_drew1 (Below.refl _ _)))).trans (Kq.of_below hbwn)).trans kk⟩
  obtain⟨x0,x5,x6,y0⟩:=cel.out _ qq.pg.bel
  clear qq kk
  go_wp2_with (first|(go_at_call 233;refine(kh _).mono ?_;rintro e w' ⟨rfl,hw'⟩;subst w')|(go_at_call 92;fail))
  refine(S1.out _ _ P1.out.1).mono ?_
  rintro e u1 ⟨rfl,qq,kk⟩
  have P2:Hid (Ps w0 vb (T++((⟨#[102,110,32]⟩:ByteArray)++sn)++(E0)) u1/\Kq w0.heap.size w u1):=⟨qq,P1.out.2.trans kk⟩
  obtain⟨x0,x5,x6,y0⟩:=cel.out _ qq.pg.bel
  clear qq kk
  go_wp2_with (first|(go_at_call 233;refine(kh _).mono ?_;rintro e w' ⟨rfl,hw'⟩;subst w'))
  go_end0
  refine⟨rfl,?_,P2.out.2⟩
  have:=P2.out.1
  simpa only[ByteArray.append_assoc] using this
theorem m_try (w0:World) (vb:Nat) (ns:List Nd) (L:List Im) (base:Nat) (vs:Value) (Tp0:Tp w0 ns L base vs) (t:Nat) (ht:t<=100000) (i:Nat) (hi:i<ns.length) (N:Nd) (hN:nodeI ns i=N) (hk:N.k=14) (hlk:N.ks.length<=1048576) (hlm:N.nm.length<=1048576) (hnz:(sepB N.nm).size<=1000000) (q0:Nat) (hk0:N.ks[0]?=some (q0:Int)) (E0:ByteArray) (hV0:Vis w0 vb L t (q0:Int) E0) (q1:Nat) (hk1:N.ks[1]?=some (q1:Int)) (E1:ByteArray) (hV1:Vis w0 vb L t (q1:Int) E1):
  Pw w0 vb 45 #[vP vb,mgV w0 t,nV (imI L i)] (⟨#[116,114,121,32]⟩++E0++⟨#[32,99,97,116,99,104,32]⟩++sepB N.nm++⟨#[32]⟩++E1):=by
 intro T w h
 obtain⟨b,vn,a,n,c,hv,Q⟩:=nd_q Tp0 hi
 rw[hN]at hv Q
 have kh:=fun w=>head_any b w
 have hmp:=fun w=>m_put w0.heap.size (tabB t) w
 have hml:=fun w=>m_line w0.heap.size (tabB t) w
 have hmi:=fun w=>m_inner w0.heap.size (tabB t) w
 have hna:=fun w=>na_put w0.heap.size (tabB t) w
 have hn:=Q.hn
 have hmt:=fun w=>methC (cls N.k) b w
 have hc:cls N.k=0:=by rw[hk];rfl
 obtain⟨pa,rfl,hcap,_⟩:=Q.ks.get hk1
 rw[hn]at hcap
 have hj0:(0:Int)<(n:Int):=by have:=kid_lt hk0;omega
 have hj1:(1:Int)<(n:Int):=by have:=kid_lt hk1;omega
 have KN:Hid (∀W,Below w0.heap.size w0 W->Calls Tryz.prog 90 #[.iface 142 (.pointer (some ⟨b,0,none⟩))] W fun e w'=>e= .returned (.string (sepB N.nm))/\Below W.heap.size W w'):=fun W hb=>namesOf_any W b vn N.nm (Q.nm.below hb) Q.jn hlm (by omega) ((Q.cells hb).2.2 _ (by rw[hc];rfl))
 obtain⟨sn,hsn⟩:∃sn,sepB N.nm=sn:=⟨_,rfl⟩
 rw[hsn]at hnz KN
 have f0:¬9223372036854775807<7+sn.size:=by omega
 have f1:¬9223372036854775807<7+sn.size+1:=by omega
 rw[hsn]
 clear hsn
 have S0:Hid (Pw w0 vb 232 _ (⟨#[116,114,121,32]⟩)):=put_pw w0 vb t (⟨#[116,114,121,32]⟩) (by decide)
 have S1:Hid (Pw w0 vb 67 _ (E0)):=hV0
 have S2:Hid (Pw w0 vb 232 _ ((⟨#[32,99,97,116,99,104,32]⟩:ByteArray)++sn++(⟨#[32]⟩:ByteArray))):=put_pw w0 vb t ((⟨#[32,99,97,116,99,104,32]⟩:ByteArray)++sn++(⟨#[32]⟩:ByteArray)) (by simp only[ByteArray.size_append];show 7+_+1<=_;omega)
 have S3:Hid (Pw w0 vb 67 _ (E1)):=hV1
 obtain⟨v0,hv0⟩:∃v,nV (imI L (q0:Int))=v:=⟨_,rfl⟩
 rw[hv0]at S1
 obtain⟨v1,hv1⟩:∃v,nV (imI L (q1:Int))=v:=⟨_,rfl⟩
 rw[hv1]at S3
 have cel:Hid (∀W,Below w0.heap.size w0 W->W.cell? ⟨b,0,none⟩=some (.int .i64 N.k)/\W.cell? ⟨b,5,none⟩=some (.slice (some pa) n c)/\W.cell? ⟨b,6,none⟩=some vn/\W.cell? pa=some v0/\W.cell? ⟨pa.block,pa.off+1,none⟩=some v1):=fun W hb=>⟨(Q.cells hb).1,(Q.cells hb).2.1,(Q.cells hb).2.2 _ (by rw[hc];rfl),by rw[<-hv0];obtain⟨_,e,_,x⟩:=(Q.ks.below hb).get hk0;cases e;simpa [Addr.add] using x,by rw[<-hv1];obtain⟨_,e,_,x⟩:=(Q.ks.below hb).get hk1;cases e;exact add_cell x (by decide)⟩
 have P0:Hid (Ps w0 vb T w/\Kq w0.heap.size w w):=⟨h,Kq.refl _ _⟩
 obtain⟨x0,x5,x6,y0,y1⟩:=cel.out _ h.pg.bel
 rw[hv]
 rw[hc]at hmt⊢
 simp only[ptT]at hmt⊢
 have has:=fun w=>asP0 b w
 unfold mgV mgA at *
 generalize tabB t=tb at *
 have HQ:Hid (NdQ w0 L N b vn (some pa) n c):=Q
 clear h Q hv hk
 go_enter Tryz.func45,Tryz.ntmps45
 go_wp2_with (first|(go_at_call 233;refine(kh _).mono ?_;rintro e w' ⟨rfl,hw'⟩;subst w')|(go_at_call 232;fail))
 refine(S0.out _ _ P0.out.1).mono ?_
 rintro e u0 ⟨rfl,qq,kk⟩
 have P1:Hid (Ps w0 vb (T++(⟨#[116,114,121,32]⟩)) u0/\Kq w0.heap.size w u0):=⟨qq,P0.out.2.trans kk⟩
 obtain⟨x0,x5,x6,y0,y1⟩:=cel.out _ qq.pg.bel
 clear qq kk
 go_wp2_with (first|(go_at_call 233;refine(kh _).mono ?_;rintro e w' ⟨rfl,hw'⟩;subst w')|(go_at_call 67;fail))
 refine(S1.out _ _ P1.out.1).mono ?_
 rintro e u1 ⟨rfl,qq,kk⟩
 have P2:Hid (Ps w0 vb (T++(⟨#[116,114,121,32]⟩)++(E0)) u1/\Kq w0.heap.size w u1):=⟨qq,P1.out.2.trans kk⟩
 obtain⟨x0,x5,x6,y0,y1⟩:=cel.out _ qq.pg.bel
 clear qq kk
 go_wp2_with (first|(go_at_call 233;refine(kh _).mono ?_;rintro e w' ⟨rfl,hw'⟩;subst w'))
 go_region_held3 (fun W'=>W'.cell? ⟨b,0,none⟩=some (.int .i64 N.k)/\W'.cell? ⟨b,5,none⟩=some (.slice (some pa) n c)/\W'.cell? ⟨b,6,none⟩=some vn/\W'.cell? pa=some v0/\W'.cell? ⟨pa.block,pa.off+1,none⟩=some v1) (first|exact cel.out _ (P2.out.1.below (bel_drew1 (Below.refl _ _))).pg.bel|exact cel.out _ ((P2.out.1.below (bel_drew1 (Below.refl _ _))).below hbwn).pg.bel|exact cel.out _ qq.pg.bel|go_keep) (first|(go_at_call 233;refine(kh _).mono ?_;rintro e w' ⟨rfl,hw'⟩;subst w')|(go_at_call 90;refine(KN.out _ (P2.out.1.below (bel_drew1 (Below.refl _ _))).pg.bel).mono ?_;rintro e wn ⟨rfl,hbwn⟩)|(go_at_call 232;refine(S2.out _ _ ((P2.out.1.below (bel_drew1 (Below.refl _ _))).below hbwn)).mono ?_;rintro e u2 ⟨rfl,qq,kk⟩))
 all_goals
  have P3:Hid (Ps w0 vb (T++(⟨#[116,114,121,32]⟩)++(E0)++((⟨#[32,99,97,116,99,104,32]⟩:ByteArray)++sn++(⟨#[32]⟩:ByteArray))) u2/\Kq w0.heap.size w u2):=⟨qq,((P2.out.2.trans (Kq.of_below (bel_drew1 (Below.refl _ _)))).trans (Kq.of_below hbwn)).trans kk⟩
  obtain⟨x0,x5,x6,y0,y1⟩:=cel.out _ qq.pg.bel
  clear qq kk
  go_wp2_with (first|(go_at_call 233;refine(kh _).mono ?_;rintro e w' ⟨rfl,hw'⟩;subst w')|(go_at_call 67;fail))
  refine(S3.out _ _ P3.out.1).mono ?_
  rintro e u3 ⟨rfl,qq,kk⟩
  have P4:Hid (Ps w0 vb (T++(⟨#[116,114,121,32]⟩)++(E0)++((⟨#[32,99,97,116,99,104,32]⟩:ByteArray)++sn++(⟨#[32]⟩:ByteArray))++(E1)) u3/\Kq w0.heap.size w u3):=⟨qq,P3.out.2.trans kk⟩
  obtain⟨x0,x5,x6,y0,y1⟩:=cel.out _ qq.pg.bel
  clear qq kk
  go_wp2_with (first|(go_at_call 233;refine(kh _).mono ?_;rintro e w' ⟨rfl,hw'⟩;subst w'))
  go_end0
  refine⟨rfl,?_,P4.out.2⟩
  have:=P4.out.1
  simpa only[ByteArray.append_assoc] using this
end Go.Proofs.YtelfejiiabbpfaaGreatDoor
