import Derived.Test.YtelfejiiabbpfaaGreatDoorHRk32
set_option linter.unusedVariables false
set_option maxRecDepth 100000
set_option maxHeartbeats 6400000
namespace Go.Proofs.YtelfejiiabbpfaaGreatDoor
open Go.RowKit Go.Maps Go.WideMaps
theorem m_let0 (w0:World) (vb:Nat) (ns:List Nd) (L:List Im) (base:Nat) (vs:Value) (Tp0:Tp w0 ns L base vs) (t:Nat) (ht:t<=100000) (i:Nat) (hi:i<ns.length) (N:Nd) (hN:nodeI ns i=N) (hk:N.k=2) (hlk:N.ks.length<=1048576) (hlm:N.nm.length<=1048576) (hnz:(sepB N.nm).size<=1000000) (h0:N.ks.length=0):
  Pw w0 vb 33 #[vP vb,mgV w0 t,nV (imI L i)] (⟨#[108,101,116,32]⟩++sepB N.nm):=by
 intro T w h
 obtain⟨b,vn,a,n,c,hv,Q⟩:=nd_q Tp0 hi
 rw[hN]at hv Q
 have kh:=fun w=>head_any b w
 have hmp:=fun w=>m_put w0.heap.size (tabB t) w
 have hml:=fun w=>m_line w0.heap.size (tabB t) w
 have hmi:=fun w=>m_inner w0.heap.size (tabB t) w
 have hna:=fun w=>na_put w0.heap.size (tabB t) w
 have hn:=Q.hn
 have hmt:=fun w=>methC (cls N.k) b w
 have hc:cls N.k=0:=by rw[hk];rfl
 have hnn:n=0:=by omega
 subst hnn
 have KN:Hid (∀W,Below w0.heap.size w0 W->Calls Tryz.prog 90 #[.iface 142 (.pointer (some ⟨b,0,none⟩))] W fun e w'=>e= .returned (.string (sepB N.nm))/\Below W.heap.size W w'):=fun W hb=>namesOf_any W b vn N.nm (Q.nm.below hb) Q.jn hlm (by omega) ((Q.cells hb).2.2 _ (by rw[hc];rfl))
 obtain⟨sn,hsn⟩:∃sn,sepB N.nm=sn:=⟨_,rfl⟩
 rw[hsn]at hnz KN
 have f0:¬9223372036854775807<4+sn.size:=by omega
 rw[hsn]
 clear hsn
 have S0:Hid (Pw w0 vb 232 _ ((⟨#[108,101,116,32]⟩:ByteArray)++sn)):=put_pw w0 vb t ((⟨#[108,101,116,32]⟩:ByteArray)++sn) (by simp only[ByteArray.size_append];show 4+_<=_;omega)
 have cel:Hid (∀W,Below w0.heap.size w0 W->W.cell? ⟨b,0,none⟩=some (.int .i64 N.k)/\W.cell? ⟨b,5,none⟩=some (.slice a 0 c)/\W.cell? ⟨b,6,none⟩=some vn):=fun W hb=>⟨(Q.cells hb).1,(Q.cells hb).2.1,(Q.cells hb).2.2 _ (by rw[hc];rfl)⟩
 have P0:Hid (Ps w0 vb T w/\Kq w0.heap.size w w):=⟨h,Kq.refl _ _⟩
 obtain⟨x0,x5,x6⟩:=cel.out _ h.pg.bel
 rw[hv]
 rw[hc]at hmt⊢
 simp only[ptT]at hmt⊢
 have has:=fun w=>asP0 b w
 unfold mgV mgA at *
 generalize tabB t=tb at *
 have HQ:Hid (NdQ w0 L N b vn a 0 c):=Q
 clear h Q hv hk
 go_enter Tryz.func33,Tryz.ntmps33
 go_wp2_with (first|(go_at_call 233;refine(kh _).mono ?_;rintro e w' ⟨rfl,hw'⟩;subst w'))
 go_region_held3 (fun W'=>W'.cell? ⟨b,0,none⟩=some (.int .i64 N.k)/\W'.cell? ⟨b,5,none⟩=some (.slice a 0 c)/\W'.cell? ⟨b,6,none⟩=some vn) (first|exact cel.out _ (P0.out.1.below (bel_drew1 (Below.refl _ _))).pg.bel|exact cel.out _ ((P0.out.1.below (bel_drew1 (Below.refl _ _))).below hbwn).pg.bel|exact cel.out _ qq.pg.bel|go_keep) (first|(go_at_call 233;refine(kh _).mono ?_;rintro e w' ⟨rfl,hw'⟩;subst w')|(go_at_call 90;refine(KN.out _ (P0.out.1.below (bel_drew1 (Below.refl _ _))).pg.bel).mono ?_;rintro e wn ⟨rfl,hbwn⟩)|(go_at_call 232;refine(S0.out _ _ ((P0.out.1.below (bel_drew1 (Below.refl _ _))).below hbwn)).mono ?_;rintro e u0 ⟨rfl,qq,kk⟩))
 all_goals
  have P1:Hid (Ps w0 vb (T++((⟨#[108,101,116,32]⟩:ByteArray)++sn)) u0/\Kq w0.heap.size w u0):=⟨qq,((P0.out.2.trans (Kq.of_below (bel_drew1 (Below.refl _ _)))).trans (Kq.of_below hbwn)).trans kk⟩
  obtain⟨x0,x5,x6⟩:=cel.out _ qq.pg.bel
  clear qq kk
  go_wp2_with (first|(go_at_call 233;refine(kh _).mono ?_;rintro e w' ⟨rfl,hw'⟩;subst w'))
  go_end0
  refine⟨rfl,?_,P1.out.2⟩
  have:=P1.out.1
  simpa only[ByteArray.append_assoc] using this
theorem m_let (w0:World) (vb:Nat) (ns:List Nd) (L:List Im) (base:Nat) (vs:Value) (Tp0:Tp w0 ns L base vs) (t:Nat) (ht:t<=100000) (i:Nat) (hi:i<ns.length) (N:Nd) (hN:nodeI ns i=N) (hk:N.k=2) (hlk:N.ks.length<=1048576) (hlm:N.nm.length<=1048576) (hnz:(sepB N.nm).size<=1000000) (h0:0<N.ks.length) (X:ByteArray) (hLX:∀v,SlAt w0 L v (N.ks)->Pw w0 vb 93 #[vP vb,mgV w0 t,v] X):
  Pw w0 vb 33 #[vP vb,mgV w0 t,nV (imI L i)] (⟨#[108,101,116,32]⟩++sepB N.nm++(⟨#[32,61,32]⟩++X)):=by
 intro T w h
 obtain⟨b,vn,a,n,c,hv,Q⟩:=nd_q Tp0 hi
 rw[hN]at hv Q
 have kh:=fun w=>head_any b w
 have hmp:=fun w=>m_put w0.heap.size (tabB t) w
 have hml:=fun w=>m_line w0.heap.size (tabB t) w
 have hmi:=fun w=>m_inner w0.heap.size (tabB t) w
 have hna:=fun w=>na_put w0.heap.size (tabB t) w
 have hn:=Q.hn
 have hmt:=fun w=>methC (cls N.k) b w
 have hc:cls N.k=0:=by rw[hk];rfl
 have KN:Hid (∀W,Below w0.heap.size w0 W->Calls Tryz.prog 90 #[.iface 142 (.pointer (some ⟨b,0,none⟩))] W fun e w'=>e= .returned (.string (sepB N.nm))/\Below W.heap.size W w'):=fun W hb=>namesOf_any W b vn N.nm (Q.nm.below hb) Q.jn hlm (by omega) ((Q.cells hb).2.2 _ (by rw[hc];rfl))
 obtain⟨sn,hsn⟩:∃sn,sepB N.nm=sn:=⟨_,rfl⟩
 rw[hsn]at hnz KN
 have f0:¬9223372036854775807<4+sn.size:=by omega
 have hq:(0:Int)<(n:Int):=by omega
 have hq2:0<n:=by omega
 rw[hsn]
 clear hsn
 have S0:Hid (Pw w0 vb 232 _ ((⟨#[108,101,116,32]⟩:ByteArray)++sn)):=put_pw w0 vb t ((⟨#[108,101,116,32]⟩:ByteArray)++sn) (by simp only[ByteArray.size_append];show 4+_<=_;omega)
 have S1:Hid (Pw w0 vb 91 _ (⟨#[32,61,32]⟩++X)):=phrase_any w0 vb t (⟨#[32,61,32]⟩) X (by decide) (.slice a n c) (hLX _ (Q.ks))
 have cel:Hid (∀W,Below w0.heap.size w0 W->W.cell? ⟨b,0,none⟩=some (.int .i64 N.k)/\W.cell? ⟨b,5,none⟩=some (.slice a n c)/\W.cell? ⟨b,6,none⟩=some vn):=fun W hb=>⟨(Q.cells hb).1,(Q.cells hb).2.1,(Q.cells hb).2.2 _ (by rw[hc];rfl)⟩
 have P0:Hid (Ps w0 vb T w/\Kq w0.heap.size w w):=⟨h,Kq.refl _ _⟩
 obtain⟨x0,x5,x6⟩:=cel.out _ h.pg.bel
 rw[hv]
 rw[hc]at hmt⊢
 simp only[ptT]at hmt⊢
 have has:=fun w=>asP0 b w
 unfold mgV mgA at *
 generalize tabB t=tb at *
 have HQ:Hid (NdQ w0 L N b vn a n c):=Q
 clear h Q hv hk
 go_enter Tryz.func33,Tryz.ntmps33
 go_wp2_with (first|(go_at_call 233;refine(kh _).mono ?_;rintro e w' ⟨rfl,hw'⟩;subst w'))
 go_region_held3 (fun W'=>W'.cell? ⟨b,0,none⟩=some (.int .i64 N.k)/\W'.cell? ⟨b,5,none⟩=some (.slice a n c)/\W'.cell? ⟨b,6,none⟩=some vn) (first|exact cel.out _ (P0.out.1.below (bel_drew1 (Below.refl _ _))).pg.bel|exact cel.out _ ((P0.out.1.below (bel_drew1 (Below.refl _ _))).below hbwn).pg.bel|exact cel.out _ qq.pg.bel|go_keep) (first|(go_at_call 233;refine(kh _).mono ?_;rintro e w' ⟨rfl,hw'⟩;subst w')|(go_at_call 90;refine(KN.out _ (P0.out.1.below (bel_drew1 (Below.refl _ _))).pg.bel).mono ?_;rintro e wn ⟨rfl,hbwn⟩)|(go_at_call 232;refine(S0.out _ _ ((P0.out.1.below (bel_drew1 (Below.refl _ _))).below hbwn)).mono ?_;rintro e u0 ⟨rfl,qq,kk⟩))
 all_goals
  have P1:Hid (Ps w0 vb (T++((⟨#[108,101,116,32]⟩:ByteArray)++sn)) u0/\Kq w0.heap.size w u0):=⟨qq,((P0.out.2.trans (Kq.of_below (bel_drew1 (Below.refl _ _)))).trans (Kq.of_below hbwn)).trans kk⟩
  obtain⟨x0,x5,x6⟩:=cel.out _ qq.pg.bel
  clear qq kk
  go_wp2_with (first|(go_at_call 233;refine(kh _).mono ?_;rintro e w' ⟨rfl,hw'⟩;subst w')|(go_at_call 91;fail))
  refine(S1.out _ _ P1.out.1).mono ?_
  rintro e u1 ⟨rfl,qq,kk⟩
  have P2:Hid (Ps w0 vb (T++((⟨#[108,101,116,32]⟩:ByteArray)++sn)++(⟨#[32,61,32]⟩++X)) u1/\Kq w0.heap.size w u1):=⟨qq,P1.out.2.trans kk⟩
  obtain⟨x0,x5,x6⟩:=cel.out _ qq.pg.bel
  clear qq kk
  go_wp2_with (first|(go_at_call 233;refine(kh _).mono ?_;rintro e w' ⟨rfl,hw'⟩;subst w'))
  go_end0
  refine⟨rfl,?_,P2.out.2⟩
  have:=P2.out.1
  simpa only[ByteArray.append_assoc] using this
end Go.Proofs.YtelfejiiabbpfaaGreatDoor
