import Derived.Test.YtelfejiiabbpfaaGreatDoorHRk32
set_option linter.unusedVariables false
set_option maxRecDepth 100000
set_option maxHeartbeats 6400000
namespace Go.Proofs.YtelfejiiabbpfaaGreatDoor
open Go.RowKit Go.Maps Go.WideMaps
theorem m_named (w0:World) (vb:Nat) (ns:List Nd) (L:List Im) (base:Nat) (vs:Value) (Tp0:Tp w0 ns L base vs) (t:Nat) (ht:t<=100000) (i:Nat) (hi:i<ns.length) (N:Nd) (hN:nodeI ns i=N) (hk:N.k=42) (hlk:N.ks.length<=1048576) (hxz:N.x.size<=4000) (X:ByteArray) (hLX:∀v,SlAt w0 L v (N.ks)->Pw w0 vb 93 #[vP vb,mgV w0 t,v] X):
  Pw w0 vb 66 #[vP vb,mgV w0 t,nV (imI L i)] ((⟨#[46]⟩++N.x++⟨#[32,61,32]⟩)++X):=by
 intro T w h
 obtain⟨b,vn,a,n,c,hv,Q⟩:=nd_q Tp0 hi
 rw[hN]at hv Q
 have kh:=fun w=>head_any b w
 have hmp:=fun w=>m_put w0.heap.size (tabB t) w
 have hml:=fun w=>m_line w0.heap.size (tabB t) w
 have hmi:=fun w=>m_inner w0.heap.size (tabB t) w
 have hna:=fun w=>na_put w0.heap.size (tabB t) w
 have hn:=Q.hn
 have hmt:=fun w=>methC (cls N.k) b w
 have hc:cls N.k=3:=by rw[hk];rfl
 have f0:¬9223372036854775807<1+N.x.size:=by omega
 have f1:¬9223372036854775807<1+N.x.size+3:=by omega
 have S0:Hid (Pw w0 vb 91 _ (((⟨#[46]⟩:ByteArray)++N.x++(⟨#[32,61,32]⟩:ByteArray))++X)):=phrase_any w0 vb t ((⟨#[46]⟩:ByteArray)++N.x++(⟨#[32,61,32]⟩:ByteArray)) X (by simp only[ByteArray.size_append];show 1+_+3<=_;omega) (.slice a n c) (hLX _ Q.ks)
 have cel:Hid (∀W,Below w0.heap.size w0 W->W.cell? ⟨b,0,none⟩=some (.int .i64 N.k)/\W.cell? ⟨b,5,none⟩=some (.slice a n c)/\W.cell? ⟨b,6,none⟩=some (.string N.x)):=fun W hb=>⟨(Q.cells hb).1,(Q.cells hb).2.1,(Q.cells hb).2.2 _ (by rw[hc];rfl)⟩
 have P0:Hid (Ps w0 vb T w/\Kq w0.heap.size w w):=⟨h,Kq.refl _ _⟩
 obtain⟨x0,x5,x6⟩:=cel.out _ h.pg.bel
 rw[hv]
 rw[hc]at hmt⊢
 simp only[ptT]at hmt⊢
 have has:=fun w=>asP3 b w
 unfold mgV mgA at *
 generalize tabB t=tb at *
 have HQ:Hid (NdQ w0 L N b vn a n c):=Q
 clear h Q hv hk
 go_enter Tryz.func66,Tryz.ntmps66
 go_wp2_with (first|(go_at_call 233;refine(kh _).mono ?_;rintro e w' ⟨rfl,hw'⟩;subst w'))
 go_region_held3 (fun W'=>W'.cell? ⟨b,0,none⟩=some (.int .i64 N.k)/\W'.cell? ⟨b,5,none⟩=some (.slice a n c)/\W'.cell? ⟨b,6,none⟩=some (.string N.x)) (first|exact cel.out _ (P0.out.1.below (bel_drew1 (Below.refl _ _))).pg.bel|exact cel.out _ qq.pg.bel|go_keep) (first|(go_at_call 233;refine(kh _).mono ?_;rintro e w' ⟨rfl,hw'⟩;subst w')|(go_at_call 91;refine(S0.out _ _ (P0.out.1.below (bel_drew1 (Below.refl _ _)))).mono ?_;rintro e u0 ⟨rfl,qq,kk⟩))
 all_goals
  have P1:Hid (Ps w0 vb (T++(((⟨#[46]⟩:ByteArray)++N.x++(⟨#[32,61,32]⟩:ByteArray))++X)) u0/\Kq w0.heap.size w u0):=⟨qq,(P0.out.2.trans (Kq.of_below (bel_drew1 (Below.refl _ _)))).trans kk⟩
  obtain⟨x0,x5,x6⟩:=cel.out _ qq.pg.bel
  clear qq kk
  go_wp2_with (first|(go_at_call 233;refine(kh _).mono ?_;rintro e w' ⟨rfl,hw'⟩;subst w'))
  go_end0
  refine⟨rfl,?_,P1.out.2⟩
  have:=P1.out.1
  simpa only[ByteArray.append_assoc] using this
theorem m_pair (w0:World) (vb:Nat) (ns:List Nd) (L:List Im) (base:Nat) (vs:Value) (Tp0:Tp w0 ns L base vs) (t:Nat) (ht:t<=100000) (i:Nat) (hi:i<ns.length) (N:Nd) (hN:nodeI ns i=N) (hlk:N.ks.length<=1048576) (hLn:N.ks.length=2) (q0:Nat) (hk0:N.ks[0]?=some (q0:Int)) (E0:ByteArray) (hV0:Pw w0 vb 104 #[vP vb,mgV w0 t,nV (imI L (q0:Int))] E0) (X:ByteArray) (hLX:∀v,SlAt w0 L v (N.ks.drop 1)->Pw w0 vb 93 #[vP vb,mgV w0 t,v] X):
  Pw w0 vb 65 #[vP vb,mgV w0 t,nV (imI L i)] (E0++(⟨#[32,61,32]⟩++X)):=by
 intro T w h
 obtain⟨b,vn,a,n,c,hv,Q⟩:=nd_q Tp0 hi
 rw[hN]at hv Q
 have kh:=fun w=>head_any b w
 have hmp:=fun w=>m_put w0.heap.size (tabB t) w
 have hml:=fun w=>m_line w0.heap.size (tabB t) w
 have hmi:=fun w=>m_inner w0.heap.size (tabB t) w
 have hn:=Q.hn
 have hmt:=fun w=>methC (cls N.k) b w
 obtain⟨pa,rfl,hcap,_⟩:=Q.ks.get hk0
 rw[hn]at hcap
 have hnn:n=2:=by omega
 subst hnn
 have hc0:¬c=0:=by omega
 have hc3:¬c=1:=by omega
 have hc1:(1:Int)<=(c:Int):=by omega
 have S0:Hid (Pw w0 vb 104 _ (E0)):=hV0
 have S1:Hid (Pw w0 vb 91 _ (⟨#[32,61,32]⟩++X)):=phrase_any w0 vb t (⟨#[32,61,32]⟩) X (by decide) _ (hLX _ (Q.ks.drop 1 1 (by omega) (by omega)))
 obtain⟨v0,hv0⟩:∃v,nV (imI L (q0:Int))=v:=⟨_,rfl⟩
 rw[hv0]at S0
 have cel:Hid (∀W,Below w0.heap.size w0 W->W.cell? ⟨b,0,none⟩=some (.int .i64 N.k)/\W.cell? ⟨b,5,none⟩=some (.slice (some pa) 2 c)/\W.cell? pa=some v0):=fun W hb=>⟨(Q.cells hb).1,(Q.cells hb).2.1,by rw[<-hv0];obtain⟨_,e,_,x⟩:=(Q.ks.below hb).get hk0;cases e;simpa [Addr.add] using x⟩
 have P0:Hid (Ps w0 vb T w/\Kq w0.heap.size w w):=⟨h,Kq.refl _ _⟩
 obtain⟨x0,x5,y0⟩:=cel.out _ h.pg.bel
 rw[hv]
 generalize ptT (cls N.k)=tp at hmt⊢
 unfold mgV mgA at *
 generalize tabB t=tb at *
 have HQ:Hid (NdQ w0 L N b vn (some pa) 2 c):=Q
 clear h Q hv
 go_enter Tryz.func65,Tryz.ntmps65
 go_wp2_with (first|(go_at_call 233;refine(kh _).mono ?_;rintro e w' ⟨rfl,hw'⟩;subst w')|(go_at_call 104;fail))
 refine(S0.out _ _ P0.out.1).mono ?_
 rintro e u0 ⟨rfl,qq,kk⟩
 have P1:Hid (Ps w0 vb (T++(E0)) u0/\Kq w0.heap.size w u0):=⟨qq,P0.out.2.trans kk⟩
 obtain⟨x0,x5,y0⟩:=cel.out _ qq.pg.bel
 clear qq kk
 go_wp2_with (first|(go_at_call 233;refine(kh _).mono ?_;rintro e w' ⟨rfl,hw'⟩;subst w')|(go_at_call 91;fail))
 refine(S1.out _ _ P1.out.1).mono ?_
 rintro e u1 ⟨rfl,qq,kk⟩
 have P2:Hid (Ps w0 vb (T++(E0)++(⟨#[32,61,32]⟩++X)) u1/\Kq w0.heap.size w u1):=⟨qq,P1.out.2.trans kk⟩
 obtain⟨x0,x5,y0⟩:=cel.out _ qq.pg.bel
 clear qq kk
 go_wp2_with (first|(go_at_call 233;refine(kh _).mono ?_;rintro e w' ⟨rfl,hw'⟩;subst w'))
 go_end0
 refine⟨rfl,?_,P2.out.2⟩
 have:=P2.out.1
 simpa only[ByteArray.append_assoc] using this
theorem m_field (w0:World) (vb:Nat) (ns:List Nd) (L:List Im) (base:Nat) (vs:Value) (Tp0:Tp w0 ns L base vs) (t:Nat) (ht:t<=100000) (i:Nat) (hi:i<ns.length) (N:Nd) (hN:nodeI ns i=N) (hk:N.k=33) (hlk:N.ks.length<=1048576) (hxz:N.x.size<=4000) (q0:Nat) (hk0:N.ks[0]?=some (q0:Int)) (E0:ByteArray) (hV0:Pw w0 vb 103 #[vP vb,mgV w0 t,nV (imI L (q0:Int))] E0):
  Pw w0 vb 59 #[vP vb,mgV w0 t,nV (imI L i)] (E0++(⟨#[46]⟩++N.x)):=by
 intro T w h
 obtain⟨b,vn,a,n,c,hv,Q⟩:=nd_q Tp0 hi
 rw[hN]at hv Q
 have kh:=fun w=>head_any b w
 have hmp:=fun w=>m_put w0.heap.size (tabB t) w
 have hml:=fun w=>m_line w0.heap.size (tabB t) w
 have hmi:=fun w=>m_inner w0.heap.size (tabB t) w
 have hna:=fun w=>na_put w0.heap.size (tabB t) w
 have hn:=Q.hn
 have hmt:=fun w=>methC (cls N.k) b w
 have hc:cls N.k=3:=by rw[hk];rfl
 obtain⟨pa,rfl,hcap,_⟩:=Q.ks.get hk0
 rw[hn]at hcap
 have hj0:(0:Int)<(n:Int):=by have:=kid_lt hk0;omega
 have f0:¬9223372036854775807<1+N.x.size:=by omega
 have S0:Hid (Pw w0 vb 103 _ (E0)):=hV0
 have S1:Hid (Pw w0 vb 232 _ ((⟨#[46]⟩:ByteArray)++N.x)):=put_pw w0 vb t ((⟨#[46]⟩:ByteArray)++N.x) (by simp only[ByteArray.size_append];show 1+_<=_;omega)
 obtain⟨v0,hv0⟩:∃v,nV (imI L (q0:Int))=v:=⟨_,rfl⟩
 rw[hv0]at S0
 have cel:Hid (∀W,Below w0.heap.size w0 W->W.cell? ⟨b,0,none⟩=some (.int .i64 N.k)/\W.cell? ⟨b,5,none⟩=some (.slice (some pa) n c)/\W.cell? ⟨b,6,none⟩=some (.string N.x)/\W.cell? pa=some v0):=fun W hb=>⟨(Q.cells hb).1,(Q.cells hb).2.1,(Q.cells hb).2.2 _ (by rw[hc];rfl),by rw[<-hv0];obtain⟨_,e,_,x⟩:=(Q.ks.below hb).get hk0;cases e;simpa [Addr.add] using x⟩
 have P0:Hid (Ps w0 vb T w/\Kq w0.heap.size w w):=⟨h,Kq.refl _ _⟩
 obtain⟨x0,x5,x6,y0⟩:=cel.out _ h.pg.bel
 rw[hv]
 rw[hc]at hmt⊢
 simp only[ptT]at hmt⊢
 have has:=fun w=>asP3 b w
 unfold mgV mgA at *
 generalize tabB t=tb at *
 have HQ:Hid (NdQ w0 L N b vn (some pa) n c):=Q
 clear h Q hv hk
 go_enter Tryz.func59,Tryz.ntmps59
 go_wp2_with (first|(go_at_call 233;refine(kh _).mono ?_;rintro e w' ⟨rfl,hw'⟩;subst w')|(go_at_call 103;fail))
 refine(S0.out _ _ P0.out.1).mono ?_
 rintro e u0 ⟨rfl,qq,kk⟩
 have P1:Hid (Ps w0 vb (T++(E0)) u0/\Kq w0.heap.size w u0):=⟨qq,P0.out.2.trans kk⟩
 obtain⟨x0,x5,x6,y0⟩:=cel.out _ qq.pg.bel
 clear qq kk
 go_wp2_with (first|(go_at_call 233;refine(kh _).mono ?_;rintro e w' ⟨rfl,hw'⟩;subst w'))
 go_region_held3 (fun W'=>W'.cell? ⟨b,0,none⟩=some (.int .i64 N.k)/\W'.cell? ⟨b,5,none⟩=some (.slice (some pa) n c)/\W'.cell? ⟨b,6,none⟩=some (.string N.x)/\W'.cell? pa=some v0) (first|exact cel.out _ (P1.out.1.below (bel_drew1 (Below.refl _ _))).pg.bel|exact cel.out _ qq.pg.bel|go_keep) (first|(go_at_call 233;refine(kh _).mono ?_;rintro e w' ⟨rfl,hw'⟩;subst w')|(go_at_call 232;refine(S1.out _ _ (P1.out.1.below (bel_drew1 (Below.refl _ _)))).mono ?_;rintro e u1 ⟨rfl,qq,kk⟩))
 all_goals
  have P2:Hid (Ps w0 vb (T++(E0)++((⟨#[46]⟩:ByteArray)++N.x)) u1/\Kq w0.heap.size w u1):=⟨qq,(P1.out.2.trans (Kq.of_below (bel_drew1 (Below.refl _ _)))).trans kk⟩
  obtain⟨x0,x5,x6,y0⟩:=cel.out _ qq.pg.bel
  clear qq kk
  go_wp2_with (first|(go_at_call 233;refine(kh _).mono ?_;rintro e w' ⟨rfl,hw'⟩;subst w'))
  go_end0
  refine⟨rfl,?_,P2.out.2⟩
  have:=P2.out.1
  simpa only[ByteArray.append_assoc] using this
end Go.Proofs.YtelfejiiabbpfaaGreatDoor
