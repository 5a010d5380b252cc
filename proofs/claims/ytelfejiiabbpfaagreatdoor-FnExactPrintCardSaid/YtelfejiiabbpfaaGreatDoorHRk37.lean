import Derived.Test.YtelfejiiabbpfaaGreatDoorHRk29
import Derived.Test.YtelfejiiabbpfaaGreatDoorHRk32
set_option linter.unusedVariables false
set_option maxRecDepth 100000
set_option maxHeartbeats 6400000
namespace Go.Proofs.YtelfejiiabbpfaaGreatDoor
open Go.RowKit Go.Maps Go.WideMaps
theorem v_1 {w0:World}{vb:Nat}{ns:List Nd}{L:List Im}{base:Nat}{vs:Value}(Tp0:Tp w0 ns L base vs) {t i:Nat}(hi:i<ns.length) (hk:(nodeI ns i).k=1) {Y:ByteArray}(hm:Pw w0 vb 32 #[vP vb,mgV w0 t,nV (imI L i)] Y):Vis w0 vb L t i Y:=visit_of w0 vb ns L base vs Tp0 t i hi 1 hk (by decide) _ rfl (fun args w=>by kernel_rfl) Y hm
theorem v_2 {w0:World}{vb:Nat}{ns:List Nd}{L:List Im}{base:Nat}{vs:Value}(Tp0:Tp w0 ns L base vs) {t i:Nat}(hi:i<ns.length) (hk:(nodeI ns i).k=2) {Y:ByteArray}(hm:Pw w0 vb 33 #[vP vb,mgV w0 t,nV (imI L i)] Y):Vis w0 vb L t i Y:=visit_of w0 vb ns L base vs Tp0 t i hi 2 hk (by decide) _ rfl (fun args w=>by kernel_rfl) Y hm
theorem v_3 {w0:World}{vb:Nat}{ns:List Nd}{L:List Im}{base:Nat}{vs:Value}(Tp0:Tp w0 ns L base vs) {t i:Nat}(hi:i<ns.length) (hk:(nodeI ns i).k=3) {Y:ByteArray}(hm:Pw w0 vb 34 #[vP vb,mgV w0 t,nV (imI L i)] Y):Vis w0 vb L t i Y:=visit_of w0 vb ns L base vs Tp0 t i hi 3 hk (by decide) _ rfl (fun args w=>by kernel_rfl) Y hm
theorem v_4 {w0:World}{vb:Nat}{ns:List Nd}{L:List Im}{base:Nat}{vs:Value}(Tp0:Tp w0 ns L base vs) {t i:Nat}(hi:i<ns.length) (hk:(nodeI ns i).k=4) {Y:ByteArray}(hm:Pw w0 vb 35 #[vP vb,mgV w0 t,nV (imI L i)] Y):Vis w0 vb L t i Y:=visit_of w0 vb ns L base vs Tp0 t i hi 4 hk (by decide) _ rfl (fun args w=>by kernel_rfl) Y hm
theorem v_5 {w0:World}{vb:Nat}{ns:List Nd}{L:List Im}{base:Nat}{vs:Value}(Tp0:Tp w0 ns L base vs) {t i:Nat}(hi:i<ns.length) (hk:(nodeI ns i).k=5) {Y:ByteArray}(hm:Pw w0 vb 36 #[vP vb,mgV w0 t,nV (imI L i)] Y):Vis w0 vb L t i Y:=visit_of w0 vb ns L base vs Tp0 t i hi 5 hk (by decide) _ rfl (fun args w=>by kernel_rfl) Y hm
theorem v_6 {w0:World}{vb:Nat}{ns:List Nd}{L:List Im}{base:Nat}{vs:Value}(Tp0:Tp w0 ns L base vs) {t i:Nat}(hi:i<ns.length) (hk:(nodeI ns i).k=6) {Y:ByteArray}(hm:Pw w0 vb 37 #[vP vb,mgV w0 t,nV (imI L i)] Y):Vis w0 vb L t i Y:=visit_of w0 vb ns L base vs Tp0 t i hi 6 hk (by decide) _ rfl (fun args w=>by kernel_rfl) Y hm
theorem v_7 {w0:World}{vb:Nat}{ns:List Nd}{L:List Im}{base:Nat}{vs:Value}(Tp0:Tp w0 ns L base vs) {t i:Nat}(hi:i<ns.length) (hk:(nodeI ns i).k=7) {Y:ByteArray}(hm:Pw w0 vb 38 #[vP vb,mgV w0 t,nV (imI L i)] Y):Vis w0 vb L t i Y:=visit_of w0 vb ns L base vs Tp0 t i hi 7 hk (by decide) _ rfl (fun args w=>by kernel_rfl) Y hm
theorem v_8 {w0:World}{vb:Nat}{ns:List Nd}{L:List Im}{base:Nat}{vs:Value}(Tp0:Tp w0 ns L base vs) {t i:Nat}(hi:i<ns.length) (hk:(nodeI ns i).k=8) {Y:ByteArray}(hm:Pw w0 vb 39 #[vP vb,mgV w0 t,nV (imI L i)] Y):Vis w0 vb L t i Y:=visit_of w0 vb ns L base vs Tp0 t i hi 8 hk (by decide) _ rfl (fun args w=>by kernel_rfl) Y hm
theorem v_9 {w0:World}{vb:Nat}{ns:List Nd}{L:List Im}{base:Nat}{vs:Value}(Tp0:Tp w0 ns L base vs) {t i:Nat}(hi:i<ns.length) (hk:(nodeI ns i).k=9) {Y:ByteArray}(hm:Pw w0 vb 40 #[vP vb,mgV w0 t,nV (imI L i)] Y):Vis w0 vb L t i Y:=visit_of w0 vb ns L base vs Tp0 t i hi 9 hk (by decide) _ rfl (fun args w=>by kernel_rfl) Y hm
theorem v_10 {w0:World}{vb:Nat}{ns:List Nd}{L:List Im}{base:Nat}{vs:Value}(Tp0:Tp w0 ns L base vs) {t i:Nat}(hi:i<ns.length) (hk:(nodeI ns i).k=10) {Y:ByteArray}(hm:Pw w0 vb 41 #[vP vb,mgV w0 t,nV (imI L i)] Y):Vis w0 vb L t i Y:=visit_of w0 vb ns L base vs Tp0 t i hi 10 hk (by decide) _ rfl (fun args w=>by kernel_rfl) Y hm
theorem v_11 {w0:World}{vb:Nat}{ns:List Nd}{L:List Im}{base:Nat}{vs:Value}(Tp0:Tp w0 ns L base vs) {t i:Nat}(hi:i<ns.length) (hk:(nodeI ns i).k=11) {Y:ByteArray}(hm:Pw w0 vb 42 #[vP vb,mgV w0 t,nV (imI L i)] Y):Vis w0 vb L t i Y:=visit_of w0 vb ns L base vs Tp0 t i hi 11 hk (by decide) _ rfl (fun args w=>by kernel_rfl) Y hm
theorem v_12 {w0:World}{vb:Nat}{ns:List Nd}{L:List Im}{base:Nat}{vs:Value}(Tp0:Tp w0 ns L base vs) {t i:Nat}(hi:i<ns.length) (hk:(nodeI ns i).k=12) {Y:ByteArray}(hm:Pw w0 vb 43 #[vP vb,mgV w0 t,nV (imI L i)] Y):Vis w0 vb L t i Y:=visit_of w0 vb ns L base vs Tp0 t i hi 12 hk (by decide) _ rfl (fun args w=>by kernel_rfl) Y hm
theorem v_13 {w0:World}{vb:Nat}{ns:List Nd}{L:List Im}{base:Nat}{vs:Value}(Tp0:Tp w0 ns L base vs) {t i:Nat}(hi:i<ns.length) (hk:(nodeI ns i).k=13) {Y:ByteArray}(hm:Pw w0 vb 44 #[vP vb,mgV w0 t,nV (imI L i)] Y):Vis w0 vb L t i Y:=visit_of w0 vb ns L base vs Tp0 t i hi 13 hk (by decide) _ rfl (fun args w=>by kernel_rfl) Y hm
theorem v_14 {w0:World}{vb:Nat}{ns:List Nd}{L:List Im}{base:Nat}{vs:Value}(Tp0:Tp w0 ns L base vs) {t i:Nat}(hi:i<ns.length) (hk:(nodeI ns i).k=14) {Y:ByteArray}(hm:Pw w0 vb 45 #[vP vb,mgV w0 t,nV (imI L i)] Y):Vis w0 vb L t i Y:=visit_of w0 vb ns L base vs Tp0 t i hi 14 hk (by decide) _ rfl (fun args w=>by kernel_rfl) Y hm
theorem v_15 {w0:World}{vb:Nat}{ns:List Nd}{L:List Im}{base:Nat}{vs:Value}(Tp0:Tp w0 ns L base vs) {t i:Nat}(hi:i<ns.length) (hk:(nodeI ns i).k=15) {Y:ByteArray}(hm:Pw w0 vb 46 #[vP vb,mgV w0 t,nV (imI L i)] Y):Vis w0 vb L t i Y:=visit_of w0 vb ns L base vs Tp0 t i hi 15 hk (by decide) _ rfl (fun args w=>by kernel_rfl) Y hm
theorem v_16 {w0:World}{vb:Nat}{ns:List Nd}{L:List Im}{base:Nat}{vs:Value}(Tp0:Tp w0 ns L base vs) {t i:Nat}(hi:i<ns.length) (hk:(nodeI ns i).k=16) {Y:ByteArray}(hm:Pw w0 vb 47 #[vP vb,mgV w0 t,nV (imI L i)] Y):Vis w0 vb L t i Y:=visit_of w0 vb ns L base vs Tp0 t i hi 16 hk (by decide) _ rfl (fun args w=>by kernel_rfl) Y hm
theorem v_20 {w0:World}{vb:Nat}{ns:List Nd}{L:List Im}{base:Nat}{vs:Value}(Tp0:Tp w0 ns L base vs) {t i:Nat}(hi:i<ns.length) (hk:(nodeI ns i).k=20) {Y:ByteArray}(hm:Pw w0 vb 48 #[vP vb,mgV w0 t,nV (imI L i)] Y):Vis w0 vb L t i Y:=visit_of w0 vb ns L base vs Tp0 t i hi 20 hk (by decide) _ rfl (fun args w=>by kernel_rfl) Y hm
theorem v_21 {w0:World}{vb:Nat}{ns:List Nd}{L:List Im}{base:Nat}{vs:Value}(Tp0:Tp w0 ns L base vs) {t i:Nat}(hi:i<ns.length) (hk:(nodeI ns i).k=21) {Y:ByteArray}(hm:Pw w0 vb 49 #[vP vb,mgV w0 t,nV (imI L i)] Y):Vis w0 vb L t i Y:=visit_of w0 vb ns L base vs Tp0 t i hi 21 hk (by decide) _ rfl (fun args w=>by kernel_rfl) Y hm
theorem v_22 {w0:World}{vb:Nat}{ns:List Nd}{L:List Im}{base:Nat}{vs:Value}(Tp0:Tp w0 ns L base vs) {t i:Nat}(hi:i<ns.length) (hk:(nodeI ns i).k=22) {Y:ByteArray}(hm:Pw w0 vb 50 #[vP vb,mgV w0 t,nV (imI L i)] Y):Vis w0 vb L t i Y:=visit_of w0 vb ns L base vs Tp0 t i hi 22 hk (by decide) _ rfl (fun args w=>by kernel_rfl) Y hm
theorem v_23 {w0:World}{vb:Nat}{ns:List Nd}{L:List Im}{base:Nat}{vs:Value}(Tp0:Tp w0 ns L base vs) {t i:Nat}(hi:i<ns.length) (hk:(nodeI ns i).k=23) {Y:ByteArray}(hm:Pw w0 vb 51 #[vP vb,mgV w0 t,nV (imI L i)] Y):Vis w0 vb L t i Y:=visit_of w0 vb ns L base vs Tp0 t i hi 23 hk (by decide) _ rfl (fun args w=>by kernel_rfl) Y hm
theorem v_24 {w0:World}{vb:Nat}{ns:List Nd}{L:List Im}{base:Nat}{vs:Value}(Tp0:Tp w0 ns L base vs) {t i:Nat}(hi:i<ns.length) (hk:(nodeI ns i).k=24) {Y:ByteArray}(hm:Pw w0 vb 52 #[vP vb,mgV w0 t,nV (imI L i)] Y):Vis w0 vb L t i Y:=visit_of w0 vb ns L base vs Tp0 t i hi 24 hk (by decide) _ rfl (fun args w=>by kernel_rfl) Y hm
theorem v_25 {w0:World}{vb:Nat}{ns:List Nd}{L:List Im}{base:Nat}{vs:Value}(Tp0:Tp w0 ns L base vs) {t i:Nat}(hi:i<ns.length) (hk:(nodeI ns i).k=25) {Y:ByteArray}(hm:Pw w0 vb 53 #[vP vb,mgV w0 t,nV (imI L i)] Y):Vis w0 vb L t i Y:=visit_of w0 vb ns L base vs Tp0 t i hi 25 hk (by decide) _ rfl (fun args w=>by kernel_rfl) Y hm
theorem v_26 {w0:World}{vb:Nat}{ns:List Nd}{L:List Im}{base:Nat}{vs:Value}(Tp0:Tp w0 ns L base vs) {t i:Nat}(hi:i<ns.length) (hk:(nodeI ns i).k=26) {Y:ByteArray}(hm:Pw w0 vb 54 #[vP vb,mgV w0 t,nV (imI L i)] Y):Vis w0 vb L t i Y:=visit_of w0 vb ns L base vs Tp0 t i hi 26 hk (by decide) _ rfl (fun args w=>by kernel_rfl) Y hm
theorem v_27 {w0:World}{vb:Nat}{ns:List Nd}{L:List Im}{base:Nat}{vs:Value}(Tp0:Tp w0 ns L base vs) {t i:Nat}(hi:i<ns.length) (hk:(nodeI ns i).k=27) {Y:ByteArray}(hm:Pw w0 vb 55 #[vP vb,mgV w0 t,nV (imI L i)] Y):Vis w0 vb L t i Y:=visit_of w0 vb ns L base vs Tp0 t i hi 27 hk (by decide) _ rfl (fun args w=>by kernel_rfl) Y hm
theorem v_28 {w0:World}{vb:Nat}{ns:List Nd}{L:List Im}{base:Nat}{vs:Value}(Tp0:Tp w0 ns L base vs) {t i:Nat}(hi:i<ns.length) (hk:(nodeI ns i).k=28) {Y:ByteArray}(hm:Pw w0 vb 56 #[vP vb,mgV w0 t,nV (imI L i)] Y):Vis w0 vb L t i Y:=visit_of w0 vb ns L base vs Tp0 t i hi 28 hk (by decide) _ rfl (fun args w=>by kernel_rfl) Y hm
theorem v_29 {w0:World}{vb:Nat}{ns:List Nd}{L:List Im}{base:Nat}{vs:Value}(Tp0:Tp w0 ns L base vs) {t i:Nat}(hi:i<ns.length) (hk:(nodeI ns i).k=29) {Y:ByteArray}(hm:Pw w0 vb 56 #[vP vb,mgV w0 t,nV (imI L i)] Y):Vis w0 vb L t i Y:=visit_of w0 vb ns L base vs Tp0 t i hi 29 hk (by decide) _ rfl (fun args w=>by kernel_rfl) Y hm
theorem v_30 {w0:World}{vb:Nat}{ns:List Nd}{L:List Im}{base:Nat}{vs:Value}(Tp0:Tp w0 ns L base vs) {t i:Nat}(hi:i<ns.length) (hk:(nodeI ns i).k=30) {Y:ByteArray}(hm:Pw w0 vb 57 #[vP vb,mgV w0 t,nV (imI L i)] Y):Vis w0 vb L t i Y:=visit_of w0 vb ns L base vs Tp0 t i hi 30 hk (by decide) _ rfl (fun args w=>by kernel_rfl) Y hm
theorem v_31 {w0:World}{vb:Nat}{ns:List Nd}{L:List Im}{base:Nat}{vs:Value}(Tp0:Tp w0 ns L base vs) {t i:Nat}(hi:i<ns.length) (hk:(nodeI ns i).k=31) {Y:ByteArray}(hm:Pw w0 vb 56 #[vP vb,mgV w0 t,nV (imI L i)] Y):Vis w0 vb L t i Y:=visit_of w0 vb ns L base vs Tp0 t i hi 31 hk (by decide) _ rfl (fun args w=>by kernel_rfl) Y hm
theorem v_32 {w0:World}{vb:Nat}{ns:List Nd}{L:List Im}{base:Nat}{vs:Value}(Tp0:Tp w0 ns L base vs) {t i:Nat}(hi:i<ns.length) (hk:(nodeI ns i).k=32) {Y:ByteArray}(hm:Pw w0 vb 58 #[vP vb,mgV w0 t,nV (imI L i)] Y):Vis w0 vb L t i Y:=visit_of w0 vb ns L base vs Tp0 t i hi 32 hk (by decide) _ rfl (fun args w=>by kernel_rfl) Y hm
theorem v_33 {w0:World}{vb:Nat}{ns:List Nd}{L:List Im}{base:Nat}{vs:Value}(Tp0:Tp w0 ns L base vs) {t i:Nat}(hi:i<ns.length) (hk:(nodeI ns i).k=33) {Y:ByteArray}(hm:Pw w0 vb 59 #[vP vb,mgV w0 t,nV (imI L i)] Y):Vis w0 vb L t i Y:=visit_of w0 vb ns L base vs Tp0 t i hi 33 hk (by decide) _ rfl (fun args w=>by kernel_rfl) Y hm
theorem v_34 {w0:World}{vb:Nat}{ns:List Nd}{L:List Im}{base:Nat}{vs:Value}(Tp0:Tp w0 ns L base vs) {t i:Nat}(hi:i<ns.length) (hk:(nodeI ns i).k=34) {Y:ByteArray}(hm:Pw w0 vb 60 #[vP vb,mgV w0 t,nV (imI L i)] Y):Vis w0 vb L t i Y:=visit_of w0 vb ns L base vs Tp0 t i hi 34 hk (by decide) _ rfl (fun args w=>by kernel_rfl) Y hm
theorem v_35 {w0:World}{vb:Nat}{ns:List Nd}{L:List Im}{base:Nat}{vs:Value}(Tp0:Tp w0 ns L base vs) {t i:Nat}(hi:i<ns.length) (hk:(nodeI ns i).k=35) {Y:ByteArray}(hm:Pw w0 vb 61 #[vP vb,mgV w0 t,nV (imI L i)] Y):Vis w0 vb L t i Y:=visit_of w0 vb ns L base vs Tp0 t i hi 35 hk (by decide) _ rfl (fun args w=>by kernel_rfl) Y hm
theorem v_36 {w0:World}{vb:Nat}{ns:List Nd}{L:List Im}{base:Nat}{vs:Value}(Tp0:Tp w0 ns L base vs) {t i:Nat}(hi:i<ns.length) (hk:(nodeI ns i).k=36) {Y:ByteArray}(hm:Pw w0 vb 62 #[vP vb,mgV w0 t,nV (imI L i)] Y):Vis w0 vb L t i Y:=visit_of w0 vb ns L base vs Tp0 t i hi 36 hk (by decide) _ rfl (fun args w=>by kernel_rfl) Y hm
theorem v_37 {w0:World}{vb:Nat}{ns:List Nd}{L:List Im}{base:Nat}{vs:Value}(Tp0:Tp w0 ns L base vs) {t i:Nat}(hi:i<ns.length) (hk:(nodeI ns i).k=37) {Y:ByteArray}(hm:Pw w0 vb 63 #[vP vb,mgV w0 t,nV (imI L i)] Y):Vis w0 vb L t i Y:=visit_of w0 vb ns L base vs Tp0 t i hi 37 hk (by decide) _ rfl (fun args w=>by kernel_rfl) Y hm
theorem v_40 {w0:World}{vb:Nat}{ns:List Nd}{L:List Im}{base:Nat}{vs:Value}(Tp0:Tp w0 ns L base vs) {t i:Nat}(hi:i<ns.length) (hk:(nodeI ns i).k=40) {Y:ByteArray}(hm:Pw w0 vb 64 #[vP vb,mgV w0 t,nV (imI L i)] Y):Vis w0 vb L t i Y:=visit_of w0 vb ns L base vs Tp0 t i hi 40 hk (by decide) _ rfl (fun args w=>by kernel_rfl) Y hm
theorem v_41 {w0:World}{vb:Nat}{ns:List Nd}{L:List Im}{base:Nat}{vs:Value}(Tp0:Tp w0 ns L base vs) {t i:Nat}(hi:i<ns.length) (hk:(nodeI ns i).k=41) {Y:ByteArray}(hm:Pw w0 vb 65 #[vP vb,mgV w0 t,nV (imI L i)] Y):Vis w0 vb L t i Y:=visit_of w0 vb ns L base vs Tp0 t i hi 41 hk (by decide) _ rfl (fun args w=>by kernel_rfl) Y hm
theorem v_42 {w0:World}{vb:Nat}{ns:List Nd}{L:List Im}{base:Nat}{vs:Value}(Tp0:Tp w0 ns L base vs) {t i:Nat}(hi:i<ns.length) (hk:(nodeI ns i).k=42) {Y:ByteArray}(hm:Pw w0 vb 66 #[vP vb,mgV w0 t,nV (imI L i)] Y):Vis w0 vb L t i Y:=visit_of w0 vb ns L base vs Tp0 t i hi 42 hk (by decide) _ rfl (fun args w=>by kernel_rfl) Y hm
theorem m_break (w0:World) (vb:Nat) (ns:List Nd) (L:List Im) (base:Nat) (vs:Value) (Tp0:Tp w0 ns L base vs) (t:Nat) (ht:t<=100000) (i:Nat) (hi:i<ns.length) (N:Nd) (hN:nodeI ns i=N) (hlk:N.ks.length<=1048576):
  Pw w0 vb 42 #[vP vb,mgV w0 t,nV (imI L i)] (⟨#[98,114,101,97,107]⟩):=by
 intro T w h
 obtain⟨b,vn,a,n,c,hv,Q⟩:=nd_q Tp0 hi
 rw[hN]at hv Q
 have kh:=fun w=>head_any b w
 have hmp:=fun w=>m_put w0.heap.size (tabB t) w
 have hml:=fun w=>m_line w0.heap.size (tabB t) w
 have hmi:=fun w=>m_inner w0.heap.size (tabB t) w
 have hn:=Q.hn
 have hmt:=fun w=>methC (cls N.k) b w
 have S0:Hid (Pw w0 vb 232 _ (⟨#[98,114,101,97,107]⟩)):=put_pw w0 vb t (⟨#[98,114,101,97,107]⟩) (by decide)
 have cel:Hid (∀W,Below w0.heap.size w0 W->W.cell? ⟨b,0,none⟩=some (.int .i64 N.k)/\W.cell? ⟨b,5,none⟩=some (.slice a n c)):=fun W hb=>⟨(Q.cells hb).1,(Q.cells hb).2.1⟩
 have P0:Hid (Ps w0 vb T w/\Kq w0.heap.size w w):=⟨h,Kq.refl _ _⟩
 obtain⟨x0,x5⟩:=cel.out _ h.pg.bel
 rw[hv]
 generalize ptT (cls N.k)=tp at hmt⊢
 unfold mgV mgA at *
 generalize tabB t=tb at *
 have HQ:Hid (NdQ w0 L N b vn a n c):=Q
 clear h Q hv
 go_enter Tryz.func42,Tryz.ntmps42
 go_wp2_with (first|(go_at_call 233;refine(kh _).mono ?_;rintro e w' ⟨rfl,hw'⟩;subst w')|(go_at_call 232;fail))
 refine(S0.out _ _ P0.out.1).mono ?_
 rintro e u0 ⟨rfl,qq,kk⟩
 have P1:Hid (Ps w0 vb (T++(⟨#[98,114,101,97,107]⟩)) u0/\Kq w0.heap.size w u0):=⟨qq,P0.out.2.trans kk⟩
 obtain⟨x0,x5⟩:=cel.out _ qq.pg.bel
 clear qq kk
 go_wp2_with (first|(go_at_call 233;refine(kh _).mono ?_;rintro e w' ⟨rfl,hw'⟩;subst w'))
 go_end0
 refine⟨rfl,?_,P1.out.2⟩
 have:=P1.out.1
 simpa only[ByteArray.append_assoc] using this
theorem m_next (w0:World) (vb:Nat) (ns:List Nd) (L:List Im) (base:Nat) (vs:Value) (Tp0:Tp w0 ns L base vs) (t:Nat) (ht:t<=100000) (i:Nat) (hi:i<ns.length) (N:Nd) (hN:nodeI ns i=N) (hlk:N.ks.length<=1048576):
  Pw w0 vb 43 #[vP vb,mgV w0 t,nV (imI L i)] (⟨#[110,101,120,116]⟩):=by
 intro T w h
 obtain⟨b,vn,a,n,c,hv,Q⟩:=nd_q Tp0 hi
 rw[hN]at hv Q
 have kh:=fun w=>head_any b w
 have hmp:=fun w=>m_put w0.heap.size (tabB t) w
 have hml:=fun w=>m_line w0.heap.size (tabB t) w
 have hmi:=fun w=>m_inner w0.heap.size (tabB t) w
 have hn:=Q.hn
 have hmt:=fun w=>methC (cls N.k) b w
 have S0:Hid (Pw w0 vb 232 _ (⟨#[110,101,120,116]⟩)):=put_pw w0 vb t (⟨#[110,101,120,116]⟩) (by decide)
 have cel:Hid (∀W,Below w0.heap.size w0 W->W.cell? ⟨b,0,none⟩=some (.int .i64 N.k)/\W.cell? ⟨b,5,none⟩=some (.slice a n c)):=fun W hb=>⟨(Q.cells hb).1,(Q.cells hb).2.1⟩
 have P0:Hid (Ps w0 vb T w/\Kq w0.heap.size w w):=⟨h,Kq.refl _ _⟩
 obtain⟨x0,x5⟩:=cel.out _ h.pg.bel
 rw[hv]
 generalize ptT (cls N.k)=tp at hmt⊢
 unfold mgV mgA at *
 generalize tabB t=tb at *
 have HQ:Hid (NdQ w0 L N b vn a n c):=Q
 clear h Q hv
 go_enter Tryz.func43,Tryz.ntmps43
 go_wp2_with (first|(go_at_call 233;refine(kh _).mono ?_;rintro e w' ⟨rfl,hw'⟩;subst w')|(go_at_call 232;fail))
 refine(S0.out _ _ P0.out.1).mono ?_
 rintro e u0 ⟨rfl,qq,kk⟩
 have P1:Hid (Ps w0 vb (T++(⟨#[110,101,120,116]⟩)) u0/\Kq w0.heap.size w u0):=⟨qq,P0.out.2.trans kk⟩
 obtain⟨x0,x5⟩:=cel.out _ qq.pg.bel
 clear qq kk
 go_wp2_with (first|(go_at_call 233;refine(kh _).mono ?_;rintro e w' ⟨rfl,hw'⟩;subst w'))
 go_end0
 refine⟨rfl,?_,P1.out.2⟩
 have:=P1.out.1
 simpa only[ByteArray.append_assoc] using this
theorem m_nil (w0:World) (vb:Nat) (ns:List Nd) (L:List Im) (base:Nat) (vs:Value) (Tp0:Tp w0 ns L base vs) (t:Nat) (ht:t<=100000) (i:Nat) (hi:i<ns.length) (N:Nd) (hN:nodeI ns i=N) (hlk:N.ks.length<=1048576):
  Pw w0 vb 48 #[vP vb,mgV w0 t,nV (imI L i)] (⟨#[110,105,108]⟩):=by
 intro T w h
 obtain⟨b,vn,a,n,c,hv,Q⟩:=nd_q Tp0 hi
 rw[hN]at hv Q
 have kh:=fun w=>head_any b w
 have hmp:=fun w=>m_put w0.heap.size (tabB t) w
 have hml:=fun w=>m_line w0.heap.size (tabB t) w
 have hmi:=fun w=>m_inner w0.heap.size (tabB t) w
 have hn:=Q.hn
 have hmt:=fun w=>methC (cls N.k) b w
 have S0:Hid (Pw w0 vb 232 _ (⟨#[110,105,108]⟩)):=put_pw w0 vb t (⟨#[110,105,108]⟩) (by decide)
 have cel:Hid (∀W,Below w0.heap.size w0 W->W.cell? ⟨b,0,none⟩=some (.int .i64 N.k)/\W.cell? ⟨b,5,none⟩=some (.slice a n c)):=fun W hb=>⟨(Q.cells hb).1,(Q.cells hb).2.1⟩
 have P0:Hid (Ps w0 vb T w/\Kq w0.heap.size w w):=⟨h,Kq.refl _ _⟩
 obtain⟨x0,x5⟩:=cel.out _ h.pg.bel
 rw[hv]
 generalize ptT (cls N.k)=tp at hmt⊢
 unfold mgV mgA at *
 generalize tabB t=tb at *
 have HQ:Hid (NdQ w0 L N b vn a n c):=Q
 clear h Q hv
 go_enter Tryz.func48,Tryz.ntmps48
 go_wp2_with (first|(go_at_call 233;refine(kh _).mono ?_;rintro e w' ⟨rfl,hw'⟩;subst w')|(go_at_call 232;fail))
 refine(S0.out _ _ P0.out.1).mono ?_
 rintro e u0 ⟨rfl,qq,kk⟩
 have P1:Hid (Ps w0 vb (T++(⟨#[110,105,108]⟩)) u0/\Kq w0.heap.size w u0):=⟨qq,P0.out.2.trans kk⟩
 obtain⟨x0,x5⟩:=cel.out _ qq.pg.bel
 clear qq kk
 go_wp2_with (first|(go_at_call 233;refine(kh _).mono ?_;rintro e w' ⟨rfl,hw'⟩;subst w'))
 go_end0
 refine⟨rfl,?_,P1.out.2⟩
 have:=P1.out.1
 simpa only[ByteArray.append_assoc] using this
theorem m_true (w0:World) (vb:Nat) (ns:List Nd) (L:List Im) (base:Nat) (vs:Value) (Tp0:Tp w0 ns L base vs) (t:Nat) (ht:t<=100000) (i:Nat) (hi:i<ns.length) (N:Nd) (hN:nodeI ns i=N) (hlk:N.ks.length<=1048576):
  Pw w0 vb 49 #[vP vb,mgV w0 t,nV (imI L i)] (⟨#[116,114,117,101]⟩):=by
 intro T w h
 obtain⟨b,vn,a,n,c,hv,Q⟩:=nd_q Tp0 hi
 rw[hN]at hv Q
 have kh:=fun w=>head_any b w
 have hmp:=fun w=>m_put w0.heap.size (tabB t) w
 have hml:=fun w=>m_line w0.heap.size (tabB t) w
 have hmi:=fun w=>m_inner w0.heap.size (tabB t) w
 have hn:=Q.hn
 have hmt:=fun w=>methC (cls N.k) b w
 have S0:Hid (Pw w0 vb 232 _ (⟨#[116,114,117,101]⟩)):=put_pw w0 vb t (⟨#[116,114,117,101]⟩) (by decide)
 have cel:Hid (∀W,Below w0.heap.size w0 W->W.cell? ⟨b,0,none⟩=some (.int .i64 N.k)/\W.cell? ⟨b,5,none⟩=some (.slice a n c)):=fun W hb=>⟨(Q.cells hb).1,(Q.cells hb).2.1⟩
 have P0:Hid (Ps w0 vb T w/\Kq w0.heap.size w w):=⟨h,Kq.refl _ _⟩
 obtain⟨x0,x5⟩:=cel.out _ h.pg.bel
 rw[hv]
 generalize ptT (cls N.k)=tp at hmt⊢
 unfold mgV mgA at *
 generalize tabB t=tb at *
 have HQ:Hid (NdQ w0 L N b vn a n c):=Q
 clear h Q hv
 go_enter Tryz.func49,Tryz.ntmps49
 go_wp2_with (first|(go_at_call 233;refine(kh _).mono ?_;rintro e w' ⟨rfl,hw'⟩;subst w')|(go_at_call 232;fail))
 refine(S0.out _ _ P0.out.1).mono ?_
 rintro e u0 ⟨rfl,qq,kk⟩
 have P1:Hid (Ps w0 vb (T++(⟨#[116,114,117,101]⟩)) u0/\Kq w0.heap.size w u0):=⟨qq,P0.out.2.trans kk⟩
 obtain⟨x0,x5⟩:=cel.out _ qq.pg.bel
 clear qq kk
 go_wp2_with (first|(go_at_call 233;refine(kh _).mono ?_;rintro e w' ⟨rfl,hw'⟩;subst w'))
 go_end0
 refine⟨rfl,?_,P1.out.2⟩
 have:=P1.out.1
 simpa only[ByteArray.append_assoc] using this
theorem m_false (w0:World) (vb:Nat) (ns:List Nd) (L:List Im) (base:Nat) (vs:Value) (Tp0:Tp w0 ns L base vs) (t:Nat) (ht:t<=100000) (i:Nat) (hi:i<ns.length) (N:Nd) (hN:nodeI ns i=N) (hlk:N.ks.length<=1048576):
  Pw w0 vb 50 #[vP vb,mgV w0 t,nV (imI L i)] (⟨#[102,97,108,115,101]⟩):=by
 intro T w h
 obtain⟨b,vn,a,n,c,hv,Q⟩:=nd_q Tp0 hi
 rw[hN]at hv Q
 have kh:=fun w=>head_any b w
 have hmp:=fun w=>m_put w0.heap.size (tabB t) w
 have hml:=fun w=>m_line w0.heap.size (tabB t) w
 have hmi:=fun w=>m_inner w0.heap.size (tabB t) w
 have hn:=Q.hn
 have hmt:=fun w=>methC (cls N.k) b w
 have S0:Hid (Pw w0 vb 232 _ (⟨#[102,97,108,115,101]⟩)):=put_pw w0 vb t (⟨#[102,97,108,115,101]⟩) (by decide)
 have cel:Hid (∀W,Below w0.heap.size w0 W->W.cell? ⟨b,0,none⟩=some (.int .i64 N.k)/\W.cell? ⟨b,5,none⟩=some (.slice a n c)):=fun W hb=>⟨(Q.cells hb).1,(Q.cells hb).2.1⟩
 have P0:Hid (Ps w0 vb T w/\Kq w0.heap.size w w):=⟨h,Kq.refl _ _⟩
 obtain⟨x0,x5⟩:=cel.out _ h.pg.bel
 rw[hv]
 generalize ptT (cls N.k)=tp at hmt⊢
 unfold mgV mgA at *
 generalize tabB t=tb at *
 have HQ:Hid (NdQ w0 L N b vn a n c):=Q
 clear h Q hv
 go_enter Tryz.func50,Tryz.ntmps50
 go_wp2_with (first|(go_at_call 233;refine(kh _).mono ?_;rintro e w' ⟨rfl,hw'⟩;subst w')|(go_at_call 232;fail))
 refine(S0.out _ _ P0.out.1).mono ?_
 rintro e u0 ⟨rfl,qq,kk⟩
 have P1:Hid (Ps w0 vb (T++(⟨#[102,97,108,115,101]⟩)) u0/\Kq w0.heap.size w u0):=⟨qq,P0.out.2.trans kk⟩
 obtain⟨x0,x5⟩:=cel.out _ qq.pg.bel
 clear qq kk
 go_wp2_with (first|(go_at_call 233;refine(kh _).mono ?_;rintro e w' ⟨rfl,hw'⟩;subst w'))
 go_end0
 refine⟨rfl,?_,P1.out.2⟩
 have:=P1.out.1
 simpa only[ByteArray.append_assoc] using this
theorem m_rest (w0:World) (vb:Nat) (ns:List Nd) (L:List Im) (base:Nat) (vs:Value) (Tp0:Tp w0 ns L base vs) (t:Nat) (ht:t<=100000) (i:Nat) (hi:i<ns.length) (N:Nd) (hN:nodeI ns i=N) (hlk:N.ks.length<=1048576):
  Pw w0 vb 55 #[vP vb,mgV w0 t,nV (imI L i)] (⟨#[46,46,46]⟩):=by
 intro T w h
 obtain⟨b,vn,a,n,c,hv,Q⟩:=nd_q Tp0 hi
 rw[hN]at hv Q
 have kh:=fun w=>head_any b w
 have hmp:=fun w=>m_put w0.heap.size (tabB t) w
 have hml:=fun w=>m_line w0.heap.size (tabB t) w
 have hmi:=fun w=>m_inner w0.heap.size (tabB t) w
 have hn:=Q.hn
 have hmt:=fun w=>methC (cls N.k) b w
 have S0:Hid (Pw w0 vb 232 _ (⟨#[46,46,46]⟩)):=put_pw w0 vb t (⟨#[46,46,46]⟩) (by decide)
 have cel:Hid (∀W,Below w0.heap.size w0 W->W.cell? ⟨b,0,none⟩=some (.int .i64 N.k)/\W.cell? ⟨b,5,none⟩=some (.slice a n c)):=fun W hb=>⟨(Q.cells hb).1,(Q.cells hb).2.1⟩
 have P0:Hid (Ps w0 vb T w/\Kq w0.heap.size w w):=⟨h,Kq.refl _ _⟩
 obtain⟨x0,x5⟩:=cel.out _ h.pg.bel
 rw[hv]
 generalize ptT (cls N.k)=tp at hmt⊢
 unfold mgV mgA at *
 generalize tabB t=tb at *
 have HQ:Hid (NdQ w0 L N b vn a n c):=Q
 clear h Q hv
 go_enter Tryz.func55,Tryz.ntmps55
 go_wp2_with (first|(go_at_call 233;refine(kh _).mono ?_;rintro e w' ⟨rfl,hw'⟩;subst w')|(go_at_call 232;fail))
 refine(S0.out _ _ P0.out.1).mono ?_
 rintro e u0 ⟨rfl,qq,kk⟩
 have P1:Hid (Ps w0 vb (T++(⟨#[46,46,46]⟩)) u0/\Kq w0.heap.size w u0):=⟨qq,P0.out.2.trans kk⟩
 obtain⟨x0,x5⟩:=cel.out _ qq.pg.bel
 clear qq kk
 go_wp2_with (first|(go_at_call 233;refine(kh _).mono ?_;rintro e w' ⟨rfl,hw'⟩;subst w'))
 go_end0
 refine⟨rfl,?_,P1.out.2⟩
 have:=P1.out.1
 simpa only[ByteArray.append_assoc] using this
theorem m_do (w0:World) (vb:Nat) (ns:List Nd) (L:List Im) (base:Nat) (vs:Value) (Tp0:Tp w0 ns L base vs) (t:Nat) (ht:t<=100000) (i:Nat) (hi:i<ns.length) (N:Nd) (hN:nodeI ns i=N) (hlk:N.ks.length<=1048576) (q0:Nat) (hk0:N.ks[0]?=some (q0:Int)) (E0:ByteArray) (hV0:Vis w0 vb L t (q0:Int) E0):
  Pw w0 vb 37 #[vP vb,mgV w0 t,nV (imI L i)] (E0):=by
 intro T w h
 obtain⟨b,vn,a,n,c,hv,Q⟩:=nd_q Tp0 hi
 rw[hN]at hv Q
 have kh:=fun w=>head_any b w
 have hmp:=fun w=>m_put w0.heap.size (tabB t) w
 have hml:=fun w=>m_line w0.heap.size (tabB t) w
 have hmi:=fun w=>m_inner w0.heap.size (tabB t) w
 have hn:=Q.hn
 have hmt:=fun w=>methC (cls N.k) b w
 obtain⟨pa,rfl,hcap,_⟩:=Q.ks.get hk0
 rw[hn]at hcap
 have hj0:(0:Int)<(n:Int):=by have:=kid_lt hk0;omega
 have S0:Hid (Pw w0 vb 67 _ (E0)):=hV0
 obtain⟨v0,hv0⟩:∃v,nV (imI L (q0:Int))=v:=⟨_,rfl⟩
 rw[hv0]at S0
 have cel:Hid (∀W,Below w0.heap.size w0 W->W.cell? ⟨b,0,none⟩=some (.int .i64 N.k)/\W.cell? ⟨b,5,none⟩=some (.slice (some pa) n c)/\W.cell? pa=some v0):=fun W hb=>⟨(Q.cells hb).1,(Q.cells hb).2.1,by rw[<-hv0];obtain⟨_,e,_,x⟩:=(Q.ks.below hb).get hk0;cases e;simpa [Addr.add] using x⟩
 have P0:Hid (Ps w0 vb T w/\Kq w0.heap.size w w):=⟨h,Kq.refl _ _⟩
 obtain⟨x0,x5,y0⟩:=cel.out _ h.pg.bel
 rw[hv]
 generalize ptT (cls N.k)=tp at hmt⊢
 unfold mgV mgA at *
 generalize tabB t=tb at *
 have HQ:Hid (NdQ w0 L N b vn (some pa) n c):=Q
 clear h Q hv
 go_enter Tryz.func37,Tryz.ntmps37
 go_wp2_with (first|(go_at_call 233;refine(kh _).mono ?_;rintro e w' ⟨rfl,hw'⟩;subst w')|(go_at_call 67;fail))
 refine(S0.out _ _ P0.out.1).mono ?_
 rintro e u0 ⟨rfl,qq,kk⟩
 have P1:Hid (Ps w0 vb (T++(E0)) u0/\Kq w0.heap.size w u0):=⟨qq,P0.out.2.trans kk⟩
 obtain⟨x0,x5,y0⟩:=cel.out _ qq.pg.bel
 clear qq kk
 go_wp2_with (first|(go_at_call 233;refine(kh _).mono ?_;rintro e w' ⟨rfl,hw'⟩;subst w'))
 go_end0
 refine⟨rfl,?_,P1.out.2⟩
 have:=P1.out.1
 simpa only[ByteArray.append_assoc] using this
theorem m_item (w0:World) (vb:Nat) (ns:List Nd) (L:List Im) (base:Nat) (vs:Value) (Tp0:Tp w0 ns L base vs) (t:Nat) (ht:t<=100000) (i:Nat) (hi:i<ns.length) (N:Nd) (hN:nodeI ns i=N) (hlk:N.ks.length<=1048576) (q0:Nat) (hk0:N.ks[0]?=some (q0:Int)) (E0:ByteArray) (hV0:Vis w0 vb L t (q0:Int) E0):
  Pw w0 vb 64 #[vP vb,mgV w0 t,nV (imI L i)] (E0):=by
 intro T w h
 obtain⟨b,vn,a,n,c,hv,Q⟩:=nd_q Tp0 hi
 rw[hN]at hv Q
 have kh:=fun w=>head_any b w
 have hmp:=fun w=>m_put w0.heap.size (tabB t) w
 have hml:=fun w=>m_line w0.heap.size (tabB t) w
 have hmi:=fun w=>m_inner w0.heap.size (tabB t) w
 have hn:=Q.hn
 have hmt:=fun w=>methC (cls N.k) b w
 obtain⟨pa,rfl,hcap,_⟩:=Q.ks.get hk0
 rw[hn]at hcap
 have hj0:(0:Int)<(n:Int):=by have:=kid_lt hk0;omega
 have S0:Hid (Pw w0 vb 67 _ (E0)):=hV0
 obtain⟨v0,hv0⟩:∃v,nV (imI L (q0:Int))=v:=⟨_,rfl⟩
 rw[hv0]at S0
 have cel:Hid (∀W,Below w0.heap.size w0 W->W.cell? ⟨b,0,none⟩=some (.int .i64 N.k)/\W.cell? ⟨b,5,none⟩=some (.slice (some pa) n c)/\W.cell? pa=some v0):=fun W hb=>⟨(Q.cells hb).1,(Q.cells hb).2.1,by rw[<-hv0];obtain⟨_,e,_,x⟩:=(Q.ks.below hb).get hk0;cases e;simpa [Addr.add] using x⟩
 have P0:Hid (Ps w0 vb T w/\Kq w0.heap.size w w):=⟨h,Kq.refl _ _⟩
 obtain⟨x0,x5,y0⟩:=cel.out _ h.pg.bel
 rw[hv]
 generalize ptT (cls N.k)=tp at hmt⊢
 unfold mgV mgA at *
 generalize tabB t=tb at *
 have HQ:Hid (NdQ w0 L N b vn (some pa) n c):=Q
 clear h Q hv
 go_enter Tryz.func64,Tryz.ntmps64
 go_wp2_with (first|(go_at_call 233;refine(kh _).mono ?_;rintro e w' ⟨rfl,hw'⟩;subst w')|(go_at_call 67;fail))
 refine(S0.out _ _ P0.out.1).mono ?_
 rintro e u0 ⟨rfl,qq,kk⟩
 have P1:Hid (Ps w0 vb (T++(E0)) u0/\Kq w0.heap.size w u0):=⟨qq,P0.out.2.trans kk⟩
 obtain⟨x0,x5,y0⟩:=cel.out _ qq.pg.bel
 clear qq kk
 go_wp2_with (first|(go_at_call 233;refine(kh _).mono ?_;rintro e w' ⟨rfl,hw'⟩;subst w'))
 go_end0
 refine⟨rfl,?_,P1.out.2⟩
 have:=P1.out.1
 simpa only[ByteArray.append_assoc] using this
theorem m_ret0 (w0:World) (vb:Nat) (ns:List Nd) (L:List Im) (base:Nat) (vs:Value) (Tp0:Tp w0 ns L base vs) (t:Nat) (ht:t<=100000) (i:Nat) (hi:i<ns.length) (N:Nd) (hN:nodeI ns i=N) (hlk:N.ks.length<=1048576) (h0:N.ks.length=0):
  Pw w0 vb 44 #[vP vb,mgV w0 t,nV (imI L i)] (⟨#[114,101,116,117,114,110]⟩):=by
 intro T w h
 obtain⟨b,vn,a,n,c,hv,Q⟩:=nd_q Tp0 hi
 rw[hN]at hv Q
 have kh:=fun w=>head_any b w
 have hmp:=fun w=>m_put w0.heap.size (tabB t) w
 have hml:=fun w=>m_line w0.heap.size (tabB t) w
 have hmi:=fun w=>m_inner w0.heap.size (tabB t) w
 have hn:=Q.hn
 have hmt:=fun w=>methC (cls N.k) b w
 have hq:¬(0:Int)<(n:Int):=by omega
 have S0:Hid (Pw w0 vb 232 _ (⟨#[114,101,116,117,114,110]⟩)):=put_pw w0 vb t (⟨#[114,101,116,117,114,110]⟩) (by decide)
 have cel:Hid (∀W,Below w0.heap.size w0 W->W.cell? ⟨b,0,none⟩=some (.int .i64 N.k)/\W.cell? ⟨b,5,none⟩=some (.slice a n c)):=fun W hb=>⟨(Q.cells hb).1,(Q.cells hb).2.1⟩
 have P0:Hid (Ps w0 vb T w/\Kq w0.heap.size w w):=⟨h,Kq.refl _ _⟩
 obtain⟨x0,x5⟩:=cel.out _ h.pg.bel
 rw[hv]
 generalize ptT (cls N.k)=tp at hmt⊢
 unfold mgV mgA at *
 generalize tabB t=tb at *
 have HQ:Hid (NdQ w0 L N b vn a n c):=Q
 clear h Q hv
 go_enter Tryz.func44,Tryz.ntmps44
 go_wp2_with (first|(go_at_call 233;refine(kh _).mono ?_;rintro e w' ⟨rfl,hw'⟩;subst w')|(go_at_call 232;fail))
 refine(S0.out _ _ P0.out.1).mono ?_
 rintro e u0 ⟨rfl,qq,kk⟩
 have P1:Hid (Ps w0 vb (T++(⟨#[114,101,116,117,114,110]⟩)) u0/\Kq w0.heap.size w u0):=⟨qq,P0.out.2.trans kk⟩
 obtain⟨x0,x5⟩:=cel.out _ qq.pg.bel
 clear qq kk
 go_wp2_with (first|(go_at_call 233;refine(kh _).mono ?_;rintro e w' ⟨rfl,hw'⟩;subst w'))
 go_end0
 refine⟨rfl,?_,P1.out.2⟩
 have:=P1.out.1
 simpa only[ByteArray.append_assoc] using this
theorem m_ret (w0:World) (vb:Nat) (ns:List Nd) (L:List Im) (base:Nat) (vs:Value) (Tp0:Tp w0 ns L base vs) (t:Nat) (ht:t<=100000) (i:Nat) (hi:i<ns.length) (N:Nd) (hN:nodeI ns i=N) (hlk:N.ks.length<=1048576) (h0:0<N.ks.length) (X:ByteArray) (hLX:∀v,SlAt w0 L v (N.ks)->Pw w0 vb 93 #[vP vb,mgV w0 t,v] X):
  Pw w0 vb 44 #[vP vb,mgV w0 t,nV (imI L i)] (⟨#[114,101,116,117,114,110]⟩++(⟨#[32]⟩++X)):=by
 intro T w h
 obtain⟨b,vn,a,n,c,hv,Q⟩:=nd_q Tp0 hi
 rw[hN]at hv Q
 have kh:=fun w=>head_any b w
 have hmp:=fun w=>m_put w0.heap.size (tabB t) w
 have hml:=fun w=>m_line w0.heap.size (tabB t) w
 have hmi:=fun w=>m_inner w0.heap.size (tabB t) w
 have hn:=Q.hn
 have hmt:=fun w=>methC (cls N.k) b w
 have hq:(0:Int)<(n:Int):=by omega
 have S0:Hid (Pw w0 vb 232 _ (⟨#[114,101,116,117,114,110]⟩)):=put_pw w0 vb t (⟨#[114,101,116,117,114,110]⟩) (by decide)
 have S1:Hid (Pw w0 vb 91 _ (⟨#[32]⟩++X)):=phrase_any w0 vb t (⟨#[32]⟩) X (by decide) (.slice a n c) (hLX _ (Q.ks))
 have cel:Hid (∀W,Below w0.heap.size w0 W->W.cell? ⟨b,0,none⟩=some (.int .i64 N.k)/\W.cell? ⟨b,5,none⟩=some (.slice a n c)):=fun W hb=>⟨(Q.cells hb).1,(Q.cells hb).2.1⟩
 have P0:Hid (Ps w0 vb T w/\Kq w0.heap.size w w):=⟨h,Kq.refl _ _⟩
 obtain⟨x0,x5⟩:=cel.out _ h.pg.bel
 rw[hv]
 generalize ptT (cls N.k)=tp at hmt⊢
 unfold mgV mgA at *
 generalize tabB t=tb at *
 have HQ:Hid (NdQ w0 L N b vn a n c):=Q
 clear h Q hv
 go_enter Tryz.func44,Tryz.ntmps44
 go_wp2_with (first|(go_at_call 233;refine(kh _).mono ?_;rintro e w' ⟨rfl,hw'⟩;subst w')|(go_at_call 232;fail))
 refine(S0.out _ _ P0.out.1).mono ?_
 rintro e u0 ⟨rfl,qq,kk⟩
 have P1:Hid (Ps w0 vb (T++(⟨#[114,101,116,117,114,110]⟩)) u0/\Kq w0.heap.size w u0):=⟨qq,P0.out.2.trans kk⟩
 obtain⟨x0,x5⟩:=cel.out _ qq.pg.bel
 clear qq kk
 go_wp2_with (first|(go_at_call 233;refine(kh _).mono ?_;rintro e w' ⟨rfl,hw'⟩;subst w')|(go_at_call 91;fail))
 refine(S1.out _ _ P1.out.1).mono ?_
 rintro e u1 ⟨rfl,qq,kk⟩
 have P2:Hid (Ps w0 vb (T++(⟨#[114,101,116,117,114,110]⟩)++(⟨#[32]⟩++X)) u1/\Kq w0.heap.size w u1):=⟨qq,P1.out.2.trans kk⟩
 obtain⟨x0,x5⟩:=cel.out _ qq.pg.bel
 clear qq kk
 go_wp2_with (first|(go_at_call 233;refine(kh _).mono ?_;rintro e w' ⟨rfl,hw'⟩;subst w'))
 go_end0
 refine⟨rfl,?_,P2.out.2⟩
 have:=P2.out.1
 simpa only[ByteArray.append_assoc] using this
theorem m_throw (w0:World) (vb:Nat) (ns:List Nd) (L:List Im) (base:Nat) (vs:Value) (Tp0:Tp w0 ns L base vs) (t:Nat) (ht:t<=100000) (i:Nat) (hi:i<ns.length) (N:Nd) (hN:nodeI ns i=N) (hlk:N.ks.length<=1048576) (X:ByteArray) (hLX:∀v,SlAt w0 L v (N.ks)->Pw w0 vb 93 #[vP vb,mgV w0 t,v] X):
  Pw w0 vb 46 #[vP vb,mgV w0 t,nV (imI L i)] (⟨#[116,104,114,111,119,32]⟩++X):=by
 intro T w h
 obtain⟨b,vn,a,n,c,hv,Q⟩:=nd_q Tp0 hi
 rw[hN]at hv Q
 have kh:=fun w=>head_any b w
 have hmp:=fun w=>m_put w0.heap.size (tabB t) w
 have hml:=fun w=>m_line w0.heap.size (tabB t) w
 have hmi:=fun w=>m_inner w0.heap.size (tabB t) w
 have hn:=Q.hn
 have hmt:=fun w=>methC (cls N.k) b w
 have S0:Hid (Pw w0 vb 91 _ (⟨#[116,104,114,111,119,32]⟩++X)):=phrase_any w0 vb t (⟨#[116,104,114,111,119,32]⟩) X (by decide) (.slice a n c) (hLX _ (Q.ks))
 have cel:Hid (∀W,Below w0.heap.size w0 W->W.cell? ⟨b,0,none⟩=some (.int .i64 N.k)/\W.cell? ⟨b,5,none⟩=some (.slice a n c)):=fun W hb=>⟨(Q.cells hb).1,(Q.cells hb).2.1⟩
 have P0:Hid (Ps w0 vb T w/\Kq w0.heap.size w w):=⟨h,Kq.refl _ _⟩
 obtain⟨x0,x5⟩:=cel.out _ h.pg.bel
 rw[hv]
 generalize ptT (cls N.k)=tp at hmt⊢
 unfold mgV mgA at *
 generalize tabB t=tb at *
 have HQ:Hid (NdQ w0 L N b vn a n c):=Q
 clear h Q hv
 go_enter Tryz.func46,Tryz.ntmps46
 go_wp2_with (first|(go_at_call 233;refine(kh _).mono ?_;rintro e w' ⟨rfl,hw'⟩;subst w')|(go_at_call 91;fail))
 refine(S0.out _ _ P0.out.1).mono ?_
 rintro e u0 ⟨rfl,qq,kk⟩
 have P1:Hid (Ps w0 vb (T++(⟨#[116,104,114,111,119,32]⟩++X)) u0/\Kq w0.heap.size w u0):=⟨qq,P0.out.2.trans kk⟩
 obtain⟨x0,x5⟩:=cel.out _ qq.pg.bel
 clear qq kk
 go_wp2_with (first|(go_at_call 233;refine(kh _).mono ?_;rintro e w' ⟨rfl,hw'⟩;subst w'))
 go_end0
 refine⟨rfl,?_,P1.out.2⟩
 have:=P1.out.1
 simpa only[ByteArray.append_assoc] using this
theorem m_defer (w0:World) (vb:Nat) (ns:List Nd) (L:List Im) (base:Nat) (vs:Value) (Tp0:Tp w0 ns L base vs) (t:Nat) (ht:t<=100000) (i:Nat) (hi:i<ns.length) (N:Nd) (hN:nodeI ns i=N) (hlk:N.ks.length<=1048576) (X:ByteArray) (hLX:∀v,SlAt w0 L v (N.ks)->Pw w0 vb 93 #[vP vb,mgV w0 t,v] X):
  Pw w0 vb 47 #[vP vb,mgV w0 t,nV (imI L i)] (⟨#[100,101,102,101,114,32]⟩++X):=by
 intro T w h
 obtain⟨b,vn,a,n,c,hv,Q⟩:=nd_q Tp0 hi
 rw[hN]at hv Q
 have kh:=fun w=>head_any b w
 have hmp:=fun w=>m_put w0.heap.size (tabB t) w
 have hml:=fun w=>m_line w0.heap.size (tabB t) w
 have hmi:=fun w=>m_inner w0.heap.size (tabB t) w
 have hn:=Q.hn
 have hmt:=fun w=>methC (cls N.k) b w
 have S0:Hid (Pw w0 vb 91 _ (⟨#[100,101,102,101,114,32]⟩++X)):=phrase_any w0 vb t (⟨#[100,101,102,101,114,32]⟩) X (by decide) (.slice a n c) (hLX _ (Q.ks))
 have cel:Hid (∀W,Below w0.heap.size w0 W->W.cell? ⟨b,0,none⟩=some (.int .i64 N.k)/\W.cell? ⟨b,5,none⟩=some (.slice a n c)):=fun W hb=>⟨(Q.cells hb).1,(Q.cells hb).2.1⟩
 have P0:Hid (Ps w0 vb T w/\Kq w0.heap.size w w):=⟨h,Kq.refl _ _⟩
 obtain⟨x0,x5⟩:=cel.out _ h.pg.bel
 rw[hv]
 generalize ptT (cls N.k)=tp at hmt⊢
 unfold mgV mgA at *
 generalize tabB t=tb at *
 have HQ:Hid (NdQ w0 L N b vn a n c):=Q
 clear h Q hv
 go_enter Tryz.func47,Tryz.ntmps47
 go_wp2_with (first|(go_at_call 233;refine(kh _).mono ?_;rintro e w' ⟨rfl,hw'⟩;subst w')|(go_at_call 91;fail))
 refine(S0.out _ _ P0.out.1).mono ?_
 rintro e u0 ⟨rfl,qq,kk⟩
 have P1:Hid (Ps w0 vb (T++(⟨#[100,101,102,101,114,32]⟩++X)) u0/\Kq w0.heap.size w u0):=⟨qq,P0.out.2.trans kk⟩
 obtain⟨x0,x5⟩:=cel.out _ qq.pg.bel
 clear qq kk
 go_wp2_with (first|(go_at_call 233;refine(kh _).mono ?_;rintro e w' ⟨rfl,hw'⟩;subst w'))
 go_end0
 refine⟨rfl,?_,P1.out.2⟩
 have:=P1.out.1
 simpa only[ByteArray.append_assoc] using this
theorem m_set (w0:World) (vb:Nat) (ns:List Nd) (L:List Im) (base:Nat) (vs:Value) (Tp0:Tp w0 ns L base vs) (t:Nat) (ht:t<=100000) (i:Nat) (hi:i<ns.length) (N:Nd) (hN:nodeI ns i=N) (hk:N.k=5) (hlk:N.ks.length<=1048576) (m:Nat) (hmn:N.n=(m:Int)) (hm1:1<=m) (hm2:m<N.ks.length) (X:ByteArray) (hLX:∀v,SlAt w0 L v (N.ks.take m)->Pw w0 vb 93 #[vP vb,mgV w0 t,v] X) (Z:ByteArray) (hLZ:∀v,SlAt w0 L v (N.ks.drop m)->Pw w0 vb 93 #[vP vb,mgV w0 t,v] Z):
  Pw w0 vb 36 #[vP vb,mgV w0 t,nV (imI L i)] (X++(⟨#[32,61,32]⟩++Z)):=by
 intro T w h
 obtain⟨b,vn,a,n,c,hv,Q⟩:=nd_q Tp0 hi
 rw[hN]at hv Q
 have kh:=fun w=>head_any b w
 have hmp:=fun w=>m_put w0.heap.size (tabB t) w
 have hml:=fun w=>m_line w0.heap.size (tabB t) w
 have hmi:=fun w=>m_inner w0.heap.size (tabB t) w
 have hna:=fun w=>na_put w0.heap.size (tabB t) w
 have hn:=Q.hn
 have hmt:=fun w=>methC (cls N.k) b w
 have hc:cls N.k=1:=by rw[hk];rfl
 obtain⟨pa,rfl,hcap,_⟩:=Q.ks.get (List.getElem?_eq_getElem (show 0<N.ks.length by omega))
 rw[hn]at hcap
 have hc0:¬c=0:=by omega
 have hc1:(m:Int)<=(c:Int):=by omega
 have hc2:m<=c:=by omega
 have hc3:¬c=m:=by omega
 have hc4:(0:Int)<=(m:Int):=by omega
 have hc5:(m:Int)<=(n:Int):=by omega
 have hc6:m<=n:=by omega
 have S0:Hid (Pw w0 vb 93 _ (X)):=hLX _ (Q.ks.take m (by omega))
 have S1:Hid (Pw w0 vb 91 _ (⟨#[32,61,32]⟩++Z)):=phrase_any w0 vb t (⟨#[32,61,32]⟩) Z (by decide) _ (hLZ _ (Q.ks.drop m (n-m) (by omega) (by omega)))
 have cel:Hid (∀W,Below w0.heap.size w0 W->W.cell? ⟨b,0,none⟩=some (.int .i64 N.k)/\W.cell? ⟨b,5,none⟩=some (.slice (some pa) n c)/\W.cell? ⟨b,6,none⟩=some (.int .i64 (m:Int))):=fun W hb=>⟨(Q.cells hb).1,(Q.cells hb).2.1,by rw[<-hmn];exact(Q.cells hb).2.2 _ (by rw[hc];rfl)⟩
 have P0:Hid (Ps w0 vb T w/\Kq w0.heap.size w w):=⟨h,Kq.refl _ _⟩
 obtain⟨x0,x5,x6⟩:=cel.out _ h.pg.bel
 rw[hv]
 rw[hc]at hmt⊢
 simp only[ptT]at hmt⊢
 have has:=fun w=>asP1 b w
 unfold mgV mgA at *
 generalize tabB t=tb at *
 have HQ:Hid (NdQ w0 L N b vn (some pa) n c):=Q
 clear h Q hv hk hmn
 go_enter Tryz.func36,Tryz.ntmps36
 go_wp2_with (first|(go_at_call 233;refine(kh _).mono ?_;rintro e w' ⟨rfl,hw'⟩;subst w'))
 go_region_held3 (fun W'=>W'.cell? ⟨b,0,none⟩=some (.int .i64 N.k)/\W'.cell? ⟨b,5,none⟩=some (.slice (some pa) n c)/\W'.cell? ⟨b,6,none⟩=some (.int .i64 (m:Int))) (first|exact cel.out _ (P0.out.1.below (bel_drew1 (Below.refl _ _))).pg.bel|exact cel.out _ qq.pg.bel|go_keep) (first|(go_at_call 233;refine(kh _).mono ?_;rintro e w' ⟨rfl,hw'⟩;subst w')|(go_at_call 93;refine(S0.out _ _ (P0.out.1.below (bel_drew1 (Below.refl _ _)))).mono ?_;rintro e u0 ⟨rfl,qq,kk⟩))
 all_goals
  have P1:Hid (Ps w0 vb (T++(X)) u0/\Kq w0.heap.size w u0):=⟨qq,(P0.out.2.trans (Kq.of_below (bel_drew1 (Below.refl _ _)))).trans kk⟩
  obtain⟨x0,x5,x6⟩:=cel.out _ qq.pg.bel
  clear qq kk
  go_wp2_with (first|(go_at_call 233;refine(kh _).mono ?_;rintro e w' ⟨rfl,hw'⟩;subst w'))
  go_region_held3 (fun W'=>W'.cell? ⟨b,0,none⟩=some (.int .i64 N.k)/\W'.cell? ⟨b,5,none⟩=some (.slice (some pa) n c)/\W'.cell? ⟨b,6,none⟩=some (.int .i64 (m:Int))) (first|exact cel.out _ (P1.out.1.below (bel_drew1 (Below.refl _ _))).pg.bel|exact cel.out _ qq.pg.bel|go_keep) (first|(go_at_call 233;refine(kh _).mono ?_;rintro e w' ⟨rfl,hw'⟩;subst w')|(go_at_call 91;refine(S1.out _ _ (P1.out.1.below (bel_drew1 (Below.refl _ _)))).mono ?_;rintro e u1 ⟨rfl,qq,kk⟩))
  all_goals
   have P2:Hid (Ps w0 vb (T++(X)++(⟨#[32,61,32]⟩++Z)) u1/\Kq w0.heap.size w u1):=⟨qq,(P1.out.2.trans (Kq.of_below (bel_drew1 (Below.refl _ _)))).trans kk⟩
   obtain⟨x0,x5,x6⟩:=cel.out _ qq.pg.bel
   clear qq kk
   go_wp2_with (first|(go_at_call 233;refine(kh _).mono ?_;rintro e w' ⟨rfl,hw'⟩;subst w'))
   go_end0
   refine⟨rfl,?_,P2.out.2⟩
   have:=P2.out.1
   simpa only[ByteArray.append_assoc] using this
end Go.Proofs.YtelfejiiabbpfaaGreatDoor
