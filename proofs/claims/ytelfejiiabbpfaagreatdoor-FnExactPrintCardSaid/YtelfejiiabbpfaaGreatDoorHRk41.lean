import Derived.Test.YtelfejiiabbpfaaGreatDoorHRk34
import Derived.Test.YtelfejiiabbpfaaGreatDoorHRk04
import Derived.Test.YtelfejiiabbpfaaGreatDoorHRk28
import Derived.LaidLaws
import Derived.Lib.LaidTab
import Derived.Deep.Strs
import Derived.Shelf.Strings.Fields
set_option linter.unusedVariables false
set_option maxRecDepth 100000
set_option maxHeartbeats 6400000
namespace Go.Proofs.YtelfejiiabbpfaaGreatDoor
open Go.RowKit Go.Maps Go.WideMaps
theorem m_float (w0:World) (vb:Nat) (ns:List Nd) (L:List Im) (base:Nat) (vs:Value) (Tp0:Tp w0 ns L base vs) (t:Nat) (ht:t<=100000) (i:Nat) (hi:i<ns.length) (N:Nd) (hN:nodeI ns i=N) (hk:N.k=24) (hlk:N.ks.length<=1048576) (hxz:N.x.size<=4000):
  Pw w0 vb 52 #[vP vb,mgV w0 t,nV (imI L i)] (N.x):=by
 intro T w h
 obtain⟨b,vn,a,n,c,hv,Q⟩:=nd_q Tp0 hi
 rw[hN]at hv Q
 have kh:=fun w=>head_any b w
 have hmp:=fun w=>m_put w0.heap.size (tabB t) w
 have hml:=fun w=>m_line w0.heap.size (tabB t) w
 have hmi:=fun w=>m_inner w0.heap.size (tabB t) w
 have hna:=fun w=>na_put w0.heap.size (tabB t) w
 have hn:=Q.hn
 have hmt:=fun w=>methC (cls N.k) b w
 have hc:cls N.k=3:=by rw[hk];rfl
 have S0:Hid (Pw w0 vb 232 _ (N.x)):=put_pw w0 vb t N.x (by omega)
 have cel:Hid (∀W,Below w0.heap.size w0 W->W.cell? ⟨b,0,none⟩=some (.int .i64 N.k)/\W.cell? ⟨b,5,none⟩=some (.slice a n c)/\W.cell? ⟨b,6,none⟩=some (.string N.x)):=fun W hb=>⟨(Q.cells hb).1,(Q.cells hb).2.1,(Q.cells hb).2.2 _ (by rw[hc];rfl)⟩
 have P0:Hid (Ps w0 vb T w/\Kq w0.heap.size w w):=⟨h,Kq.refl _ _⟩
 obtain⟨x0,x5,x6⟩:=cel.out _ h.pg.bel
 rw[hv]
 rw[hc]at hmt⊢
 simp only[ptT]at hmt⊢
 have has:=fun w=>asP3 b w
 unfold mgV mgA at *
 generalize tabB t=tb at *
 have HQ:Hid (NdQ w0 L N b vn a n c):=Q
 clear h Q hv hk
 go_enter Tryz.func52,Tryz.ntmps52
 go_wp2_with (first|(go_at_call 233;refine(kh _).mono ?_;rintro e w' ⟨rfl,hw'⟩;subst w'))
 go_region_held3 (fun W'=>W'.cell? ⟨b,0,none⟩=some (.int .i64 N.k)/\W'.cell? ⟨b,5,none⟩=some (.slice a n c)/\W'.cell? ⟨b,6,none⟩=some (.string N.x)) (first|exact cel.out _ (P0.out.1.below (bel_drew1 (Below.refl _ _))).pg.bel|exact cel.out _ qq.pg.bel|go_keep) (first|(go_at_call 233;refine(kh _).mono ?_;rintro e w' ⟨rfl,hw'⟩;subst w')|(go_at_call 232;refine(S0.out _ _ (P0.out.1.below (bel_drew1 (Below.refl _ _)))).mono ?_;rintro e u0 ⟨rfl,qq,kk⟩))
 all_goals
  have P1:Hid (Ps w0 vb (T++(N.x)) u0/\Kq w0.heap.size w u0):=⟨qq,(P0.out.2.trans (Kq.of_below (bel_drew1 (Below.refl _ _)))).trans kk⟩
  obtain⟨x0,x5,x6⟩:=cel.out _ qq.pg.bel
  clear qq kk
  go_wp2_with (first|(go_at_call 233;refine(kh _).mono ?_;rintro e w' ⟨rfl,hw'⟩;subst w'))
  go_end0
  refine⟨rfl,?_,P1.out.2⟩
  have:=P1.out.1
  simpa only[ByteArray.append_assoc] using this
theorem m_name (w0:World) (vb:Nat) (ns:List Nd) (L:List Im) (base:Nat) (vs:Value) (Tp0:Tp w0 ns L base vs) (t:Nat) (ht:t<=100000) (i:Nat) (hi:i<ns.length) (N:Nd) (hN:nodeI ns i=N) (hk:N.k=26) (hlk:N.ks.length<=1048576) (hxz:N.x.size<=4000):
  Pw w0 vb 54 #[vP vb,mgV w0 t,nV (imI L i)] (N.x):=by
 intro T w h
 obtain⟨b,vn,a,n,c,hv,Q⟩:=nd_q Tp0 hi
 rw[hN]at hv Q
 have kh:=fun w=>head_any b w
 have hmp:=fun w=>m_put w0.heap.size (tabB t) w
 have hml:=fun w=>m_line w0.heap.size (tabB t) w
 have hmi:=fun w=>m_inner w0.heap.size (tabB t) w
 have hna:=fun w=>na_put w0.heap.size (tabB t) w
 have hn:=Q.hn
 have hmt:=fun w=>methC (cls N.k) b w
 have hc:cls N.k=3:=by rw[hk];rfl
 have S0:Hid (Pw w0 vb 232 _ (N.x)):=put_pw w0 vb t N.x (by omega)
 have cel:Hid (∀W,Below w0.heap.size w0 W->W.cell? ⟨b,0,none⟩=some (.int .i64 N.k)/\W.cell? ⟨b,5,none⟩=some (.slice a n c)/\W.cell? ⟨b,6,none⟩=some (.string N.x)):=fun W hb=>⟨(Q.cells hb).1,(Q.cells hb).2.1,(Q.cells hb).2.2 _ (by rw[hc];rfl)⟩
 have P0:Hid (Ps w0 vb T w/\Kq w0.heap.size w w):=⟨h,Kq.refl _ _⟩
 obtain⟨x0,x5,x6⟩:=cel.out _ h.pg.bel
 rw[hv]
 rw[hc]at hmt⊢
 simp only[ptT]at hmt⊢
 have has:=fun w=>asP3 b w
 unfold mgV mgA at *
 generalize tabB t=tb at *
 have HQ:Hid (NdQ w0 L N b vn a n c):=Q
 clear h Q hv hk
 go_enter Tryz.func54,Tryz.ntmps54
 go_wp2_with (first|(go_at_call 233;refine(kh _).mono ?_;rintro e w' ⟨rfl,hw'⟩;subst w'))
 go_region_held3 (fun W'=>W'.cell? ⟨b,0,none⟩=some (.int .i64 N.k)/\W'.cell? ⟨b,5,none⟩=some (.slice a n c)/\W'.cell? ⟨b,6,none⟩=some (.string N.x)) (first|exact cel.out _ (P0.out.1.below (bel_drew1 (Below.refl _ _))).pg.bel|exact cel.out _ qq.pg.bel|go_keep) (first|(go_at_call 233;refine(kh _).mono ?_;rintro e w' ⟨rfl,hw'⟩;subst w')|(go_at_call 232;refine(S0.out _ _ (P0.out.1.below (bel_drew1 (Below.refl _ _)))).mono ?_;rintro e u0 ⟨rfl,qq,kk⟩))
 all_goals
  have P1:Hid (Ps w0 vb (T++(N.x)) u0/\Kq w0.heap.size w u0):=⟨qq,(P0.out.2.trans (Kq.of_below (bel_drew1 (Below.refl _ _)))).trans kk⟩
  obtain⟨x0,x5,x6⟩:=cel.out _ qq.pg.bel
  clear qq kk
  go_wp2_with (first|(go_at_call 233;refine(kh _).mono ?_;rintro e w' ⟨rfl,hw'⟩;subst w'))
  go_end0
  refine⟨rfl,?_,P1.out.2⟩
  have:=P1.out.1
  simpa only[ByteArray.append_assoc] using this
theorem m_int (w0:World) (vb:Nat) (ns:List Nd) (L:List Im) (base:Nat) (vs:Value) (Tp0:Tp w0 ns L base vs) (t:Nat) (ht:t<=100000) (i:Nat) (hi:i<ns.length) (N:Nd) (hN:nodeI ns i=N) (hk:N.k=23) (hlk:N.ks.length<=1048576) (hLay:Lay w0) (hn0: -9223372036854775808<=N.n) (hn1:N.n<=9223372036854775807):
  Pw w0 vb 51 #[vP vb,mgV w0 t,nV (imI L i)] (intS N.n):=by
 intro T w h
 obtain⟨b,vn,a,n,c,hv,Q⟩:=nd_q Tp0 hi
 rw[hN]at hv Q
 have kh:=fun w=>head_any b w
 have hmp:=fun w=>m_put w0.heap.size (tabB t) w
 have hml:=fun w=>m_line w0.heap.size (tabB t) w
 have hmi:=fun w=>m_inner w0.heap.size (tabB t) w
 have hna:=fun w=>na_put w0.heap.size (tabB t) w
 have hn:=Q.hn
 have hmt:=fun w=>methC (cls N.k) b w
 have hc:cls N.k=2:=by rw[hk];rfl
 have KI:Hid (∀W,Below w0.heap.size w0 W->Calls Tryz.prog 96 #[.int .i64 N.n] W fun e w'=>e= .returned (.string (intS N.n))/\Below W.heap.size W w'):=fun W hb=>intText_any N.n hn0 hn1 W (hLay.below hb (Nat.le_refl _))
 have hiz:=intS_size N.n hn1
 obtain⟨sn,hsn⟩:∃sn,intS N.n=sn:=⟨_,rfl⟩
 rw[hsn]at KI hiz
 rw[hsn]
 clear hsn
 have S0:Hid (Pw w0 vb 232 _ (sn)):=put_pw w0 vb t sn (by omega)
 have cel:Hid (∀W,Below w0.heap.size w0 W->W.cell? ⟨b,0,none⟩=some (.int .i64 N.k)/\W.cell? ⟨b,5,none⟩=some (.slice a n c)/\W.cell? ⟨b,6,none⟩=some (.int .i64 N.n)):=fun W hb=>⟨(Q.cells hb).1,(Q.cells hb).2.1,(Q.cells hb).2.2 _ (by rw[hc];rfl)⟩
 have P0:Hid (Ps w0 vb T w/\Kq w0.heap.size w w):=⟨h,Kq.refl _ _⟩
 obtain⟨x0,x5,x6⟩:=cel.out _ h.pg.bel
 rw[hv]
 rw[hc]at hmt⊢
 simp only[ptT]at hmt⊢
 have has:=fun w=>asP2 b w
 unfold mgV mgA at *
 generalize tabB t=tb at *
 have HQ:Hid (NdQ w0 L N b vn a n c):=Q
 clear h Q hv hk
 go_enter Tryz.func51,Tryz.ntmps51
 go_wp2_with (first|(go_at_call 233;refine(kh _).mono ?_;rintro e w' ⟨rfl,hw'⟩;subst w'))
 go_region_held3 (fun W'=>W'.cell? ⟨b,0,none⟩=some (.int .i64 N.k)/\W'.cell? ⟨b,5,none⟩=some (.slice a n c)/\W'.cell? ⟨b,6,none⟩=some (.int .i64 N.n)) (first|exact cel.out _ (P0.out.1.below (bel_drew1 (Below.refl _ _))).pg.bel|exact cel.out _ ((P0.out.1.below (bel_drew1 (Below.refl _ _))).below hbwn).pg.bel|exact cel.out _ qq.pg.bel|go_keep) (first|(go_at_call 233;refine(kh _).mono ?_;rintro e w' ⟨rfl,hw'⟩;subst w')|(go_at_call 96;refine(KI.out _ (P0.out.1.below (bel_drew1 (Below.refl _ _))).pg.bel).mono ?_;rintro e wn ⟨rfl,hbwn⟩)|(go_at_call 232;refine(S0.out _ _ ((P0.out.1.below (bel_drew1 (Below.refl _ _))).below hbwn)).mono ?_;rintro e u0 ⟨rfl,qq,kk⟩))
 all_goals
  have P1:Hid (Ps w0 vb (T++(sn)) u0/\Kq w0.heap.size w u0):=⟨qq,((P0.out.2.trans (Kq.of_below (bel_drew1 (Below.refl _ _)))).trans (Kq.of_below hbwn)).trans kk⟩
  obtain⟨x0,x5,x6⟩:=cel.out _ qq.pg.bel
  clear qq kk
  go_wp2_with (first|(go_at_call 233;refine(kh _).mono ?_;rintro e w' ⟨rfl,hw'⟩;subst w'))
  go_end0
  refine⟨rfl,?_,P1.out.2⟩
  have:=P1.out.1
  simpa only[ByteArray.append_assoc] using this
theorem m_str (w0:World) (vb:Nat) (ns:List Nd) (L:List Im) (base:Nat) (vs:Value) (Tp0:Tp w0 ns L base vs) (t:Nat) (ht:t<=100000) (i:Nat) (hi:i<ns.length) (N:Nd) (hN:nodeI ns i=N) (hk:N.k=25) (hlk:N.ks.length<=1048576) (hxz:N.x.size<=4000):
  Pw w0 vb 53 #[vP vb,mgV w0 t,nV (imI L i)] (strI (quoteI N.x)):=by
 intro T w h
 obtain⟨b,vn,a,n,c,hv,Q⟩:=nd_q Tp0 hi
 rw[hN]at hv Q
 have kh:=fun w=>head_any b w
 have hmp:=fun w=>m_put w0.heap.size (tabB t) w
 have hml:=fun w=>m_line w0.heap.size (tabB t) w
 have hmi:=fun w=>m_inner w0.heap.size (tabB t) w
 have hna:=fun w=>na_put w0.heap.size (tabB t) w
 have hn:=Q.hn
 have hmt:=fun w=>methC (cls N.k) b w
 have hc:cls N.k=3:=by rw[hk];rfl
 have KI:Hid (∀W,Below w0.heap.size w0 W->Calls Tryz.prog 97 #[.string N.x] W fun e w'=>e= .returned (.string (strI (quoteI N.x)))/\Below W.heap.size W w'):=fun W hb=>implQuoteP N.x hxz W
 have hiz:=quoB_size N.x
 unfold quoB at hiz
 obtain⟨sn,hsn⟩:∃sn,strI (quoteI N.x)=sn:=⟨_,rfl⟩
 rw[hsn]at KI hiz
 rw[hsn]
 clear hsn
 have S0:Hid (Pw w0 vb 232 _ (sn)):=put_pw w0 vb t sn (by omega)
 have cel:Hid (∀W,Below w0.heap.size w0 W->W.cell? ⟨b,0,none⟩=some (.int .i64 N.k)/\W.cell? ⟨b,5,none⟩=some (.slice a n c)/\W.cell? ⟨b,6,none⟩=some (.string N.x)):=fun W hb=>⟨(Q.cells hb).1,(Q.cells hb).2.1,(Q.cells hb).2.2 _ (by rw[hc];rfl)⟩
 have P0:Hid (Ps w0 vb T w/\Kq w0.heap.size w w):=⟨h,Kq.refl _ _⟩
 obtain⟨x0,x5,x6⟩:=cel.out _ h.pg.bel
 rw[hv]
 rw[hc]at hmt⊢
 simp only[ptT]at hmt⊢
 have has:=fun w=>asP3 b w
 unfold mgV mgA at *
 generalize tabB t=tb at *
 have HQ:Hid (NdQ w0 L N b vn a n c):=Q
 clear h Q hv hk
 go_enter Tryz.func53,Tryz.ntmps53
 go_wp2_with (first|(go_at_call 233;refine(kh _).mono ?_;rintro e w' ⟨rfl,hw'⟩;subst w'))
 go_region_held3 (fun W'=>W'.cell? ⟨b,0,none⟩=some (.int .i64 N.k)/\W'.cell? ⟨b,5,none⟩=some (.slice a n c)/\W'.cell? ⟨b,6,none⟩=some (.string N.x)) (first|exact cel.out _ (P0.out.1.below (bel_drew1 (Below.refl _ _))).pg.bel|exact cel.out _ ((P0.out.1.below (bel_drew1 (Below.refl _ _))).below hbwn).pg.bel|exact cel.out _ qq.pg.bel|go_keep) (first|(go_at_call 233;refine(kh _).mono ?_;rintro e w' ⟨rfl,hw'⟩;subst w')|(go_at_call 97;refine(KI.out _ (P0.out.1.below (bel_drew1 (Below.refl _ _))).pg.bel).mono ?_;rintro e wn ⟨rfl,hbwn⟩)|(go_at_call 232;refine(S0.out _ _ ((P0.out.1.below (bel_drew1 (Below.refl _ _))).below hbwn)).mono ?_;rintro e u0 ⟨rfl,qq,kk⟩))
 all_goals
  have P1:Hid (Ps w0 vb (T++(sn)) u0/\Kq w0.heap.size w u0):=⟨qq,((P0.out.2.trans (Kq.of_below (bel_drew1 (Below.refl _ _)))).trans (Kq.of_below hbwn)).trans kk⟩
  obtain⟨x0,x5,x6⟩:=cel.out _ qq.pg.bel
  clear qq kk
  go_wp2_with (first|(go_at_call 233;refine(kh _).mono ?_;rintro e w' ⟨rfl,hw'⟩;subst w'))
  go_end0
  refine⟨rfl,?_,P1.out.2⟩
  have:=P1.out.1
  simpa only[ByteArray.append_assoc] using this
end Go.Proofs.YtelfejiiabbpfaaGreatDoor
namespace Go.Proofs.YtelfejiiabbpfaaGreatDoor
open Go.ChangeShapes Go.WideShapes Go.ChangeAt Go.WideMaps Go.WideElems Go.RowKit
def strL (V:Array Value):List (List UInt8):=V.toList.map fun v=>match v with| .string s=>s.data.toList|_=>[]
theorem strs_of {W:World}{name:String}{d:DataW Unit}{g:Nat}{t:TypeId}{n:Nat}{V:Array Value}(hpl:([(name,d)].all fun x=>x.2.handleName?.isNone)=true)
  (hg:Tryz.prog.globalNamed name=some g) (hT:(Tryz.prog.globals[g]?).map (·.type)=some t) (ht:Tryz.prog.underlying t=some (.array n 9)) (hce:Tryz.prog.cellsOf 9=1) (hct:Tryz.prog.cellsOf t=n)
  (hd:d= .agg ((strL V).map fun b=> .lit (.string b))) (hV:(strL V).map (fun b=>Value.string ⟨b.toArray⟩)=V.toList) (h:laidMetH Tryz.prog [(name,d)] W):∃tt fr,W.heap[g]?=some (.cells V tt fr):=by
 rw[MakeChecks.laidMetH_plain _ _ _ hpl]at h
 obtain⟨ps,⟨g0,t0,cs0,f0,p0,q0,hg0,ht0,hv0,hd0,_,_⟩,_,_⟩:=h
 obtain rfl:=Option.some.inj (hg.symm.trans hg0)
 obtain rfl:=Option.some.inj (hT.symm.trans ht0)
 subst hd
 have e:=cells_of_strs ht Tryz.underlying9 hce hct hd0
 have e2:cs0=V:=by
  apply Array.toList_inj.1
  rw[e,hV]
 simp only[World.var?,hg0,Option.bind_some]at hv0
 split at hv0
 ·rename_i cs tt fr hh
  cases hv0
  exact⟨tt,fr,by rw[<-e2];exact hh⟩
 ·cases hv0
theorem err_of {W:World}{name nm:String}{d:DataW Unit}{g:Nat}{t:TypeId}{ms:Array (String×TypeId)}(hpl:([(name,DataW.iface nm d)].all fun x=>x.2.handleName?.isNone)=true)
  (hg:Tryz.prog.globalNamed name=some g) (hT:(Tryz.prog.globals[g]?).map (·.type)=some t) (ht:Tryz.prog.underlying t=some (.interface ms)) (h:laidMetH Tryz.prog [(name,.iface nm d)] W):∃te pe,W.cell? ⟨g,0,none⟩=some (.iface te pe):=by
 rw[MakeChecks.laidMetH_plain _ _ _ hpl]at h
 obtain⟨ps,⟨g0,t0,cs0,f0,p0,q0,hg0,ht0,hv0,hd0,_,_⟩,_,_⟩:=h
 obtain rfl:=Option.some.inj (hg.symm.trans hg0)
 obtain rfl:=Option.some.inj (hT.symm.trans ht0)
 obtain⟨f',u,v,e,_,_⟩:=iface_of_trod ht hd0
 refine⟨u,v,?_⟩
 have:=World.var?_cell hg0 hv0 0
 rw[this]
 have e2:cs0.toList[0]?=some (.iface u v):=by rw[e];rfl
 simpa using e2
def brjTab:List Int:=[0,1,56,2,57,49,28,3,61,58,42,50,38,29,17,4,62,47,59,36,45,43,51,22,53,39,33,30,24,18,12,5,63,55,48,27,60,41,37,16,46,35,44,21,52,32,23,11,54,26,40,15,34,20,31,10,25,14,19,9,13,8,7,6]
theorem gBrj:Tryz.prog.globalNamed "math/bits.deBruijn64tab" =some 9:=by kernel_rfl
theorem gPow:Tryz.prog.globalNamed "internal/strconv.uint64pow10" =some 6:=by kernel_rfl
theorem gSyn:Tryz.prog.globalNamed "strconv.ErrSyntax" =some 10:=by kernel_rfl
theorem gRng:Tryz.prog.globalNamed "strconv.ErrRange" =some 11:=by kernel_rfl
theorem gWrd:Tryz.prog.globalNamed "loop.example/warp/impl.wordTexts" =some 0:=by kernel_rfl
theorem gMrk:Tryz.prog.globalNamed "loop.example/warp/impl.markTexts" =some 1:=by kernel_rfl
theorem gBin:Tryz.prog.globalNamed "loop.example/warp/impl.binaryTexts" =some 2:=by kernel_rfl
theorem lay_of {W:World}(h:laidMetH Tryz.prog [("math/bits.deBruijn32tab",Rows.laid_math_bits_deBruijn32tab),("math/bits.deBruijn64tab",Rows.laid_math_bits_deBruijn64tab),("internal/strconv.uint64pow10",Rows.laid_internal_strconv_uint64pow10),("strconv.ErrRange",Rows.laid_strconv_ErrRange),("strconv.ErrSyntax",Rows.laid_strconv_ErrSyntax),("loop.example/warp/impl.wordTexts",Rows.laid_loop_example_warp_impl_wordTexts),("loop.example/warp/impl.markTexts",Rows.laid_loop_example_warp_impl_markTexts),("loop.example/warp/impl.binaryTexts",Rows.laid_loop_example_warp_impl_binaryTexts)] W):Lay W:=by
 have h1:laidMetH Tryz.prog [("loop.example/warp/impl.wordTexts",Rows.laid_loop_example_warp_impl_wordTexts)] W:=h.filter fun x=>x.1== "loop.example/warp/impl.wordTexts"
 have h2:laidMetH Tryz.prog [("loop.example/warp/impl.markTexts",Rows.laid_loop_example_warp_impl_markTexts)] W:=h.filter fun x=>x.1== "loop.example/warp/impl.markTexts"
 have h3:laidMetH Tryz.prog [("loop.example/warp/impl.binaryTexts",Rows.laid_loop_example_warp_impl_binaryTexts)] W:=h.filter fun x=>x.1== "loop.example/warp/impl.binaryTexts"
 have h4:laidMetH Tryz.prog [("strconv.ErrSyntax",Rows.laid_strconv_ErrSyntax)] W:=h.filter fun x=>x.1== "strconv.ErrSyntax"
 have h5:laidMetH Tryz.prog [("strconv.ErrRange",Rows.laid_strconv_ErrRange)] W:=h.filter fun x=>x.1== "strconv.ErrRange"
 have h6:laidMetH Tryz.prog [("internal/strconv.uint64pow10",Rows.laid_internal_strconv_uint64pow10)] W:=h.filter fun x=>x.1== "internal/strconv.uint64pow10"
 have h7:laidMetH Tryz.prog [("math/bits.deBruijn64tab",Rows.laid_math_bits_deBruijn64tab)] W:=h.filter fun x=>x.1== "math/bits.deBruijn64tab"
 refine⟨⟨?_,?_,?_⟩,⟨?_,?_⟩,?_,?_⟩
 ·exact strs_of (V:=wordV) (by kernel_rfl) gWrd (t:=98) (by kernel_rfl) Tryz.underlying98 (by kernel_rfl) (by kernel_rfl) rfl rfl h1
 ·exact strs_of (V:=othV) (by kernel_rfl) gMrk (t:=165) (by kernel_rfl) Tryz.underlying165 (by kernel_rfl) (by kernel_rfl) rfl rfl h2
 ·exact strs_of (V:=binV) (by kernel_rfl) gBin (t:=166) (by kernel_rfl) Tryz.underlying166 (by kernel_rfl) (by kernel_rfl) rfl rfl h3
 ·exact err_of (by kernel_rfl) gSyn (t:=180) (by kernel_rfl) Tryz.underlying180 h4
 ·exact err_of (by kernel_rfl) gRng (t:=180) (by kernel_rfl) Tryz.underlying180 h5
 ·rw[MakeChecks.laidMetH_plain _ _ _ (by kernel_rfl)]at h6
  exact Lib.tabIs_of_head gPow (t:=228) (by kernel_rfl) Tryz.underlying228 Tryz.underlying161 (by kernel_rfl) (by kernel_rfl) h6
 ·rw[MakeChecks.laidMetH_plain _ _ _ (by kernel_rfl)]at h7
  have h8:laidMet Tryz.prog [("math/bits.deBruijn64tab",Lib.tabData .u8 brjTab)] W:=h7
  exact(Lib.tabIs_of_head gBrj (t:=252) (by kernel_rfl) Tryz.underlying252 Tryz.underlying5 (by kernel_rfl) (by kernel_rfl) h8).cell gBrj 15 (by decide)
def powD {H:Type}(x:Int×Int×Int):DataW H:= .agg [.lit (.int .i64 x.1),.lit (.int .i64 x.2.1),.lit (.int .i64 x.2.2)]
def powC (x:Int×Int×Int):List Value:=[.int .i64 x.1,.int .i64 x.2.1,.int .i64 x.2.2]
theorem list3 (l:List Value) (h:l.length=3):∃a b c,l=[a,b,c]:=by
 match l,h with
 |[a,b,c],_=>exact⟨a,b,c,rfl⟩
theorem pow_row {H:Type}{enc:TypeId×Value->H}{W:World}{base:Nat}{sp:Nat->Bool}{held:Bool}{fuel:Nat}{l:List Value}{x:Int×Int×Int}{p:List MemPlace}(h:DataW.trod enc Tryz.prog W base sp held fuel 124 l=some (powD x,p)):l=powC x:=by
 have cI:Tryz.prog.cellsOf 3=1:=by kernel_rfl
 have cP:Tryz.prog.cellsOf 124=3:=by kernel_rfl
 obtain⟨y0,y1,y2,n,e,hl,g0,g1,g2⟩:=Go.Deep.trod_struct3 Tryz.underlying124 h
 rw[cP]at hl
 obtain⟨a,b,c,rfl⟩:=list3 l hl
 simp[cI]at g0 g1 g2
 obtain⟨z0,q0,r0,_⟩:=DataW.trod_int Tryz.underlying3 g0
 obtain⟨z1,q1,r1,_⟩:=DataW.trod_int Tryz.underlying3 g1
 obtain⟨z2,q2,r2,_⟩:=DataW.trod_int Tryz.underlying3 g2
 simp at q0 q1 q2
 subst q0 q1 q2
 unfold powD at e
 rw[r0,r1,r2]at e
 simp at e
 unfold powC
 rw[e.1.1,e.1.2.1,e.1.2.2]
theorem three_ext:∀(ls:List (Int×Int×Int)) (cs:List Value),cs.length=3*ls.length->(∀i x,ls[i]?=some x->(cs.drop (i*3)).take 3=powC x)->cs=ls.flatMap powC
 |[],cs,hl,_=>by simpa using hl
 |x::ls,cs,hl,h=>by
  have h0:=h 0 x rfl
  simp only[Nat.zero_mul,List.drop_zero]at h0
  have ih:=three_ext ls (cs.drop 3) (by rw[List.length_drop,hl];simp;omega) (fun i y hy=>by
   have:=h (i+1) y (by simpa using hy)
   rw[List.drop_drop]
   rw[show(i+1)*3=3+i*3 by omega]at this
   exact this)
  rw[List.flatMap_cons,<-ih,<-h0]
  exact(List.take_append_drop 3 cs).symm
def powT:List (Int×Int×Int):=[(26,1,2),(10,2,3),(73,3,4),(74,3,4),(75,3,4),(76,3,4),(77,3,4),(78,3,4),(72,4,4),(68,5,6),(69,6,7),(67,7,8),(70,8,9),(71,8,9),(61,9,10),(62,9,10),(63,10,11),(64,10,11),(65,10,11),(66,10,11)]
theorem gPws:Tryz.prog.globalNamed "loop.example/warp/impl.powers" =some 3:=by kernel_rfl
theorem pows_of {W:World}(h:laidMetH Tryz.prog [("loop.example/warp/impl.powers",Rows.laid_loop_example_warp_impl_powers)] W):∃tt fr,W.heap[3]?=some (.cells powVP tt fr):=by
 rw[MakeChecks.laidMetH_plain _ _ _ (by kernel_rfl)]at h
 obtain⟨ps,⟨g0,t0,cs0,f0,p0,q0,hg0,ht0,hv0,hd0,_,_⟩,_,_⟩:=h
 obtain rfl:=Option.some.inj (gPws.symm.trans hg0)
 obtain rfl:=Option.some.inj ((show(Tryz.prog.globals[3]?).map (·.type)=some 189 by kernel_rfl).symm.trans ht0)
 have cP:Tryz.prog.cellsOf 124=3:=by kernel_rfl
 have cT:Tryz.prog.cellsOf 189=60:=by kernel_rfl
 have hd1:DataW.trod _ Tryz.prog W _ _ _ f0 189 cs0.toList=some (.agg (powT.map powD),_):=hd0
 obtain⟨xs,m,_,hx,hlen,hxl,hel⟩:=DataW.trod_array Tryz.underlying189 hd1
 simp only[Prod.mk.injEq,DataW.agg.injEq]at hx
 have e:cs0.toList=powT.flatMap powC:=by
  refine three_ext powT _ (by rw[hlen,cT];rfl) (fun i x hi=>?_)
  have hi20:i<20:=by have:=(List.getElem?_eq_some_iff.1 hi).1;simpa [powT] using this
  have hd:=hel i hi20
  rw[cP,List.getElem?_eq_getElem (by omega)]at hd
  have hxi:(xs.map (·.1))[i]?=(powT.map powD)[i]?:=by rw[hx.1]
  rw[List.getElem?_map,List.getElem?_map,List.getElem?_eq_getElem (by omega),hi]at hxi
  simp only[Option.map_some,Option.some.injEq]at hxi
  exact pow_row (x:=x) (p:=xs[i].2) (by rw[hd,<-hxi])
 have e2:cs0=powVP:=by
  apply Array.toList_inj.1
  rw[e];rfl
 simp only[World.var?,hg0,Option.bind_some]at hv0
 split at hv0
 ·rename_i cs tt fr hh
  cases hv0
  exact⟨tt,fr,by rw[<-e2];exact hh⟩
 ·cases hv0
theorem tab_keep {W W':World}{name:String}{k:IntKind}{zs:List Int}{g:Nat}(hg:Tryz.prog.globalNamed name=some g) (h:Lib.TabIs Tryz.prog W name k zs) (hb:Below W.heap.size W W'):Lib.TabIs Tryz.prog W' name k zs:=by
 unfold Lib.TabIs at h⊢
 simp only[World.var?,hg,Option.bind_some]at h⊢
 have hlt:g<W.heap.size:=by
  rcases Nat.lt_or_ge g W.heap.size with hl|hl
  ·exact hl
  ·rw[Array.getElem?_eq_none hl]at h;simp at h
 rw[hb.block _ hlt]
 exact h
theorem gAscP:Tryz.prog.globalNamed "strings.asciiSpace" =some 4:=by kernel_rfl
theorem layP_of {W:World}(h:laidMetH Tryz.prog Rows.fnExactPrintRow.laid W):Lay W/\PowAt W/\Lib.TabIs Tryz.prog W "strings.asciiSpace" .u8 Lib.asciiSpaceTab:=by
 refine⟨lay_of (h.filter fun x=>!(x.1== "unicode.White_Space" ||x.1== "strings.asciiSpace" ||x.1== "loop.example/warp/impl.powers")),pows_of (h.filter fun x=>x.1== "loop.example/warp/impl.powers"),?_⟩
 have h6:laidMetH Tryz.prog [("strings.asciiSpace",Rows.laid_strings_asciiSpace)] W:=h.filter fun x=>x.1== "strings.asciiSpace"
 rw[MakeChecks.laidMetH_plain _ _ _ (by kernel_rfl)]at h6
 have h8:laidMet Tryz.prog [("strings.asciiSpace",Lib.tabData .u8 Lib.asciiSpaceTab)] W:=h6
 exact Lib.tabIs_of_head gAscP (t:=201) (by kernel_rfl) Tryz.underlying201 Tryz.underlying5 (by kernel_rfl) (by kernel_rfl) h8
end Go.Proofs.YtelfejiiabbpfaaGreatDoor
