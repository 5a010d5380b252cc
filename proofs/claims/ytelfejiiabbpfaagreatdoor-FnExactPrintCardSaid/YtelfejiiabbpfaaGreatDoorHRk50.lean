import Derived.Test.YtelfejiiabbpfaaGreatDoorHRk49
set_option linter.unusedVariables false
set_option maxRecDepth 100000
set_option maxHeartbeats 6400000
namespace Go.Proofs.YtelfejiiabbpfaaGreatDoor
open Go.RowKit Go.Maps Go.WideMaps
theorem m_prefix (w0:World) (vb:Nat) (ns:List Nd) (L:List Im) (base:Nat) (vs:Value) (Tp0:Tp w0 ns L base vs) (hP:PowAt w0) (t:Nat) (i:Nat) (hi:i<ns.length) (hk:(nodeI ns i).k=30) (hop:∀j:Nat,j<ns.length->(nodeI ns j).k=31->1<=(nodeI ns j).op/\(nodeI ns j).op<=18)
  (q0:Nat) (hk0:(nodeI ns i).ks[0]?=some (q0:Int)) (hq0:q0<ns.length) (E0:ByteArray) (hV0:Vis w0 vb L t (q0:Int) E0):
  Pw w0 vb 57 #[vP vb,mgV w0 t,nV (imI L i)] (pfxB (nodeI ns i).op++(if(decide ((nodeI ns i).op=19)&&negK (nodeI ns q0))=true then⟨#[32]⟩ else ByteArray.empty)++(if isInf (nodeI ns q0).k=true then parB E0 else E0)):=by
 intro T w h
 have K0:Hid (∀W,Below w0.heap.size w0 W->Calls Tryz.prog 98 #[nV (imI L (q0:Int))] W fun e w'=>e= .returned (.tuple #[.agg #[.int .i64 (infK (nodeI ns q0)),.int .i64 (infL (nodeI ns q0)),.int .i64 (infR (nodeI ns q0))],.bool (isInf (nodeI ns q0).k)])/\Below W.heap.size W w'):=fun W hb=>infixOf_any w0 ns L base vs Tp0 hP q0 hq0 (hop q0 hq0) W hb
 have KN:Hid (∀W,Below w0.heap.size w0 W->Calls Tryz.prog 102 #[nV (imI L (q0:Int))] W fun e w'=>e= .returned (.bool (negK (nodeI ns q0)))/\Below W.heap.size W w'):=fun W hb=>isNeg_any w0 ns L base vs Tp0 q0 hq0 W hb
 have KT:Hid (∀W:World,Calls Tryz.prog 101 #[.int .i64 (nodeI ns i).op] W fun e w'=>e= .returned (.string (pfxB (nodeI ns i).op))/\Below W.heap.size W w'):=fun W=>prefixText_any _ W
 have SO:Hid (Pw w0 vb 99 #[vP vb,mgV w0 t,nV (imI L (q0:Int)),.bool (isInf (nodeI ns q0).k)] (if isInf (nodeI ns q0).k=true then parB E0 else E0)):=operand_any w0 vb t _ E0 _ hV0
 have SP:Hid (Pw w0 vb 232 #[mgA w0 t,.string (pfxB (nodeI ns i).op)] (pfxB (nodeI ns i).op)):=put_pw w0 vb t _ (by unfold pfxB;split;decide;split;decide;split;decide;decide)
 have SB:Hid (Pw w0 vb 232 #[mgA w0 t,.string ⟨#[32]⟩] ⟨#[32]⟩):=put_pw w0 vb t _ (by decide)
 obtain⟨b,vn,a,n,c,hv,Q⟩:=nd_q Tp0 hi
 have hmp:=fun w=>m_put w0.heap.size (tabB t) w
 have hna:=fun w=>na_put w0.heap.size (tabB t) w
 have hc:cls (nodeI ns i).k=4:=by rw[hk];rfl
 obtain⟨pa,rfl,hcap,_⟩:=Q.ks.get hk0
 have hj0:(0:Int)<(n:Int):=by have:=kid_lt hk0;have:=Q.hn;omega
 have hj0n:0<n:=by omega
 obtain⟨v0,hv0⟩:∃v,nV (imI L (q0:Int))=v:=⟨_,rfl⟩
 have cel:Hid (∀W,Below w0.heap.size w0 W->W.cell? ⟨b,5,none⟩=some (.slice (some pa) n c)/\W.cell? pa=some v0/\W.cell? ⟨b,6,none⟩=some (.int .i64 (nodeI ns i).op)):=fun W hb=>⟨(Q.cells hb).2.1,by rw[<-hv0];obtain⟨_,e,_,x⟩:=(Q.ks.below hb).get hk0;cases e;simpa [Addr.add] using x,(Q.cells hb).2.2 _ (by rw[hc];rfl)⟩
 rw[hv0]at K0 KN SO
 rw[hv,hc]
 simp only[ptT]
 have has:=fun w=>asP4 b w
 have P0:Hid (Ps w0 vb T w/\Kq w0.heap.size w w):=⟨h,Kq.refl _ _⟩
 obtain⟨x5,y0,x6⟩:=cel.out _ h.pg.bel
 obtain⟨B0,hB0⟩:∃B,isInf (nodeI ns q0).k=B:=⟨_,rfl⟩
 obtain⟨G0,hG0⟩:∃B,negK (nodeI ns q0)=B:=⟨_,rfl⟩
 rw[hB0]at K0 SO⊢
 rw[hG0]at KN⊢
 generalize infK (nodeI ns q0)=ak at *
 generalize infL (nodeI ns q0)=al at *
 generalize infR (nodeI ns q0)=ar at *
 obtain⟨px,hpx⟩:∃px,pfxB (nodeI ns i).op=px:=⟨_,rfl⟩
 rw[hpx]at KT SP⊢
 generalize (nodeI ns i).op=op at *
 unfold mgV mgA at *
 generalize tabB t=tb at *
 clear h Q hv hop hk0 hV0 hcap hP hk hc hv0 hB0 hG0 hpx
 obtain⟨TX,hTX⟩:∃TX,px++(if(decide (op=19)&&G0)=true then(⟨#[32]⟩:ByteArray) else ByteArray.empty)++(if B0=true then parB E0 else E0)=TX:=⟨_,rfl⟩
 rw[hTX]
 by_cases e19:op=19
 ·subst e19
  cases G0 with
  |true=>
   have HTX:Hid (TX=px++⟨#[32]⟩++(if B0=true then parB E0 else E0)):=by show _=_;rw[<-hTX];rfl
   clear hTX
   go_enter Tryz.func57,Tryz.ntmps57
   go_wp2_with fail
   go_region_held3 (fun W'=>W'.cell? ⟨b,5,none⟩=some (.slice (some pa) n c)/\W'.cell? pa=some v0/\W'.cell? ⟨b,6,none⟩=some (.int .i64 19)) (first|exact cel.out _ (P0.out.1.below (bel_drew1 (Below.refl _ _))).pg.bel|exact cel.out _ ((P0.out.1.below (bel_drew1 (Below.refl _ _))).below hbwn).pg.bel|exact cel.out _ qq.pg.bel|go_keep) (first|(go_at_call 101;refine(KT.out _).mono ?_;rintro e wn ⟨rfl,hbwn⟩)|(go_at_call 232;refine(SP.out _ _ ((P0.out.1.below (bel_drew1 (Below.refl _ _))).below hbwn)).mono ?_;rintro e u1 ⟨rfl,qq,kk⟩))
   all_goals
    have P1:Hid (Ps w0 vb (T++px) u1/\Kq w0.heap.size w u1):=⟨qq,((P0.out.2.trans (Kq.of_below (bel_drew1 (Below.refl _ _)))).trans (Kq.of_below hbwn)).trans kk⟩
    obtain⟨x5,y0,x6⟩:=cel.out _ qq.pg.bel
    clear qq kk
    go_wp2_with (go_at_call 102;fail)
    refine(KN.out _ P1.out.1.pg.bel).mono ?_
    rintro e u2 ⟨rfl,hb2⟩
    have P2:Hid (Ps w0 vb (T++px) u2/\Kq w0.heap.size w u2):=⟨P1.out.1.below hb2,P1.out.2.trans (Kq.of_below hb2)⟩
    obtain⟨x5,y0,x6⟩:=cel.out _ P2.out.1.pg.bel
    clear hb2
    go_wp2_with (go_at_call 232;fail)
    refine(SB.out _ _ P2.out.1).mono ?_
    rintro e u3 ⟨rfl,qq,kk⟩
    have P3:Hid (Ps w0 vb (T++px++⟨#[32]⟩) u3/\Kq w0.heap.size w u3):=⟨qq,P2.out.2.trans kk⟩
    obtain⟨x5,y0,x6⟩:=cel.out _ qq.pg.bel
    clear qq kk
    go_wp2_with (go_at_call 98;fail)
    refine(K0.out _ P3.out.1.pg.bel).mono ?_
    rintro e u4 ⟨rfl,hb4⟩
    have hb5:Below u4.heap.size u4 (u4.alloc (.cells #[.int .i64 ak,.int .i64 al,.int .i64 ar] 124)):=(Below.refl _ u4).alloc (Nat.le_refl _) _
    have P4:Hid (Ps w0 vb (T++px++⟨#[32]⟩) (u4.alloc (.cells #[.int .i64 ak,.int .i64 al,.int .i64 ar] 124))/\Kq w0.heap.size w (u4.alloc (.cells #[.int .i64 ak,.int .i64 al,.int .i64 ar] 124))):=⟨(P3.out.1.below hb4).below hb5,(P3.out.2.trans (Kq.of_below hb4)).trans (Kq.of_below hb5)⟩
    obtain⟨x5,y0,x6⟩:=cel.out _ P4.out.1.pg.bel
    clear hb4 hb5
    go_wp2_with (go_at_call 99;fail)
    refine(SO.out _ _ P4.out.1).mono ?_
    rintro e u6 ⟨rfl,qq,kk⟩
    have P6:Hid (Ps w0 vb (T++px++⟨#[32]⟩++(if B0=true then parB E0 else E0)) u6/\Kq w0.heap.size w u6):=⟨qq,P4.out.2.trans kk⟩
    clear qq kk
    go_wp2_with fail
    go_end0
    refine⟨rfl,?_,P6.out.2⟩
    rw[HTX.out]
    have:=P6.out.1
    simpa only[ByteArray.append_assoc] using this
  |false=>
   have HTX:Hid (TX=px++(if B0=true then parB E0 else E0)):=by show _=_;rw[<-hTX];simp
   clear hTX
   go_enter Tryz.func57,Tryz.ntmps57
   go_wp2_with fail
   go_region_held3 (fun W'=>W'.cell? ⟨b,5,none⟩=some (.slice (some pa) n c)/\W'.cell? pa=some v0/\W'.cell? ⟨b,6,none⟩=some (.int .i64 19)) (first|exact cel.out _ (P0.out.1.below (bel_drew1 (Below.refl _ _))).pg.bel|exact cel.out _ ((P0.out.1.below (bel_drew1 (Below.refl _ _))).below hbwn).pg.bel|exact cel.out _ qq.pg.bel|go_keep) (first|(go_at_call 101;refine(KT.out _).mono ?_;rintro e wn ⟨rfl,hbwn⟩)|(go_at_call 232;refine(SP.out _ _ ((P0.out.1.below (bel_drew1 (Below.refl _ _))).below hbwn)).mono ?_;rintro e u1 ⟨rfl,qq,kk⟩))
   all_goals
    have P1:Hid (Ps w0 vb (T++px) u1/\Kq w0.heap.size w u1):=⟨qq,((P0.out.2.trans (Kq.of_below (bel_drew1 (Below.refl _ _)))).trans (Kq.of_below hbwn)).trans kk⟩
    obtain⟨x5,y0,x6⟩:=cel.out _ qq.pg.bel
    clear qq kk
    go_wp2_with (go_at_call 102;fail)
    refine(KN.out _ P1.out.1.pg.bel).mono ?_
    rintro e u2 ⟨rfl,hb2⟩
    have P2:Hid (Ps w0 vb (T++px) u2/\Kq w0.heap.size w u2):=⟨P1.out.1.below hb2,P1.out.2.trans (Kq.of_below hb2)⟩
    obtain⟨x5,y0,x6⟩:=cel.out _ P2.out.1.pg.bel
    clear hb2
    go_wp2_with (go_at_call 98;fail)
    refine(K0.out _ P2.out.1.pg.bel).mono ?_
    rintro e u4 ⟨rfl,hb4⟩
    have hb5:Below u4.heap.size u4 (u4.alloc (.cells #[.int .i64 ak,.int .i64 al,.int .i64 ar] 124)):=(Below.refl _ u4).alloc (Nat.le_refl _) _
    have P4:Hid (Ps w0 vb (T++px) (u4.alloc (.cells #[.int .i64 ak,.int .i64 al,.int .i64 ar] 124))/\Kq w0.heap.size w (u4.alloc (.cells #[.int .i64 ak,.int .i64 al,.int .i64 ar] 124))):=⟨(P2.out.1.below hb4).below hb5,(P2.out.2.trans (Kq.of_below hb4)).trans (Kq.of_below hb5)⟩
    obtain⟨x5,y0,x6⟩:=cel.out _ P4.out.1.pg.bel
    clear hb4 hb5
    go_wp2_with (go_at_call 99;fail)
    refine(SO.out _ _ P4.out.1).mono ?_
    rintro e u6 ⟨rfl,qq,kk⟩
    have P6:Hid (Ps w0 vb (T++px++(if B0=true then parB E0 else E0)) u6/\Kq w0.heap.size w u6):=⟨qq,P4.out.2.trans kk⟩
    clear qq kk
    go_wp2_with fail
    go_end0
    refine⟨rfl,?_,P6.out.2⟩
    rw[HTX.out]
    have:=P6.out.1
    simpa only[ByteArray.append_assoc] using this
 ·have HTX:Hid (TX=px++(if B0=true then parB E0 else E0)):=by show _=_;rw[<-hTX,decide_eq_false e19];simp
  have g19:(op==19)=false:=by simpa using e19
  clear hTX e19
  go_enter Tryz.func57,Tryz.ntmps57
  go_wp2_with fail
  go_region_held3 (fun W'=>W'.cell? ⟨b,5,none⟩=some (.slice (some pa) n c)/\W'.cell? pa=some v0/\W'.cell? ⟨b,6,none⟩=some (.int .i64 op)) (first|exact cel.out _ (P0.out.1.below (bel_drew1 (Below.refl _ _))).pg.bel|exact cel.out _ ((P0.out.1.below (bel_drew1 (Below.refl _ _))).below hbwn).pg.bel|exact cel.out _ qq.pg.bel|go_keep) (first|(go_at_call 101;refine(KT.out _).mono ?_;rintro e wn ⟨rfl,hbwn⟩)|(go_at_call 232;refine(SP.out _ _ ((P0.out.1.below (bel_drew1 (Below.refl _ _))).below hbwn)).mono ?_;rintro e u1 ⟨rfl,qq,kk⟩))
  all_goals
   have P1:Hid (Ps w0 vb (T++px) u1/\Kq w0.heap.size w u1):=⟨qq,((P0.out.2.trans (Kq.of_below (bel_drew1 (Below.refl _ _)))).trans (Kq.of_below hbwn)).trans kk⟩
   obtain⟨x5,y0,x6⟩:=cel.out _ qq.pg.bel
   clear qq kk
   go_wp2_with (go_at_call 98;fail)
   refine(K0.out _ P1.out.1.pg.bel).mono ?_
   rintro e u4 ⟨rfl,hb4⟩
   have hb5:Below u4.heap.size u4 (u4.alloc (.cells #[.int .i64 ak,.int .i64 al,.int .i64 ar] 124)):=(Below.refl _ u4).alloc (Nat.le_refl _) _
   have P4:Hid (Ps w0 vb (T++px) (u4.alloc (.cells #[.int .i64 ak,.int .i64 al,.int .i64 ar] 124))/\Kq w0.heap.size w (u4.alloc (.cells #[.int .i64 ak,.int .i64 al,.int .i64 ar] 124))):=⟨(P1.out.1.below hb4).below hb5,(P1.out.2.trans (Kq.of_below hb4)).trans (Kq.of_below hb5)⟩
   obtain⟨x5,y0,x6⟩:=cel.out _ P4.out.1.pg.bel
   clear hb4 hb5
   go_wp2_with (go_at_call 99;fail)
   refine(SO.out _ _ P4.out.1).mono ?_
   rintro e u6 ⟨rfl,qq,kk⟩
   have P6:Hid (Ps w0 vb (T++px++(if B0=true then parB E0 else E0)) u6/\Kq w0.heap.size w u6):=⟨qq,P4.out.2.trans kk⟩
   clear qq kk
   go_wp2_with fail
   go_end0
   refine⟨rfl,?_,P6.out.2⟩
   rw[HTX.out]
   have:=P6.out.1
   simpa only[ByteArray.append_assoc] using this
end Go.Proofs.YtelfejiiabbpfaaGreatDoor
