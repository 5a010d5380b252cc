import Derived.Test.YtelfejiiabbpfaaGreatDoorHRk32
import Derived.Test.YtelfejiiabbpfaaGreatDoorHRk28
set_option linter.unusedVariables false
set_option maxRecDepth 100000
set_option maxHeartbeats 6400000
namespace Go.Proofs.YtelfejiiabbpfaaGreatDoor
open Go.RowKit Go.Maps Go.WideMaps
theorem m_block (w0:World) (vb:Nat) (ns:List Nd) (L:List Im) (base:Nat) (vs:Value) (Tp0:Tp w0 ns L base vs) (t:Nat) (ht:t<=100000) (i:Nat) (hi:i<ns.length) (N:Nd) (hN:nodeI ns i=N) (hlk:N.ks.length<=1048576) (S:Int->Nat->ByteArray) (hS:∀z∈N.ks,Vis w0 vb L (t+1) z (S z (t+1))):
  Pw w0 vb 32 #[vP vb,mgV w0 t,nV (imI L i)] (blB S N.ks t):=by
 intro T w h
 obtain⟨b,vn,a,n,c,hv,Q⟩:=nd_q Tp0 hi
 rw[hN]at hv Q
 have kh:=fun w=>head_any b w
 have hmp:=fun w=>m_put w0.heap.size (tabB t) w
 have hml:=fun w=>m_line w0.heap.size (tabB t) w
 have hmi:=fun w=>m_inner w0.heap.size (tabB t) w
 have hml2:=fun w=>m_line w0.heap.size (tabB (t+1)) w
 have hn:=Q.hn
 have hmt:=fun w=>methC (cls N.k) b w
 have S0:Hid (Pw w0 vb 232 #[mgA w0 t,.string ⟨#[123]⟩] ⟨#[123]⟩):=put_pw w0 vb t _ (by decide)
 have S1:Hid (Pw w0 vb 231 #[mgA w0 (t+1)] (lineB (t+1))):=line_pw w0 vb (t+1) (by omega)
 have S2:Hid (Pw w0 vb 231 #[mgA w0 t] (lineB t)):=line_pw w0 vb t (by omega)
 have SI:Hid (∀W:World,Calls Tryz.prog 230 #[mgA w0 t] W fun e w'=>e= .returned (mgV w0 (t+1))/\Below W.heap.size W w'):=fun W=>inner_any w0 t (by omega) W
 have HV:Hid (∀z∈N.ks,Pw w0 vb 67 #[vP vb,mgV w0 (t+1),nV (imI L z)] (S z (t+1))):=hS
 have SD:Hid (∀T w,Ps w0 vb T w->∀u,CallsD Tryz.prog 232 #[mgA w0 t,.string ⟨#[125]⟩] u w fun e u' w'=>u'=u/\(e= .returned (.tuple #[])/\Ps w0 vb (T++⟨#[125]⟩) w'/\Kq w0.heap.size w w')):=fun T w h u=>put_deferred w0 vb t _ T (by decide) u w h
 have cel:Hid (∀W,Below w0.heap.size w0 W->W.cell? ⟨b,5,none⟩=some (.slice a n c)):=fun W hb=>(Q.cells hb).2.1
 have P0:Hid (Ps w0 vb T w):=h
 have x5:=cel.out _ h.pg.bel
 rw[hv]
 obtain⟨l,hl0⟩:∃l,(N.ks.map fun k=>lineB (t+1)++S k (t+1))=l:=⟨_,rfl⟩
 have hll:l.length=n:=by rw[<-hl0,List.length_map];exact hn
 have HB:Hid (blB S N.ks t=if N.ks=[] then⟨#[123,125]⟩ else⟨#[123]⟩++catB l++lineB t++⟨#[125]⟩):=by show _=_;unfold blB;rw[hl0]
 have HQ:Hid (SlAt w0 L (.slice a n c) N.ks/\N.ks.length=n/\l.length=n/\(N.ks.map fun k=>lineB (t+1)++S k (t+1))=l):=⟨Q.ks,hn,hll,hl0⟩
 generalize ptT (cls N.k)=tp at hmt⊢
 unfold mgV mgA at *
 generalize tabB t=tb at *
 generalize tabB (t+1)=tc at *
 clear h Q hv hl0 hll hS
 by_cases h0:n=0
 ·have hks:N.ks=[]:=List.eq_nil_of_length_eq_zero (by omega)
  rw[HB.out,if_pos hks]
  subst h0
  clear hks
  go_enter_defers Tryz.func32,Tryz.ntmps32
  go_wp2_with (first|(go_at_call 233;refine(kh _).mono ?_;rintro e w' ⟨rfl,hw'⟩;subst w')|(go_at_call 232;fail))
  refine(S0.out _ _ P0.out).mono ?_
  rintro e u0 ⟨rfl,qq,kk⟩
  have P1:Hid (Ps w0 vb (T++⟨#[123]⟩) u0/\Kq w0.heap.size w u0):=⟨qq,kk⟩
  have x5:=cel.out _ qq.pg.bel
  clear qq kk
  go_wp2_with (first|(go_at_call 233;refine(kh _).mono ?_;rintro e w' ⟨rfl,hw'⟩;subst w'))
  refine leaves_cons (f:=232) (by simp) (inv_put _ _ _ _) ?_
  refine(SD.out _ _ P1.out.1 .returning).mono ?_
  rintro e u' w9 ⟨rfl,rfl,p9,k9⟩
  refine⟨_,results_none rfl _ _ _,rfl,?_,P1.out.2.trans k9⟩
  rw[ByteArray.append_assoc]at p9
  exact p9
 ·have hks:N.ks≠[]:=fun e=>h0 (by rw[e]at hn;simpa using hn.symm)
  have HB2:Hid (blB S N.ks t=⟨#[123]⟩++catB l++lineB t++⟨#[125]⟩):=by show _=_;rw[HB.out,if_neg hks]
  have hn0:¬(n:Int)=0:=by omega
  have hn1:((n:Int)==0)=false:=by simpa using h0
  clear hks HB
  go_enter_defers Tryz.func32,Tryz.ntmps32
  go_wp2_with (first|(go_at_call 233;refine(kh _).mono ?_;rintro e w' ⟨rfl,hw'⟩;subst w')|(go_at_call 232;fail))
  refine(S0.out _ _ P0.out).mono ?_
  rintro e u0 ⟨rfl,qq,kk⟩
  have P1:Hid (Ps w0 vb (T++⟨#[123]⟩) u0/\Kq w0.heap.size w u0):=⟨qq,kk⟩
  have x5:=cel.out _ qq.pg.bel
  clear qq kk
  go_wp2_with (first|(go_at_call 233;refine(kh _).mono ?_;rintro e w' ⟨rfl,hw'⟩;subst w')|(go_at_call 230;fail))
  refine(SI.out _).mono ?_
  rintro e u1 ⟨rfl,hb1⟩
  have P2:Hid (Ps w0 vb (T++⟨#[123]⟩) u1/\Kq w0.heap.size w u1):=⟨P1.out.1.below hb1,P1.out.2.trans (Kq.of_below hb1)⟩
  clear hb1
  go_wp2_with fail
  go_loopw [26] (fun v wr=>∃k:Nat,k<=n/\v= .int .i64 k/\Hid (Ps w0 vb (T++⟨#[123]⟩++catB (l.take k)) wr/\Kq w0.heap.size w wr)) (fun v _=>n-(intOf v).toNat)
  case atStart=>exact⟨0,by omega,rfl,by rw[show T++⟨#[123]⟩++catB (l.take 0)=T++⟨#[123]⟩ from ByteArray.append_empty];exact P2.out.1,P2.out.2⟩
  case round=>
   clear x5
   obtain⟨k,hk,rfl,HS⟩:=hrel
   by_cases hlt:k<n
   ·obtain⟨z,hsk⟩:=some_at HQ.out.2.1 hlt
    obtain⟨a',rfl,_,cs⟩:=(HQ.out.1.below HS.out.1.pg.bel).get hsk
    have hki:(k:Int)<(n:Int):=by omega
    have hk0:(0:Int)<=(k:Int):=by omega
    have hsl:l[k]?=some (lineB (t+1)++S z (t+1)):=by rw[<-HQ.out.2.2.2,List.getElem?_map,hsk];rfl
    have H1:Hid (catB (l.take (k+1))=catB (l.take k)++(lineB (t+1)++S z (t+1))):=catB_take l k _ hsl
    have SV:=HV.out z (List.mem_of_getElem? hsk)
    generalize nV (imI L z)=vz at cs SV
    have SZ:Hid (Pw w0 vb 67 #[vP vb,.iface 59 (.agg #[.pointer (some ⟨w0.heap.size,0,none⟩),.string tc]),vz] (S z (t+1))):=SV
    clear hsk hsl SV
    go_wp2_with (go_at_call 231;fail)
    refine(S1.out _ _ HS.out.1).mono ?_
    rintro e w2 ⟨rfl,p2,k2⟩
    have H2:Hid (Ps w0 vb (T++⟨#[123]⟩++catB (l.take k)++lineB (t+1)) w2/\Kq w0.heap.size w w2):=⟨p2,HS.out.2.trans k2⟩
    clear p2 k2
    go_wp2_with (go_at_call 67;fail)
    refine(SZ.out _ _ H2.out.1).mono ?_
    rintro e w3 ⟨rfl,p3,k3⟩
    have H3:Hid (Ps w0 vb (T++⟨#[123]⟩++catB (l.take k)++lineB (t+1)++S z (t+1)) w3/\Kq w0.heap.size w w3):=⟨p3,H2.out.2.trans k3⟩
    clear p3 k3
    go_wp2_with fail
    refine⟨⟨k+1,by omega,by go_num,?_,H3.out.2⟩,by simp[intOf];omega⟩
    rw[H1.out]
    have:=H3.out.1
    simpa only[ByteArray.append_assoc] using this
   ·obtain rfl:k=n:=by omega
    have hT:l.take k=l:=List.take_of_length_le (by rw[HQ.out.2.2.1];exact Nat.le_refl _)
    rw[hT]at HS
    clear hT
    go_wp2_with (go_at_call 231;fail)
    refine(S2.out _ _ HS.out.1).mono ?_
    rintro e w2 ⟨rfl,p2,k2⟩
    have H2:Hid (Ps w0 vb (T++⟨#[123]⟩++catB l++lineB t) w2/\Kq w0.heap.size w w2):=⟨p2,HS.out.2.trans k2⟩
    clear p2 k2
    go_wp2_with fail
    refine leaves_cons (f:=232) (by simp) (inv_put _ _ _ _) ?_
    refine(SD.out _ _ H2.out.1 .returning).mono ?_
    rintro e u' w9 ⟨rfl,rfl,p9,k9⟩
    refine⟨_,results_none rfl _ _ _,rfl,?_,H2.out.2.trans k9⟩
    rw[HB2.out]
    simpa only[ByteArray.append_assoc] using p9
theorem m_lines (w0:World) (vb:Nat) (ns:List Nd) (L:List Im) (base:Nat) (vs:Value) (Tp0:Tp w0 ns L base vs) (i:Nat) (hi:i<ns.length) (N:Nd) (hN:nodeI ns i=N) (hlk:N.ks.length<=1048576) (S:Int->ByteArray) (hS:∀z∈N.ks,Vis w0 vb L 0 z (S z)):
  Pw w0 vb 16 #[vP vb,mgV w0 0,nV (imI L i)] (catB (N.ks.map fun k=>S k++⟨#[10]⟩)):=by
 intro T w h
 obtain⟨b,vn,a,n,c,hv,Q⟩:=nd_q Tp0 hi
 rw[hN]at hv Q
 have kh:=fun w=>head_any b w
 have hml:=fun w=>m_line w0.heap.size (tabB 0) w
 have hn:=Q.hn
 have hmt:=fun w=>methC (cls N.k) b w
 have S2:Hid (Pw w0 vb 231 #[mgA w0 0] ⟨#[10]⟩):=line_pw w0 vb 0 (by omega)
 have HV:Hid (∀z∈N.ks,Pw w0 vb 67 #[vP vb,mgV w0 0,nV (imI L z)] (S z)):=hS
 have cel:Hid (∀W,Below w0.heap.size w0 W->W.cell? ⟨b,5,none⟩=some (.slice a n c)):=fun W hb=>(Q.cells hb).2.1
 have P0:Hid (Ps w0 vb T w):=h
 have x5:=cel.out _ h.pg.bel
 rw[hv]
 obtain⟨l,hl0⟩:∃l,(N.ks.map fun k=>S k++(⟨#[10]⟩:ByteArray))=l:=⟨_,rfl⟩
 have hll:l.length=n:=by rw[<-hl0,List.length_map];exact hn
 have HQ:Hid (SlAt w0 L (.slice a n c) N.ks/\N.ks.length=n/\l.length=n/\(N.ks.map fun k=>S k++(⟨#[10]⟩:ByteArray))=l):=⟨Q.ks,hn,hll,hl0⟩
 rw[hl0]
 generalize ptT (cls N.k)=tp at hmt⊢
 unfold mgV mgA at *
 generalize tabB 0=tb at *
 clear h Q hv hl0 hll hS
 go_enter Tryz.func16,Tryz.ntmps16
 go_wp2_with (first|(go_at_call 233;refine(kh _).mono ?_;rintro e w' ⟨rfl,hw'⟩;subst w'))
 go_loopw [14] (fun v wr=>∃k:Nat,k<=n/\v= .int .i64 k/\Hid (Ps w0 vb (T++catB (l.take k)) wr/\Kq w0.heap.size w wr)) (fun v _=>n-(intOf v).toNat)
 case atStart=>exact⟨0,by omega,rfl,by rw[show T++catB (l.take 0)=T from ByteArray.append_empty];exact P0.out,Kq.refl _ _⟩
 case round=>
  clear x5
  obtain⟨k,hk,rfl,HS⟩:=hrel
  by_cases hlt:k<n
  ·obtain⟨z,hsk⟩:=some_at HQ.out.2.1 hlt
   obtain⟨a',rfl,_,cs⟩:=(HQ.out.1.below HS.out.1.pg.bel).get hsk
   have hki:(k:Int)<(n:Int):=by omega
   have hk0:(0:Int)<=(k:Int):=by omega
   have hsl:l[k]?=some (S z++⟨#[10]⟩):=by rw[<-HQ.out.2.2.2,List.getElem?_map,hsk];rfl
   have H1:Hid (catB (l.take (k+1))=catB (l.take k)++(S z++⟨#[10]⟩)):=catB_take l k _ hsl
   have SV:=HV.out z (List.mem_of_getElem? hsk)
   generalize nV (imI L z)=vz at cs SV
   have SZ:Hid (Pw w0 vb 67 #[vP vb,.iface 59 (.agg #[.pointer (some ⟨w0.heap.size,0,none⟩),.string tb]),vz] (S z)):=SV
   clear hsk hsl SV
   go_wp2_with (go_at_call 67;fail)
   refine(SZ.out _ _ HS.out.1).mono ?_
   rintro e w2 ⟨rfl,p2,k2⟩
   have H2:Hid (Ps w0 vb (T++catB (l.take k)++S z) w2/\Kq w0.heap.size w w2):=⟨p2,HS.out.2.trans k2⟩
   clear p2 k2
   go_wp2_with (go_at_call 231;fail)
   refine(S2.out _ _ H2.out.1).mono ?_
   rintro e w3 ⟨rfl,p3,k3⟩
   have H3:Hid (Ps w0 vb (T++catB (l.take k)++S z++⟨#[10]⟩) w3/\Kq w0.heap.size w w3):=⟨p3,H2.out.2.trans k3⟩
   clear p3 k3
   go_wp2_with fail
   refine⟨⟨k+1,by omega,by go_num,?_,H3.out.2⟩,by simp[intOf];omega⟩
   rw[H1.out]
   have:=H3.out.1
   simpa only[ByteArray.append_assoc] using this
  ·obtain rfl:k=n:=by omega
   have hT:l.take k=l:=List.take_of_length_le (by rw[HQ.out.2.2.1];exact Nat.le_refl _)
   rw[hT]at HS
   clear hT
   go_wp2_with fail
   go_end0
   exact⟨rfl,HS.out.1,HS.out.2⟩
end Go.Proofs.YtelfejiiabbpfaaGreatDoor
