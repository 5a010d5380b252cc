import Derived.Test.YtelfejiiabbpfaaGreatDoorHRk29
import Derived.Test.YtelfejiiabbpfaaGreatDoorHRk28
import Derived.Test.YtelfejiiabbpfaaGreatDoorHRk31
import Derived.Lib.Join
set_option linter.unusedVariables false
set_option maxRecDepth 100000
set_option maxHeartbeats 3200000
namespace Go.Proofs.YtelfejiiabbpfaaGreatDoor
open Go.RowKit Go.Maps Go.WideMaps
theorem list_any (w0:World) (vb:Nat) (L:List Im) (t:Nat) (zs:List Int) (v:Value) (hs:SlAt w0 L v zs) (hn:zs.length<=1048576) (E:Int->ByteArray) (hE:∀z∈zs,Vis w0 vb L t z (E z)):
  Pw w0 vb 93 #[vP vb,mgV w0 t,v] (sepB (zs.map E)):=by
 intro T w h
 obtain⟨a,c,rfl⟩:=hs.form
 obtain⟨n,hN⟩:∃n,zs.length=n:=⟨_,rfl⟩
 rw[hN]at hs hn⊢
 have HP:Hid (Ps w0 vb T w/\SlAt w0 L (.slice a n c) zs/\(∀z∈zs,Vis w0 vb L t z (E z))/\zs.length=n):=⟨h,hs,hE,hN⟩
 obtain⟨l,hL⟩:∃l,zs.map E=l:=⟨_,rfl⟩
 rw[hL]
 have HL:Hid (zs.map E=l/\l.length=n):=⟨hL,by rw[<-hL,List.length_map];exact hN⟩
 have hmp:=fun w=>m_put w0.heap.size (tabB t) w
 have SC:Hid (Pw w0 vb 232 #[mgA w0 t,.string commaB] commaB):=put_pw w0 vb t commaB (by decide)
 have HV:Hid (∀z∈zs,Pw w0 vb 67 #[vP vb,mgV w0 t,nV (imI L z)] (E z)):=hE
 unfold mgV mgA at HV SC⊢
 generalize tabB t=tb at hmp SC HV⊢
 clear h hs hE hN hL
 go_enter Tryz.func93,Tryz.ntmps93
 go_wp2_with fail
 go_loopw [10] (fun i wr=>∃k:Nat,k<=n/\i= .int .i64 k/\Hid (Ps w0 vb (T++sepB (l.take k)) wr/\Kq w0.heap.size w wr)) (fun i _=>n-(intOf i).toNat)
 case atStart=>exact⟨0,by omega,rfl,by rw[show T++sepB (l.take 0)=T from ByteArray.append_empty];exact HP.out.1,Kq.refl _ _⟩
 case round=>
  obtain⟨k,hk,rfl,HS⟩:=hrel
  by_cases hlt:k<n
  ·obtain⟨z,hsk⟩:=some_at HP.out.2.2.2 hlt
   obtain⟨a',rfl,_,cs⟩:=(HP.out.2.1.below HS.out.1.pg.bel).get hsk
   have hki:(k:Int)<(n:Int):=by omega
   have hk0:(0:Int)<=(k:Int):=by omega
   have hsl:l[k]?=some (E z):=by rw[<-HL.out.1,List.getElem?_map,hsk];rfl
   have h1:=sepB_take l k (E z) hsl
   have SV:=HV.out z (List.mem_of_getElem? hsk)
   generalize nV (imI L z)=vz at cs SV
   have SZ:Hid (Pw w0 vb 67 #[vP vb,.iface 59 (.agg #[.pointer (some ⟨w0.heap.size,0,none⟩),.string tb]),vz] (E z)):=SV
   have HH:Hid (sepB (l.take (k+1))=(if k=0 then sepB (l.take k) else sepB (l.take k)++commaB)++E z):=h1
   have HSK:Hid (zs[k]?=some z/\∀W,Below w0.heap.size w0 W->W.cell? (a'.add k)=some vz):=⟨hsk,fun W hb=>by
    have c0:=cs
    rcases HP.out.2.1 with⟨e,_⟩|⟨a2,c2,e,_,h3⟩
    ·rw[e]at hsk;simp at hsk
    ·cases e
     have x1:=cell_kept HS.out.1.pg.bel (h3 k z hsk)
     rw[c0]at x1
     have x2:vz=nV (imI L z):=by simpa using x1
     rw[x2]
     exact cell_kept hb (h3 k z hsk)⟩
   clear h1 hsk hsl SV
   by_cases h0:k=0
   ·subst h0
    have e1:sepB (l.take (0+1))=sepB (l.take 0)++E z:=by rw[HH.out,if_pos rfl]
    have E1:Hid (sepB (l.take (0+1))=sepB (l.take 0)++E z):=e1
    clear e1 HH
    have cs0:wr.cell? a'=some vz:=by simpa [Addr.add] using cs
    go_wp2_with (go_at_call 67;fail)
    refine(SZ.out _ _ HS.out.1).mono ?_
    rintro e w2 ⟨rfl,p2,k2⟩
    have H2:Hid (Ps w0 vb (T++sepB (l.take 0)++E z) w2/\Kq w0.heap.size wr w2):=⟨p2,k2⟩
    clear p2 k2
    go_wp2_with fail
    refine⟨⟨1,by omega,by go_num,?_,HS.out.2.trans H2.out.2⟩,by simp[intOf];omega⟩
    rw[show(1:Nat)=0+1 from rfl,E1.out,<-ByteArray.append_assoc]
    exact H2.out.1
   ·have e1:sepB (l.take (k+1))=sepB (l.take k)++commaB++E z:=by rw[HH.out,if_neg h0]
    have E1:Hid (sepB (l.take (k+1))=sepB (l.take k)++commaB++E z):=e1
    clear e1 HH
    have hkp:(0:Int)<(k:Int):=by omega
    go_wp2_with (go_at_call 232;fail)
    refine(SC.out _ _ HS.out.1).mono ?_
    rintro e w2 ⟨rfl,p2,k2⟩
    have H2:Hid (Ps w0 vb (T++sepB (l.take k)++commaB) w2/\Kq w0.heap.size wr w2):=⟨p2,k2⟩
    clear p2 k2
    go_wp2_with (go_at_call 67;fail)
    refine(SZ.out _ _ H2.out.1).mono ?_
    rintro e w3 ⟨rfl,p3,k3⟩
    have H3:Hid (Ps w0 vb (T++sepB (l.take k)++commaB++E z) w3/\Kq w0.heap.size w2 w3):=⟨p3,k3⟩
    clear p3 k3
    go_wp2_with fail
    refine⟨⟨k+1,by omega,by go_num,?_,(HS.out.2.trans H2.out.2).trans H3.out.2⟩,by simp[intOf];omega⟩
    rw[E1.out,<-ByteArray.append_assoc,<-ByteArray.append_assoc]
    exact H3.out.1
  ·obtain rfl:k=n:=by omega
   go_wp2_with fail
   go_end0
   refine⟨rfl,?_,HS.out.2⟩
   have:=HS.out.1
   rwa [List.take_of_length_le (by rw[HL.out.2];exact Nat.le_refl _)]at this
theorem phrase_any (w0:World) (vb:Nat) (t:Nat) (s X:ByteArray) (hs:s.size<=100000000) (v:Value) (hX:Pw w0 vb 93 #[vP vb,mgV w0 t,v] X):
  Pw w0 vb 91 #[vP vb,mgV w0 t,.string s,v] (s++X):=by
 intro T w h
 have hmp:=fun w=>m_put w0.heap.size (tabB t) w
 have S0:Hid (Pw w0 vb 232 #[mgA w0 t,.string s] s):=put_pw w0 vb t s hs
 have S1:Hid (Pw w0 vb 93 #[vP vb,mgV w0 t,v] X):=hX
 have HP:Hid (Ps w0 vb T w):=h
 unfold mgV mgA at *
 generalize tabB t=tb at *
 clear h hX
 go_enter Tryz.func91,Tryz.ntmps91
 go_wp2_with (go_at_call 232;fail)
 refine(S0.out _ _ HP.out).mono ?_
 rintro e w2 ⟨rfl,p2,k2⟩
 have H2:Hid (Ps w0 vb (T++s) w2/\Kq w0.heap.size w w2):=⟨p2,k2⟩
 clear p2 k2
 go_wp2_with (go_at_call 93;fail)
 refine(S1.out _ _ H2.out.1).mono ?_
 rintro e w3 ⟨rfl,p3,k3⟩
 have H3:Hid (Ps w0 vb (T++s++X) w3/\Kq w0.heap.size w w3):=⟨p3,H2.out.2.trans k3⟩
 clear p3 k3
 go_wp2_with fail
 go_end0
 exact⟨rfl,by rw[<-ByteArray.append_assoc];exact H3.out.1,H3.out.2⟩
theorem headed_any (w0:World) (vb:Nat) (t:Nat) (s X Y:ByteArray) (v vz:Value) (hX:Pw w0 vb 91 #[vP vb,mgV w0 t,.string s,v] X) (hY:Pw w0 vb 67 #[vP vb,mgV w0 t,vz] Y):
  Pw w0 vb 95 #[vP vb,mgV w0 t,.string s,v,vz] (X++⟨#[32]⟩++Y):=by
 intro T w h
 have hmp:=fun w=>m_put w0.heap.size (tabB t) w
 have S0:Hid (Pw w0 vb 91 #[vP vb,mgV w0 t,.string s,v] X):=hX
 have S1:Hid (Pw w0 vb 232 #[mgA w0 t,.string ⟨#[32]⟩] ⟨#[32]⟩):=put_pw w0 vb t _ (by decide)
 have S2:Hid (Pw w0 vb 67 #[vP vb,mgV w0 t,vz] Y):=hY
 have HP:Hid (Ps w0 vb T w):=h
 unfold mgV mgA at *
 generalize tabB t=tb at *
 clear h hX hY
 go_enter Tryz.func95,Tryz.ntmps95
 go_wp2_with (go_at_call 91;fail)
 refine(S0.out _ _ HP.out).mono ?_
 rintro e w2 ⟨rfl,p2,k2⟩
 have H2:Hid (Ps w0 vb (T++X) w2/\Kq w0.heap.size w w2):=⟨p2,k2⟩
 clear p2 k2
 go_wp2_with (go_at_call 232;fail)
 refine(S1.out _ _ H2.out.1).mono ?_
 rintro e w3 ⟨rfl,p3,k3⟩
 have H3:Hid (Ps w0 vb (T++X++⟨#[32]⟩) w3/\Kq w0.heap.size w w3):=⟨p3,H2.out.2.trans k3⟩
 clear p3 k3
 go_wp2_with (go_at_call 67;fail)
 refine(S2.out _ _ H3.out.1).mono ?_
 rintro e w4 ⟨rfl,p4,k4⟩
 have H4:Hid (Ps w0 vb (T++X++⟨#[32]⟩++Y) w4/\Kq w0.heap.size w w4):=⟨p4,H3.out.2.trans k4⟩
 clear p4 k4
 go_wp2_with fail
 go_end0
 exact⟨rfl,by have:=H4.out.1;simpa only[ByteArray.append_assoc] using this,H4.out.2⟩
theorem put_deferred (w0:World) (vb t:Nat) (s T:ByteArray) (hs:s.size<=100000000) (u:FrameMode) (w:World) (h:Ps w0 vb T w):
  CallsD Tryz.prog 232 #[mgA w0 t,.string s] u w fun e u' w'=>u'=u/\(e= .returned (.tuple #[])/\Ps w0 vb (T++s) w'/\Kq w0.heap.size w w'):=by
 have hb:∀o,Below w.heap.size w (w.alloc o):=fun o=>(Below.refl _ w).alloc (Nat.le_refl _) o
 have HK:Hid (∀W,Below w.heap.size w W->Calls Tryz.prog 229 #[.pointer (some ⟨w0.heap.size,0,none⟩),.string s] W fun e w'=>e= .returned (.tuple #[])/\Pg w0 (T++s) w'/\Kq w0.heap.size W w'):=fun W hW=>add_any w0 T s W (h.pg.below hW) hs
 have HP:Hid (Ps w0 vb T w):=h
 unfold mgA
 generalize tabB t=tb
 clear h
 go_enter_d Tryz.func232,Tryz.ntmps232
 go_wp2_with (go_at_call 229;refine(HK.out _ (hb _)).mono ?_;rintro e w2 ⟨rfl,p2,k2⟩)
 go_end0
 exact⟨rfl,HP.out.next p2 ((Kq.of_below (hb _)).trans k2),(Kq.of_below (hb _)).trans k2⟩
theorem inv_put (b:Nat) (tb s:ByteArray) (w:World):(invoke (.fn (.method "loop.example/warp/impl.put") #[]) #[.iface 59 (.agg #[.pointer (some ⟨b,0,none⟩),.string tb]),.string s]).run Tryz.prog w= .ok (.enter 232 #[.agg #[.pointer (some ⟨b,0,none⟩),.string tb],.string s]) w:=by kernel_rfl
theorem operand_held (w0:World) (vb t:Nat) (v:Value) (Y:ByteArray) (hY:Pw w0 vb 67 #[vP vb,mgV w0 t,v] Y):
  Pw w0 vb 99 #[vP vb,mgV w0 t,v,.bool true] (parB Y):=by
 intro T w h
 have hmp:=fun w=>m_put w0.heap.size (tabB t) w
 have S0:Hid (Pw w0 vb 232 #[mgA w0 t,.string ⟨#[40]⟩] ⟨#[40]⟩):=put_pw w0 vb t _ (by decide)
 have S1:Hid (Pw w0 vb 67 #[vP vb,mgV w0 t,v] Y):=hY
 have S2:Hid (∀T w,Ps w0 vb T w->∀u,CallsD Tryz.prog 232 #[mgA w0 t,.string ⟨#[41]⟩] u w fun e u' w'=>u'=u/\(e= .returned (.tuple #[])/\Ps w0 vb (T++⟨#[41]⟩) w'/\Kq w0.heap.size w w')):=fun T w h u=>put_deferred w0 vb t _ T (by decide) u w h
 have HP:Hid (Ps w0 vb T w):=h
 unfold mgV mgA at *
 generalize tabB t=tb at *
 clear h hY
 go_enter_defers Tryz.func99,Tryz.ntmps99
 go_wp2_with (go_at_call 232;fail)
 refine(S0.out _ _ HP.out).mono ?_
 rintro e w2 ⟨rfl,p2,k2⟩
 have H2:Hid (Ps w0 vb (T++⟨#[40]⟩) w2/\Kq w0.heap.size w w2):=⟨p2,k2⟩
 clear p2 k2
 go_wp2_with (go_at_call 67;fail)
 refine(S1.out _ _ H2.out.1).mono ?_
 rintro e w3 ⟨rfl,p3,k3⟩
 have H3:Hid (Ps w0 vb (T++⟨#[40]⟩++Y) w3/\Kq w0.heap.size w w3):=⟨p3,H2.out.2.trans k3⟩
 clear p3 k3
 go_wp2_with fail
 refine leaves_cons (f:=232) (by simp) (inv_put _ _ _ _) ?_
 refine(S2.out _ _ H3.out.1 .returning).mono ?_
 rintro e u' w4 ⟨rfl,rfl,p4,k4⟩
 refine⟨_,results_none rfl _ _ _,rfl,?_,H3.out.2.trans k4⟩
 unfold parB
 simpa only[ByteArray.append_assoc] using p4
theorem operand_free (w0:World) (vb t:Nat) (v:Value) (Y:ByteArray) (hY:Pw w0 vb 67 #[vP vb,mgV w0 t,v] Y):
  Pw w0 vb 99 #[vP vb,mgV w0 t,v,.bool false] Y:=by
 intro T w h
 have S1:Hid (Pw w0 vb 67 #[vP vb,mgV w0 t,v] Y):=hY
 have HP:Hid (Ps w0 vb T w):=h
 unfold mgV mgA at *
 generalize tabB t=tb at *
 clear h hY
 go_enter_defers Tryz.func99,Tryz.ntmps99
 go_wp2_with (go_at_call 67;fail)
 refine(S1.out _ _ HP.out).mono ?_
 rintro e w3 ⟨rfl,p3,k3⟩
 go_wp2_with fail
 exact⟨_,results_none rfl _ _ _,rfl,p3,k3⟩
theorem operand_any (w0:World) (vb t:Nat) (v:Value) (Y:ByteArray) (held:Bool) (hY:Pw w0 vb 67 #[vP vb,mgV w0 t,v] Y):
  Pw w0 vb 99 #[vP vb,mgV w0 t,v,.bool held] (if held=true then parB Y else Y):=by
 cases held
 ·rw[if_neg (by simp)];exact operand_free w0 vb t v Y hY
 ·rw[if_pos rfl];exact operand_held w0 vb t v Y hY
theorem key_any (w0:World) (vb t:Nat) (v:Value) (Y:ByteArray) (hY:Pw w0 vb 67 #[vP vb,mgV w0 t,v] Y):
  Pw w0 vb 104 #[vP vb,mgV w0 t,v] (⟨#[91]⟩++Y++⟨#[93]⟩):=by
 intro T w h
 have hmp:=fun w=>m_put w0.heap.size (tabB t) w
 have S0:Hid (Pw w0 vb 232 #[mgA w0 t,.string ⟨#[91]⟩] ⟨#[91]⟩):=put_pw w0 vb t _ (by decide)
 have S1:Hid (Pw w0 vb 67 #[vP vb,mgV w0 t,v] Y):=hY
 have S2:Hid (∀T w,Ps w0 vb T w->∀u,CallsD Tryz.prog 232 #[mgA w0 t,.string ⟨#[93]⟩] u w fun e u' w'=>u'=u/\(e= .returned (.tuple #[])/\Ps w0 vb (T++⟨#[93]⟩) w'/\Kq w0.heap.size w w')):=fun T w h u=>put_deferred w0 vb t _ T (by decide) u w h
 have HP:Hid (Ps w0 vb T w):=h
 unfold mgV mgA at *
 generalize tabB t=tb at *
 clear h hY
 go_enter_defers Tryz.func104,Tryz.ntmps104
 go_wp2_with (go_at_call 232;fail)
 refine(S0.out _ _ HP.out).mono ?_
 rintro e w2 ⟨rfl,p2,k2⟩
 have H2:Hid (Ps w0 vb (T++⟨#[91]⟩) w2/\Kq w0.heap.size w w2):=⟨p2,k2⟩
 clear p2 k2
 go_wp2_with (go_at_call 67;fail)
 refine(S1.out _ _ H2.out.1).mono ?_
 rintro e w3 ⟨rfl,p3,k3⟩
 have H3:Hid (Ps w0 vb (T++⟨#[91]⟩++Y) w3/\Kq w0.heap.size w w3):=⟨p3,H2.out.2.trans k3⟩
 clear p3 k3
 go_wp2_with fail
 refine leaves_cons (f:=232) (by simp) (inv_put _ _ _ _) ?_
 refine(S2.out _ _ H3.out.1 .returning).mono ?_
 rintro e u' w4 ⟨rfl,rfl,p4,k4⟩
 refine⟨_,results_none rfl _ _ _,rfl,?_,H3.out.2.trans k4⟩
 simpa only[ByteArray.append_assoc] using p4
theorem baseI_any (w0:World) (vb:Nat) (ns:List Nd) (L:List Im) (base:Nat) (vs:Value) (Tp0:Tp w0 ns L base vs) (t i:Nat) (hi:i<ns.length) (Y:ByteArray) (hY:Vis w0 vb L t i Y):
  Pw w0 vb 103 #[vP vb,mgV w0 t,nV (imI L i)] (if baseK (nodeI ns i).k=true then Y else parB Y):=by
 intro T w h
 obtain⟨b,vn,a,n,c,hv,Q⟩:=nd_q Tp0 hi
 have x0:=(Q.cells h.pg.bel).1
 have kh:=fun w=>head_any b w
 have hmt:=fun w=>methC (cls (nodeI ns i).k) b w
 have S0:Hid (Pw w0 vb 99 #[vP vb,mgV w0 t,nV (imI L i),.bool (!baseK (nodeI ns i).k)] (if baseK (nodeI ns i).k=true then Y else parB Y)):=by
  have:=operand_any w0 vb t (nV (imI L i)) Y (!baseK (nodeI ns i).k) hY
  cases hb:baseK (nodeI ns i).k<;>simp[hb]at this⊢ <;>exact this
 have HP:Hid (Ps w0 vb T w):=h
 rw[hv]at S0⊢
 generalize (nodeI ns i).k=k at x0 hmt S0⊢
 generalize ptT (cls k)=tp at hmt S0⊢
 generalize mgV w0 t=mg at S0⊢
 clear h Q hv hY
 cases hb:baseK k with
 |true=>
  rw[hb]at S0
  have hbb:k=26\/k=32\/k=33\/k=34\/k=37:=by unfold baseK at hb;simp at hb;omega
  clear hb
  rcases hbb with rfl|rfl|rfl|rfl|rfl<;>
  ·go_enter Tryz.func103,Tryz.ntmps103
   go_wp2_with (first|(go_at_call 233;refine(kh _).mono ?_;rintro e w' ⟨rfl,hw'⟩;subst w')|(go_at_call 99;refine(S0.out _ _ HP.out).mono ?_;rintro e w3 ⟨rfl,p3,k3⟩))
   go_end0
   exact⟨rfl,p3,k3⟩
 |false=>
  rw[hb]at S0
  have g1:(k==26)=false/\(k==32)=false/\(k==33)=false/\(k==34)=false/\(k==37)=false:=by unfold baseK at hb;simp at hb;simp;omega
  obtain⟨g1,g2,g3,g4,g5⟩:=g1
  clear hb
  go_enter Tryz.func103,Tryz.ntmps103
  go_wp2_with (first|(go_at_call 233;refine(kh _).mono ?_;rintro e w' ⟨rfl,hw'⟩;subst w')|(go_at_call 99;refine(S0.out _ _ HP.out).mono ?_;rintro e w3 ⟨rfl,p3,k3⟩))
  go_end0
  exact⟨rfl,p3,k3⟩
def sepT:List ByteArray->ByteArray
 |[]=>ByteArray.empty
 |y::r=>commaB++y++sepT r
theorem sepP_true (l:List ByteArray):∀x:ByteArray,l.foldl sepF (true,x)=(true,x++sepT l):=by
 induction l with
 |nil=>intro x;simp[sepT]
 |cons y r ih=>
  intro x
  rw[List.foldl_cons]
  have e:sepF (true,x) y=(true,x++commaB++y):=rfl
  rw[e,ih]
  simp only[sepT,ByteArray.append_assoc]
theorem sepB_cons (x:ByteArray) (l:List ByteArray):sepB (x::l)=x++sepT l:=by
 unfold sepB sepP
 rw[List.foldl_cons]
 have e:sepF (false,ByteArray.empty) x=(true,x):=by unfold sepF;simp
 rw[e,sepP_true]
theorem join_sep (l:List ByteArray):(⟨(Lib.join (l.map (·.data.toList)) commaB.data.toList).toArray⟩:ByteArray)=sepB l:=by
 cases l with
 |nil=>rfl
 |cons x l=>
  rw[List.map_cons,Lib.join_cons,sepB_cons]
  have key:∀l:List ByteArray,Lib.joinTail commaB.data.toList (l.map (·.data.toList))=(sepT l).data.toList:=by
   intro l
   induction l with
   |nil=>rfl
   |cons s l ih=>
    have e:Lib.joinTail commaB.data.toList ((s::l).map (·.data.toList))=(commaB.data.toList++s.data.toList)++Lib.joinTail commaB.data.toList (l.map (·.data.toList)):=by simp[Lib.joinTail]
    rw[e,ih]
    show _=(((commaB++s)++sepT l).data).toList
    rw[ByteArray.data_append,ByteArray.data_append]
    simp
  rw[key]
  apply ByteArray.ext
  rw[ByteArray.data_append]
  simp
theorem sepB_snoc (l:List ByteArray) (x:ByteArray):sepB (l++[x])=if l=[] then x else sepB l++commaB++x:=by
 unfold sepB
 rw[sepP_snoc]
 unfold sepF
 rw[sepP_one]
 cases l with
 |nil=>simp[sepP]
 |cons a r=>simp
theorem joinC_any (w:World) (vn:Value) (l:List ByteArray) (h:StrsAt w vn l) (hj:StrsJ vn) (hl:l.length<=1048576) (hz:(sepB l).size<=100000000):
  Calls Tryz.prog 130 #[vn,.string ⟨#[44,32]⟩] w fun e w'=>e= .returned (.string (sepB l))/\Below w.heap.size w w':=by
 rcases h with⟨rfl,a,c,rfl⟩|⟨a,c,rfl,hc⟩
 ·refine(Tryz.strings_Join_none a c _ w).mono ?_
  rintro e w' ⟨rfl,rfl⟩
  exact⟨rfl,Below.refl _ _⟩
 ·by_cases h0:l=[]
  ·subst h0
   refine(Tryz.strings_Join_none _ c _ w).mono ?_
   rintro e w' ⟨rfl,rfl⟩
   exact⟨rfl,Below.refl _ _⟩
  ·obtain⟨h1,h2⟩:=hj a _ c rfl
   have hlen:0<l.length:=by rcases Nat.eq_zero_or_pos l.length with e|e;exact absurd (List.eq_nil_of_length_eq_zero e) h0;exact e
   have hb:a.block<w.heap.size:=by
    have:=cell_lt (hc 0 _ (List.getElem?_eq_getElem hlen))
    unfold Addr.add at this
    simpa using this
   have e3:=join_sep l
   have hz2:(Lib.join (l.map (·.data.toList)) commaB.data.toList).length=(sepB l).size:=by rw[<-e3];simp[ByteArray.size]
   have:=Tryz.strings_Join a.block a.off c l commaB w (fun j x hx=>by
    have h3:=hc j x hx
    unfold Addr.add at h3
    split at h3
    ·rename_i hj0;subst hj0;rw[h2]at h3;simpa using h3
    ·exact h3) hb (by omega) h1 (by omega)
   rw[e3,<-h2]at this
   exact this
theorem SlAt.take {W:World}{L:List Im}{a:Option Addr}{n c:Nat}{l:List Int}(h:SlAt W L (.slice a n c) l) (k:Nat) (hk:k<=l.length):SlAt W L (.slice a k c) (l.take k):=by
 rcases h with⟨rfl,a',c',e⟩|⟨a',c',e,hc,h2⟩
 ·have:k=0:=by simpa using hk
  subst this
  exact .inl ⟨rfl,a,c,rfl⟩
 ·cases e
  by_cases h0:k=0
  ·subst h0;exact .inl ⟨by simp,_,_,rfl⟩
  ·refine .inr ⟨a',c,by rw[List.length_take,Nat.min_eq_left hk],by rw[List.length_take];omega,fun j z hz=>h2 j z ?_⟩
   rw[List.getElem?_take]at hz
   split at hz
   ·exact hz
   ·cases hz
theorem add_addP (a:Addr) (i j:Nat):(a.add i).add j=a.add (i+j):=by
 unfold Addr.add
 by_cases h1:i=0
 ·subst h1;simp
 ·by_cases h2:j=0
  ·subst h2;simp[h1]
  ·simp[h1,h2];omega
theorem SlAt.drop {W:World}{L:List Im}{a:Addr}{n c:Nat}{l:List Int}(h:SlAt W L (.slice (some a) n c) l) (k m:Nat) (hk:k<=l.length) (hm:m=l.length-k):SlAt W L (.slice (some (a.add k)) m (c-k)) (l.drop k):=by
 subst hm
 rcases h with⟨rfl,a2,c2,e⟩|⟨a2,c2,e,hc,h2⟩
 ·exact .inl ⟨by simp,some (a.add k),c-k,by simp⟩
 ·cases e
  refine .inr ⟨a.add k,c-k,by rw[List.length_drop],by rw[List.length_drop];omega,fun j z hz=>?_⟩
  rw[List.getElem?_drop]at hz
  rw[add_addP]
  exact h2 (k+j) z hz
theorem na_put (b:Nat) (tb:ByteArray) (w:World):(nilAhead 371 59 (.agg #[.pointer (some ⟨b,0,none⟩),.string tb]) "loop.example/warp/impl.put").run Tryz.prog w= .ok (some false) w:=by kernel_rfl
theorem asP0 (b:Nat) (w:World):(Instr.typeAssert (.iface 142 (.pointer (some ⟨b,0,none⟩))) 49 142 false).run Tryz.prog w= .ok (.pointer (some ⟨b,0,none⟩)) w:=by kernel_rfl
theorem asP1 (b:Nat) (w:World):(Instr.typeAssert (.iface 109 (.pointer (some ⟨b,0,none⟩))) 49 109 false).run Tryz.prog w= .ok (.pointer (some ⟨b,0,none⟩)) w:=by kernel_rfl
theorem asP2 (b:Nat) (w:World):(Instr.typeAssert (.iface 118 (.pointer (some ⟨b,0,none⟩))) 49 118 false).run Tryz.prog w= .ok (.pointer (some ⟨b,0,none⟩)) w:=by kernel_rfl
theorem asP3 (b:Nat) (w:World):(Instr.typeAssert (.iface 121 (.pointer (some ⟨b,0,none⟩))) 49 121 false).run Tryz.prog w= .ok (.pointer (some ⟨b,0,none⟩)) w:=by kernel_rfl
theorem asP4 (b:Nat) (w:World):(Instr.typeAssert (.iface 128 (.pointer (some ⟨b,0,none⟩))) 49 128 false).run Tryz.prog w= .ok (.pointer (some ⟨b,0,none⟩)) w:=by kernel_rfl
theorem asP5 (b:Nat) (w:World):(Instr.typeAssert (.iface 145 (.pointer (some ⟨b,0,none⟩))) 49 145 false).run Tryz.prog w= .ok (.pointer (some ⟨b,0,none⟩)) w:=by kernel_rfl
theorem namesOf_any (w:World) (b:Nat) (vn:Value) (l:List ByteArray) (h:StrsAt w vn l) (hj:StrsJ vn) (hl:l.length<=1048576) (hz:(sepB l).size<=100000000) (x6:w.cell? ⟨b,6,none⟩=some vn):
  Calls Tryz.prog 90 #[.iface 142 (.pointer (some ⟨b,0,none⟩))] w fun e w'=>e= .returned (.string (sepB l))/\Below w.heap.size w w':=by
 have kj:=joinC_any w vn l h hj hl hz
 have has:=fun w=>asP0 b w
 obtain⟨a,c,rfl⟩:=h.form
 generalize l.length=n at *
 clear h hj
 go_enter Tryz.func90,Tryz.ntmps90
 go_wp2_with (go_at_call 130;refine kj.mono ?_;rintro e w2 ⟨rfl,hb2⟩)
 go_ret
 exact⟨rfl,hb2⟩
end Go.Proofs.YtelfejiiabbpfaaGreatDoor
