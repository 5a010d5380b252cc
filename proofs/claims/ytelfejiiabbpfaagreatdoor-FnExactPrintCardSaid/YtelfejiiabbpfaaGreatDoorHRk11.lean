import Derived.Test.YtelfejiiabbpfaaGreatDoorHRk10
import Derived.Deep.Cut
import Derived.Deep.CutBlock
import Derived.Test.YtelfejiiabbpfaaGreatDoorHRk08
import Derived.Test.YtelfejiiabbpfaaGreatDoorHRk03
set_option linter.unusedVariables false
set_option maxRecDepth 100000
set_option maxHeartbeats 3200000
namespace Go.Proofs.YtelfejiiabbpfaaGreatDoor
open Go.RowKit Go.Maps Go.WideMaps
theorem lk_eq (s:ByteArray) (i:Nat) (c:Int) (hc:0<c):(lk s i==c)=decide (bat s i=c):=by
 unfold lk
 split
 ·by_cases h:bat s i=c<;>simp[h]
 ·rename_i h
  rw[bat_out h]
  have h1:((0:Int)==c)=false:=by rw[beq_eq_false_iff_ne];omega
  rw[h1]
  symm
  rw[decide_eq_false_iff_not]
  omega
def nKd (s:ByteArray) (p:Nat):Bool:=decide ((bat s (nA0 s p)=46/\digB (bat s (nA0 s p+1))=true)\/bat s (nA1 s (nA0 s p))=101)
def decV (s:ByteArray) (p E:Nat) (R:Option Nat):Value:=match R with
 |some u=> .agg #[.int .i64 2,.int .i64 p,.int .i64 (E:Int),.int .i64 0,.int .i64 (u:Int),.string ⟨#[]⟩]
 |none=> .agg #[.int .i64 3,.int .i64 p,.int .i64 (E:Int),.int .i64 0,.int .i64 0,.string (s.extract p E)]
def nmA (s:ByteArray) (p:Nat):Value:=
 if(nEx s (nA1 s (nA0 s p))).2=true then
  (if nKd s p=true then .agg #[.int .i64 3,.int .i64 p,.int .i64 ((nEx s (nA1 s (nA0 s p))).1:Int),.int .i64 0,.int .i64 0,.string (s.extract p (nEx s (nA1 s (nA0 s p))).1)]
  else decV s p (nEx s (nA1 s (nA0 s p))).1 (dcS s p ((nEx s (nA1 s (nA0 s p))).1-p)))
 else .agg #[.int .i64 3,.int .i64 p,.int .i64 0,.int .i64 0,.int .i64 0,.string ⟨#[]⟩]
def nmF (s:ByteArray) (p:Nat):Int:=if(nEx s (nA1 s (nA0 s p))).2=true then -1 else((nEx s (nA1 s (nA0 s p))).1:Int)
theorem dcS_none (s:ByteArray) (p j:Nat) (h:dcS s p j=none):∀n,j<=n->dcS s p n=none
 |0,hn=>by
  obtain rfl:j=0:=by omega
  exact h
 |n+1,hn=>by
  rcases Nat.eq_or_lt_of_le hn with rfl|h2
  ·exact h
  ·rw[dcS,dcS_none s p j h n (by omega)]
theorem dec_all (s:ByteArray) (p:Nat) (hd:digB (bat s p)=true) (hk:nKd s p=false):(nEx s (nA1 s (nA0 s p)))=(nA0 s p,true)/\∀i,p<=i->i<nA0 s p->digB (bat s i)=true:=by
 unfold nKd at hk
 rw[decide_eq_false_iff_not]at hk
 have h1:nA1 s (nA0 s p)=nA0 s p:=by unfold nA1;rw[if_neg (fun h=>hk (.inl h))]
 rw[h1]at hk⊢
 have h2:nEx s (nA0 s p)=(nA0 s p,true):=by unfold nEx;rw[if_neg (fun h=>hk (.inr h))]
 refine⟨h2,fun i hi hlt=>?_⟩
 rcases Nat.eq_or_lt_of_le hi with rfl|h3
 ·exact hd
 ·unfold nA0 at hlt
  split at hlt
  ·omega
  ·exact runE_all digB s _ (p+1) i h3 hlt
theorem nEx_no (s:ByteArray) (a:Nat) (h:bat s a=101) (hd:digB (bat s (nA2 s a))=false):nEx s a=(nA2 s a,false):=by
 have e:digE s (nA2 s a)=nA2 s a:=by unfold digE runE;rw[if_neg (by rw[hd];simp)]
 unfold nEx
 rw[if_pos h,e]
 simp
theorem nEx_yes (s:ByteArray) (a:Nat) (ha:a<s.size) (h:bat s a=101) (hd:digB (bat s (nA2 s a))=true):nEx s a=(digE s (nA2 s a),true):=by
 have hl:=dig_lt hd
 have e:=runE_bd digB dig_neg s s.size (nA2 s a+1) (by omega)
 have e2:digE s (nA2 s a)=runE digB s s.size (nA2 s a+1):=by
  show runE digB s (s.size+1) (nA2 s a)=_
  rw[runE,if_pos hd]
 unfold nEx
 rw[if_pos h,e2]
 simp
 omega
theorem nA2_bd (s:ByteArray) (a:Nat) (h:bat s a=101):a<nA2 s a/\nA2 s a<=s.size:=by
 have h1:=lt_of_bat h (by omega)
 unfold nA2
 split
 ·rename_i hs
  rcases hs with hs|hs
  ·have:=lt_of_bat hs (by omega);omega
  ·have:=lt_of_bat hs (by omega);omega
 ·omega
theorem digB_cases (s:ByteArray) (k:Nat):digB (bat s k)=true\/digB (bat s k)=false:=by cases digB (bat s k)<;>simp
theorem l1number_dec (s:ByteArray) (hm:s.size<=1100000) (p:Nat) (hp:p<s.size) (hd:digB (bat s p)=true) (hx:¬(bat s p=48/\bat s (p+1)=120)) (w:World):Calls Tryz.prog 156 #[.string s,.agg #[.int .i64 0,.int .i64 p,.int .i64 0,.int .i64 0,.int .i64 0,.string ⟨#[]⟩]] w fun e w'=>e= .returned (.tuple #[nmA s p,.int .i64 (nmF s p)])/\Below w.heap.size w w':=by
 obtain⟨AA,hAA⟩:∃A,nmA s p=A:=⟨_,rfl⟩
 obtain⟨FF,hFF⟩:∃F,nmF s p=F:=⟨_,rfl⟩
 rw[hAA,hFF]
 have HAA:Hid (nmA s p=AA):=hAA
 have HFF:Hid (nmF s p=FF):=hFF
 clear hAA hFF
 have hT0:TkAt w.heap.size ((w.alloc (.cells #[.int .i64 2,.int .i64 p,.int .i64 0,.int .i64 0,.int .i64 0,.string ⟨#[]⟩] 169)).alloc (.cells #[.int .i64 0,.int .i64 0,.int .i64 0,.int .i64 0,.int .i64 0,.string ⟨#[]⟩] 169)) 2 p 0 0 0 ⟨#[]⟩:=(Below.heap_alloc _ _ _ (by simp)).trans (heap_alloc_new w _)
 have i0:=fun w=>idx_run hp w
 have hZ0:TkAt (w.heap.size+1) ((w.alloc (.cells #[.int .i64 2,.int .i64 p,.int .i64 0,.int .i64 0,.int .i64 0,.string ⟨#[]⟩] 169)).alloc (.cells #[.int .i64 0,.int .i64 0,.int .i64 0,.int .i64 0,.int .i64 0,.string ⟨#[]⟩] 169)) 0 0 0 0 0 ⟨#[]⟩:=by
  have:=heap_alloc_new (w.alloc (.cells #[.int .i64 2,.int .i64 p,.int .i64 0,.int .i64 0,.int .i64 0,.string ⟨#[]⟩] 169)) (.cells #[.int .i64 0,.int .i64 0,.int .i64 0,.int .i64 0,.int .i64 0,.string ⟨#[]⟩] 169)
  rw[World.size_alloc]at this
  exact this
 have hB0:Below w.heap.size w ((w.alloc (.cells #[.int .i64 2,.int .i64 p,.int .i64 0,.int .i64 0,.int .i64 0,.string ⟨#[]⟩] 169)).alloc (.cells #[.int .i64 0,.int .i64 0,.int .i64 0,.int .i64 0,.int .i64 0,.string ⟨#[]⟩] 169)):=(((Below.refl _ w).alloc (Nat.le_refl _) _).alloc (by simp) _)
 go_enter Tryz.func156,Tryz.ntmps156
 go_upto_region 3 with fail
 generalize (w.alloc (.cells #[.int .i64 2,.int .i64 p,.int .i64 0,.int .i64 0,.int .i64 0,.string ⟨#[]⟩] 169)).alloc (.cells #[.int .i64 0,.int .i64 0,.int .i64 0,.int .i64 0,.int .i64 0,.string ⟨#[]⟩] 169)=W at hT0 hZ0 hB0
 have hsW:w.heap.size+1<W.heap.size:=lt_of_block hZ0
 obtain⟨t0,t1,t2,t3,t4,t5,tf⟩:=tk_cells hT0
 go_cut [22] from 9 (fun s22 wx=>s22= .bool false/\wx=W)
 case first=>
  by_cases h48:bat s p=48
  ·rw[h48]at i0
   have hn:¬bat s (p+1)=120:=fun h=>hx ⟨h48,h⟩
   have g120:(lk s (p+1)==120)=false:=by rw[lk_eq _ _ _ (by omega)];simpa using hn
   have kk:∀w,Calls Tryz.prog 176 #[.string s,.int .i64 ((p:Int)+1)] w fun e w'=>e= .returned (.int .u8 (lk s (p+1)))/\w'=w:=fun w=>l1look_q s hm _ (p+1) (by omega) w
   generalize lk s (p+1)=c at kk g120
   clear h48 hn hx hd HAA HFF
   go_wp2_with (go_at_call 176;refine(kk _).mono ?_;rintro e w' ⟨rfl,rfl⟩)
   go_meet
   case rel=>exact⟨rfl,rfl⟩
  ·have g48:(bat s p==48)=false:=by rw[beq_eq_false_iff_ne];exact h48
   generalize bat s p=c at i0 g48
   clear h48 hx HAA HFF
   go_wp2_with fail
   go_meet
   case rel=>exact⟨rfl,rfl⟩
 case rest=>
  obtain⟨rfl,rfl⟩:=hcut
  go_upto_if 34 with fail
  go_cut [6] from 9 (fun s6 wx=>s6= .int .i64 (nA0 s p:Int)/\wx=wc)
  case first=>
   by_cases h48:bat s p=48
   ·have hA0:Hid (nA0 s p=p+1):=by show _=_;unfold nA0;rw[if_pos h48]
    rw[h48]
    clear h48 hx HAA HFF
    go_wp2_with fail
    go_meet
    case rel=>exact⟨by rw[hA0.out];go_num,rfl⟩
   ·have HE:Hid (runE digB s (s.size+1) (p+1)=nA0 s p):=by show _=_;unfold nA0;rw[if_neg h48];rfl
    have g48:(bat s p !=48)=true:=by rw[bne_iff_ne];exact h48
    rw[g48]
    obtain⟨E,hE⟩:∃E,nA0 s p=E:=⟨_,rfl⟩
    rw[hE]at HE
    have HEE:Hid (nA0 s p=E):=hE
    clear h48 hx HAA HFF g48 hE
    go_wp2_with fail
    go_loop [6] (fun i=>∃(k f:Nat),k<=s.size/\s.size<k+f/\i= .int .i64 k/\Hid (runE digB s f k=E)) (fun i=>s.size-(intOf i).toNat)
    case atStart=>exact⟨p+1,s.size+1,by omega,by omega,by first|rfl|(congr 1;omega),HE⟩
    case round=>
     obtain⟨k,f,hk,hf,rfl,HF⟩:=hrel
     obtain⟨f,rfl⟩:∃g,f=g+1:=⟨f-1,by omega⟩
     have hst:=HF.out
     unfold runE at hst
     have kk:=fun w=>l1look_q s hm (k:Int) k rfl w
     rcases digB_cases s k with h1|h1
     ·have hlt:k<s.size:=dig_lt h1
      have kd:=fun w=>l1digit_q ((dig_lk s k).trans h1) w
      rw[if_pos h1]at hst
      have HS:Hid (runE digB s f (k+1)=E):=hst
      generalize lk s k=c at kk kd
      clear hst h1
      go_wp2_with (first|(go_at_call 176;refine(kk _).mono ?_;rintro e w' ⟨rfl,rfl⟩)|(go_at_call 137;refine(kd _).mono ?_;rintro e w' ⟨rfl,rfl⟩))
      go_round
      case rel=>exact⟨k+1,f,by omega,by omega,by go_num,HS⟩
      case measure=>simp[intOf];omega
     ·have kd:=fun w=>l1digit_q ((dig_lk s k).trans h1) w
      rw[if_neg (by rw[h1];simp)]at hst
      have HS:Hid (k=E):=hst
      generalize lk s k=c at kk kd
      clear hst h1
      go_wp2_with (first|(go_at_call 176;refine(kk _).mono ?_;rintro e w' ⟨rfl,rfl⟩)|(go_at_call 137;refine(kd _).mono ?_;rintro e w' ⟨rfl,rfl⟩))
      go_meet
      case rel=>exact⟨by rw[HEE.out,<-HS.out],rfl⟩
  case rest=>
   obtain⟨rfl,rfl⟩:=hcut
   have bA0:=nA0_bd s p hp
   go_upto_region 9 with fail
   obtain⟨D,hD⟩:∃D:Bool,decide (bat s (nA0 s p)=46/\digB (bat s (nA0 s p+1))=true)=D:=⟨_,rfl⟩
   have HD:Hid (decide (bat s (nA0 s p)=46/\digB (bat s (nA0 s p+1))=true)=D):=hD
   clear hD
   go_cut [51] from 9 (fun s51 wx=>s51= .bool D/\wx=wc)
   case first=>
    have kk:=fun w=>l1look_q s hm (nA0 s p:Int) (nA0 s p) rfl w
    have kk1:∀w,Calls Tryz.prog 176 #[.string s,.int .i64 ((nA0 s p:Int)+1)] w fun e w'=>e= .returned (.int .u8 (lk s (nA0 s p+1)))/\w'=w:=fun w=>l1look_q s hm _ (nA0 s p+1) (by omega) w
    have g46:=lk_eq s (nA0 s p) 46 (by omega)
    by_cases h46:bat s (nA0 s p)=46
    ·rw[decide_eq_true h46]at g46
     have hDd:=HD.out
     rcases digB_cases s (nA0 s p+1) with h1|h1
     ·have kd:=fun w=>l1digit_q ((dig_lk s (nA0 s p+1)).trans h1) w
      rw[decide_eq_true ⟨h46,h1⟩]at hDd
      subst hDd
      generalize lk s (nA0 s p+1)=c1 at kk1 kd
      generalize lk s (nA0 s p)=c at kk g46
      clear h46 h1 HD HAA HFF
      go_wp2_with (first|(go_at_call 176;first|(with_reducible refine(kk _).mono ?_;rintro e w' ⟨rfl,rfl⟩)|(with_reducible refine(kk1 _).mono ?_;rintro e w' ⟨rfl,rfl⟩))|(go_at_call 137;refine(kd _).mono ?_;rintro e w' ⟨rfl,rfl⟩))
      go_meet
      case rel=>exact⟨rfl,rfl⟩
     ·have kd:=fun w=>l1digit_q ((dig_lk s (nA0 s p+1)).trans h1) w
      rw[decide_eq_false (fun h=>by rw[h.2]at h1;cases h1)]at hDd
      subst hDd
      generalize lk s (nA0 s p+1)=c1 at kk1 kd
      generalize lk s (nA0 s p)=c at kk g46
      clear h46 h1 HD HAA HFF
      go_wp2_with (first|(go_at_call 176;first|(with_reducible refine(kk _).mono ?_;rintro e w' ⟨rfl,rfl⟩)|(with_reducible refine(kk1 _).mono ?_;rintro e w' ⟨rfl,rfl⟩))|(go_at_call 137;refine(kd _).mono ?_;rintro e w' ⟨rfl,rfl⟩))
      go_meet
      case rel=>exact⟨rfl,rfl⟩
    ·rw[decide_eq_false h46]at g46
     have hDd:=HD.out
     rw[decide_eq_false (fun h=>h46 h.1)]at hDd
     subst hDd
     generalize lk s (nA0 s p)=c at kk g46
     clear h46 HD HAA HFF
     go_wp2_with (first|(go_at_call 176;refine(kk _).mono ?_;rintro e w' ⟨rfl,rfl⟩))
     go_meet
     case rel=>exact⟨rfl,rfl⟩
   case rest=>
    obtain⟨rfl,rfl⟩:=hcut
    go_upto_if 51 with fail
    go_cut [6] from 9 (fun s6 wx=>s6= .int .i64 (nA1 s (nA0 s p):Int)/\TkAt w.heap.size wx (if D=true then 3 else 2) p 0 0 0 ⟨#[]⟩/\TkAt (w.heap.size+1) wx 0 0 0 0 0 ⟨#[]⟩/\Below w.heap.size w wx)
    case first=>
     cases D with
     |true=>
      have hdd:=of_decide_eq_true HD.out
      have HE:Hid (runE digB s (s.size+1) (nA0 s p+1)=nA1 s (nA0 s p)):=by show _=_;unfold nA1;rw[if_pos hdd];rfl
      have hl:=dig_lt hdd.2
      obtain⟨E,hE⟩:∃E,nA1 s (nA0 s p)=E:=⟨_,rfl⟩
      rw[hE]at HE
      have HEE:Hid (nA1 s (nA0 s p)=E):=hE
      generalize nA0 s p=A0 at HE hl bA0⊢
      clear hdd HD HAA HFF hx hE
      have hTn:=hT0.setKind 3
      have hZn:=hZ0.other (a:=⟨w.heap.size,0,none⟩) (by simp) (.int .i64 3)
      have hBn:Below w.heap.size w (wc.setCell ⟨w.heap.size,0,none⟩ (.int .i64 3)):=hB0.setCell (by simp) _
      go_wp2_with fail
      go_loop [6] (fun i=>∃(k f:Nat),k<=s.size/\s.size<k+f/\i= .int .i64 k/\Hid (runE digB s f k=E)) (fun i=>s.size-(intOf i).toNat)
      case atStart=>exact⟨A0+1,s.size+1,by omega,by omega,by first|rfl|(congr 1;omega),HE⟩
      case round=>
       obtain⟨k,f,hk,hf,rfl,HF⟩:=hrel
       obtain⟨f,rfl⟩:∃g,f=g+1:=⟨f-1,by omega⟩
       have hst:=HF.out
       unfold runE at hst
       have kk:=fun w=>l1look_q s hm (k:Int) k rfl w
       rcases digB_cases s k with h1|h1
       ·have hlt:k<s.size:=dig_lt h1
        have kd:=fun w=>l1digit_q ((dig_lk s k).trans h1) w
        rw[if_pos h1]at hst
        have HS:Hid (runE digB s f (k+1)=E):=hst
        generalize lk s k=c at kk kd
        clear hst h1
        go_wp2_with (first|(go_at_call 176;refine(kk _).mono ?_;rintro e w' ⟨rfl,rfl⟩)|(go_at_call 137;refine(kd _).mono ?_;rintro e w' ⟨rfl,rfl⟩))
        go_round
        case rel=>exact⟨k+1,f,by omega,by omega,by go_num,HS⟩
        case measure=>simp[intOf];omega
       ·have kd:=fun w=>l1digit_q ((dig_lk s k).trans h1) w
        rw[if_neg (by rw[h1];simp)]at hst
        have HS:Hid (k=E):=hst
        generalize lk s k=c at kk kd
        clear hst h1
        go_wp2_with (first|(go_at_call 176;refine(kk _).mono ?_;rintro e w' ⟨rfl,rfl⟩)|(go_at_call 137;refine(kd _).mono ?_;rintro e w' ⟨rfl,rfl⟩))
        go_meet
        case rel=>exact⟨by rw[HEE.out,<-HS.out],hTn,hZn,hBn⟩
     |false=>
      have hdd:=of_decide_eq_false HD.out
      have hE:nA1 s (nA0 s p)=nA0 s p:=by unfold nA1;rw[if_neg hdd]
      have HEE:Hid (nA1 s (nA0 s p)=nA0 s p):=hE
      clear hdd HD HAA HFF hx hE
      go_wp2_with fail
      go_meet
      case rel=>exact⟨by rw[HEE.out],hT0,hZ0,hB0⟩
    case rest=>
     obtain⟨rfl,hT1,hZ1,hB1⟩:=hcut
     clear hT0 hZ0 hB0 t0 t1 t2 t3 t4 t5 tf hsW
     have bA1:=nA1_bd s _ bA0.2
     have kk:=fun w=>l1look_q s hm (nA1 s (nA0 s p):Int) (nA1 s (nA0 s p)) rfl w
     have g101:=lk_eq s (nA1 s (nA0 s p)) 101 (by omega)
     obtain⟨X,hX⟩:∃X:Bool,decide (bat s (nA1 s (nA0 s p))=101)=X:=⟨_,rfl⟩
     have HX:Hid (decide (bat s (nA1 s (nA0 s p))=101)=X):=hX
     rw[hX]at g101
     clear hX
     obtain⟨t0,t1,t2,t3,t4,t5,tf⟩:=tk_cells hT1
     obtain⟨z0,z1,z2,z3,z4,z5,zf⟩:=tk_cells hZ1
     have hx1:w.heap.size<wc.heap.size:=lt_of_block hT1
     have hx2:w.heap.size+1<wc.heap.size:=lt_of_block hZ1
     go_upto_if 64 with(go_at_call 176;refine(kk _).mono ?_;rintro e w' ⟨rfl,hw'⟩;obtain rfl:=hw'.symm)
     clear kk g101
     go_cut [6] from 9 (fun s6 wx=>s6= .int .i64 ((nEx s (nA1 s (nA0 s p))).1:Int)/\(nEx s (nA1 s (nA0 s p))).2=true/\TkAt w.heap.size wx (if(D||X)=true then 3 else 2) p 0 0 0 ⟨#[]⟩/\TkAt (w.heap.size+1) wx 0 0 0 0 0 ⟨#[]⟩/\Below w.heap.size w wx)
     case first=>
      cases X with
      |false=>
       have hxx:=of_decide_eq_false HX.out
       have HEE:Hid (nEx s (nA1 s (nA0 s p))=(nA1 s (nA0 s p),true)):=by show _=_;unfold nEx;rw[if_neg hxx]
       rw[<-Bool.or_false D]at hT1
       clear hxx HX HAA HFF HD hx
       go_wp2_with fail
       go_meet
       case rel=>exact⟨by rw[HEE.out],by rw[HEE.out],hT1,hZ1,hB1⟩
      |true=>
       have hxx:=of_decide_eq_true HX.out
       have hbad:=nEx_no s (nA1 s (nA0 s p)) hxx
       have hgood:=nEx_yes s (nA1 s (nA0 s p)) (lt_of_bat hxx (by omega)) hxx
       have b2:=nA2_bd s (nA1 s (nA0 s p)) hxx
       have kk1:∀w,Calls Tryz.prog 176 #[.string s,.int .i64 ((nA1 s (nA0 s p):Int)+1)] w fun e w'=>e= .returned (.int .u8 (lk s (nA1 s (nA0 s p)+1)))/\w'=w:=fun w=>l1look_q s hm _ (nA1 s (nA0 s p)+1) (by omega) w
       have g43:=lk_eq s (nA1 s (nA0 s p)+1) 43 (by omega)
       have g45:=lk_eq s (nA1 s (nA0 s p)+1) 45 (by omega)
       have hA2:Hid (nA2 s (nA1 s (nA0 s p))=if decide (bat s (nA1 s (nA0 s p)+1)=43)=true\/decide (bat s (nA1 s (nA0 s p)+1)=45)=true then nA1 s (nA0 s p)+1+1 else nA1 s (nA0 s p)+1):=by show _=_;unfold nA2;simp
       generalize decide (bat s (nA1 s (nA0 s p)+1)=43)=P43 at g43 hA2
       generalize decide (bat s (nA1 s (nA0 s p)+1)=45)=P45 at g45 hA2
       have hTn:=hT1.setKind 3
       have hZn:=hZ1.other (a:=⟨w.heap.size,0,none⟩) (by simp) (.int .i64 3)
       have hBn:Below w.heap.size w (wc.setCell ⟨w.heap.size,0,none⟩ (.int .i64 3)):=hB1.setCell (by simp) _
       obtain⟨W3,hW3⟩:∃W3,wc.setCell ⟨w.heap.size,0,none⟩ (.int .i64 3)=W3:=⟨_,rfl⟩
       rw[hW3]at hTn hZn hBn
       have HW3:Hid (wc.setCell ⟨w.heap.size,0,none⟩ (.int .i64 3)=W3):=hW3
       clear hxx HX HD hx hW3
       go_upto_region 17 with fail
       rw[HW3.out]
       clear HW3 hT1 hZ1 hB1 t0 t1 t2 t3 t4 t5 tf z0 z1 z2 z3 z4 z5 zf hx1 hx2
       obtain⟨t0,t1,t2,t3,t4,t5,tf⟩:=tk_cells hTn
       obtain⟨z0,z1,z2,z3,z4,z5,zf⟩:=tk_cells hZn
       have hx1:w.heap.size<W3.heap.size:=lt_of_block hTn
       have hx2:w.heap.size+1<W3.heap.size:=lt_of_block hZn
       go_cut [77] from 9 (fun s77 wx=>s77= .bool (P45||P43)/\wx=W3)
       case first=>
        generalize lk s (nA1 s (nA0 s p)+1)=c at kk1 g43 g45
        clear HAA HFF hbad hgood hA2
        cases P45 with
        |true=>
         go_wp2_with (first|(go_at_call 176;refine(kk1 _).mono ?_;rintro e w' ⟨rfl,hw'⟩;obtain rfl:=hw'.symm))
         go_meet
         case rel=>exact⟨rfl,rfl⟩
        |false=>
         go_wp2_with (first|(go_at_call 176;refine(kk1 _).mono ?_;rintro e w' ⟨rfl,hw'⟩;obtain rfl:=hw'.symm))
         go_meet
         case rel=>exact⟨rfl,rfl⟩
       case rest=>
        obtain⟨rfl,hwc⟩:=hcut
        obtain rfl:=hwc.symm
        clear hwc
        go_upto_if 77 with fail
        go_cut [6] from 9 (fun s6 wx=>s6= .int .i64 (nA2 s (nA1 s (nA0 s p)):Int)/\wx=W3)
        case first=>
         clear HAA HFF hbad hgood g43 g45 kk1
         obtain⟨PP,hPP⟩:∃PP:Bool,(P45||P43)=PP:=⟨_,rfl⟩
         have hA2':Hid (nA2 s (nA1 s (nA0 s p))=if PP=true then nA1 s (nA0 s p)+1+1 else nA1 s (nA0 s p)+1):=by show _=_;rw[hA2.out,<-hPP];cases P45<;>cases P43<;>simp
         rw[hPP]
         clear hPP hA2
         cases PP with
         |true=>
          go_wp2_with fail
          go_meet
          case rel=>exact⟨by rw[hA2'.out];simp only[if_true];go_num,rfl⟩
         |false=>
          go_wp2_with fail
          go_meet
          case rel=>exact⟨by rw[hA2'.out];simp,rfl⟩
        case rest=>
         obtain⟨rfl,hwc⟩:=hcut
         obtain rfl:=hwc.symm
         clear hwc hA2 g43 g45 kk1
         have kk2:=fun w=>l1look_q s hm (nA2 s (nA1 s (nA0 s p)):Int) (nA2 s (nA1 s (nA0 s p))) rfl w
         rcases digB_cases s (nA2 s (nA1 s (nA0 s p))) with h1|h1
         ·have kd:=fun w=>l1digit_q ((dig_lk s (nA2 s (nA1 s (nA0 s p)))).trans h1) w
          have HGG:Hid (nEx s (nA1 s (nA0 s p))=(digE s (nA2 s (nA1 s (nA0 s p))),true)):=hgood h1
          obtain⟨E,hE⟩:∃E,digE s (nA2 s (nA1 s (nA0 s p)))=E:=⟨_,rfl⟩
          have HE:Hid (runE digB s (s.size+1) (nA2 s (nA1 s (nA0 s p)))=E):=hE
          have HEE:Hid (digE s (nA2 s (nA1 s (nA0 s p)))=E):=hE
          generalize lk s (nA2 s (nA1 s (nA0 s p)))=c2 at kk2 kd
          generalize nA2 s (nA1 s (nA0 s p))=A2 at HE b2 kk2⊢
          clear hbad hgood hE h1 HAA HFF
          go_wp2_with (first|(go_at_call 176;refine(kk2 _).mono ?_;rintro e w' ⟨rfl,hw'⟩;obtain rfl:=hw'.symm)|(go_at_call 137;refine(kd _).mono ?_;rintro e w' ⟨rfl,hw'⟩;obtain rfl:=hw'.symm))
          clear kk2 kd
          go_loop [6] (fun i=>∃(k f:Nat),k<=s.size/\s.size<k+f/\i= .int .i64 k/\Hid (runE digB s f k=E)) (fun i=>s.size-(intOf i).toNat)
          case atStart=>exact⟨A2,s.size+1,by omega,by omega,by first|rfl|(congr 1;omega),HE⟩
          case round=>
           obtain⟨k,f,hk,hf,rfl,HF⟩:=hrel
           obtain⟨f,rfl⟩:∃g,f=g+1:=⟨f-1,by omega⟩
           have hst:=HF.out
           unfold runE at hst
           have kk:=fun w=>l1look_q s hm (k:Int) k rfl w
           rcases digB_cases s k with h1|h1
           ·have hlt:k<s.size:=dig_lt h1
            have kd:=fun w=>l1digit_q ((dig_lk s k).trans h1) w
            rw[if_pos h1]at hst
            have HS:Hid (runE digB s f (k+1)=E):=hst
            generalize lk s k=c at kk kd
            clear hst h1
            go_wp2_with (first|(go_at_call 176;refine(kk _).mono ?_;rintro e w' ⟨rfl,rfl⟩)|(go_at_call 137;refine(kd _).mono ?_;rintro e w' ⟨rfl,rfl⟩))
            go_round
            case rel=>exact⟨k+1,f,by omega,by omega,by go_num,HS⟩
            case measure=>simp[intOf];omega
           ·have kd:=fun w=>l1digit_q ((dig_lk s k).trans h1) w
            rw[if_neg (by rw[h1];simp)]at hst
            have HS:Hid (k=E):=hst
            generalize lk s k=c at kk kd
            clear hst h1
            go_wp2_with (first|(go_at_call 176;refine(kk _).mono ?_;rintro e w' ⟨rfl,rfl⟩)|(go_at_call 137;refine(kd _).mono ?_;rintro e w' ⟨rfl,rfl⟩))
            go_meet
            case rel=>exact⟨by rw[HGG.out,HEE.out,<-HS.out],by rw[HGG.out],by simpa using hTn,hZn,hBn⟩
         ·have kd:=fun w=>l1digit_q ((dig_lk s (nA2 s (nA1 s (nA0 s p)))).trans h1) w
          have hb:=hbad h1
          have haa:=HAA.out
          have hff:=HFF.out
          unfold nmA at haa
          unfold nmF at hff
          rw[hb]at haa hff
          simp only[if_neg (show ¬false=true by simp)]at haa hff
          subst haa
          obtain⟨G,hG⟩:∃G:Int,(nA2 s (nA1 s (nA0 s p)):Int)=G:=⟨_,rfl⟩
          rw[hG]at hff kk2⊢
          subst hff
          generalize lk s (nA2 s (nA1 s (nA0 s p)))=c2 at kk2 kd
          clear hb h1 hbad hgood HAA HFF b2 hG
          go_wp2_with (first|(go_at_call 176;refine(kk2 _).mono ?_;rintro e w' ⟨rfl,hw'⟩;obtain rfl:=hw'.symm)|(go_at_call 137;refine(kd _).mono ?_;rintro e w' ⟨rfl,hw'⟩;obtain rfl:=hw'.symm))
          refine bodyPost_ret (v:= .tuple #[.agg #[.int .i64 3,.int .i64 p,.int .i64 0,.int .i64 0,.int .i64 0,.string ⟨#[]⟩],.int .i64 G]) (by simp[results,Tryz.results156,go_sem,z0,z1,z2,z3,z4,z5]) rfl ⟨rfl,?_⟩
          iterate 6 refine Below.setCell ?_ (by simp) _
          exact hBn
     case rest=>
      obtain⟨rfl,hok,hT2,hZ2,hB2⟩:=hcut
      have bE:=nEx_bd s _ bA1.2
      have hKD:nKd s p=(D||X):=by unfold nKd;rw[<-HD.out,<-HX.out];simp
      have hall:=dec_all s p hd
      have haa:=HAA.out
      have hff:=HFF.out
      unfold nmA at haa
      unfold nmF at hff
      rw[if_pos hok]at haa hff
      subst hff
      rw[hKD]at haa hall
      have hpe:p<(nEx s (nA1 s (nA0 s p))).1:=by omega
      have hes:(nEx s (nA1 s (nA0 s p))).1<=s.size:=bE.2
      have halld:(D||X)=false->∀i,p<=i->i<(nEx s (nA1 s (nA0 s p))).1->digB (bat s i)=true:=fun h i h1 h2=>by
       have hh:=hall h
       exact hh.2 i h1 (by rw[hh.1]at h2;exact h2)
      clear hall hKD HD HX HAA HFF hok bE bA1 bA0 hx i0 hd
      generalize (D||X)=KK at hT2 haa halld
      generalize (nEx s (nA1 s (nA0 s p))).1=E at hpe hes haa halld⊢
      clear hT1 hZ1 hB1 t0 t1 t2 t3 t4 t5 tf z0 z1 z2 z3 z4 z5 zf hx1 hx2
      obtain⟨R,hR⟩:∃R,dcS s p (E-p)=R:=⟨_,rfl⟩
      rw[hR]at haa
      have HR:Hid (dcS s p (E-p)=R):=hR
      have HAA:Hid ((if KK=true then Value.agg #[.int .i64 3,.int .i64 p,.int .i64 (E:Int),.int .i64 0,.int .i64 0,.string (s.extract p E)] else decV s p E R)=AA):=haa
      have HAL:Hid (KK=false->∀i,p<=i->i<E->digB (bat s i)=true):=halld
      clear haa halld hR
      obtain⟨kd0,hkd0⟩:∃kd0:Int,(if KK=true then(3:Int) else 2)=kd0:=⟨_,rfl⟩
      rw[hkd0]at hT2
      have HK:Hid ((kd0=2/\KK=false/\(0:Int)<=0/\dcS s p (p-p)=some (0:Int).toNat)\/(kd0=3/\(KK=true\/R=none))):=by
       cases KK with
       |true=>exact .inr ⟨hkd0.symm,.inl rfl⟩
       |false=>exact .inl ⟨hkd0.symm,rfl,by omega,by rw[Nat.sub_self];rfl⟩
      clear hkd0
      obtain⟨t0,t1,t2,t3,t4,t5,tf⟩:=tk_cells hT2
      have hx1:w.heap.size<wc.heap.size:=lt_of_block hT2
      have hTn:=hT2.setTo (E:Int)
      have hZn:=hZ2.other (a:=⟨w.heap.size,2,none⟩) (by simp) (.int .i64 (E:Int))
      have hBn:Below w.heap.size w (wc.setCell ⟨w.heap.size,2,none⟩ (.int .i64 (E:Int))):=hB2.setCell (by simp) _
      go_wp2_with fail
      go_loopw [7,8] (fun n i wr=>∃(k:Nat) (kd a:Int),p<=k/\k<=E/\i= .int .i64 k/\n= .int .u64 a/\TkAt w.heap.size wr kd p (E:Int) 0 0 ⟨#[]⟩/\TkAt (w.heap.size+1) wr 0 0 0 0 0 ⟨#[]⟩/\Below w.heap.size w wr/\Hid ((kd=2/\KK=false/\0<=a/\dcS s p (k-p)=some a.toNat)\/(kd=3/\(KK=true\/R=none)))) (fun _ i _=>E-(intOf i).toNat)
      case atStart=>exact⟨p,kd0,0,Nat.le_refl _,by omega,rfl,rfl,hTn,hZn,hBn,HK⟩
      case round=>
       obtain⟨k,kd,a,hpk,hkE,rfl,rfl,hTr,hZr,hBr,hst⟩:=hrel
       clear hTn hZn hBn hT2 hZ2 hB2 t0 t1 t2 t3 t4 t5 tf hx1 HK
       obtain⟨t0,t1,t2,t3,t4,t5,tf⟩:=tk_cells hTr
       obtain⟨z0,z1,z2,z3,z4,z5,zf⟩:=tk_cells hZr
       have hx1:w.heap.size<wr.heap.size:=lt_of_block hTr
       have hx2:w.heap.size+1<wr.heap.size:=lt_of_block hZr
       rcases hst.out with⟨rfl,hKK,ha0,hdc⟩|⟨rfl,hor⟩
       ·have ha1:=dcS_le s p _ _ hdc
        by_cases hkl:k<E
        ·have hc:=HAL.out hKK k hpk hkl
         have hcr:=dig_range hc
         have i1:=fun w=>idx_run (s:=s) (i:=k) (by omega) w
         have hstep:dcS s p (k+1-p)=if a.toNat*10+(bat s k-48).toNat<=9223372036854775807 then some (a.toNat*10+(bat s k-48).toNat) else none:=by
          rw[show k+1-p=(k-p)+1 by omega,dcS,hdc,show p+(k-p)=k by omega]
         have a1:a<=9223372036854775807:=by omega
         have hnn:dcS s p (k+1-p)=none->R=none:=fun h=>by rw[<-HR.out];exact dcS_none s p _ h _ (by omega)
         have HS:Hid ((¬a*10+(bat s k-48)<=9223372036854775807->R=none)/\(a*10+(bat s k-48)<=9223372036854775807->dcS s p (k+1-p)=some (a*10+(bat s k-48)).toNat)):=by
          refine⟨fun h=>hnn (by rw[hstep,if_neg (by omega)]),fun h=>?_⟩
          rw[hstep,if_pos (by omega)]
          congr 1
          omega
         generalize bat s k=c at i1 hcr HS
         clear hc hstep hnn hdc hst HAL HR HAA ha1
         have hTf:=hTr.setKind 3
         have hZf:=hZr.other (a:=⟨w.heap.size,0,none⟩) (by simp) (.int .i64 3)
         have hBf:Below w.heap.size w (wr.setCell ⟨w.heap.size,0,none⟩ (.int .i64 3)):=hBr.setCell (by simp) _
         have hkli:(k:Int)<(E:Int):=by omega
         rcases(show 922337203685477580<a\/(a=922337203685477580/\55<c)\/(a=922337203685477580/\¬55<c)\/a<922337203685477580 by omega) with q|⟨q,q2⟩|⟨q,q2⟩|q
         ·have HN:Hid (R=none):=HS.out.1 (by omega)
          clear HS
          go_wp2
          go_roundw
          case rel=>exact⟨k+1,3,_,by omega,by omega,by go_num,rfl,hTf,hZf,hBf,.inr ⟨rfl,.inr HN.out⟩⟩
          case measure=>simp[intOf];omega
         ·have HN:Hid (R=none):=HS.out.1 (by omega)
          have qq:(a==922337203685477580)=true:=by rw[beq_iff_eq];exact q
          have qn:¬922337203685477580<a:=by omega
          clear HS q
          go_wp2
          go_roundw
          case rel=>exact⟨k+1,3,_,by omega,by omega,by go_num,rfl,hTf,hZf,hBf,.inr ⟨rfl,.inr HN.out⟩⟩
          case measure=>simp[intOf];omega
         ·have HN:Hid (dcS s p (k+1-p)=some (a*10+(c-48)).toNat):=HS.out.2 (by omega)
          have qq:(a==922337203685477580)=true:=by rw[beq_iff_eq];exact q
          have qn:¬922337203685477580<a:=by omega
          have qb:a*10+(c-48)<=9223372036854775807:=by omega
          clear HS q
          go_wp2
          go_roundw
          case rel=>exact⟨k+1,2,a*10+(c-48),by omega,by omega,by go_num,by first|rfl|(congr 1;omega),hTr,hZr,hBr,.inl ⟨rfl,hKK,by omega,HN.out⟩⟩
          case measure=>simp[intOf];omega
         ·have HN:Hid (dcS s p (k+1-p)=some (a*10+(c-48)).toNat):=HS.out.2 (by omega)
          have qq:(a==922337203685477580)=false:=by rw[beq_eq_false_iff_ne];omega
          have qn:¬922337203685477580<a:=by omega
          have qb:a*10+(c-48)<=9223372036854775807:=by omega
          clear HS
          go_wp2
          go_roundw
          case rel=>exact⟨k+1,2,a*10+(c-48),by omega,by omega,by go_num,by first|rfl|(congr 1;omega),hTr,hZr,hBr,.inl ⟨rfl,hKK,by omega,HN.out⟩⟩
          case measure=>simp[intOf];omega
        ·obtain rfl:k=E:=by omega
         have haa:=HAA.out
         rw[hKK,<-HR.out,hdc]at haa
         simp only[if_neg (show ¬false=true by simp),decV]at haa
         rw[show((a.toNat:Nat):Int)=a by omega]at haa
         subst haa
         have hw64:wrap64 a=a:=by unfold wrap64;omega
         have a1:a<=9223372036854775807:=by omega
         clear HAA HR HAL hst hdc ha1
         go_wp2
         refine bodyPost_ret (v:= .tuple #[.agg #[.int .i64 2,.int .i64 p,.int .i64 (k:Int),.int .i64 0,.int .i64 a,.string ⟨#[]⟩],.int .i64 (-1)]) (by simp[results,Tryz.results156,go_sem,z0,z1,z2,z3,z4,z5]) rfl ⟨rfl,?_⟩
         iterate 7 refine Below.setCell ?_ (by simp) _
         exact hBr
       ·have haa:=HAA.out
        have haa':Value.agg #[.int .i64 3,.int .i64 p,.int .i64 (E:Int),.int .i64 0,.int .i64 0,.string (s.extract p E)]=AA:=by
         rcases hor with h|h
         ·rw[h]at haa;exact haa
         ·rw[h]at haa;cases KK<;>exact haa
        subst haa'
        clear haa HAA HR HAL hst hor
        by_cases hkl:k<E
        ·have hkli:(k:Int)<(E:Int):=by omega
         go_wp2
         refine bodyPost_ret (v:= .tuple #[.agg #[.int .i64 3,.int .i64 p,.int .i64 (E:Int),.int .i64 0,.int .i64 0,.string (s.extract p E)],.int .i64 (-1)]) (by simp[results,Tryz.results156,go_sem,z0,z1,z2,z3,z4,z5]) rfl ⟨rfl,?_⟩
         iterate 7 refine Below.setCell ?_ (by simp) _
         exact hBr
        ·have hkli:¬(k:Int)<(E:Int):=by omega
         go_wp2
         refine bodyPost_ret (v:= .tuple #[.agg #[.int .i64 3,.int .i64 p,.int .i64 (E:Int),.int .i64 0,.int .i64 0,.string (s.extract p E)],.int .i64 (-1)]) (by simp[results,Tryz.results156,go_sem,z0,z1,z2,z3,z4,z5]) rfl ⟨rfl,?_⟩
         iterate 7 refine Below.setCell ?_ (by simp) _
         exact hBr
theorem hxA_is (s:ByteArray) (p:Nat):∃(t n:Int),hxA s p= .agg #[.int .i64 2,.int .i64 p,.int .i64 t,.int .i64 0,.int .i64 n,.string ⟨#[]⟩]:=by
 unfold hxA;split<;>exact⟨_,_,rfl⟩
def numA (s:ByteArray) (p:Nat):Value:=if bat s p=48/\bat s (p+1)=120 then hxA s p else nmA s p
def numF (s:ByteArray) (p:Nat):Int:=if bat s p=48/\bat s (p+1)=120 then hxF s p else nmF s p
theorem nmA_is (s:ByteArray) (p:Nat):∃(k t n:Int) (x:ByteArray),nmA s p= .agg #[.int .i64 k,.int .i64 p,.int .i64 t,.int .i64 0,.int .i64 n,.string x]:=by
 unfold nmA decV;split
 ·split
  ·exact⟨_,_,_,_,rfl⟩
  ·split<;>exact⟨_,_,_,_,rfl⟩
 ·exact⟨_,_,_,_,rfl⟩
theorem numA_is (s:ByteArray) (p:Nat):∃(k t n:Int) (x:ByteArray),numA s p= .agg #[.int .i64 k,.int .i64 p,.int .i64 t,.int .i64 0,.int .i64 n,.string x]:=by
 unfold numA;split
 ·obtain⟨t,n,h⟩:=hxA_is s p;exact⟨_,_,_,_,h⟩
 ·exact nmA_is s p
theorem l1number_hex (s:ByteArray) (hm:s.size<=1100000) (p:Nat) (h0:bat s p=48) (h1:bat s (p+1)=120) (w:World):Calls Tryz.prog 156 #[.string s,.agg #[.int .i64 0,.int .i64 p,.int .i64 0,.int .i64 0,.int .i64 0,.string ⟨#[]⟩]] w fun e w'=>e= .returned (.tuple #[hxA s p,.int .i64 (hxF s p)])/\Below w.heap.size w w':=by
 have hp1:=lt_of_bat h1 (by omega)
 have i0:=fun w=>idx_run (s:=s) (i:=p) (by omega) w
 rw[h0]at i0
 have kk:∀w,Calls Tryz.prog 176 #[.string s,.int .i64 ((p:Int)+1)] w fun e w'=>e= .returned (.int .u8 120)/\w'=w:=fun w=>by
  have:=l1look_q s hm ((p:Int)+1) (p+1) (by omega) w
  rw[lk_bat hp1,h1]at this
  exact this
 have kh:=fun w=>l1hexed_any s hm p (by omega) w
 obtain⟨t,n,hA⟩:=hxA_is s p
 rw[hA]at kh⊢
 generalize hxF s p=F at kh
 clear hA h0 h1
 have hZ0:TkAt (w.heap.size+1) ((w.alloc (.cells #[.int .i64 2,.int .i64 p,.int .i64 0,.int .i64 0,.int .i64 0,.string ⟨#[]⟩] 169)).alloc (.cells #[.int .i64 0,.int .i64 0,.int .i64 0,.int .i64 0,.int .i64 0,.string ⟨#[]⟩] 169)) 0 0 0 0 0 ⟨#[]⟩:=by
  have:=heap_alloc_new (w.alloc (.cells #[.int .i64 2,.int .i64 p,.int .i64 0,.int .i64 0,.int .i64 0,.string ⟨#[]⟩] 169)) (.cells #[.int .i64 0,.int .i64 0,.int .i64 0,.int .i64 0,.int .i64 0,.string ⟨#[]⟩] 169)
  rw[World.size_alloc]at this
  exact this
 have hB0:Below w.heap.size w ((w.alloc (.cells #[.int .i64 2,.int .i64 p,.int .i64 0,.int .i64 0,.int .i64 0,.string ⟨#[]⟩] 169)).alloc (.cells #[.int .i64 0,.int .i64 0,.int .i64 0,.int .i64 0,.int .i64 0,.string ⟨#[]⟩] 169)):=(((Below.refl _ w).alloc (Nat.le_refl _) _).alloc (by simp) _)
 go_enter Tryz.func156,Tryz.ntmps156
 go_wp2_with (first|(go_at_call 176;refine(kk _).mono ?_;rintro e w' ⟨rfl,rfl⟩)|(go_at_call 177;fail))
 refine(kh _).mono ?_
 rintro e w3 ⟨rfl,hb3⟩
 have hZ3:=hZ0.below hb3 (by simp)
 have hB3:=hB0.trans (hb3.mono (by simp;omega))
 clear hb3 hZ0 hB0 kh kk i0
 obtain⟨z0,z1,z2,z3,z4,z5,zf⟩:=tk_cells hZ3
 have hx1:w.heap.size+1<w3.heap.size:=lt_of_block hZ3
 go_wp2
 refine bodyPost_ret (v:= .tuple #[.agg #[.int .i64 2,.int .i64 p,.int .i64 t,.int .i64 0,.int .i64 n,.string ⟨#[]⟩],.int .i64 F]) (by simp[results,Tryz.results156,go_sem,z0,z1,z2,z3,z4,z5]) rfl ⟨rfl,?_⟩
 iterate 6 refine Below.setCell ?_ (by simp) _
 exact hB3
theorem l1number_any (s:ByteArray) (hm:s.size<=1100000) (p:Nat) (hp:p<s.size) (hd:digB (bat s p)=true) (w:World):Calls Tryz.prog 156 #[.string s,.agg #[.int .i64 0,.int .i64 p,.int .i64 0,.int .i64 0,.int .i64 0,.string ⟨#[]⟩]] w fun e w'=>e= .returned (.tuple #[numA s p,.int .i64 (numF s p)])/\Below w.heap.size w w':=by
 unfold numA numF
 split
 ·rename_i hx;exact l1number_hex s hm p hx.1 hx.2 w
 ·rename_i hx;exact l1number_dec s hm p hp hd hx w
theorem l1letter_q {c:Int}{b:Bool}(h:lettB c=b) (w:World):Calls Tryz.prog 139 #[.int .u8 c] w fun e w'=>e= .returned (.bool b)/\w'=w:=(l1letter_any c w).mono fun e w' g=>⟨by rw[g.1,h],g.2.symm⟩
theorem l1read_dig (s:ByteArray) (hm:s.size<=1100000) (p:Nat) (hp:p<s.size) (hd:digB (bat s p)=true) (w:World):Calls Tryz.prog 138 #[.string s,.int .i64 p] w fun e w'=>e= .returned (.tuple #[numA s p,.int .i64 (numF s p)])/\Below w.heap.size w w':=by
 have i1:=fun w=>idx_run hp w
 have hr:=dig_range hd
 have hl:lettB (bat s p)=false:=by simp[lettB];omega
 have kl:=fun w=>l1letter_q hl w
 have kd:=fun w=>l1digit_q hd w
 have kw:=fun w=>l1number_any s hm p hp hd w
 obtain⟨k,t,n,x,hT⟩:=numA_is s p
 rw[hT]at kw⊢
 generalize numF s p=F at kw
 generalize bat s p=c at i1 kl kd hr
 have h10:(c==10)=false:=by rw[beq_eq_false_iff_ne];omega
 clear hl hd hT
 have hZ0:TkAt w.heap.size ((w.alloc (.cells #[.int .i64 0,.int .i64 0,.int .i64 0,.int .i64 0,.int .i64 0,.string ⟨#[]⟩] 169)).alloc (.cells #[.int .i64 0,.int .i64 p,.int .i64 0,.int .i64 0,.int .i64 0,.string ⟨#[]⟩] 169)) 0 0 0 0 0 ⟨#[]⟩:=(Below.heap_alloc _ _ _ (by simp)).trans (heap_alloc_new w _)
 have hB0:Below w.heap.size w ((w.alloc (.cells #[.int .i64 0,.int .i64 0,.int .i64 0,.int .i64 0,.int .i64 0,.string ⟨#[]⟩] 169)).alloc (.cells #[.int .i64 0,.int .i64 p,.int .i64 0,.int .i64 0,.int .i64 0,.string ⟨#[]⟩] 169)):=(((Below.refl _ w).alloc (Nat.le_refl _) _).alloc (by simp) _)
 go_enter Tryz.func138,Tryz.ntmps138
 go_wp2_with (first|(go_at_call 139;refine(kl _).mono ?_;rintro e w' ⟨rfl,rfl⟩)|(go_at_call 137;refine(kd _).mono ?_;rintro e w' ⟨rfl,rfl⟩))
 refine(kw _).mono ?_
 rintro e w3 ⟨rfl,hb3⟩
 have hZ3:=hZ0.below hb3 (by simp;omega)
 have hB3:=hB0.trans (hb3.mono (by simp;omega))
 clear hb3 hZ0 hB0 kw kl kd i1
 obtain⟨z0,z1,z2,z3,z4,z5,zf⟩:=tk_cells hZ3
 have hx1:w.heap.size<w3.heap.size:=lt_of_block hZ3
 go_wp2
 refine bodyPost_ret (v:= .tuple #[.agg #[.int .i64 k,.int .i64 p,.int .i64 t,.int .i64 0,.int .i64 n,.string x],.int .i64 F]) (by simp[results,Tryz.results138,go_sem,z0,z1,z2,z3,z4,z5]) rfl ⟨rfl,?_⟩
 iterate 6 refine Below.setCell ?_ (by simp) _
 exact hB3
theorem numN_num (s:ByteArray) (p:Nat):(numF s p<0↔(numN s p).2=true)/\∃(k t n:Int) (x:ByteArray),numA s p= .agg #[.int .i64 k,.int .i64 p,.int .i64 t,.int .i64 0,.int .i64 n,.string x]/\((numN s p).2=true->t=((numN s p).1:Int)/\((k==3)=decide (¬(bat s p=48/\bat s (p+1)=120)/\(nKd s p=true\/dcS s p ((numN s p).1-p)=none)))):=by
 unfold numF numA numN
 by_cases hx:bat s p=48/\bat s (p+1)=120
 ·simp only[if_pos hx]
  unfold hxF hxA
  cases hh:(hexN s (p+2)).2 with
  |true=>
   simp only[if_true]
   refine⟨⟨fun _=>trivial,fun _=>by omega⟩,2,_,_,_,rfl,fun _=>⟨rfl,?_⟩⟩
   simp[hx]
  |false=>
   simp only[if_neg (show ¬false=true by simp)]
   refine⟨⟨fun h=>by omega,fun h=>by cases h⟩,2,_,_,_,rfl,fun h=>by cases h⟩
 ·simp only[if_neg hx]
  unfold nmF nmA decV
  cases hh:(nEx s (nA1 s (nA0 s p))).2 with
  |true=>
   simp only[if_true]
   refine⟨⟨fun _=>trivial,fun _=>by omega⟩,?_⟩
   cases hk:nKd s p with
   |true=>
    simp only[if_true]
    exact⟨3,_,_,_,rfl,fun _=>⟨rfl,by simp[hx]⟩⟩
   |false=>
    simp only[if_neg (show ¬false=true by simp)]
    cases hc:dcS s p ((nEx s (nA1 s (nA0 s p))).1-p) with
    |none=>exact⟨3,_,_,_,rfl,fun _=>⟨rfl,by simp[hx]⟩⟩
    |some u=>exact⟨2,_,_,_,rfl,fun _=>⟨rfl,by simp⟩⟩
  |false=>
   simp only[if_neg (show ¬false=true by simp)]
   refine⟨⟨fun h=>by omega,fun h=>by cases h⟩,3,_,_,_,rfl,fun h=>by cases h⟩
theorem dec_flt (q:ByteArray) (hd:digB (bat q 0)=true) (hN:nEx q (nA1 q (nA0 q 0))=(q.size,true)):decI q=none↔(nKd q 0=true\/dcS q 0 q.size=none):=by
 cases hk:nKd q 0 with
 |false=>
  obtain⟨h1,h2⟩:=dec_all q 0 hd hk
  have e:nA0 q 0=q.size:=by rw[hN]at h1;exact(Prod.mk.inj h1).1.symm
  rw[decI_dig q (dig_lt hd) (fun i hi=>h2 i (by omega) (by omega))]
  simp
 |true=>
  simp only[true_or,iff_true]
  unfold nKd at hk
  rcases of_decide_eq_true hk with h|h
  ·exact decI_bad q hd _ (lt_of_bat h.1 (by omega)) (by rw[h.1];decide)
  ·exact decI_bad q hd _ (lt_of_bat h (by omega)) (by rw[h];decide)
def fok (q:ByteArray):Bool:=decide (q.size<=40)&&fltI q
theorem l1fltok_any (s:ByteArray) (hm:s.size<=1100000) (w:World):Calls Tryz.prog 112 #[.string s] w fun e w'=>e= .returned (.bool (fok s))/\Below w.heap.size w w':=by
 unfold fok
 by_cases h0:0<s.size
 ·have n0:((s.size:Int)==0)=false:=by rw[beq_eq_false_iff_ne];omega
  by_cases h40:s.size<=40
  ·have n40:¬(40:Int)<(s.size:Int):=by omega
   have i1:∀w,(Instr.index 9 (.string s) (.int .i64 0)).run Tryz.prog w= .ok (.int .u8 (bat s 0)) w:=fun w=>idx_run h0 w
   by_cases hd:digB (bat s 0)=true
   ·have kd:=fun w=>l1digit_q hd w
    have kr:∀w,Calls Tryz.prog 138 #[.string s,.int .i64 0] w fun e w'=>e= .returned (.tuple #[numA s 0,.int .i64 (numF s 0)])/\Below w.heap.size w w':=fun w=>l1read_dig s hm 0 h0 hd w
    obtain⟨hF,k,t,n,x,hA,hok⟩:=numN_num s 0
    rw[hA]at kr
    have hres:(decide (s.size<=40)&&fltI s)=(decide (numF s 0<0)&&((k==3)&&(t==(s.size:Int)))):=by
     rw[decide_eq_true h40,Bool.true_and]
     unfold fltI
     cases h2:(numN s 0).2 with
     |false=>
      rw[decide_eq_false (show ¬numF s 0<0 by rw[hF,h2];simp),Bool.false_and,decide_eq_false_iff_not]
      rintro ⟨_,h,_⟩
      rw[h]at h2;cases h2
     |true=>
      obtain⟨ht,hk⟩:=hok h2
      rw[decide_eq_true (hF.2 h2),Bool.true_and,hk,ht]
      by_cases he:(numN s 0).1=s.size
      ·have hN:numN s 0=(s.size,true):=Prod.ext he h2
       rw[hN]
       simp only[Nat.sub_zero,beq_self_eq_true,Bool.and_true]
       rw[decide_eq_decide]
       constructor
       ·rintro ⟨_,_,g1,g2⟩
        have hx:nEx s (nA1 s (nA0 s 0))=(s.size,true):=by rw[<-hN];unfold numN;rw[if_neg g1]
        exact⟨g1,(dec_flt s hd hx).1 g2⟩
       ·rintro ⟨g1,g2⟩
        have hx:nEx s (nA1 s (nA0 s 0))=(s.size,true):=by rw[<-hN];unfold numN;rw[if_neg g1]
        exact⟨hd,trivial,g1,(dec_flt s hd hx).2 g2⟩
      ·rw[show((((numN s 0).1:Nat):Int)==(s.size:Int))=false by rw[beq_eq_false_iff_ne];omega,Bool.and_false,decide_eq_false_iff_not]
       rintro ⟨_,h,_⟩
       rw[h]at he;exact he rfl
    rw[hres]
    clear hres hok hA hF
    generalize numF s 0=F at kr
    generalize bat s 0=c at i1 kd
    clear hd
    by_cases hF:F<0
    ·by_cases hk:k=3
     ·subst hk
      go_enter Tryz.func112,Tryz.ntmps112
      go_wp2_with (first|(go_at_call 137;refine(kd _).mono ?_;rintro e w' ⟨rfl,rfl⟩)|(go_at_call 138;refine(kr _).mono ?_;rintro e w3 ⟨rfl,hb3⟩))
      go_ret
      exact⟨by simp[hF],hb3.alloc hb3.size _⟩
     ·have hk':(k==3)=false:=by simp[hk]
      clear hk
      go_enter Tryz.func112,Tryz.ntmps112
      go_wp2_with (first|(go_at_call 137;refine(kd _).mono ?_;rintro e w' ⟨rfl,rfl⟩)|(go_at_call 138;refine(kr _).mono ?_;rintro e w3 ⟨rfl,hb3⟩))
      go_ret
      exact⟨by simp[hk'],hb3.alloc hb3.size _⟩
    ·go_enter Tryz.func112,Tryz.ntmps112
     go_wp2_with (first|(go_at_call 137;refine(kd _).mono ?_;rintro e w' ⟨rfl,rfl⟩)|(go_at_call 138;refine(kr _).mono ?_;rintro e w3 ⟨rfl,hb3⟩))
     go_ret
     exact⟨by rw[decide_eq_false (show ¬F<0 by omega)];simp,hb3.alloc hb3.size _⟩
   ·have hd':digB (bat s 0)=false:=by simpa using hd
    have kd:=fun w=>l1digit_q hd' w
    rw[show fltI s=false by unfold fltI;simp[hd'],Bool.and_false]
    clear hd hd'
    generalize bat s 0=c at i1 kd
    go_enter Tryz.func112,Tryz.ntmps112
    go_wp2_with (first|(go_at_call 137;refine(kd _).mono ?_;rintro e w' ⟨rfl,rfl⟩))
    go_ret
    exact⟨rfl,Below.refl _ _⟩
  ·have n40:(40:Int)<(s.size:Int):=by omega
   rw[decide_eq_false h40,Bool.false_and]
   go_enter Tryz.func112,Tryz.ntmps112
   go_wp2
   go_ret
   exact⟨rfl,Below.refl _ _⟩
 ·have n0:((s.size:Int)==0)=true:=by rw[beq_iff_eq];omega
  rw[show fltI s=false by unfold fltI;rw[bat_out h0];simp[dig_neg],Bool.and_false]
  go_enter Tryz.func112,Tryz.ntmps112
  go_wp2
  go_ret
  exact⟨rfl,Below.refl _ _⟩
structure NArg (W:World) (vt:Value) (ns:List Nd) (N:Nd) (vn vk:Value):Prop where
 t:NdsAt W vt ns
 n:StrsAt W vn N.nm
 k:IntsAt W vk N.ks
 ok:KidsOk ns N
 ln:ns.length<=1048576
 l1:N.nm.length<=1048576
 l2:N.ks.length<=1048576
 lx:N.x.size<=1048576
 ls:∀s∈N.nm,s.size<=1048576
theorem NArg.below {W W':World}{vt:Value}{ns:List Nd}{N:Nd}{vn vk:Value}(h:NArg W vt ns N vn vk) (hb:Below W.heap.size W W'):NArg W' vt ns N vn vk:=
 ⟨h.t.below hb,h.n.below hb,h.k.below hb,h.ok,h.ln,h.l1,h.l2,h.lx,h.ls⟩
structure St (w:World) (vt:Value) (ns:List Nd) (N:Nd) (vn vk:Value) (W:World):Prop where
 a:NArg W vt ns N vn vk
 bt:W.cell? ⟨w.heap.size,0,none⟩=some vt
 bn:NdBox (w.heap.size+1) W 44 N vn vk
 bel:Below w.heap.size w W
theorem St.below {w:World}{vt:Value}{ns:List Nd}{N:Nd}{vn vk:Value}{W W':World}(h:St w vt ns N vn vk W) (hb:Below W.heap.size W W'):St w vt ns N vn vk W':=
 ⟨h.a.below hb,cell_kept hb h.bt,h.bn.below hb,h.bel.trans (hb.mono h.bel.size)⟩
theorem St.start {w:World}{vt:Value}{ns:List Nd}{N:Nd}{vn vk:Value}(h:NArg w vt ns N vn vk):St w vt ns N vn vk ((w.alloc (.cells #[vt] 29)).alloc (.cells #[.int .i64 N.k,.int .i64 N.f,.int .i64 N.t,.int .i64 N.l,.int .i64 N.op,.int .i64 N.n,.string N.x,vn,vk] 44)):=by
 have hb:Below w.heap.size w ((w.alloc (.cells #[vt] 29)).alloc (.cells #[.int .i64 N.k,.int .i64 N.f,.int .i64 N.t,.int .i64 N.l,.int .i64 N.op,.int .i64 N.n,.string N.x,vn,vk] 44)):=((Below.refl _ w).alloc (Nat.le_refl _) _).alloc (by simp) _
 refine⟨h.below hb,?_,?_,hb⟩
 ·rw[cell_of_row _ _ _ _ _ _ ((Below.heap_alloc _ _ _ (by simp)).trans (heap_alloc_new w _))];rfl
 ·have:=heap_alloc_new (w.alloc (.cells #[vt] 29)) (.cells #[.int .i64 N.k,.int .i64 N.f,.int .i64 N.t,.int .i64 N.l,.int .i64 N.op,.int .i64 N.n,.string N.x,vn,vk] 44)
  rw[World.size_alloc]at this
  exact this
theorem kid_any {w:World}{vt:Value}{ns:List Nd}{N:Nd}{vn vk:Value}(A:NArg w vt ns N vn vk) (i:Nat) (hi:i<N.ks.length):
  Calls Tryz.prog 107 #[.agg #[vt],vNd N vn vk,.int .i64 i] w fun e w'=>e= .returned (.int .i64 (kidK ns N i))/\Below w.heap.size w w':=by
 obtain⟨z,M,e1,e2,e3,e4⟩:=A.ok.get hi
 rw[e3]
 exact l2kid_any w vt ns N M vn vk i z A.t A.n A.k e1 e2 A.ln A.l2
theorem kid0_any {w:World}{vt:Value}{ns:List Nd}{N:Nd}{vn vk:Value}(A:NArg w vt ns N vn vk) (hi:0<N.ks.length):
  Calls Tryz.prog 107 #[.agg #[vt],.agg #[.int .i64 N.k,.int .i64 N.f,.int .i64 N.t,.int .i64 N.l,.int .i64 N.op,.int .i64 N.n,.string N.x,vn,vk],.int .i64 0] w fun e w'=>e= .returned (.int .i64 (kidK ns N 0))/\Below w.heap.size w w':=kid_any A 0 hi
theorem kid1_any {w:World}{vt:Value}{ns:List Nd}{N:Nd}{vn vk:Value}(A:NArg w vt ns N vn vk) (hi:1<N.ks.length):
  Calls Tryz.prog 107 #[.agg #[vt],.agg #[.int .i64 N.k,.int .i64 N.f,.int .i64 N.t,.int .i64 N.l,.int .i64 N.op,.int .i64 N.n,.string N.x,vn,vk],.int .i64 1] w fun e w'=>e= .returned (.int .i64 (kidK ns N 1))/\Below w.heap.size w w':=kid_any A 1 hi
end Go.Proofs.YtelfejiiabbpfaaGreatDoor
