import Derived.Test.YtelfejiiabbpfaaGreatDoorHRk07
import Derived.Test.YtelfejiiabbpfaaGreatDoorHRk02
set_option linter.unusedVariables false
set_option maxRecDepth 100000
set_option maxHeartbeats 3200000
namespace Go.Proofs.YtelfejiiabbpfaaGreatDoor
open Go.RowKit Go.Maps Go.WideMaps
def hexB (c:Int):Bool:=decide (0<=hexv c)
theorem hexB_iff (c:Int):hexB c=true↔(48<=c/\c<=57)\/(97<=c/\c<=102):=by
 unfold hexB hexv
 rw[decide_eq_true_iff]
 split
 ·omega
 ·split<;>omega
theorem isHexDigit_any (c:Int) (w:World):Calls Tryz.prog 195 #[.int .u8 c] w fun e w'=>e= .returned (.bool (hexB c))/\w=w':=by
 have kd:=fun w=>isDigit_any c w
 by_cases h1:digB c=true
 ·rw[show hexB c=true by rw[hexB_iff];have:=dig_range h1;omega]
  rw[h1]at kd
  clear h1
  go_enter Tryz.func195,Tryz.ntmps195
  go_wp2_with (first|(go_at_call 159;refine(kd _).mono ?_;rintro e w' ⟨rfl,rfl⟩))
  go_ret
  exact⟨rfl,rfl⟩
 ·have h1':digB c=false:=by simpa using h1
  rw[h1']at kd
  have hn:¬(48<=c/\c<=57):=by simpa [digB] using h1'
  rcases(show(97<=c/\c<=102)\/c<97\/(97<=c/\102<c) by omega) with⟨g1,g2⟩|g|⟨g1,g2⟩
  ·rw[show hexB c=true by rw[hexB_iff];omega]
   clear h1 h1' hn
   go_enter Tryz.func195,Tryz.ntmps195
   go_wp2_with (first|(go_at_call 159;refine(kd _).mono ?_;rintro e w' ⟨rfl,rfl⟩))
   go_ret
   exact⟨rfl,rfl⟩
  ·rw[show hexB c=false by rw[<-Bool.not_eq_true,hexB_iff];omega]
   have g':¬97<=c:=by omega
   clear h1 h1' hn
   go_enter Tryz.func195,Tryz.ntmps195
   go_wp2_with (first|(go_at_call 159;refine(kd _).mono ?_;rintro e w' ⟨rfl,rfl⟩))
   go_ret
   exact⟨rfl,rfl⟩
  ·rw[show hexB c=false by rw[<-Bool.not_eq_true,hexB_iff];omega]
   have g':¬c<=102:=by omega
   clear h1 h1' hn
   go_enter Tryz.func195,Tryz.ntmps195
   go_wp2_with (first|(go_at_call 159;refine(kd _).mono ?_;rintro e w' ⟨rfl,rfl⟩))
   go_ret
   exact⟨by simp;omega,rfl⟩
def runE (q:Int->Bool) (s:ByteArray):Nat->Nat->Nat
 |0,p=>p
 |f+1,p=>if q (bat s p)=true then runE q s f (p+1) else p
theorem run_in {q:Int->Bool}(hq:q (-1)=false) {s:ByteArray}{p:Nat}(h:q (bat s p)=true):p<s.size:=by
 rcases Nat.lt_or_ge p s.size with h1|h1
 ·exact h1
 ·rw[bat_out (by omega),hq]at h;cases h
theorem runE_bd (q:Int->Bool) (hq:q (-1)=false) (s:ByteArray):∀(f p:Nat),p<=s.size->p<=runE q s f p/\runE q s f p<=s.size
 |0,p,h=>⟨Nat.le_refl _,h⟩
 |f+1,p,h=>by
  unfold runE
  split
  ·rename_i hx
   have h0:=run_in hq hx
   have:=runE_bd q hq s f (p+1) (by omega)
   omega
  ·exact⟨Nat.le_refl _,h⟩
theorem runE_all (q:Int->Bool) (s:ByteArray):∀(f p i:Nat),p<=i->i<runE q s f p->q (bat s i)=true
 |0,p,i,h1,h2=>by simp[runE]at h2;omega
 |f+1,p,i,h1,h2=>by
  unfold runE at h2
  split at h2
  ·rename_i hx
   rcases Nat.eq_or_lt_of_le h1 with rfl|h3
   ·exact hx
   ·exact runE_all q s f (p+1) i h3 h2
  ·omega
theorem dig_neg:digB (-1)=false:=by decide
theorem hex_neg:hexB (-1)=false:=by decide
def digE (s:ByteArray) (p:Nat):Nat:=runE digB s (s.size+1) p
def hxE (s:ByteArray) (p:Nat):Nat:=runE hexB s (s.size+1) p
theorem digitsEnd_any (s:ByteArray) (hm:s.size<=1100000) (p:Nat) (hp:p<=s.size) (w:World):Calls Tryz.prog 182 #[.string s,.int .i64 p] w fun e w'=>e= .returned (.int .i64 (digE s p))/\w'=w:=by
 unfold digE
 obtain⟨R,hR⟩:∃R,runE digB s (s.size+1) p=R:=⟨_,rfl⟩
 rw[hR]
 have HR:Hid (runE digB s (s.size+1) p=R):=hR
 clear hR
 go_enter Tryz.func182,Tryz.ntmps182
 go_wp2_with fail
 go_loop [1] (fun i=>∃(k f:Nat),k<=s.size/\s.size<k+f/\i= .int .i64 k/\Hid (runE digB s f k=R)) (fun i=>s.size-(intOf i).toNat)
 case atStart=>exact⟨p,s.size+1,hp,by omega,rfl,HR⟩
 case round=>
  obtain⟨k,f,hk,hf,rfl,HF⟩:=hrel
  obtain⟨f,rfl⟩:∃g,f=g+1:=⟨f-1,by omega⟩
  have hst:=HF.out
  unfold runE at hst
  by_cases hlt:k<s.size
  ·have i1:=fun w=>idx_run hlt w
   generalize bat s k=c at i1 hst
   have kd:=fun w=>isDigit_any c w
   by_cases h1:digB c=true
   ·rw[if_pos h1]at hst
    have HS:Hid (runE digB s f (k+1)=R):=hst
    clear hst
    rw[h1]at kd
    clear h1
    go_wp2_with (go_at_call 159;refine(kd _).mono ?_;rintro e w' ⟨rfl,rfl⟩)
    go_round
    case rel=>exact⟨k+1,f,by omega,by omega,by go_num,HS⟩
    case measure=>simp[intOf];omega
   ·have h1':digB c=false:=by simpa using h1
    rw[if_neg h1]at hst
    have HS:Hid (k=R):=hst
    rw[h1']at kd
    clear h1 h1' hst
    go_wp2_with (go_at_call 159;refine(kd _).mono ?_;rintro e w' ⟨rfl,rfl⟩)
    go_ret
    exact⟨by rw[<-HS.out];rfl,rfl⟩
  ·rw[if_neg (by rw[bat_out hlt];decide)]at hst
   have HS:Hid (k=R):=hst
   clear hst
   have h':¬(k:Int)<(s.size:Int):=by omega
   go_wp2
   go_ret
   exact⟨by rw[<-HS.out];rfl,rfl⟩
def hexN (s:ByteArray) (q:Nat):Nat×Bool:=if q+16<hxE s q then(q+16,false) else(hxE s q,decide (q<hxE s q))
theorem hexEnd_any (s:ByteArray) (hm:s.size<=1100000) (p:Nat) (hp:p<=s.size) (w:World):Calls Tryz.prog 181 #[.string s,.int .i64 p] w fun e w'=>e= .returned (.tuple #[.int .i64 ((hexN s p).1:Int),.bool (hexN s p).2])/\w'=w:=by
 unfold hexN hxE
 obtain⟨R,hR⟩:∃R,runE hexB s (s.size+1) p=R:=⟨_,rfl⟩
 rw[hR]
 have HR:Hid (runE hexB s (s.size+1) p=R):=hR
 clear hR
 obtain⟨A,B,hA⟩:∃A B,(if p+16<R then(p+16,false) else(R,decide (p<R)))=(A,B):=⟨_,_,rfl⟩
 rw[hA]
 have HA:Hid ((if p+16<R then(p+16,false) else(R,decide (p<R)))=(A,B)):=hA
 clear hA
 go_enter Tryz.func181,Tryz.ntmps181
 go_wp2_with fail
 go_loop [6] (fun i=>∃(k f:Nat),p<=k/\k<=p+16/\k<=s.size/\s.size<k+f/\i= .int .i64 k/\Hid (runE hexB s f k=R)) (fun i=>s.size-(intOf i).toNat)
 case atStart=>exact⟨p,s.size+1,Nat.le_refl _,by omega,hp,by omega,rfl,HR⟩
 case round=>
  obtain⟨k,f,hpk,hk16,hk,hf,rfl,HF⟩:=hrel
  obtain⟨f,rfl⟩:∃g,f=g+1:=⟨f-1,by omega⟩
  have hst:=HF.out
  unfold runE at hst
  by_cases hlt:k<s.size
  ·have i1:=fun w=>idx_run hlt w
   generalize bat s k=c at i1 hst
   have kd:=fun w=>isHexDigit_any c w
   by_cases h1:hexB c=true
   ·rw[if_pos h1]at hst
    have hbd:=(runE_bd hexB hex_neg s f (k+1) (by omega)).1
    rw[hst]at hbd
    have HS:Hid (runE hexB s f (k+1)=R):=hst
    clear hst
    rw[h1]at kd
    clear h1
    by_cases h16:k=p+16
    ·have h:=HA.out
     rw[if_pos (by omega),<-h16]at h
     obtain⟨rfl,rfl⟩:=Prod.mk.inj h
     have e16:((k:Int)-(p:Int)==16)=true:=by rw[beq_iff_eq];omega
     clear h HA h16
     go_wp2_with (go_at_call 195;refine(kd _).mono ?_;rintro e w' ⟨rfl,rfl⟩)
     go_ret2
     exact⟨rfl,rfl⟩
    ·have e16:((k:Int)-(p:Int)==16)=false:=by rw[beq_eq_false_iff_ne];omega
     go_wp2_with (go_at_call 195;refine(kd _).mono ?_;rintro e w' ⟨rfl,rfl⟩)
     go_round
     case rel=>exact⟨k+1,f,by omega,by omega,by omega,by omega,by go_num,HS⟩
     case measure=>simp[intOf];omega
   ·have h1':hexB c=false:=by simpa using h1
    rw[if_neg h1]at hst
    subst hst
    rw[h1']at kd
    clear h1 h1'
    have h:=HA.out
    rw[if_neg (by omega)]at h
    obtain⟨rfl,rfl⟩:=Prod.mk.inj h
    clear h HA
    go_wp2_with (go_at_call 195;refine(kd _).mono ?_;rintro e w' ⟨rfl,rfl⟩)
    go_ret2
    exact⟨by simp,rfl⟩
  ·rw[if_neg (by rw[bat_out hlt];decide)]at hst
   subst hst
   have h':¬(k:Int)<(s.size:Int):=by omega
   have h:=HA.out
   rw[if_neg (by omega)]at h
   obtain⟨rfl,rfl⟩:=Prod.mk.inj h
   clear h HA
   go_wp2
   go_ret2
   exact⟨by simp,rfl⟩
theorem bat_list (s:ByteArray) (i:Nat) (b:UInt8):s.data.toList[i]?=some b↔i<s.size/\bat s i=(b.toNat:Int):=by
 unfold bat
 by_cases h:i<s.size
 ·rw[dif_pos h]
  have e:s.data.toList[i]?=some s[i]:=by
   rw[Array.getElem?_toList]
   exact Array.getElem?_eq_getElem h
  rw[e]
  constructor
  ·intro h1;injection h1 with h1;exact⟨h,by rw[h1]⟩
  ·intro ⟨_,h1⟩;congr 1;exact UInt8.toNat_inj.1 (by omega)
 ·have e:s.data.toList[i]?=none:=by
   rw[Array.getElem?_toList]
   exact Array.getElem?_eq_none (Nat.not_lt.1 h)
  rw[e]
  simp[h]
theorem pre_two (s:ByteArray) (p:Nat) (x y:UInt8):Lib.hasPrefix (s.extract p s.size).data.toList [x,y]=decide (bat s p=(x.toNat:Int)/\bat s (p+1)=(y.toNat:Int)):=by
 have e:(s.extract p s.size).data.toList=s.data.toList.drop p:=by
  rw[<-ByteArray.toList_eq,Lib.extract_toList,List.take_of_length_le]
  rw[List.length_drop,Array.length_toList]
  exact Nat.le_refl _
 rw[e]
 unfold Lib.hasPrefix
 rw[Bool.eq_iff_iff,List.isPrefixOf_iff_prefix,decide_eq_true_iff]
 constructor
 ·rintro ⟨t,ht⟩
  have h0:(s.data.toList.drop p)[0]?=some x:=by rw[<-ht];rfl
  have h1:(s.data.toList.drop p)[1]?=some y:=by rw[<-ht];rfl
  rw[List.getElem?_drop]at h0 h1
  exact⟨((bat_list s _ x).1 h0).2,((bat_list s _ y).1 h1).2⟩
 ·rintro ⟨h0,h1⟩
  have g:∀i (b:UInt8),bat s i=(b.toNat:Int)->s.data.toList[i]?=some b:=fun i b h=>by
   refine(bat_list s i b).2 ⟨?_,h⟩
   rcases Nat.lt_or_ge i s.size with h2|h2
   ·exact h2
   ·rw[bat_out (by omega)]at h;omega
  have h0':=g p x h0
  have h1':=g (p+1) y h1
  refine⟨s.data.toList.drop (p+2),?_⟩
  have a0:=List.getElem?_eq_some_iff.1 h0'
  have a1:=List.getElem?_eq_some_iff.1 h1'
  obtain⟨b0,c0⟩:=a0
  obtain⟨b1,c1⟩:=a1
  rw[List.drop_eq_getElem_cons b0,List.drop_eq_getElem_cons b1,c0,c1]
  rfl
def nA0 (s:ByteArray) (p:Nat):Nat:=if bat s p=48 then p+1 else digE s (p+1)
def nA1 (s:ByteArray) (a:Nat):Nat:=if bat s a=46/\digB (bat s (a+1))=true then digE s (a+1) else a
def nA2 (s:ByteArray) (a:Nat):Nat:=if bat s (a+1)=43\/bat s (a+1)=45 then a+1+1 else a+1
def nEx (s:ByteArray) (a:Nat):Nat×Bool:=if bat s a=101 then(digE s (nA2 s a),decide (nA2 s a<digE s (nA2 s a))) else(a,true)
def numN (s:ByteArray) (p:Nat):Nat×Bool:=if bat s p=48/\bat s (p+1)=120 then hexN s (p+2) else nEx s (nA1 s (nA0 s p))
theorem digE_bd (s:ByteArray) (p:Nat) (h:p<=s.size):p<=digE s p/\digE s p<=s.size:=runE_bd digB dig_neg s _ p h
theorem digitsEnd_int (s:ByteArray) (hm:s.size<=1100000) (a:Int) (p:Nat) (ha:a=(p:Int)) (hp:p<=s.size) (w:World):Calls Tryz.prog 182 #[.string s,.int .i64 a] w fun e w'=>e= .returned (.int .i64 (digE s p))/\w'=w:=by
 subst ha;exact digitsEnd_any s hm p hp w
theorem idx_int {s:ByteArray}(a:Int) (i:Nat) (ha:a=(i:Int)) (h:i<s.size) (w:World):(Instr.index 9 (.string s) (.int .i64 a)).run Tryz.prog w= .ok (.int .u8 (bat s i)) w:=by
 subst ha;exact idx_run h w
theorem lt_of_bat {s:ByteArray}{i:Nat}{c:Int}(h:bat s i=c) (hc:0<=c):i<s.size:=by
 rcases Nat.lt_or_ge i s.size with h2|h2
 ·exact h2
 ·rw[bat_out (by omega)]at h;omega
theorem dig_lt {s:ByteArray}{i:Nat}(h:digB (bat s i)=true):i<s.size:=run_in dig_neg h
theorem hasPre_run (s:ByteArray) (p:Nat) (w:World):Calls Tryz.prog 144 #[.string (s.extract p s.size),.string ⟨#[48,120]⟩] w fun e w'=>e= .returned (.bool (decide (bat s p=48/\bat s (p+1)=120)))/\w'=w:=by
 have h:=Tryz.strings_HasPrefix (s.extract p s.size) ⟨#[48,120]⟩ w
 rw[show(⟨#[48,120]⟩:ByteArray).data.toList=[48,120] from rfl,pre_two]at h
 exact h
theorem numberEnd_hex (s:ByteArray) (hm:s.size<=1100000) (p:Nat) (h0:bat s p=48) (h1:bat s (p+1)=120) (w:World):Calls Tryz.prog 160 #[.string s,.int .i64 p] w fun e w'=>e= .returned (.tuple #[.int .i64 ((hexN s (p+2)).1:Int),.bool (hexN s (p+2)).2])/\w'=w:=by
 have hp:=lt_of_bat h0 (by omega)
 have hp1:=lt_of_bat h1 (by omega)
 have kp:=fun w=>hasPre_run s p w
 rw[show decide (bat s p=48/\bat s (p+1)=120)=true by simp[h0,h1]]at kp
 have kh:∀w,Calls Tryz.prog 181 #[.string s,.int .i64 ((p:Int)+2)] w fun e w'=>e= .returned (.tuple #[.int .i64 ((hexN s (p+2)).1:Int),.bool (hexN s (p+2)).2])/\w'=w:=fun w=>hexEnd_any s hm (p+2) (by omega) w
 generalize hexN s (p+2)=R at kh
 obtain⟨A,B⟩:=R
 simp only at kh⊢
 clear h0 h1
 go_enter Tryz.func160,Tryz.ntmps160
 go_wp2_with (first|(go_at_call 144;refine(kp _).mono ?_;rintro e w' ⟨rfl,rfl⟩)|(go_at_call 181;refine(kh _).mono ?_;rintro e w' ⟨rfl,rfl⟩))
 go_ret2
 exact⟨rfl,rfl⟩
theorem numberEnd_zy (s:ByteArray) (hm:s.size<=1100000) (p:Nat) (hp:p<s.size) (h0:bat s p=48) (hx:¬bat s (p+1)=120) (hd:bat s (p+1)=46/\digB (bat s ((p+1)+1))=true) (w:World):Calls Tryz.prog 160 #[.string s,.int .i64 p] w fun e w'=>e= .returned (.tuple #[.int .i64 ((nEx s (digE s ((p+1)+1))).1:Int),.bool (nEx s (digE s ((p+1)+1))).2])/\w'=w:=by
 have kp:=fun w=>hasPre_run s p w
 rw[show decide (bat s p=48/\bat s (p+1)=120)=false by simp[hx]]at kp
 have i0:=fun w=>idx_run hp w
 rw[h0]at i0
 clear h0 hx
 obtain⟨a,ha,hae⟩:∃a:Int,a=(p:Int)+1/\a=((p+1:Nat):Int):=⟨_,rfl,by omega⟩
 have hA:p+1<=s.size:=by omega
 obtain⟨A,hAe⟩:∃A,p+1=A:=⟨_,rfl⟩
 rw[hAe]at hae hA hd⊢
 have k0:True:=trivial
 have hA1:=dig_lt hd.2
 have iA:∀w,(Instr.index 9 (.string s) (.int .i64 ((p:Int)+1))).run Tryz.prog w= .ok (.int .u8 46) w:=fun w=>by rw[<-hd.1];exact idx_int _ A (by omega) (by omega) w
 have iA1:∀w,(Instr.index 9 (.string s) (.int .i64 (((p:Int)+1)+1))).run Tryz.prog w= .ok (.int .u8 (bat s (A+1))) w:=fun w=>idx_int _ (A+1) (by omega) (by omega) w
 have kq:∀w,Calls Tryz.prog 159 #[.int .u8 (bat s (A+1))] w fun e w'=>e= .returned (.bool true)/\w'=w:=fun w=>(isDigit_any _ w).mono fun e w' h=>⟨by rw[h.1,hd.2],h.2.symm⟩
 have k1:∀w,Calls Tryz.prog 182 #[.string s,.int .i64 (((p:Int)+1)+1)] w fun e w'=>e= .returned (.int .i64 (digE s (A+1)))/\w'=w:=fun w=>digitsEnd_int s hm _ (A+1) (by omega) (by omega) w
 have hB:=(digE_bd s (A+1) (by omega)).2
 have hA1':((p:Int)+1)+1<(s.size:Int):=by omega
 generalize bat s (A+1)=c1 at iA1 kq
 clear hd
 generalize digE s (A+1)=B at hB k1⊢
 unfold nEx nA2
 by_cases he:bat s B=101
 ·rw[if_pos he]
  have hB1:=lt_of_bat he (by omega)
  have iB:∀w,(Instr.index 9 (.string s) (.int .i64 (B:Int))).run Tryz.prog w= .ok (.int .u8 101) w:=fun w=>by rw[<-he];exact idx_int _ B (by omega) hB1 w
  have nB:((B:Int)==(s.size:Int))=false:=by rw[beq_eq_false_iff_ne];omega
  rcases(show ¬B+1<s.size\/(B+1<s.size/\bat s (B+1)=43)\/(B+1<s.size/\bat s (B+1)=45)\/(B+1<s.size/\bat s (B+1)≠43/\bat s (B+1)≠45) by omega) with h2|⟨h2,h3⟩|⟨h2,h3⟩|⟨h2,h3,h4⟩
  ·rw[if_neg (by rw[bat_out h2];omega)]
   have h2i:¬(B:Int)+1<(s.size:Int):=by omega
   have k2:∀w,Calls Tryz.prog 182 #[.string s,.int .i64 ((B:Int)+1)] w fun e w'=>e= .returned (.int .i64 (digE s (B+1)))/\w'=w:=fun w=>digitsEnd_int s hm _ (B+1) (by omega) (by omega) w
   have hC:=(digE_bd s (B+1) (by omega))
   have hdec:decide (B+1<digE s (B+1))=decide (((B:Int)+1)<((digE s (B+1):Nat):Int)):=by rw[decide_eq_decide];omega
   simp only[hdec]
   clear hdec
   generalize digE s (B+1)=C at hC k2⊢
   clear he
   clear hae hAe ha
   go_enter Tryz.func160,Tryz.ntmps160
   go_wp2_with (first|(go_at_call 144;refine(kp _).mono ?_;rintro e w' ⟨rfl,rfl⟩)|(go_at_call 159;refine(kq _).mono ?_;rintro e w' ⟨rfl,rfl⟩)|(go_at_call 182;first|(with_reducible refine(k0 _).mono ?_;rintro e w' ⟨rfl,rfl⟩)|(with_reducible refine(k1 _).mono ?_;rintro e w' ⟨rfl,rfl⟩)|(with_reducible refine(k2 _).mono ?_;rintro e w' ⟨rfl,rfl⟩)))
   go_ret2
   exact⟨rfl,rfl⟩
  ·rw[if_pos (.inl h3)]
   have h2i:(B:Int)+1<(s.size:Int):=by omega
   have iB1:∀w,(Instr.index 9 (.string s) (.int .i64 ((B:Int)+1))).run Tryz.prog w= .ok (.int .u8 43) w:=fun w=>by rw[<-h3];exact idx_int _ (B+1) (by omega) h2 w
   have k2:∀w,Calls Tryz.prog 182 #[.string s,.int .i64 ((B:Int)+1+1)] w fun e w'=>e= .returned (.int .i64 (digE s (B+1+1)))/\w'=w:=fun w=>digitsEnd_int s hm _ (B+1+1) (by omega) (by omega) w
   have hC:=(digE_bd s (B+1+1) (by omega))
   have hdec:decide (B+1+1<digE s (B+1+1))=decide (((B:Int)+1+1)<((digE s (B+1+1):Nat):Int)):=by rw[decide_eq_decide];omega
   simp only[hdec]
   clear hdec
   generalize digE s (B+1+1)=C at hC k2⊢
   clear h3
   clear he
   clear hae hAe ha
   go_enter Tryz.func160,Tryz.ntmps160
   go_wp2_with (first|(go_at_call 144;refine(kp _).mono ?_;rintro e w' ⟨rfl,rfl⟩)|(go_at_call 159;refine(kq _).mono ?_;rintro e w' ⟨rfl,rfl⟩)|(go_at_call 182;first|(with_reducible refine(k0 _).mono ?_;rintro e w' ⟨rfl,rfl⟩)|(with_reducible refine(k1 _).mono ?_;rintro e w' ⟨rfl,rfl⟩)|(with_reducible refine(k2 _).mono ?_;rintro e w' ⟨rfl,rfl⟩)))
   go_ret2
   exact⟨rfl,rfl⟩
  ·rw[if_pos (.inr h3)]
   have h2i:(B:Int)+1<(s.size:Int):=by omega
   have iB1:∀w,(Instr.index 9 (.string s) (.int .i64 ((B:Int)+1))).run Tryz.prog w= .ok (.int .u8 45) w:=fun w=>by rw[<-h3];exact idx_int _ (B+1) (by omega) h2 w
   have k2:∀w,Calls Tryz.prog 182 #[.string s,.int .i64 ((B:Int)+1+1)] w fun e w'=>e= .returned (.int .i64 (digE s (B+1+1)))/\w'=w:=fun w=>digitsEnd_int s hm _ (B+1+1) (by omega) (by omega) w
   have hC:=(digE_bd s (B+1+1) (by omega))
   have hdec:decide (B+1+1<digE s (B+1+1))=decide (((B:Int)+1+1)<((digE s (B+1+1):Nat):Int)):=by rw[decide_eq_decide];omega
   simp only[hdec]
   clear hdec
   generalize digE s (B+1+1)=C at hC k2⊢
   clear h3
   clear he
   clear hae hAe ha
   go_enter Tryz.func160,Tryz.ntmps160
   go_wp2_with (first|(go_at_call 144;refine(kp _).mono ?_;rintro e w' ⟨rfl,rfl⟩)|(go_at_call 159;refine(kq _).mono ?_;rintro e w' ⟨rfl,rfl⟩)|(go_at_call 182;first|(with_reducible refine(k0 _).mono ?_;rintro e w' ⟨rfl,rfl⟩)|(with_reducible refine(k1 _).mono ?_;rintro e w' ⟨rfl,rfl⟩)|(with_reducible refine(k2 _).mono ?_;rintro e w' ⟨rfl,rfl⟩)))
   go_ret2
   exact⟨rfl,rfl⟩
  ·rw[if_neg (by omega)]
   have h2i:(B:Int)+1<(s.size:Int):=by omega
   have iB1:∀w,(Instr.index 9 (.string s) (.int .i64 ((B:Int)+1))).run Tryz.prog w= .ok (.int .u8 (bat s (B+1))) w:=fun w=>idx_int _ (B+1) (by omega) h2 w
   have g43:(bat s (B+1)==43)=false:=by rw[beq_eq_false_iff_ne];exact h3
   have g45:(bat s (B+1)==45)=false:=by rw[beq_eq_false_iff_ne];exact h4
   generalize bat s (B+1)=c2 at iB1 g43 g45
   clear h3 h4
   have k2:∀w,Calls Tryz.prog 182 #[.string s,.int .i64 ((B:Int)+1)] w fun e w'=>e= .returned (.int .i64 (digE s (B+1)))/\w'=w:=fun w=>digitsEnd_int s hm _ (B+1) (by omega) (by omega) w
   have hC:=(digE_bd s (B+1) (by omega))
   have hdec:decide (B+1<digE s (B+1))=decide (((B:Int)+1)<((digE s (B+1):Nat):Int)):=by rw[decide_eq_decide];omega
   simp only[hdec]
   clear hdec
   generalize digE s (B+1)=C at hC k2⊢
   clear he
   clear hae hAe ha
   go_enter Tryz.func160,Tryz.ntmps160
   go_wp2_with (first|(go_at_call 144;refine(kp _).mono ?_;rintro e w' ⟨rfl,rfl⟩)|(go_at_call 159;refine(kq _).mono ?_;rintro e w' ⟨rfl,rfl⟩)|(go_at_call 182;first|(with_reducible refine(k0 _).mono ?_;rintro e w' ⟨rfl,rfl⟩)|(with_reducible refine(k1 _).mono ?_;rintro e w' ⟨rfl,rfl⟩)|(with_reducible refine(k2 _).mono ?_;rintro e w' ⟨rfl,rfl⟩)))
   go_ret2
   exact⟨rfl,rfl⟩
 ·rw[if_neg he]
  rcases(show B=s.size\/B<s.size by omega) with h2|h2
  ·have nB:((B:Int)==(s.size:Int))=true:=by rw[beq_iff_eq];omega
   clear he h2 hae hAe ha
   have k2:True:=trivial
   go_enter Tryz.func160,Tryz.ntmps160
   go_wp2_with (first|(go_at_call 144;refine(kp _).mono ?_;rintro e w' ⟨rfl,rfl⟩)|(go_at_call 159;refine(kq _).mono ?_;rintro e w' ⟨rfl,rfl⟩)|(go_at_call 182;first|(with_reducible refine(k0 _).mono ?_;rintro e w' ⟨rfl,rfl⟩)|(with_reducible refine(k1 _).mono ?_;rintro e w' ⟨rfl,rfl⟩)|(with_reducible refine(k2 _).mono ?_;rintro e w' ⟨rfl,rfl⟩)))
   go_ret2
   exact⟨rfl,rfl⟩
  ·have nB:((B:Int)==(s.size:Int))=false:=by rw[beq_eq_false_iff_ne];omega
   have iB:∀w,(Instr.index 9 (.string s) (.int .i64 (B:Int))).run Tryz.prog w= .ok (.int .u8 (bat s B)) w:=fun w=>idx_int _ B (by omega) h2 w
   have gB:(bat s B==101)=false:=by rw[beq_eq_false_iff_ne];exact he
   generalize bat s B=c3 at iB gB
   clear he hae hAe ha
   have k2:True:=trivial
   go_enter Tryz.func160,Tryz.ntmps160
   go_wp2_with (first|(go_at_call 144;refine(kp _).mono ?_;rintro e w' ⟨rfl,rfl⟩)|(go_at_call 159;refine(kq _).mono ?_;rintro e w' ⟨rfl,rfl⟩)|(go_at_call 182;first|(with_reducible refine(k0 _).mono ?_;rintro e w' ⟨rfl,rfl⟩)|(with_reducible refine(k1 _).mono ?_;rintro e w' ⟨rfl,rfl⟩)|(with_reducible refine(k2 _).mono ?_;rintro e w' ⟨rfl,rfl⟩)))
   go_ret2
   exact⟨rfl,rfl⟩
theorem numberEnd_zn (s:ByteArray) (hm:s.size<=1100000) (p:Nat) (hp:p<s.size) (h0:bat s p=48) (hx:¬bat s (p+1)=120) (hd:¬(bat s (p+1)=46/\digB (bat s ((p+1)+1))=true)) (w:World):Calls Tryz.prog 160 #[.string s,.int .i64 p] w fun e w'=>e= .returned (.tuple #[.int .i64 ((nEx s (p+1)).1:Int),.bool (nEx s (p+1)).2])/\w'=w:=by
 have kp:=fun w=>hasPre_run s p w
 rw[show decide (bat s p=48/\bat s (p+1)=120)=false by simp[hx]]at kp
 have i0:=fun w=>idx_run hp w
 rw[h0]at i0
 clear h0 hx
 obtain⟨a,ha,hae⟩:∃a:Int,a=(p:Int)+1/\a=((p+1:Nat):Int):=⟨_,rfl,by omega⟩
 have hA:p+1<=s.size:=by omega
 obtain⟨A,hAe⟩:∃A,p+1=A:=⟨_,rfl⟩
 rw[hAe]at hae hA hd⊢
 have k0:True:=trivial
 have k1:True:=trivial
 rcases(show ¬A+1<s.size\/(A+1<s.size/\bat s A≠46)\/(A+1<s.size/\bat s A=46) by omega) with q1|⟨q1,q2⟩|⟨q1,q2⟩
 ·have q1i:¬((p:Int)+1)+1<(s.size:Int):=by omega
  have kq:True:=trivial
  clear hd
  unfold nEx nA2
  by_cases he:bat s A=101
  ·rw[if_pos he]
   have hB1:=lt_of_bat he (by omega)
   have iB:∀w,(Instr.index 9 (.string s) (.int .i64 ((p:Int)+1))).run Tryz.prog w= .ok (.int .u8 101) w:=fun w=>by rw[<-he];exact idx_int _ A (by omega) hB1 w
   have nB:(((p:Int)+1)==(s.size:Int))=false:=by rw[beq_eq_false_iff_ne];omega
   rcases(show ¬A+1<s.size\/(A+1<s.size/\bat s (A+1)=43)\/(A+1<s.size/\bat s (A+1)=45)\/(A+1<s.size/\bat s (A+1)≠43/\bat s (A+1)≠45) by omega) with h2|⟨h2,h3⟩|⟨h2,h3⟩|⟨h2,h3,h4⟩
   ·rw[if_neg (by rw[bat_out h2];omega)]
    have h2i:¬((p:Int)+1)+1<(s.size:Int):=by omega
    have k2:∀w,Calls Tryz.prog 182 #[.string s,.int .i64 (((p:Int)+1)+1)] w fun e w'=>e= .returned (.int .i64 (digE s (A+1)))/\w'=w:=fun w=>digitsEnd_int s hm _ (A+1) (by omega) (by omega) w
    have hC:=(digE_bd s (A+1) (by omega))
    have hdec:decide (A+1<digE s (A+1))=decide ((((p:Int)+1)+1)<((digE s (A+1):Nat):Int)):=by rw[decide_eq_decide];omega
    simp only[hdec]
    clear hdec
    generalize digE s (A+1)=C at hC k2⊢
    clear he
    clear hae hAe ha
    go_enter Tryz.func160,Tryz.ntmps160
    go_wp2_with (first|(go_at_call 144;refine(kp _).mono ?_;rintro e w' ⟨rfl,rfl⟩)|(go_at_call 159;refine(kq _).mono ?_;rintro e w' ⟨rfl,rfl⟩)|(go_at_call 182;first|(with_reducible refine(k0 _).mono ?_;rintro e w' ⟨rfl,rfl⟩)|(with_reducible refine(k1 _).mono ?_;rintro e w' ⟨rfl,rfl⟩)|(with_reducible refine(k2 _).mono ?_;rintro e w' ⟨rfl,rfl⟩)))
    go_ret2
    exact⟨rfl,rfl⟩
   ·exact absurd h2 q1
   ·exact absurd h2 q1
   ·exact absurd h2 q1
  ·rw[if_neg he]
   rcases(show A=s.size\/A<s.size by omega) with h2|h2
   ·have nB:(((p:Int)+1)==(s.size:Int))=true:=by rw[beq_iff_eq];omega
    have hfin:((A:Nat):Int)=(p:Int)+1:=by omega
    simp only[hfin]
    clear he h2 hae hAe ha
    clear hfin
    have k2:True:=trivial
    go_enter Tryz.func160,Tryz.ntmps160
    go_wp2_with (first|(go_at_call 144;refine(kp _).mono ?_;rintro e w' ⟨rfl,rfl⟩)|(go_at_call 159;refine(kq _).mono ?_;rintro e w' ⟨rfl,rfl⟩)|(go_at_call 182;first|(with_reducible refine(k0 _).mono ?_;rintro e w' ⟨rfl,rfl⟩)|(with_reducible refine(k1 _).mono ?_;rintro e w' ⟨rfl,rfl⟩)|(with_reducible refine(k2 _).mono ?_;rintro e w' ⟨rfl,rfl⟩)))
    go_ret2
    exact⟨rfl,rfl⟩
   ·have nB:(((p:Int)+1)==(s.size:Int))=false:=by rw[beq_eq_false_iff_ne];omega
    have iB:∀w,(Instr.index 9 (.string s) (.int .i64 ((p:Int)+1))).run Tryz.prog w= .ok (.int .u8 (bat s A)) w:=fun w=>idx_int _ A (by omega) h2 w
    have gB:(bat s A==101)=false:=by rw[beq_eq_false_iff_ne];exact he
    have hfin:((A:Nat):Int)=(p:Int)+1:=by omega
    simp only[hfin]
    clear he hae hAe ha
    clear hfin
    have k2:True:=trivial
    go_enter Tryz.func160,Tryz.ntmps160
    go_wp2_with (first|(go_at_call 144;refine(kp _).mono ?_;rintro e w' ⟨rfl,rfl⟩)|(go_at_call 159;refine(kq _).mono ?_;rintro e w' ⟨rfl,rfl⟩)|(go_at_call 182;first|(with_reducible refine(k0 _).mono ?_;rintro e w' ⟨rfl,rfl⟩)|(with_reducible refine(k1 _).mono ?_;rintro e w' ⟨rfl,rfl⟩)|(with_reducible refine(k2 _).mono ?_;rintro e w' ⟨rfl,rfl⟩)))
    go_ret2
    exact⟨rfl,rfl⟩
 ·have q1i:((p:Int)+1)+1<(s.size:Int):=by omega
  have iA:∀w,(Instr.index 9 (.string s) (.int .i64 ((p:Int)+1))).run Tryz.prog w= .ok (.int .u8 (bat s A)) w:=fun w=>idx_int _ A (by omega) (by omega) w
  have g46:(bat s A==46)=false:=by rw[beq_eq_false_iff_ne];exact q2
  have kq:True:=trivial
  clear hd q2
  unfold nEx nA2
  by_cases he:bat s A=101
  ·rw[if_pos he]
   have hB1:=lt_of_bat he (by omega)
   have iB:∀w,(Instr.index 9 (.string s) (.int .i64 ((p:Int)+1))).run Tryz.prog w= .ok (.int .u8 101) w:=fun w=>by rw[<-he];exact idx_int _ A (by omega) hB1 w
   have nB:(((p:Int)+1)==(s.size:Int))=false:=by rw[beq_eq_false_iff_ne];omega
   rw[he]at iA g46
   rcases(show ¬A+1<s.size\/(A+1<s.size/\bat s (A+1)=43)\/(A+1<s.size/\bat s (A+1)=45)\/(A+1<s.size/\bat s (A+1)≠43/\bat s (A+1)≠45) by omega) with h2|⟨h2,h3⟩|⟨h2,h3⟩|⟨h2,h3,h4⟩
   ·exact absurd q1 h2
   ·rw[if_pos (.inl h3)]
    have h2i:((p:Int)+1)+1<(s.size:Int):=by omega
    have iB1:∀w,(Instr.index 9 (.string s) (.int .i64 (((p:Int)+1)+1))).run Tryz.prog w= .ok (.int .u8 43) w:=fun w=>by rw[<-h3];exact idx_int _ (A+1) (by omega) h2 w
    have k2:∀w,Calls Tryz.prog 182 #[.string s,.int .i64 (((p:Int)+1)+1+1)] w fun e w'=>e= .returned (.int .i64 (digE s (A+1+1)))/\w'=w:=fun w=>digitsEnd_int s hm _ (A+1+1) (by omega) (by omega) w
    have hC:=(digE_bd s (A+1+1) (by omega))
    have hdec:decide (A+1+1<digE s (A+1+1))=decide ((((p:Int)+1)+1+1)<((digE s (A+1+1):Nat):Int)):=by rw[decide_eq_decide];omega
    simp only[hdec]
    clear hdec
    generalize digE s (A+1+1)=C at hC k2⊢
    clear h3
    clear g46
    clear he
    clear hae hAe ha
    go_enter Tryz.func160,Tryz.ntmps160
    go_wp2_with (first|(go_at_call 144;refine(kp _).mono ?_;rintro e w' ⟨rfl,rfl⟩)|(go_at_call 159;refine(kq _).mono ?_;rintro e w' ⟨rfl,rfl⟩)|(go_at_call 182;first|(with_reducible refine(k0 _).mono ?_;rintro e w' ⟨rfl,rfl⟩)|(with_reducible refine(k1 _).mono ?_;rintro e w' ⟨rfl,rfl⟩)|(with_reducible refine(k2 _).mono ?_;rintro e w' ⟨rfl,rfl⟩)))
    go_ret2
    exact⟨rfl,rfl⟩
   ·rw[if_pos (.inr h3)]
    have h2i:((p:Int)+1)+1<(s.size:Int):=by omega
    have iB1:∀w,(Instr.index 9 (.string s) (.int .i64 (((p:Int)+1)+1))).run Tryz.prog w= .ok (.int .u8 45) w:=fun w=>by rw[<-h3];exact idx_int _ (A+1) (by omega) h2 w
    have k2:∀w,Calls Tryz.prog 182 #[.string s,.int .i64 (((p:Int)+1)+1+1)] w fun e w'=>e= .returned (.int .i64 (digE s (A+1+1)))/\w'=w:=fun w=>digitsEnd_int s hm _ (A+1+1) (by omega) (by omega) w
    have hC:=(digE_bd s (A+1+1) (by omega))
    have hdec:decide (A+1+1<digE s (A+1+1))=decide ((((p:Int)+1)+1+1)<((digE s (A+1+1):Nat):Int)):=by rw[decide_eq_decide];omega
    simp only[hdec]
    clear hdec
    generalize digE s (A+1+1)=C at hC k2⊢
    clear h3
    clear g46
    clear he
    clear hae hAe ha
    go_enter Tryz.func160,Tryz.ntmps160
    go_wp2_with (first|(go_at_call 144;refine(kp _).mono ?_;rintro e w' ⟨rfl,rfl⟩)|(go_at_call 159;refine(kq _).mono ?_;rintro e w' ⟨rfl,rfl⟩)|(go_at_call 182;first|(with_reducible refine(k0 _).mono ?_;rintro e w' ⟨rfl,rfl⟩)|(with_reducible refine(k1 _).mono ?_;rintro e w' ⟨rfl,rfl⟩)|(with_reducible refine(k2 _).mono ?_;rintro e w' ⟨rfl,rfl⟩)))
    go_ret2
    exact⟨rfl,rfl⟩
   ·rw[if_neg (by omega)]
    have h2i:((p:Int)+1)+1<(s.size:Int):=by omega
    have iB1:∀w,(Instr.index 9 (.string s) (.int .i64 (((p:Int)+1)+1))).run Tryz.prog w= .ok (.int .u8 (bat s (A+1))) w:=fun w=>idx_int _ (A+1) (by omega) h2 w
    have g43:(bat s (A+1)==43)=false:=by rw[beq_eq_false_iff_ne];exact h3
    have g45:(bat s (A+1)==45)=false:=by rw[beq_eq_false_iff_ne];exact h4
    generalize bat s (A+1)=c2 at iB1 g43 g45
    clear h3 h4
    have k2:∀w,Calls Tryz.prog 182 #[.string s,.int .i64 (((p:Int)+1)+1)] w fun e w'=>e= .returned (.int .i64 (digE s (A+1)))/\w'=w:=fun w=>digitsEnd_int s hm _ (A+1) (by omega) (by omega) w
    have hC:=(digE_bd s (A+1) (by omega))
    have hdec:decide (A+1<digE s (A+1))=decide ((((p:Int)+1)+1)<((digE s (A+1):Nat):Int)):=by rw[decide_eq_decide];omega
    simp only[hdec]
    clear hdec
    generalize digE s (A+1)=C at hC k2⊢
    clear g46
    clear he
    clear hae hAe ha
    go_enter Tryz.func160,Tryz.ntmps160
    go_wp2_with (first|(go_at_call 144;refine(kp _).mono ?_;rintro e w' ⟨rfl,rfl⟩)|(go_at_call 159;refine(kq _).mono ?_;rintro e w' ⟨rfl,rfl⟩)|(go_at_call 182;first|(with_reducible refine(k0 _).mono ?_;rintro e w' ⟨rfl,rfl⟩)|(with_reducible refine(k1 _).mono ?_;rintro e w' ⟨rfl,rfl⟩)|(with_reducible refine(k2 _).mono ?_;rintro e w' ⟨rfl,rfl⟩)))
    go_ret2
    exact⟨rfl,rfl⟩
  ·rw[if_neg he]
   rcases(show A=s.size\/A<s.size by omega) with h2|h2
   ·omega
   ·have nB:(((p:Int)+1)==(s.size:Int))=false:=by rw[beq_eq_false_iff_ne];omega
    have iB:∀w,(Instr.index 9 (.string s) (.int .i64 ((p:Int)+1))).run Tryz.prog w= .ok (.int .u8 (bat s A)) w:=fun w=>idx_int _ A (by omega) h2 w
    have gB:(bat s A==101)=false:=by rw[beq_eq_false_iff_ne];exact he
    have hfin:((A:Nat):Int)=(p:Int)+1:=by omega
    simp only[hfin]
    clear he hae hAe ha
    clear hfin
    have k2:True:=trivial
    go_enter Tryz.func160,Tryz.ntmps160
    go_wp2_with (first|(go_at_call 144;refine(kp _).mono ?_;rintro e w' ⟨rfl,rfl⟩)|(go_at_call 159;refine(kq _).mono ?_;rintro e w' ⟨rfl,rfl⟩)|(go_at_call 182;first|(with_reducible refine(k0 _).mono ?_;rintro e w' ⟨rfl,rfl⟩)|(with_reducible refine(k1 _).mono ?_;rintro e w' ⟨rfl,rfl⟩)|(with_reducible refine(k2 _).mono ?_;rintro e w' ⟨rfl,rfl⟩)))
    go_ret2
    exact⟨rfl,rfl⟩
 ·have q1i:((p:Int)+1)+1<(s.size:Int):=by omega
  have hdd:digB (bat s (A+1))=false:=by cases hb:digB (bat s (A+1)) with|false=>rfl|true=>exact absurd ⟨q2,hb⟩ hd
  have iA:∀w,(Instr.index 9 (.string s) (.int .i64 ((p:Int)+1))).run Tryz.prog w= .ok (.int .u8 46) w:=fun w=>by rw[<-q2];exact idx_int _ A (by omega) (by omega) w
  have iA1:∀w,(Instr.index 9 (.string s) (.int .i64 (((p:Int)+1)+1))).run Tryz.prog w= .ok (.int .u8 (bat s (A+1))) w:=fun w=>idx_int _ (A+1) (by omega) (by omega) w
  have kq:∀w,Calls Tryz.prog 159 #[.int .u8 (bat s (A+1))] w fun e w'=>e= .returned (.bool false)/\w'=w:=fun w=>(isDigit_any _ w).mono fun e w' h=>⟨by rw[h.1,hdd],h.2.symm⟩
  have nB:(((p:Int)+1)==(s.size:Int))=false:=by rw[beq_eq_false_iff_ne];omega
  unfold nEx
  rw[if_neg (by omega)]
  generalize bat s (A+1)=c1 at iA1 kq
  have k2:True:=trivial
  clear hd hdd q2
  have hfin:((A:Nat):Int)=(p:Int)+1:=by omega
  simp only[hfin]
  clear hae hAe ha hfin
  go_enter Tryz.func160,Tryz.ntmps160
  go_wp2_with (first|(go_at_call 144;refine(kp _).mono ?_;rintro e w' ⟨rfl,rfl⟩)|(go_at_call 159;refine(kq _).mono ?_;rintro e w' ⟨rfl,rfl⟩)|(go_at_call 182;first|(with_reducible refine(k0 _).mono ?_;rintro e w' ⟨rfl,rfl⟩)|(with_reducible refine(k1 _).mono ?_;rintro e w' ⟨rfl,rfl⟩)|(with_reducible refine(k2 _).mono ?_;rintro e w' ⟨rfl,rfl⟩)))
  go_ret2
  exact⟨rfl,rfl⟩
theorem numberEnd_ny (s:ByteArray) (hm:s.size<=1100000) (p:Nat) (hp:p<s.size) (h0:¬bat s p=48) (hd:bat s (digE s (p+1))=46/\digB (bat s ((digE s (p+1))+1))=true) (w:World):Calls Tryz.prog 160 #[.string s,.int .i64 p] w fun e w'=>e= .returned (.tuple #[.int .i64 ((nEx s (digE s ((digE s (p+1))+1))).1:Int),.bool (nEx s (digE s ((digE s (p+1))+1))).2])/\w'=w:=by
 have kp:=fun w=>hasPre_run s p w
 rw[show decide (bat s p=48/\bat s (p+1)=120)=false by simp[h0]]at kp
 have i0:=fun w=>idx_run hp w
 have g0:(bat s p==48)=false:=by rw[beq_eq_false_iff_ne];exact h0
 have k0:∀w,Calls Tryz.prog 182 #[.string s,.int .i64 ((p:Int)+1)] w fun e w'=>e= .returned (.int .i64 (digE s (p+1)))/\w'=w:=fun w=>digitsEnd_any s hm (p+1) (by omega) w
 have hA:=(digE_bd s (p+1) (by omega)).2
 generalize bat s p=c0 at i0 g0
 clear h0
 generalize digE s (p+1)=A at hA hd k0⊢
 have hA1:=dig_lt hd.2
 have iA:∀w,(Instr.index 9 (.string s) (.int .i64 (A:Int))).run Tryz.prog w= .ok (.int .u8 46) w:=fun w=>by rw[<-hd.1];exact idx_int _ A (by omega) (by omega) w
 have iA1:∀w,(Instr.index 9 (.string s) (.int .i64 ((A:Int)+1))).run Tryz.prog w= .ok (.int .u8 (bat s (A+1))) w:=fun w=>idx_int _ (A+1) (by omega) (by omega) w
 have kq:∀w,Calls Tryz.prog 159 #[.int .u8 (bat s (A+1))] w fun e w'=>e= .returned (.bool true)/\w'=w:=fun w=>(isDigit_any _ w).mono fun e w' h=>⟨by rw[h.1,hd.2],h.2.symm⟩
 have k1:∀w,Calls Tryz.prog 182 #[.string s,.int .i64 ((A:Int)+1)] w fun e w'=>e= .returned (.int .i64 (digE s (A+1)))/\w'=w:=fun w=>digitsEnd_int s hm _ (A+1) (by omega) (by omega) w
 have hB:=(digE_bd s (A+1) (by omega)).2
 have hA1':(A:Int)+1<(s.size:Int):=by omega
 generalize bat s (A+1)=c1 at iA1 kq
 clear hd
 generalize digE s (A+1)=B at hB k1⊢
 unfold nEx nA2
 by_cases he:bat s B=101
 ·rw[if_pos he]
  have hB1:=lt_of_bat he (by omega)
  have iB:∀w,(Instr.index 9 (.string s) (.int .i64 (B:Int))).run Tryz.prog w= .ok (.int .u8 101) w:=fun w=>by rw[<-he];exact idx_int _ B (by omega) hB1 w
  have nB:((B:Int)==(s.size:Int))=false:=by rw[beq_eq_false_iff_ne];omega
  rcases(show ¬B+1<s.size\/(B+1<s.size/\bat s (B+1)=43)\/(B+1<s.size/\bat s (B+1)=45)\/(B+1<s.size/\bat s (B+1)≠43/\bat s (B+1)≠45) by omega) with h2|⟨h2,h3⟩|⟨h2,h3⟩|⟨h2,h3,h4⟩
  ·rw[if_neg (by rw[bat_out h2];omega)]
   have h2i:¬(B:Int)+1<(s.size:Int):=by omega
   have k2:∀w,Calls Tryz.prog 182 #[.string s,.int .i64 ((B:Int)+1)] w fun e w'=>e= .returned (.int .i64 (digE s (B+1)))/\w'=w:=fun w=>digitsEnd_int s hm _ (B+1) (by omega) (by omega) w
   have hC:=(digE_bd s (B+1) (by omega))
   have hdec:decide (B+1<digE s (B+1))=decide (((B:Int)+1)<((digE s (B+1):Nat):Int)):=by rw[decide_eq_decide];omega
   simp only[hdec]
   clear hdec
   generalize digE s (B+1)=C at hC k2⊢
   clear he
   go_enter Tryz.func160,Tryz.ntmps160
   go_wp2_with (first|(go_at_call 144;refine(kp _).mono ?_;rintro e w' ⟨rfl,rfl⟩)|(go_at_call 159;refine(kq _).mono ?_;rintro e w' ⟨rfl,rfl⟩)|(go_at_call 182;first|(with_reducible refine(k0 _).mono ?_;rintro e w' ⟨rfl,rfl⟩)|(with_reducible refine(k1 _).mono ?_;rintro e w' ⟨rfl,rfl⟩)|(with_reducible refine(k2 _).mono ?_;rintro e w' ⟨rfl,rfl⟩)))
   go_ret2
   exact⟨rfl,rfl⟩
  ·rw[if_pos (.inl h3)]
   have h2i:(B:Int)+1<(s.size:Int):=by omega
   have iB1:∀w,(Instr.index 9 (.string s) (.int .i64 ((B:Int)+1))).run Tryz.prog w= .ok (.int .u8 43) w:=fun w=>by rw[<-h3];exact idx_int _ (B+1) (by omega) h2 w
   have k2:∀w,Calls Tryz.prog 182 #[.string s,.int .i64 ((B:Int)+1+1)] w fun e w'=>e= .returned (.int .i64 (digE s (B+1+1)))/\w'=w:=fun w=>digitsEnd_int s hm _ (B+1+1) (by omega) (by omega) w
   have hC:=(digE_bd s (B+1+1) (by omega))
   have hdec:decide (B+1+1<digE s (B+1+1))=decide (((B:Int)+1+1)<((digE s (B+1+1):Nat):Int)):=by rw[decide_eq_decide];omega
   simp only[hdec]
   clear hdec
   generalize digE s (B+1+1)=C at hC k2⊢
   clear h3
   clear he
   go_enter Tryz.func160,Tryz.ntmps160
   go_wp2_with (first|(go_at_call 144;refine(kp _).mono ?_;rintro e w' ⟨rfl,rfl⟩)|(go_at_call 159;refine(kq _).mono ?_;rintro e w' ⟨rfl,rfl⟩)|(go_at_call 182;first|(with_reducible refine(k0 _).mono ?_;rintro e w' ⟨rfl,rfl⟩)|(with_reducible refine(k1 _).mono ?_;rintro e w' ⟨rfl,rfl⟩)|(with_reducible refine(k2 _).mono ?_;rintro e w' ⟨rfl,rfl⟩)))
   go_ret2
   exact⟨rfl,rfl⟩
  ·rw[if_pos (.inr h3)]
   have h2i:(B:Int)+1<(s.size:Int):=by omega
   have iB1:∀w,(Instr.index 9 (.string s) (.int .i64 ((B:Int)+1))).run Tryz.prog w= .ok (.int .u8 45) w:=fun w=>by rw[<-h3];exact idx_int _ (B+1) (by omega) h2 w
   have k2:∀w,Calls Tryz.prog 182 #[.string s,.int .i64 ((B:Int)+1+1)] w fun e w'=>e= .returned (.int .i64 (digE s (B+1+1)))/\w'=w:=fun w=>digitsEnd_int s hm _ (B+1+1) (by omega) (by omega) w
   have hC:=(digE_bd s (B+1+1) (by omega))
   have hdec:decide (B+1+1<digE s (B+1+1))=decide (((B:Int)+1+1)<((digE s (B+1+1):Nat):Int)):=by rw[decide_eq_decide];omega
   simp only[hdec]
   clear hdec
   generalize digE s (B+1+1)=C at hC k2⊢
   clear h3
   clear he
   go_enter Tryz.func160,Tryz.ntmps160
   go_wp2_with (first|(go_at_call 144;refine(kp _).mono ?_;rintro e w' ⟨rfl,rfl⟩)|(go_at_call 159;refine(kq _).mono ?_;rintro e w' ⟨rfl,rfl⟩)|(go_at_call 182;first|(with_reducible refine(k0 _).mono ?_;rintro e w' ⟨rfl,rfl⟩)|(with_reducible refine(k1 _).mono ?_;rintro e w' ⟨rfl,rfl⟩)|(with_reducible refine(k2 _).mono ?_;rintro e w' ⟨rfl,rfl⟩)))
   go_ret2
   exact⟨rfl,rfl⟩
  ·rw[if_neg (by omega)]
   have h2i:(B:Int)+1<(s.size:Int):=by omega
   have iB1:∀w,(Instr.index 9 (.string s) (.int .i64 ((B:Int)+1))).run Tryz.prog w= .ok (.int .u8 (bat s (B+1))) w:=fun w=>idx_int _ (B+1) (by omega) h2 w
   have g43:(bat s (B+1)==43)=false:=by rw[beq_eq_false_iff_ne];exact h3
   have g45:(bat s (B+1)==45)=false:=by rw[beq_eq_false_iff_ne];exact h4
   generalize bat s (B+1)=c2 at iB1 g43 g45
   clear h3 h4
   have k2:∀w,Calls Tryz.prog 182 #[.string s,.int .i64 ((B:Int)+1)] w fun e w'=>e= .returned (.int .i64 (digE s (B+1)))/\w'=w:=fun w=>digitsEnd_int s hm _ (B+1) (by omega) (by omega) w
   have hC:=(digE_bd s (B+1) (by omega))
   have hdec:decide (B+1<digE s (B+1))=decide (((B:Int)+1)<((digE s (B+1):Nat):Int)):=by rw[decide_eq_decide];omega
   simp only[hdec]
   clear hdec
   generalize digE s (B+1)=C at hC k2⊢
   clear he
   go_enter Tryz.func160,Tryz.ntmps160
   go_wp2_with (first|(go_at_call 144;refine(kp _).mono ?_;rintro e w' ⟨rfl,rfl⟩)|(go_at_call 159;refine(kq _).mono ?_;rintro e w' ⟨rfl,rfl⟩)|(go_at_call 182;first|(with_reducible refine(k0 _).mono ?_;rintro e w' ⟨rfl,rfl⟩)|(with_reducible refine(k1 _).mono ?_;rintro e w' ⟨rfl,rfl⟩)|(with_reducible refine(k2 _).mono ?_;rintro e w' ⟨rfl,rfl⟩)))
   go_ret2
   exact⟨rfl,rfl⟩
 ·rw[if_neg he]
  rcases(show B=s.size\/B<s.size by omega) with h2|h2
  ·have nB:((B:Int)==(s.size:Int))=true:=by rw[beq_iff_eq];omega
   clear he h2
   have k2:True:=trivial
   go_enter Tryz.func160,Tryz.ntmps160
   go_wp2_with (first|(go_at_call 144;refine(kp _).mono ?_;rintro e w' ⟨rfl,rfl⟩)|(go_at_call 159;refine(kq _).mono ?_;rintro e w' ⟨rfl,rfl⟩)|(go_at_call 182;first|(with_reducible refine(k0 _).mono ?_;rintro e w' ⟨rfl,rfl⟩)|(with_reducible refine(k1 _).mono ?_;rintro e w' ⟨rfl,rfl⟩)|(with_reducible refine(k2 _).mono ?_;rintro e w' ⟨rfl,rfl⟩)))
   go_ret2
   exact⟨rfl,rfl⟩
  ·have nB:((B:Int)==(s.size:Int))=false:=by rw[beq_eq_false_iff_ne];omega
   have iB:∀w,(Instr.index 9 (.string s) (.int .i64 (B:Int))).run Tryz.prog w= .ok (.int .u8 (bat s B)) w:=fun w=>idx_int _ B (by omega) h2 w
   have gB:(bat s B==101)=false:=by rw[beq_eq_false_iff_ne];exact he
   generalize bat s B=c3 at iB gB
   clear he
   have k2:True:=trivial
   go_enter Tryz.func160,Tryz.ntmps160
   go_wp2_with (first|(go_at_call 144;refine(kp _).mono ?_;rintro e w' ⟨rfl,rfl⟩)|(go_at_call 159;refine(kq _).mono ?_;rintro e w' ⟨rfl,rfl⟩)|(go_at_call 182;first|(with_reducible refine(k0 _).mono ?_;rintro e w' ⟨rfl,rfl⟩)|(with_reducible refine(k1 _).mono ?_;rintro e w' ⟨rfl,rfl⟩)|(with_reducible refine(k2 _).mono ?_;rintro e w' ⟨rfl,rfl⟩)))
   go_ret2
   exact⟨rfl,rfl⟩
theorem numberEnd_nn (s:ByteArray) (hm:s.size<=1100000) (p:Nat) (hp:p<s.size) (h0:¬bat s p=48) (hd:¬(bat s (digE s (p+1))=46/\digB (bat s ((digE s (p+1))+1))=true)) (w:World):Calls Tryz.prog 160 #[.string s,.int .i64 p] w fun e w'=>e= .returned (.tuple #[.int .i64 ((nEx s (digE s (p+1))).1:Int),.bool (nEx s (digE s (p+1))).2])/\w'=w:=by
 have kp:=fun w=>hasPre_run s p w
 rw[show decide (bat s p=48/\bat s (p+1)=120)=false by simp[h0]]at kp
 have i0:=fun w=>idx_run hp w
 have g0:(bat s p==48)=false:=by rw[beq_eq_false_iff_ne];exact h0
 have k0:∀w,Calls Tryz.prog 182 #[.string s,.int .i64 ((p:Int)+1)] w fun e w'=>e= .returned (.int .i64 (digE s (p+1)))/\w'=w:=fun w=>digitsEnd_any s hm (p+1) (by omega) w
 have hA:=(digE_bd s (p+1) (by omega)).2
 generalize bat s p=c0 at i0 g0
 clear h0
 generalize digE s (p+1)=A at hA hd k0⊢
 have k1:True:=trivial
 rcases(show ¬A+1<s.size\/(A+1<s.size/\bat s A≠46)\/(A+1<s.size/\bat s A=46) by omega) with q1|⟨q1,q2⟩|⟨q1,q2⟩
 ·have q1i:¬(A:Int)+1<(s.size:Int):=by omega
  have kq:True:=trivial
  clear hd
  unfold nEx nA2
  by_cases he:bat s A=101
  ·rw[if_pos he]
   have hB1:=lt_of_bat he (by omega)
   have iB:∀w,(Instr.index 9 (.string s) (.int .i64 (A:Int))).run Tryz.prog w= .ok (.int .u8 101) w:=fun w=>by rw[<-he];exact idx_int _ A (by omega) hB1 w
   have nB:((A:Int)==(s.size:Int))=false:=by rw[beq_eq_false_iff_ne];omega
   rcases(show ¬A+1<s.size\/(A+1<s.size/\bat s (A+1)=43)\/(A+1<s.size/\bat s (A+1)=45)\/(A+1<s.size/\bat s (A+1)≠43/\bat s (A+1)≠45) by omega) with h2|⟨h2,h3⟩|⟨h2,h3⟩|⟨h2,h3,h4⟩
   ·rw[if_neg (by rw[bat_out h2];omega)]
    have h2i:¬(A:Int)+1<(s.size:Int):=by omega
    have k2:∀w,Calls Tryz.prog 182 #[.string s,.int .i64 ((A:Int)+1)] w fun e w'=>e= .returned (.int .i64 (digE s (A+1)))/\w'=w:=fun w=>digitsEnd_int s hm _ (A+1) (by omega) (by omega) w
    have hC:=(digE_bd s (A+1) (by omega))
    have hdec:decide (A+1<digE s (A+1))=decide (((A:Int)+1)<((digE s (A+1):Nat):Int)):=by rw[decide_eq_decide];omega
    simp only[hdec]
    clear hdec
    generalize digE s (A+1)=C at hC k2⊢
    clear he
    go_enter Tryz.func160,Tryz.ntmps160
    go_wp2_with (first|(go_at_call 144;refine(kp _).mono ?_;rintro e w' ⟨rfl,rfl⟩)|(go_at_call 159;refine(kq _).mono ?_;rintro e w' ⟨rfl,rfl⟩)|(go_at_call 182;first|(with_reducible refine(k0 _).mono ?_;rintro e w' ⟨rfl,rfl⟩)|(with_reducible refine(k1 _).mono ?_;rintro e w' ⟨rfl,rfl⟩)|(with_reducible refine(k2 _).mono ?_;rintro e w' ⟨rfl,rfl⟩)))
    go_ret2
    exact⟨rfl,rfl⟩
   ·exact absurd h2 q1
   ·exact absurd h2 q1
   ·exact absurd h2 q1
  ·rw[if_neg he]
   rcases(show A=s.size\/A<s.size by omega) with h2|h2
   ·have nB:((A:Int)==(s.size:Int))=true:=by rw[beq_iff_eq];omega
    clear he h2
    have k2:True:=trivial
    go_enter Tryz.func160,Tryz.ntmps160
    go_wp2_with (first|(go_at_call 144;refine(kp _).mono ?_;rintro e w' ⟨rfl,rfl⟩)|(go_at_call 159;refine(kq _).mono ?_;rintro e w' ⟨rfl,rfl⟩)|(go_at_call 182;first|(with_reducible refine(k0 _).mono ?_;rintro e w' ⟨rfl,rfl⟩)|(with_reducible refine(k1 _).mono ?_;rintro e w' ⟨rfl,rfl⟩)|(with_reducible refine(k2 _).mono ?_;rintro e w' ⟨rfl,rfl⟩)))
    go_ret2
    exact⟨rfl,rfl⟩
   ·have nB:((A:Int)==(s.size:Int))=false:=by rw[beq_eq_false_iff_ne];omega
    have iB:∀w,(Instr.index 9 (.string s) (.int .i64 (A:Int))).run Tryz.prog w= .ok (.int .u8 (bat s A)) w:=fun w=>idx_int _ A (by omega) h2 w
    have gB:(bat s A==101)=false:=by rw[beq_eq_false_iff_ne];exact he
    clear he
    have k2:True:=trivial
    go_enter Tryz.func160,Tryz.ntmps160
    go_wp2_with (first|(go_at_call 144;refine(kp _).mono ?_;rintro e w' ⟨rfl,rfl⟩)|(go_at_call 159;refine(kq _).mono ?_;rintro e w' ⟨rfl,rfl⟩)|(go_at_call 182;first|(with_reducible refine(k0 _).mono ?_;rintro e w' ⟨rfl,rfl⟩)|(with_reducible refine(k1 _).mono ?_;rintro e w' ⟨rfl,rfl⟩)|(with_reducible refine(k2 _).mono ?_;rintro e w' ⟨rfl,rfl⟩)))
    go_ret2
    exact⟨rfl,rfl⟩
 ·have q1i:(A:Int)+1<(s.size:Int):=by omega
  have iA:∀w,(Instr.index 9 (.string s) (.int .i64 (A:Int))).run Tryz.prog w= .ok (.int .u8 (bat s A)) w:=fun w=>idx_int _ A (by omega) (by omega) w
  have g46:(bat s A==46)=false:=by rw[beq_eq_false_iff_ne];exact q2
  have kq:True:=trivial
  clear hd q2
  unfold nEx nA2
  by_cases he:bat s A=101
  ·rw[if_pos he]
   have hB1:=lt_of_bat he (by omega)
   have iB:∀w,(Instr.index 9 (.string s) (.int .i64 (A:Int))).run Tryz.prog w= .ok (.int .u8 101) w:=fun w=>by rw[<-he];exact idx_int _ A (by omega) hB1 w
   have nB:((A:Int)==(s.size:Int))=false:=by rw[beq_eq_false_iff_ne];omega
   rw[he]at iA g46
   rcases(show ¬A+1<s.size\/(A+1<s.size/\bat s (A+1)=43)\/(A+1<s.size/\bat s (A+1)=45)\/(A+1<s.size/\bat s (A+1)≠43/\bat s (A+1)≠45) by omega) with h2|⟨h2,h3⟩|⟨h2,h3⟩|⟨h2,h3,h4⟩
   ·exact absurd q1 h2
   ·rw[if_pos (.inl h3)]
    have h2i:(A:Int)+1<(s.size:Int):=by omega
    have iB1:∀w,(Instr.index 9 (.string s) (.int .i64 ((A:Int)+1))).run Tryz.prog w= .ok (.int .u8 43) w:=fun w=>by rw[<-h3];exact idx_int _ (A+1) (by omega) h2 w
    have k2:∀w,Calls Tryz.prog 182 #[.string s,.int .i64 ((A:Int)+1+1)] w fun e w'=>e= .returned (.int .i64 (digE s (A+1+1)))/\w'=w:=fun w=>digitsEnd_int s hm _ (A+1+1) (by omega) (by omega) w
    have hC:=(digE_bd s (A+1+1) (by omega))
    have hdec:decide (A+1+1<digE s (A+1+1))=decide (((A:Int)+1+1)<((digE s (A+1+1):Nat):Int)):=by rw[decide_eq_decide];omega
    simp only[hdec]
    clear hdec
    generalize digE s (A+1+1)=C at hC k2⊢
    clear h3
    clear g46
    clear he
    go_enter Tryz.func160,Tryz.ntmps160
    go_wp2_with (first|(go_at_call 144;refine(kp _).mono ?_;rintro e w' ⟨rfl,rfl⟩)|(go_at_call 159;refine(kq _).mono ?_;rintro e w' ⟨rfl,rfl⟩)|(go_at_call 182;first|(with_reducible refine(k0 _).mono ?_;rintro e w' ⟨rfl,rfl⟩)|(with_reducible refine(k1 _).mono ?_;rintro e w' ⟨rfl,rfl⟩)|(with_reducible refine(k2 _).mono ?_;rintro e w' ⟨rfl,rfl⟩)))
    go_ret2
    exact⟨rfl,rfl⟩
   ·rw[if_pos (.inr h3)]
    have h2i:(A:Int)+1<(s.size:Int):=by omega
    have iB1:∀w,(Instr.index 9 (.string s) (.int .i64 ((A:Int)+1))).run Tryz.prog w= .ok (.int .u8 45) w:=fun w=>by rw[<-h3];exact idx_int _ (A+1) (by omega) h2 w
    have k2:∀w,Calls Tryz.prog 182 #[.string s,.int .i64 ((A:Int)+1+1)] w fun e w'=>e= .returned (.int .i64 (digE s (A+1+1)))/\w'=w:=fun w=>digitsEnd_int s hm _ (A+1+1) (by omega) (by omega) w
    have hC:=(digE_bd s (A+1+1) (by omega))
    have hdec:decide (A+1+1<digE s (A+1+1))=decide (((A:Int)+1+1)<((digE s (A+1+1):Nat):Int)):=by rw[decide_eq_decide];omega
    simp only[hdec]
    clear hdec
    generalize digE s (A+1+1)=C at hC k2⊢
    clear h3
    clear g46
    clear he
    go_enter Tryz.func160,Tryz.ntmps160
    go_wp2_with (first|(go_at_call 144;refine(kp _).mono ?_;rintro e w' ⟨rfl,rfl⟩)|(go_at_call 159;refine(kq _).mono ?_;rintro e w' ⟨rfl,rfl⟩)|(go_at_call 182;first|(with_reducible refine(k0 _).mono ?_;rintro e w' ⟨rfl,rfl⟩)|(with_reducible refine(k1 _).mono ?_;rintro e w' ⟨rfl,rfl⟩)|(with_reducible refine(k2 _).mono ?_;rintro e w' ⟨rfl,rfl⟩)))
    go_ret2
    exact⟨rfl,rfl⟩
   ·rw[if_neg (by omega)]
    have h2i:(A:Int)+1<(s.size:Int):=by omega
    have iB1:∀w,(Instr.index 9 (.string s) (.int .i64 ((A:Int)+1))).run Tryz.prog w= .ok (.int .u8 (bat s (A+1))) w:=fun w=>idx_int _ (A+1) (by omega) h2 w
    have g43:(bat s (A+1)==43)=false:=by rw[beq_eq_false_iff_ne];exact h3
    have g45:(bat s (A+1)==45)=false:=by rw[beq_eq_false_iff_ne];exact h4
    generalize bat s (A+1)=c2 at iB1 g43 g45
    clear h3 h4
    have k2:∀w,Calls Tryz.prog 182 #[.string s,.int .i64 ((A:Int)+1)] w fun e w'=>e= .returned (.int .i64 (digE s (A+1)))/\w'=w:=fun w=>digitsEnd_int s hm _ (A+1) (by omega) (by omega) w
    have hC:=(digE_bd s (A+1) (by omega))
    have hdec:decide (A+1<digE s (A+1))=decide (((A:Int)+1)<((digE s (A+1):Nat):Int)):=by rw[decide_eq_decide];omega
    simp only[hdec]
    clear hdec
    generalize digE s (A+1)=C at hC k2⊢
    clear g46
    clear he
    go_enter Tryz.func160,Tryz.ntmps160
    go_wp2_with (first|(go_at_call 144;refine(kp _).mono ?_;rintro e w' ⟨rfl,rfl⟩)|(go_at_call 159;refine(kq _).mono ?_;rintro e w' ⟨rfl,rfl⟩)|(go_at_call 182;first|(with_reducible refine(k0 _).mono ?_;rintro e w' ⟨rfl,rfl⟩)|(with_reducible refine(k1 _).mono ?_;rintro e w' ⟨rfl,rfl⟩)|(with_reducible refine(k2 _).mono ?_;rintro e w' ⟨rfl,rfl⟩)))
    go_ret2
    exact⟨rfl,rfl⟩
  ·rw[if_neg he]
   rcases(show A=s.size\/A<s.size by omega) with h2|h2
   ·omega
   ·have nB:((A:Int)==(s.size:Int))=false:=by rw[beq_eq_false_iff_ne];omega
    have iB:∀w,(Instr.index 9 (.string s) (.int .i64 (A:Int))).run Tryz.prog w= .ok (.int .u8 (bat s A)) w:=fun w=>idx_int _ A (by omega) h2 w
    have gB:(bat s A==101)=false:=by rw[beq_eq_false_iff_ne];exact he
    clear he
    have k2:True:=trivial
    go_enter Tryz.func160,Tryz.ntmps160
    go_wp2_with (first|(go_at_call 144;refine(kp _).mono ?_;rintro e w' ⟨rfl,rfl⟩)|(go_at_call 159;refine(kq _).mono ?_;rintro e w' ⟨rfl,rfl⟩)|(go_at_call 182;first|(with_reducible refine(k0 _).mono ?_;rintro e w' ⟨rfl,rfl⟩)|(with_reducible refine(k1 _).mono ?_;rintro e w' ⟨rfl,rfl⟩)|(with_reducible refine(k2 _).mono ?_;rintro e w' ⟨rfl,rfl⟩)))
    go_ret2
    exact⟨rfl,rfl⟩
 ·have q1i:(A:Int)+1<(s.size:Int):=by omega
  have hdd:digB (bat s (A+1))=false:=by cases hb:digB (bat s (A+1)) with|false=>rfl|true=>exact absurd ⟨q2,hb⟩ hd
  have iA:∀w,(Instr.index 9 (.string s) (.int .i64 (A:Int))).run Tryz.prog w= .ok (.int .u8 46) w:=fun w=>by rw[<-q2];exact idx_int _ A (by omega) (by omega) w
  have iA1:∀w,(Instr.index 9 (.string s) (.int .i64 ((A:Int)+1))).run Tryz.prog w= .ok (.int .u8 (bat s (A+1))) w:=fun w=>idx_int _ (A+1) (by omega) (by omega) w
  have kq:∀w,Calls Tryz.prog 159 #[.int .u8 (bat s (A+1))] w fun e w'=>e= .returned (.bool false)/\w'=w:=fun w=>(isDigit_any _ w).mono fun e w' h=>⟨by rw[h.1,hdd],h.2.symm⟩
  have nB:((A:Int)==(s.size:Int))=false:=by rw[beq_eq_false_iff_ne];omega
  unfold nEx
  rw[if_neg (by omega)]
  generalize bat s (A+1)=c1 at iA1 kq
  have k2:True:=trivial
  clear hd hdd q2
  go_enter Tryz.func160,Tryz.ntmps160
  go_wp2_with (first|(go_at_call 144;refine(kp _).mono ?_;rintro e w' ⟨rfl,rfl⟩)|(go_at_call 159;refine(kq _).mono ?_;rintro e w' ⟨rfl,rfl⟩)|(go_at_call 182;first|(with_reducible refine(k0 _).mono ?_;rintro e w' ⟨rfl,rfl⟩)|(with_reducible refine(k1 _).mono ?_;rintro e w' ⟨rfl,rfl⟩)|(with_reducible refine(k2 _).mono ?_;rintro e w' ⟨rfl,rfl⟩)))
  go_ret2
  exact⟨rfl,rfl⟩
theorem numberEnd_any (s:ByteArray) (hm:s.size<=1100000) (p:Nat) (hp:p<s.size) (w:World):Calls Tryz.prog 160 #[.string s,.int .i64 p] w fun e w'=>e= .returned (.tuple #[.int .i64 ((numN s p).1:Int),.bool (numN s p).2])/\w'=w:=by
 unfold numN
 by_cases hx:bat s p=48/\bat s (p+1)=120
 ·rw[if_pos hx];exact numberEnd_hex s hm p hx.1 hx.2 w
 ·rw[if_neg hx]
  unfold nA0
  by_cases h0:bat s p=48
  ·rw[if_pos h0]
   unfold nA1
   split
   ·rename_i hd;exact numberEnd_zy s hm p hp h0 (fun h=>hx ⟨h0,h⟩) hd w
   ·rename_i hd;exact numberEnd_zn s hm p hp h0 (fun h=>hx ⟨h0,h⟩) hd w
  ·rw[if_neg h0]
   unfold nA1
   split
   ·rename_i hd;exact numberEnd_ny s hm p hp h0 hd w
   ·rename_i hd;exact numberEnd_nn s hm p hp h0 hd w
end Go.Proofs.YtelfejiiabbpfaaGreatDoor
