import Derived.Test.YtelfejiiabbpfaaGreatDoorHRk09
import Derived.Lib.ConvBytes
import Derived.Lib.AtoiErrMem
import Derived.Laws.Strings3
import Derived.WalkKit
import Derived.BigCall
import Derived.BigGuard
import Derived.BigRegion
set_option linter.unusedVariables false
set_option maxRecDepth 100000
set_option maxHeartbeats 3200000
namespace Go.Proofs.YtelfejiiabbpfaaGreatDoor
open Go.RowKit Go.Maps Go.WideMaps
def hvS (s:ByteArray) (p:Nat):Nat->Nat
 |0=>0
 |n+1=>hvS s p n*16+(hexv (bat s (p+n))).toNat
theorem hvS_lt (s:ByteArray) (p:Nat):∀n,hvS s p n<16 ^ n
 |0=>by simp[hvS]
 |n+1=>by
  have h:=hvS_lt s p n
  have h2:=hexv_lt (bat s (p+n))
  have e:16 ^ (n+1)=16 ^ n*16:=Nat.pow_succ 16 n
  unfold hvS
  omega
theorem hvS_60 (s:ByteArray) (p n:Nat) (h:n<=15):hvS s p n<1152921504606846976:=by
 have h1:=hvS_lt s p n
 have h2:16 ^ n<=16 ^ 15:=Nat.pow_le_pow_right (by omega) h
 have h3:16 ^ 15=1152921504606846976:=by decide
 omega
theorem hvS_64 (s:ByteArray) (p n:Nat) (h:n<=16):hvS s p n<18446744073709551616:=by
 have h1:=hvS_lt s p n
 have h2:16 ^ n<=16 ^ 16:=Nat.pow_le_pow_right (by omega) h
 have h3:16 ^ 16=18446744073709551616:=by decide
 omega
theorem low_hex (c:Int) (h0:97<=c) (h1:c<=102):bits .or .u8 c 32=c:=by
 rcases(show c=97\/c=98\/c=99\/c=100\/c=101\/c=102 by omega) with rfl|rfl|rfl|rfl|rfl|rfl<;>decide+kernel
theorem bat_getD (s:ByteArray) (j:Nat) (h:j<s.size):((s.data.toList.getD j 0).toNat:Int)=bat s j:=by
 have:s.data.toList[j]?=some s[j]:=by
  rw[Array.getElem?_toList];exact Array.getElem?_eq_getElem h
 rw[List.getD,this]
 unfold bat
 rw[dif_pos h]
 rfl
theorem pu16 (t:ByteArray) (h1:1<=t.size) (h16:t.size<=16) (hall:∀i,i<t.size->hexB (bat t i)=true) (w:World):
  Calls Tryz.prog 197 #[.string t,.int .i64 16,.int .i64 64] w fun e w'=>e= .returned (.tuple #[.int .u64 (hvS t 0 t.size:Int),.nilIface])/\w'=Lib.bytesWorld w 5 t:=by
 have hemp:t.toList.isEmpty=false:=by
  rw[<-decide_eq_emptyBytes]
  exact decide_eq_false (fun h=>by rw[h]at h1;simp at h1)
 have hcv:=Lib.run_convert_string_bytes (P:=Tryz.prog) w 9 38 5 t (u:= .string) Tryz.underlying9 Tryz.underlying38 Tryz.underlying5
 have hB:∀j,j<t.size->(Lib.bytesWorld w 5 t).cell? ⟨w.heap.size,j,none⟩=some (.int .u8 (bat t j)):=fun j hj=>by rw[Lib.bytesWorld_cell w 5 t j hj,bat_getD t j hj]
 obtain⟨W1,hW1⟩:∃W1,W1=Lib.bytesWorld w 5 t:=⟨_,rfl⟩
 rw[<-hW1]at hcv hB⊢
 clear hW1
 have hmv:IntKind.u64.wrap (IntKind.u64.wrap 18446744073709551616-1)=18446744073709551615:=by
  rw[IntKind.wrap_u64,IntKind.wrap_u64]
  decide
 obtain⟨R,hR⟩:∃R:Int,(hvS t 0 t.size:Int)=R:=⟨_,rfl⟩
 rw[hR]
 have HR:Hid ((hvS t 0 t.size:Int)=R):=hR
 clear hR
 go_enter Tryz.func197,Tryz.ntmps197
 go_wp2
 go_loop [12,13,101] (fun vu vn vi=>∃(k:Nat) (a:Int),vu= .bool false/\vn= .int .u64 a/\vi= .int .i64 k/\k<=t.size/\Hid (a=(hvS t 0 k:Int))) (fun _ _ vi=>t.size-(intOf vi).toNat)
 case atStart=>exact⟨0,0,rfl,rfl,rfl,by omega,rfl⟩
 case round=>
  obtain⟨k,a,rfl,rfl,rfl,hk,hh⟩:=hrel
  by_cases hkn:k<t.size
  ·have hc:=hB k hkn
   have hx:=(hexB_iff _).1 (hall k hkn)
   have h60:=hvS_60 t 0 k (by omega)
   have a0:0<=a:=by rw[hh.out];omega
   have a1:a<1152921504606846976:=by rw[hh.out];omega
   have HN:Hid (∀d:Int,hexv (bat t k)=d->0<=d->a*16+d=(hvS t 0 (k+1):Int)):=fun d hd h0=>by
    show _=((hvS t 0 k*16+(hexv (bat t (0+k))).toNat:Nat):Int)
    rw[Nat.zero_add,hd,hh.out];omega
   generalize bat t k=c at hc hx HN
   clear hB h60 hh hall
   rcases hx with⟨x0,x1⟩|⟨x0,x1⟩
   ·have HS:Hid (a*16+(c-48)=(hvS t 0 (k+1):Int)):=HN.out (c-48) (by unfold hexv;rw[if_pos ⟨x0,x1⟩]) (by omega)
    clear HN
    go_wp2
    refine⟨⟨k+1,a*16+(c-48),rfl,(by first|rfl|(congr 1;omega)),(by first|rfl|(congr 1;omega)),by omega,HS⟩,by simp[intOf];omega⟩
   ·have HS:Hid (a*16+(c-87)=(hvS t 0 (k+1):Int)):=HN.out (c-87) (by unfold hexv;rw[if_neg (by omega),if_pos ⟨x0,x1⟩]) (by omega)
    clear HN
    have hl:=low_hex c x0 x1
    have kl:∀w,Calls Tryz.prog 204 #[.int .u8 c] w fun e w'=>e= .returned (.int .u8 c)/\w'=w:=fun w=>by
     have:=Tryz.internal_strconv_lower c w
     rw[hl]at this
     exact this
    clear hl
    go_wp2_with (go_at_call 204;refine(kl _).mono ?_;rintro e w' ⟨rfl,rfl⟩)
    refine⟨⟨k+1,a*16+(c-87),rfl,(by first|rfl|(congr 1;omega)),(by first|rfl|(congr 1;omega)),by omega,HS⟩,by simp[intOf];omega⟩
  ·obtain rfl:k=t.size:=by omega
   have hf:a=R:=by rw[<-HR.out,hh.out]
   subst hf
   clear hB hh HR
   go_wp2
   go_ret2
   exact⟨rfl,rfl⟩
structure Errs (w:World):Prop where
 syn:∃te pe,w.cell? ⟨10,0,none⟩=some (.iface te pe)
 rng:∃te pe,w.cell? ⟨11,0,none⟩=some (.iface te pe)
theorem cell_below {B:Nat}{w w':World}(h:Below B w w') {a:Addr}(ha:a.block<B):w'.cell? a=w.cell? a:=by
 unfold World.cell?
 rw[h.block _ ha]
theorem bel_dr {B:Nat}{a w:World}(h:Below B a w) (n:Nat):Below B a (w.drewN n):=⟨h.os,h.tape,h.output,h.size,h.block⟩
theorem Errs.below {w w':World}{B:Nat}(h:Errs w) (hb:Below B w w') (hB:w.heap.size<=B):Errs w':=by
 obtain⟨⟨t1,p1,h1⟩,⟨t2,p2,h2⟩⟩:=h
 have l1:=World.block_lt_of_cell? w _ h1
 have l2:=World.block_lt_of_cell? w _ h2
 exact⟨⟨t1,p1,(cell_below hb (Nat.lt_of_lt_of_le l1 hB)).trans h1⟩,⟨t2,p2,(cell_below hb (Nat.lt_of_lt_of_le l2 hB)).trans h2⟩⟩
theorem bat_of (s:ByteArray) (i:Nat):bat s i=match s.data.toList[i]? with|some b=>(b.toNat:Int)|none=> -1:=by
 cases h:s.data.toList[i]? with
 |some b=>exact((bat_list s i b).1 h).2
 |none=>
  refine bat_out fun hi=>?_
  have:s.data.toList[i]?=some s[i]:=by rw[Array.getElem?_toList];exact Array.getElem?_eq_getElem hi
  rw[this]at h;cases h
def dropS (s:ByteArray) (n:Nat):ByteArray:=⟨(s.data.toList.drop n).toArray⟩
theorem dropS_size (s:ByteArray) (n:Nat):(dropS s n).size=s.size-n:=by
 show(s.data.toList.drop n).toArray.size=_
 rw[List.size_toArray,List.length_drop,Array.length_toList]
 rfl
theorem dropS_bat (s:ByteArray) (n i:Nat):bat (dropS s n) i=bat s (n+i):=by
 rw[bat_of,bat_of]
 show(match (s.data.toList.drop n).toArray.toList[i]? with|some b=>(b.toNat:Int)|none=> -1)=_
 rw[List.toList_toArray,List.getElem?_drop]
theorem hvS_drop (s:ByteArray) (a p:Nat):∀n,hvS (dropS s a) p n=hvS s (a+p) n
 |0=>rfl
 |n+1=>by
  unfold hvS
  rw[hvS_drop s a p n,dropS_bat,Nat.add_assoc]
theorem pub16 (t:ByteArray) (h1:1<=t.size) (h16:t.size<=16) (hall:∀i,i<t.size->hexB (bat t i)=true) (w:World):
  Calls Tryz.prog 184 #[.string t,.int .i64 16,.int .i64 64] w fun e w'=>e= .returned (.tuple #[.int .u64 (hvS t 0 t.size:Int),.nilIface])/\Below w.heap.size w w':=by
 have kp:=fun w=>pu16 t h1 h16 hall w
 have h64:=hvS_64 t 0 t.size h16
 generalize (hvS t 0 t.size:Int)=v at kp
 go_enter Tryz.func184,Tryz.ntmps184
 go_wp2_with (go_at_call 197;refine(kp _).mono ?_;rintro e w' ⟨rfl,rfl⟩)
 go_ret2
 exact⟨rfl,Lib.bytesWorld_below _ _ _⟩
theorem pre_two0 (s:ByteArray) (x y:UInt8):Lib.hasPrefix s.data.toList [x,y]=decide (bat s 0=(x.toNat:Int)/\bat s 1=(y.toNat:Int)):=by
 have:=pre_two s 0 x y
 rw[extract_all]at this
 exact this
theorem intOf_hex (q:ByteArray) (h0:bat q 0=48) (h1:bat q 1=120) (h3:3<=q.size) (h18:q.size<=18) (hall:∀i,2<=i->i<q.size->hexB (bat q i)=true) (w:World):
  Calls Tryz.prog 161 #[.string q] w fun e w'=>e= .returned (.tuple #[.int .i64 (wrap64 (hvS q 2 (q.size-2):Int)),.bool true])/\Below w.heap.size w w':=by
 have hpre:Lib.hasPrefix q.data.toList [48,120]=true:=by rw[pre_two0];simp[h0,h1]
 have kc:∀w,Calls Tryz.prog 183 #[.string q,.string ⟨#[48,120]⟩] w fun e w'=>e= .returned (.tuple #[.string (dropS q 2),.bool true])/\w'=w:=fun w=>by
  have:=Tryz.strings_CutPrefix q ⟨#[48,120]⟩ w
  rw[show(⟨#[48,120]⟩:ByteArray).data.toList=[48,120] from rfl,Lib.trimPrefix,hpre]at this
  exact this
 have kp:=fun w=>pub16 (dropS q 2) (by rw[dropS_size];omega) (by rw[dropS_size];omega) (fun i hi=>by rw[dropS_bat];rw[dropS_size]at hi;exact hall _ (by omega) (by omega)) w
 rw[hvS_drop,dropS_size]at kp
 have h64:=hvS_64 q 2 (q.size-2) (by omega)
 simp only[Nat.add_zero]at kp
 obtain⟨v,hv⟩:∃v:Int,(hvS q 2 (q.size-2):Int)=v:=⟨_,rfl⟩
 have hv0:0<=v:=by omega
 have hv1:v<18446744073709551616:=by omega
 rw[hv]at kp⊢
 clear hv h64 hpre hall
 generalize dropS q 2=d at kc kp
 go_enter Tryz.func161,Tryz.ntmps161
 go_wp2_with (first|(go_at_call 183;refine(kc _).mono ?_;rintro e w' ⟨rfl,rfl⟩)|(go_at_call 184;refine(kp _).mono ?_;rintro e w' ⟨rfl,hb⟩))
 go_quiet (fail)
 go_wp2
 go_ret2
 exact⟨rfl,bel_dr hb _⟩
def decI (q:ByteArray):Option Int:=match Lib.parseIntB 64 q.data.toList with| .ok v=>some v|_=>none
theorem intOf_dec (q:ByteArray) (hm:q.size<=1100000) (hx:¬(bat q 0=48/\bat q 1=120)) (w:World) (hE:Errs w):
  Calls Tryz.prog 161 #[.string q] w fun e w'=>(∃x,e= .returned (.tuple #[.int .i64 x,.bool (decI q).isSome])/\∀v,decI q=some v->x=v)/\Below w.heap.size w w':=by
 have hpre:Lib.hasPrefix q.data.toList [48,120]=false:=by rw[pre_two0];simpa using hx
 have kc:∀w,Calls Tryz.prog 183 #[.string q,.string ⟨#[48,120]⟩] w fun e w'=>e= .returned (.tuple #[.string ⟨q.data.toList.toArray⟩,.bool false])/\w'=w:=fun w=>by
  have:=Tryz.strings_CutPrefix q ⟨#[48,120]⟩ w
  rw[show(⟨#[48,120]⟩:ByteArray).data.toList=[48,120] from rfl,Lib.trimPrefix,hpre]at this
  exact this
 generalize (⟨q.data.toList.toArray⟩:ByteArray)=d at kc
 obtain⟨⟨te,pe,hs⟩,⟨te2,pe2,hr⟩⟩:=hE
 unfold decI
 cases hp:Lib.parseIntB 64 q.data.toList with
 |ok v=>
  have kp:=Tryz.strconv_ParseInt_10_at64_ok q (by omega) v hp w
  have kp':Calls Tryz.prog 185 #[.string q,.int .i64 10,.int .i64 64] w fun e w'=>e= .returned (.tuple #[.int .i64 v,.nilIface])/\Below w.heap.size w w':=kp.mono fun e w' h=>⟨h.1,by
   rcases h.2 with rfl|⟨t,rfl⟩
   ·exact Below.refl _ _
   ·exact Lib.bytesWorld_below _ _ _⟩
  clear kp hp hpre hx hs hr
  go_enter Tryz.func161,Tryz.ntmps161
  go_wp2_with (first|(go_at_call 183;refine(kc _).mono ?_;rintro e w' ⟨rfl,rfl⟩)|(go_at_call 185;refine kp'.mono ?_;rintro e w' ⟨rfl,hb⟩))
  go_quiet (fail)
  go_wp2
  go_ret2
  exact⟨⟨v,rfl,fun _ h=>Option.some.inj h⟩,bel_dr hb _⟩
 | «syntax» =>
  have kp:=Tryz.strconv_ParseInt_10_at64_syntax q (by omega) hp _ w hs (.inr ⟨_,_,rfl⟩)
  have kp':Calls Tryz.prog 185 #[.string q,.int .i64 10,.int .i64 64] w fun e w'=>∃N,e= .returned (.tuple #[.int .i64 0,.iface 246 (.pointer (some ⟨N,0,none⟩))])/\Below w.heap.size w w':=kp.mono fun e w' ⟨N,h1,_,_,h2⟩=>⟨N,h1,h2⟩
  clear kp hp hpre hx hs hr
  go_enter Tryz.func161,Tryz.ntmps161
  go_wp2_with (first|(go_at_call 183;refine(kc _).mono ?_;rintro e w' ⟨rfl,rfl⟩)|(go_at_call 185;refine kp'.mono ?_;rintro e w' ⟨N,rfl,hb⟩))
  go_quiet (fail)
  go_wp2
  go_ret2
  exact⟨⟨0,rfl,fun _ h=>by cases h⟩,bel_dr hb _⟩
 |range=>
  have kp:=Tryz.strconv_ParseInt_10_at64_range q (by omega) hp _ w hr (.inr ⟨_,_,rfl⟩)
  have kp':Calls Tryz.prog 185 #[.string q,.int .i64 10,.int .i64 64] w fun e w'=>∃N,e= .returned (.tuple #[.int .i64 (Lib.intSat 64 q.data.toList),.iface 246 (.pointer (some ⟨N,0,none⟩))])/\Below w.heap.size w w':=kp.mono fun e w' ⟨N,h1,_,_,h2⟩=>⟨N,h1,h2⟩
  clear kp hp hpre hx hs hr
  generalize Lib.intSat 64 q.data.toList=y at kp'
  go_enter Tryz.func161,Tryz.ntmps161
  go_wp2_with (first|(go_at_call 183;refine(kc _).mono ?_;rintro e w' ⟨rfl,rfl⟩)|(go_at_call 185;refine kp'.mono ?_;rintro e w' ⟨N,rfl,hb⟩))
  go_quiet (fail)
  go_wp2
  go_ret2
  exact⟨⟨y,rfl,fun _ h=>by cases h⟩,bel_dr hb _⟩
def stp (a:Option Nat) (c:UInt8):Option Nat:=match a with|none=>none|some x=>if x*10+(c.toNat-48)<=9223372036854775807 then some (x*10+(c.toNat-48)) else none
theorem stp_none:∀l:List UInt8,l.foldl stp none=none
 |[]=>rfl
 |c::r=>stp_none r
theorem pu_big:∀(l:List UInt8) (acc:Nat),(∀c∈l,48<=c.toNat/\c.toNat<=57)->9223372036854775808<=acc->Lib.parseUintM (2 ^ 64-1) acc l= .range\/∃u,Lib.parseUintM (2 ^ 64-1) acc l= .ok u/\9223372036854775808<=u
 |[],acc,_,h=> .inr ⟨acc,rfl,h⟩
 |c::r,acc,hd,h=>by
  have hc:=hd c (by simp)
  unfold Lib.parseUintM
  rw[if_pos hc,if_pos (by omega)]
  exact .inl rfl
theorem pu_dec:∀(l:List UInt8) (acc:Nat),(∀c∈l,48<=c.toNat/\c.toNat<=57)->acc<=9223372036854775807->(∀u,l.foldl stp (some acc)=some u->Lib.parseUintM (2 ^ 64-1) acc l= .ok u/\u<=9223372036854775807)/\(l.foldl stp (some acc)=none->Lib.parseUintM (2 ^ 64-1) acc l= .range\/∃u,Lib.parseUintM (2 ^ 64-1) acc l= .ok u/\9223372036854775808<=u)
 |[],acc,_,h=>by
  refine⟨fun u hu=>?_,fun hn=>by simp at hn⟩
  simp at hu
  subst hu
  exact⟨rfl,h⟩
 |c::r,acc,hd,h=>by
  have hc:=hd c (by simp)
  have hr:∀x∈r,48<=x.toNat/\x.toNat<=57:=fun x hx=>hd x (by simp[hx])
  rw[List.foldl_cons,show stp (some acc) c=if acc*10+(c.toNat-48)<=9223372036854775807 then some (acc*10+(c.toNat-48)) else none from rfl]
  by_cases hle:acc*10+(c.toNat-48)<=9223372036854775807
  ·rw[if_pos hle]
   have ih:=pu_dec r (acc*10+(c.toNat-48)) hr hle
   have e:Lib.parseUintM (2 ^ 64-1) acc (c::r)=Lib.parseUintM (2 ^ 64-1) (acc*10+(c.toNat-48)) r:=by
    rw[Lib.parseUintM,if_pos hc,if_neg (by omega),if_neg (by omega)]
   rw[e]
   exact ih
  ·rw[if_neg hle,stp_none r]
   refine⟨fun u hu=>(by cases hu),fun _=>?_⟩
   rw[Lib.parseUintM,if_pos hc]
   by_cases h1:1844674407370955162<=acc
   ·rw[if_pos h1];exact .inl rfl
   ·rw[if_neg h1]
    by_cases h2:2 ^ 64-1<acc*10+(c.toNat-48)
    ·rw[if_pos h2];exact .inl rfl
    ·rw[if_neg h2];exact pu_big r _ hr (by omega)
theorem pu_bad:∀(l:List UInt8) (acc:Nat),(∃c∈l,¬(48<=c.toNat/\c.toNat<=57))->∀u,Lib.parseUintM (2 ^ 64-1) acc l≠ .ok u
 |[],_,h,u=>by obtain⟨c,hc,_⟩:=h;simp at hc
 |c::r,acc,h,u=>by
  rw[Lib.parseUintM]
  by_cases hc:48<=c.toNat/\c.toNat<=57
  ·rw[if_pos hc]
   split
   ·intro h;cases h
   ·split
    ·intro h;cases h
    ·refine pu_bad r _ ?_ u
     obtain⟨d,hd,hn⟩:=h
     rcases List.mem_cons.1 hd with rfl|hd
     ·exact absurd hc hn
     ·exact⟨d,hd,hn⟩
  ·rw[if_neg hc];intro h;cases h
def dcS (s:ByteArray) (p:Nat):Nat->Option Nat
 |0=>some 0
 |n+1=>match dcS s p n with|none=>none|some x=>if x*10+(bat s (p+n)-48).toNat<=9223372036854775807 then some (x*10+(bat s (p+n)-48).toNat) else none
theorem dcS_fold (s:ByteArray) (p:Nat):∀n,p+n<=s.size->dcS s p n=((s.data.toList.drop p).take n).foldl stp (some 0)
 |0,_=>rfl
 |n+1,h=>by
  have hlt:p+n<s.data.toList.length:=by rw[Array.length_toList];exact h
  have e:(s.data.toList.drop p)[n]?=some (s.data.toList[p+n]):=by rw[List.getElem?_drop];exact List.getElem?_eq_getElem hlt
  have hb:bat s (p+n)=((s.data.toList[p+n]).toNat:Int):=((bat_list s (p+n) _).1 (List.getElem?_eq_getElem hlt)).2
  rw[List.take_add_one,e,List.foldl_append,<-dcS_fold s p n (by omega),dcS,hb]
  simp only[Option.toList_some,List.foldl_cons,List.foldl_nil,stp]
  have e2:(((s.data.toList[p+n]).toNat:Int)-48).toNat=(s.data.toList[p+n]).toNat-48:=by omega
  rw[e2]
theorem dcS_le (s:ByteArray) (p:Nat):∀n u,dcS s p n=some u->u<=9223372036854775807
 |0,u,h=>by simp[dcS]at h;omega
 |n+1,u,h=>by
  unfold dcS at h
  split at h
  ·cases h
  ·split at h
   ·rename_i h2;cases h;exact h2
   ·cases h
theorem all_list (q:ByteArray) (h:∀i,i<q.size->digB (bat q i)=true):∀c∈q.data.toList,48<=c.toNat/\c.toNat<=57:=by
 intro c hc
 obtain⟨i,hi,rfl⟩:=List.mem_iff_getElem.1 hc
 have:=(bat_list q i _).1 (List.getElem?_eq_getElem hi)
 have hd:=dig_range (h i this.1)
 rw[this.2]at hd
 omega
theorem head_dig (q:ByteArray) (h0:digB (bat q 0)=true):∃c r,q.data.toList=c::r/\48<=c.toNat/\c.toNat<=57:=by
 have hlt:=dig_lt h0
 cases hq:q.data.toList with
 |nil=>
  have:q.data.toList.length=q.size:=by rw[Array.length_toList];rfl
  rw[hq]at this;simp at this;omega
 |cons c r=>
  refine⟨c,r,rfl,?_⟩
  have:=(bat_list q 0 c).1 (by rw[hq];rfl)
  have hd:=dig_range h0
  rw[this.2]at hd
  omega
theorem pint_of (c:UInt8) (r:List UInt8) (h1:48<=c.toNat) (h2:c.toNat<=57):Lib.parseIntB 64 (c::r)=match Lib.parseUintM (2 ^ 64-1) 0 (c::r) with| .syntax=> .syntax| .range=> .range| .ok u=>if 9223372036854775808<=u then .range else .ok (u:Int):=by
 simp only[Lib.parseIntB,Lib.parseUintB]
 rw[if_neg (show ¬(c.toNat=43\/c.toNat=45) by omega),if_neg (show ¬(c::r=[]) by simp)]
 have hn:¬c.toNat=45:=by omega
 cases Lib.parseUintM (2 ^ 64-1) 0 (c::r) with
 |ok u=>simp[hn]
 | «syntax» =>rfl
 |range=>rfl
theorem decI_dig (q:ByteArray) (h0:0<q.size) (h:∀i,i<q.size->digB (bat q i)=true):decI q=Option.map (fun u:Nat=>(u:Int)) (dcS q 0 q.size):=by
 obtain⟨c,r,hq,h1,h2⟩:=head_dig q (h 0 h0)
 have hall:=all_list q h
 have hf:=dcS_fold q 0 q.size (by omega)
 rw[List.drop_zero,List.take_of_length_le (by rw[Array.length_toList];exact Nat.le_refl _)]at hf
 unfold decI
 rw[hf]
 rw[hq]at hall⊢
 rw[pint_of c r h1 h2]
 have hp:=pu_dec (c::r) 0 hall (by omega)
 cases hx:(c::r).foldl stp (some 0) with
 |some u=>
  obtain⟨e1,e2⟩:=hp.1 u hx
  rw[e1]
  simp only[Option.map_some]
  rw[if_neg (by omega)]
 |none=>
  rcases hp.2 hx with e|⟨u,e,hu⟩
  ·rw[e];rfl
  ·rw[e];simp only[if_pos hu];rfl
theorem decI_bad (q:ByteArray) (h0:digB (bat q 0)=true) (i:Nat) (hi:i<q.size) (hn:digB (bat q i)=false):decI q=none:=by
 obtain⟨c,r,hq,h1,h2⟩:=head_dig q h0
 have hb:∃c∈q.data.toList,¬(48<=c.toNat/\c.toNat<=57):=by
  have hlt:i<q.data.toList.length:=by rw[Array.length_toList];exact hi
  refine⟨q.data.toList[i],List.getElem_mem hlt,?_⟩
  have:=(bat_list q i _).1 (List.getElem?_eq_getElem hlt)
  have e:¬(48<=bat q i/\bat q i<=57):=by simpa [digB] using hn
  rw[this.2]at e
  omega
 unfold decI
 rw[hq]at hb⊢
 rw[pint_of c r h1 h2]
 have:=pu_bad (c::r) 0 hb
 cases hx:Lib.parseUintM (2 ^ 64-1) 0 (c::r) with
 |ok u=>exact absurd hx (this u)
 | «syntax» =>rfl
 |range=>rfl
def fltI (q:ByteArray):Bool:=decide (digB (bat q 0)=true/\numN q 0=(q.size,true)/\¬(bat q 0=48/\bat q 1=120)/\decI q=none)
theorem hxE_bd (s:ByteArray) (p:Nat) (h:p<=s.size):p<=hxE s p/\hxE s p<=s.size:=runE_bd hexB hex_neg s _ p h
theorem hexN_yes {s:ByteArray}{p e:Nat}(h:hexN s p=(e,true)):p<e/\e<=p+16/\e=hxE s p/\∀i,p<=i->i<e->hexB (bat s i)=true:=by
 unfold hexN at h
 split at h
 ·cases h
 ·rename_i hle
  obtain⟨h1,h2⟩:=Prod.mk.inj h
  subst h1
  exact⟨by simpa using h2,by omega,rfl,fun i hi h2=>runE_all hexB s _ p i hi h2⟩
theorem nil_toList {q:ByteArray}(h0:0<q.size):(q.toList==[])=false:=by
 have:q.toList.length=q.size:=by rw[ByteArray.toList_eq];simp
 cases hs:q.toList with
 |nil=>rw[hs]at this;simp at this;omega
 |cons a l=>rfl
theorem nil_toList' {q:ByteArray}(h0:¬0<q.size):(q.toList==[])=true:=by
 have:q.toList.length=q.size:=by rw[ByteArray.toList_eq];simp
 have:q.toList=[]:=List.length_eq_zero_iff.1 (by omega)
 rw[this];rfl
theorem isDigit_q {c:Int}{b:Bool}(h:digB c=b) (w:World):Calls Tryz.prog 159 #[.int .u8 c] w fun e w'=>e= .returned (.bool b)/\w'=w:=(isDigit_any c w).mono fun e w' g=>⟨by rw[g.1,h],g.2.symm⟩
theorem numberEnd0 (s:ByteArray) (hm:s.size<=1100000) (h0:0<s.size) (w:World):Calls Tryz.prog 160 #[.string s,.int .i64 0] w fun e w'=>e= .returned (.tuple #[.int .i64 ((numN s 0).1:Int),.bool (numN s 0).2])/\w'=w:=numberEnd_any s hm 0 h0 w
theorem nEx_bd (s:ByteArray) (a:Nat) (h:a<=s.size):a<=(nEx s a).1/\(nEx s a).1<=s.size:=by
 unfold nEx
 split
 ·rename_i he
  have h1:=lt_of_bat he (by omega)
  have h2:nA2 s a<=s.size/\a<nA2 s a:=by
   unfold nA2
   split
   ·rename_i hs
    rcases hs with hs|hs
    ·have:=lt_of_bat hs (by omega);omega
    ·have:=lt_of_bat hs (by omega);omega
   ·omega
  have:=digE_bd s (nA2 s a) h2.1
  simp only
  omega
 ·exact⟨Nat.le_refl _,h⟩
theorem nA0_bd (s:ByteArray) (p:Nat) (h:p<s.size):p<nA0 s p/\nA0 s p<=s.size:=by
 unfold nA0
 split
 ·omega
 ·have:=digE_bd s (p+1) (by omega);omega
theorem nA1_bd (s:ByteArray) (a:Nat) (h:a<=s.size):a<=nA1 s a/\nA1 s a<=s.size:=by
 unfold nA1
 split
 ·rename_i hd
  have:=digE_bd s (a+1) (by have:=dig_lt hd.2;omega);omega
 ·omega
theorem hexN_bd (s:ByteArray) (p:Nat) (h:p<=s.size):p<=(hexN s p).1/\(hexN s p).1<=s.size:=by
 have:=hxE_bd s p h
 unfold hexN
 split
 ·simp only;omega
 ·exact this
theorem numN_bd (s:ByteArray) (p:Nat) (h:p<s.size):p<(numN s p).1/\(numN s p).1<=s.size:=by
 unfold numN
 split
 ·rename_i hx
  have:=lt_of_bat hx.2 (by omega)
  have:=hexN_bd s (p+2) (by omega)
  omega
 ·have h0:=nA0_bd s p h
  have h1:=nA1_bd s _ h0.2
  have h2:=nEx_bd s _ h1.2
  omega
theorem isFloat_any (q:ByteArray) (hm:q.size<=1100000) (w:World) (hE:Errs w):Calls Tryz.prog 142 #[.string q] w fun e w'=>e= .returned (.bool (fltI q))/\Below w.heap.size w w':=by
 by_cases h0:0<q.size
 ·have hne:=nil_toList h0
  have i1:∀w,(Instr.index 9 (.string q) (.int .i64 0)).run Tryz.prog w= .ok (.int .u8 (bat q 0)) w:=fun w=>idx_run h0 w
  by_cases hd:digB (bat q 0)=true
  ·have kd:=fun w=>isDigit_q hd w
   have kn:=fun w=>numberEnd0 q hm h0 w
   have bd:=(numN_bd q 0 h0).2
   by_cases hok:(numN q 0).2=true
   ·by_cases he:(numN q 0).1=q.size
    ·have hN:numN q 0=(q.size,true):=Prod.ext he hok
     have hnl:¬(q.size:Int)<(q.size:Int):=by omega
     rw[hN]at kn
     by_cases hx:bat q 0=48/\bat q 1=120
     ·have hf:fltI q=false:=by unfold fltI;simp[hx]
      rw[hf]
      have hh:hexN q 2=(q.size,true):=by rw[<-hN];unfold numN;rw[if_pos hx]
      obtain⟨g1,g2,g3,g4⟩:=hexN_yes hh
      have ki:=fun w=>intOf_hex q hx.1 hx.2 (by omega) (by omega) g4 w
      generalize wrap64 (hvS q 2 (q.size-2):Int)=v at ki
      clear hf hh g3 g4 hN hok he hx hd
      generalize bat q 0=c at i1 kd
      go_enter Tryz.func142,Tryz.ntmps142
      go_wp2_with (first|(go_at_call 159;refine(kd _).mono ?_;rintro e w' ⟨rfl,rfl⟩)|(go_at_call 160;refine(kn _).mono ?_;rintro e w' ⟨rfl,rfl⟩)|(go_at_call 161;refine(ki _).mono ?_;rintro e w' ⟨rfl,hb⟩))
      go_ret
      exact⟨rfl,hb⟩
     ·have ki:=intOf_dec q hm hx w hE
      have hf:fltI q=!(decI q).isSome:=by
       unfold fltI
       cases hdc:decI q<;>simp[hd,hN,hx]
      rw[hf]
      generalize (decI q).isSome=B at ki
      clear hf hN hok he hx hd
      generalize bat q 0=c at i1 kd
      go_enter Tryz.func142,Tryz.ntmps142
      go_wp2_with (first|(go_at_call 159;refine(kd _).mono ?_;rintro e w' ⟨rfl,rfl⟩)|(go_at_call 160;refine(kn _).mono ?_;rintro e w' ⟨rfl,rfl⟩)|(go_at_call 161;refine ki.mono ?_;rintro e w' ⟨⟨x,rfl,_⟩,hb⟩))
      go_ret
      exact⟨rfl,hb⟩
    ·have hf:fltI q=false:=by unfold fltI;rw[decide_eq_false_iff_not];rintro ⟨_,h2,_⟩;rw[h2]at he;exact he rfl
     rw[hf]
     have hlt:((numN q 0).1:Int)<(q.size:Int):=by omega
     rw[hok]at kn
     generalize (numN q 0).1=E at kn hlt
     clear hf hok he hd bd
     generalize bat q 0=c at i1 kd
     go_enter Tryz.func142,Tryz.ntmps142
     go_wp2_with (first|(go_at_call 159;refine(kd _).mono ?_;rintro e w' ⟨rfl,rfl⟩)|(go_at_call 160;refine(kn _).mono ?_;rintro e w' ⟨rfl,rfl⟩))
     go_ret
     exact⟨rfl,Below.refl _ _⟩
   ·have hok':(numN q 0).2=false:=by simpa using hok
    have hf:fltI q=false:=by unfold fltI;rw[decide_eq_false_iff_not];rintro ⟨_,h2,_⟩;rw[h2]at hok;exact hok rfl
    rw[hf]
    rw[hok']at kn
    generalize (numN q 0).1=E at kn bd
    clear hf hok hok' hd
    generalize bat q 0=c at i1 kd
    go_enter Tryz.func142,Tryz.ntmps142
    go_wp2_with (first|(go_at_call 159;refine(kd _).mono ?_;rintro e w' ⟨rfl,rfl⟩)|(go_at_call 160;refine(kn _).mono ?_;rintro e w' ⟨rfl,rfl⟩))
    go_ret
    exact⟨rfl,Below.refl _ _⟩
  ·have hd':digB (bat q 0)=false:=by simpa using hd
   have kd:=fun w=>isDigit_q hd' w
   have hf:fltI q=false:=by unfold fltI;simp[hd']
   rw[hf]
   clear hf hd hd'
   generalize bat q 0=c at i1 kd
   go_enter Tryz.func142,Tryz.ntmps142
   go_wp2_with (first|(go_at_call 159;refine(kd _).mono ?_;rintro e w' ⟨rfl,rfl⟩))
   go_ret
   exact⟨rfl,Below.refl _ _⟩
 ·have hne:=nil_toList' h0
  have hf:fltI q=false:=by unfold fltI;rw[bat_out h0];simp[dig_neg]
  rw[hf]
  clear hf
  go_enter Tryz.func142,Tryz.ntmps142
  go_wp2
  go_ret
  exact⟨rfl,Below.refl _ _⟩
theorem l1digit_q {c:Int}{b:Bool}(h:digB c=b) (w:World):Calls Tryz.prog 137 #[.int .u8 c] w fun e w'=>e= .returned (.bool b)/\w'=w:=(l1digit_any c w).mono fun e w' g=>⟨by rw[g.1,h],g.2.symm⟩
theorem l1look_q (s:ByteArray) (hm:s.size<=1100000) (a:Int) (i:Nat) (ha:a=(i:Int)) (w:World):Calls Tryz.prog 176 #[.string s,.int .i64 a] w fun e w'=>e= .returned (.int .u8 (lk s i))/\w'=w:=by
 subst ha;exact(l1look_any s hm i w).mono fun e w' g=>⟨g.1,g.2.symm⟩
theorem l1hex_any (c:Int) (h0:0<=c) (h1:c<256) (w:World):Calls Tryz.prog 178 #[.int .u8 c] w fun e w'=>e= .returned (.int .i64 (hexv c))/\w'=w:=by
 unfold hexv
 by_cases hd:digB c=true
 ·have kd:=fun w=>l1digit_q hd w
  have hr:=dig_range hd
  rw[if_pos hr]
  clear hd
  go_enter Tryz.func178,Tryz.ntmps178
  go_wp2_with (first|(go_at_call 137;refine(kd _).mono ?_;rintro e w' ⟨rfl,rfl⟩))
  go_ret
  exact⟨rfl,rfl⟩
 ·have hd':digB c=false:=by simpa using hd
  have kd:=fun w=>l1digit_q hd' w
  have hr:¬(48<=c/\c<=57):=by simpa [digB] using hd'
  rw[if_neg hr]
  clear hd hd' hr
  rcases(show(97<=c/\c<=102)\/¬97<=c\/(97<=c/\¬c<=102) by omega) with⟨g1,g2⟩|g1|⟨g1,g2⟩
  ·rw[if_pos ⟨g1,g2⟩]
   go_enter Tryz.func178,Tryz.ntmps178
   go_wp2_with (first|(go_at_call 137;refine(kd _).mono ?_;rintro e w' ⟨rfl,rfl⟩))
   go_ret
   exact⟨by simp;omega,rfl⟩
  ·rw[if_neg (by omega)]
   go_enter Tryz.func178,Tryz.ntmps178
   go_wp2_with (first|(go_at_call 137;refine(kd _).mono ?_;rintro e w' ⟨rfl,rfl⟩))
   go_ret
   exact⟨rfl,rfl⟩
  ·rw[if_neg (by omega)]
   go_enter Tryz.func178,Tryz.ntmps178
   go_wp2_with (first|(go_at_call 137;refine(kd _).mono ?_;rintro e w' ⟨rfl,rfl⟩))
   go_ret
   exact⟨rfl,rfl⟩
theorem hexv_lk (s:ByteArray) (i:Nat):hexv (lk s i)=hexv (bat s i):=by
 unfold lk;split
 ·rfl
 ·rename_i h;rw[bat_out h];decide
theorem lk_bat {s:ByteArray}{i:Nat}(h:i<s.size):lk s i=bat s i:=by unfold lk;rw[if_pos h]
def hxA (s:ByteArray) (p:Nat):Value:=if(hexN s (p+2)).2=true then .agg #[.int .i64 2,.int .i64 p,.int .i64 ((hexN s (p+2)).1:Int),.int .i64 0,.int .i64 (wrap64 (hvS s (p+2) ((hexN s (p+2)).1-(p+2)):Int)),.string ⟨#[]⟩] else .agg #[.int .i64 2,.int .i64 p,.int .i64 0,.int .i64 0,.int .i64 0,.string ⟨#[]⟩]
def hxF (s:ByteArray) (p:Nat):Int:=if(hexN s (p+2)).2=true then -1 else((hexN s (p+2)).1:Int)
theorem l1hexed_any (s:ByteArray) (hm:s.size<=1100000) (p:Nat) (hp:p+2<=s.size) (w:World):Calls Tryz.prog 177 #[.string s,.agg #[.int .i64 2,.int .i64 p,.int .i64 0,.int .i64 0,.int .i64 0,.string ⟨#[]⟩]] w fun e w'=>e= .returned (.tuple #[hxA s p,.int .i64 (hxF s p)])/\Below w.heap.size w w':=by
 obtain⟨A,hA⟩:∃A,hxA s p=A:=⟨_,rfl⟩
 obtain⟨F,hF⟩:∃F,hxF s p=F:=⟨_,rfl⟩
 rw[hA,hF]
 unfold hxA at hA
 unfold hxF at hF
 unfold hexN at hA hF
 obtain⟨R,hR⟩:∃R,hxE s (p+2)=R:=⟨_,rfl⟩
 rw[hR]at hA hF
 unfold hxE at hR
 have HR:Hid (runE hexB s (s.size+1) (p+2)=R):=hR
 have HA:Hid ((if(if p+2+16<R then(p+2+16,false) else(R,decide (p+2<R))).2=true then Value.agg #[.int .i64 2,.int .i64 p,.int .i64 (((if p+2+16<R then(p+2+16,false) else(R,decide (p+2<R))).1:Nat):Int),.int .i64 0,.int .i64 (wrap64 (hvS s (p+2) ((if p+2+16<R then(p+2+16,false) else(R,decide (p+2<R))).1-(p+2)):Int)),.string ⟨#[]⟩] else .agg #[.int .i64 2,.int .i64 p,.int .i64 0,.int .i64 0,.int .i64 0,.string ⟨#[]⟩])=A):=hA
 have HFF:Hid ((if(if p+2+16<R then(p+2+16,false) else(R,decide (p+2<R))).2=true then -1 else(((if p+2+16<R then(p+2+16,false) else(R,decide (p+2<R))).1:Nat):Int))=F):=hF
 clear hR hA hF
 have hT0:TkAt w.heap.size ((w.alloc (.cells #[.int .i64 2,.int .i64 p,.int .i64 0,.int .i64 0,.int .i64 0,.string ⟨#[]⟩] 169)).alloc (.cells #[.int .i64 0,.int .i64 0,.int .i64 0,.int .i64 0,.int .i64 0,.string ⟨#[]⟩] 169)) 2 p 0 0 0 ⟨#[]⟩:=(Below.heap_alloc _ _ _ (by simp)).trans (heap_alloc_new w _)
 have hZ0:TkAt (w.heap.size+1) ((w.alloc (.cells #[.int .i64 2,.int .i64 p,.int .i64 0,.int .i64 0,.int .i64 0,.string ⟨#[]⟩] 169)).alloc (.cells #[.int .i64 0,.int .i64 0,.int .i64 0,.int .i64 0,.int .i64 0,.string ⟨#[]⟩] 169)) 0 0 0 0 0 ⟨#[]⟩:=by
  have:=heap_alloc_new (w.alloc (.cells #[.int .i64 2,.int .i64 p,.int .i64 0,.int .i64 0,.int .i64 0,.string ⟨#[]⟩] 169)) (.cells #[.int .i64 0,.int .i64 0,.int .i64 0,.int .i64 0,.int .i64 0,.string ⟨#[]⟩] 169)
  rw[World.size_alloc]at this
  exact this
 have hB0:Below w.heap.size w ((w.alloc (.cells #[.int .i64 2,.int .i64 p,.int .i64 0,.int .i64 0,.int .i64 0,.string ⟨#[]⟩] 169)).alloc (.cells #[.int .i64 0,.int .i64 0,.int .i64 0,.int .i64 0,.int .i64 0,.string ⟨#[]⟩] 169)):=(((Below.refl _ w).alloc (Nat.le_refl _) _).alloc (by simp) _)
 go_enter Tryz.func177,Tryz.ntmps177
 go_wp2_with fail
 generalize (w.alloc (.cells #[.int .i64 2,.int .i64 p,.int .i64 0,.int .i64 0,.int .i64 0,.string ⟨#[]⟩] 169)).alloc (.cells #[.int .i64 0,.int .i64 0,.int .i64 0,.int .i64 0,.int .i64 0,.string ⟨#[]⟩] 169)=W at hT0 hZ0 hB0
 have hsW:w.heap.size+1<W.heap.size:=lt_of_block hZ0
 obtain⟨t0,t1,t2,t3,t4,t5,tf⟩:=tk_cells hT0
 obtain⟨z0,z1,z2,z3,z4,z5,zf⟩:=tk_cells hZ0
 go_loop [6,7] (fun i n=>∃(k f:Nat) (a:Int),p+2<=k/\k<=p+18/\k<=s.size/\s.size<k+f/\i= .int .i64 k/\n= .int .u64 a/\Hid (runE hexB s f k=R)/\Hid (a=(hvS s (p+2) (k-(p+2)):Int))) (fun i _=>s.size-(intOf i).toNat)
 case atStart=>exact⟨p+2,s.size+1,0,by omega,by omega,hp,by omega,by simp,rfl,HR,by show(0:Int)=_;rw[Nat.sub_self];rfl⟩
 case round=>
  obtain⟨k,f,a,hk2,hk18,hk,hf,rfl,rfl,HF,HV⟩:=hrel
  obtain⟨f,rfl⟩:∃g,f=g+1:=⟨f-1,by omega⟩
  have hst:=HF.out
  unfold runE at hst
  have kk:=fun w=>l1look_q s hm (k:Int) k rfl w
  have kh:=fun w=>l1hex_any (lk s k) (lk_in s k).1 (lk_in s k).2 w
  rw[hexv_lk]at kh
  by_cases h1:hexB (bat s k)=true
  ·have hlt:k<s.size:=run_in hex_neg h1
   have i1:=fun w=>idx_run hlt w
   rw[lk_bat hlt]at kk kh
   rw[if_pos h1]at hst
   have hbd:=(runE_bd hexB hex_neg s f (k+1) (by omega)).1
   rw[hst]at hbd
   have HS:Hid (runE hexB s f (k+1)=R):=hst
   have hv0:0<=hexv (bat s k):=by simpa [hexB] using h1
   have hv1:=hexv_lt (bat s k)
   have h60:k≠p+18->hvS s (p+2) (k-(p+2))<1152921504606846976:=fun h=>hvS_60 s (p+2) _ (by omega)
   have HN:Hid (a*16+hexv (bat s k)=(hvS s (p+2) (k+1-(p+2)):Int)):=by
    show _=_
    rw[show k+1-(p+2)=(k-(p+2))+1 by omega,hvS,show p+2+(k-(p+2))=k by omega,HV.out]
    omega
   have a0:0<=a:=by rw[HV.out];omega
   have a1:k≠p+18->a<1152921504606846976:=fun h=>by have:=h60 h;rw[HV.out];omega
   generalize hexv (bat s k)=d at kh hv0 hv1 HN
   generalize bat s k=c at kk kh i1
   clear hst h1 h60
   by_cases h18:k=p+18
   ·have ha:=HA.out
    have hff:=HFF.out
    simp only[if_pos (show p+2+16<R by omega)]at ha hff
    simp at ha hff
    subst ha
    have hff':F=(k:Int):=by omega
    clear hff
    subst hff'
    have e18:((k:Int)-(p:Int)==18)=true:=by rw[beq_iff_eq];omega
    clear HA HFF h18 a1
    go_wp2_with (first|(go_at_call 176;refine(kk _).mono ?_;rintro e w' ⟨rfl,rfl⟩)|(go_at_call 178;refine(kh _).mono ?_;rintro e w' ⟨rfl,rfl⟩))
    refine bodyPost_ret (v:= .tuple #[.agg #[.int .i64 2,.int .i64 p,.int .i64 0,.int .i64 0,.int .i64 0,.string ⟨#[]⟩],.int .i64 (k:Int)]) (by simp[results,Tryz.results177,go_sem,z0,z1,z2,z3,z4,z5]) rfl ⟨rfl,?_⟩
    iterate 6 refine Below.setCell ?_ (by simp) _
    exact hB0
   ·have e18:((k:Int)-(p:Int)==18)=false:=by rw[beq_eq_false_iff_ne];omega
    have a1':=a1 h18
    clear a1
    go_wp2_with (first|(go_at_call 176;refine(kk _).mono ?_;rintro e w' ⟨rfl,rfl⟩)|(go_at_call 178;refine(kh _).mono ?_;rintro e w' ⟨rfl,rfl⟩))
    go_round
    case rel=>exact⟨k+1,f,a*16+d,by omega,by omega,by omega,by omega,by go_num,by first|rfl|(congr 1;omega),HS,HN⟩
    case measure=>simp[intOf];omega
  ·have hneg:hexv (bat s k)<0:=by
    have:¬0<=hexv (bat s k):=by simpa [hexB] using h1
    omega
   rw[if_neg h1]at hst
   subst hst
   have hnn:¬(0:Int)<=hexv (bat s k):=by omega
   have a0:0<=a:=by rw[HV.out];omega
   have a1:a<18446744073709551616:=by rw[HV.out];have:=hvS_64 s (p+2) (k-(p+2)) (by omega);omega
   generalize hexv (bat s k)=d at kh hnn
   generalize lk s k=c at kk kh
   have ha:=HA.out
   have hff:=HFF.out
   simp only[if_neg (show ¬p+2+16<k by omega)]at ha hff
   by_cases h2:k=p+2
   ·have hdec:decide (p+2<k)=false:=by rw[decide_eq_false_iff_not];omega
    simp only[hdec]at ha hff
    simp at ha hff
    subst ha hff
    have e2:((k:Int)==(p:Int)+2)=true:=by rw[beq_iff_eq];omega
    clear HA HFF h1 hneg h2 hdec HV HF HR
    go_wp2_with (first|(go_at_call 176;refine(kk _).mono ?_;rintro e w' ⟨rfl,rfl⟩)|(go_at_call 178;refine(kh _).mono ?_;rintro e w' ⟨rfl,rfl⟩))
    refine bodyPost_ret (v:= .tuple #[.agg #[.int .i64 2,.int .i64 p,.int .i64 0,.int .i64 0,.int .i64 0,.string ⟨#[]⟩],.int .i64 (k:Int)]) (by simp[results,Tryz.results177,go_sem,z0,z1,z2,z3,z4,z5]) rfl ⟨rfl,?_⟩
    iterate 6 refine Below.setCell ?_ (by simp) _
    exact hB0
   ·have hdec:decide (p+2<k)=true:=by rw[decide_eq_true_iff];omega
    simp only[hdec]at ha hff
    simp only[if_true]at ha hff
    rw[<-HV.out]at ha
    subst ha hff
    have e2:((k:Int)==(p:Int)+2)=false:=by rw[beq_eq_false_iff_ne];omega
    clear HA HFF h1 hneg h2 hdec HV HF HR
    go_wp2_with (first|(go_at_call 176;refine(kk _).mono ?_;rintro e w' ⟨rfl,rfl⟩)|(go_at_call 178;refine(kh _).mono ?_;rintro e w' ⟨rfl,rfl⟩))
    refine bodyPost_ret (v:= .tuple #[.agg #[.int .i64 2,.int .i64 p,.int .i64 (k:Int),.int .i64 0,.int .i64 (wrap64 a),.string ⟨#[]⟩],.int .i64 (-1)]) (by simp[results,Tryz.results177,go_sem,z0,z1,z2,z3,z4,z5]) rfl ⟨rfl,?_⟩
    iterate 8 refine Below.setCell ?_ (by simp) _
    exact hB0
end Go.Proofs.YtelfejiiabbpfaaGreatDoor
