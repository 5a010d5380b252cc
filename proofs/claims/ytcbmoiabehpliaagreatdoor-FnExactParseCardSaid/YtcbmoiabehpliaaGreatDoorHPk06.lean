import Derived.Test.YtcbmoiabehpliaaGreatDoorHPk01
import Derived.Test.YtcbmoiabehpliaaGreatDoorHPk05
import Derived.Lib.ConvBytes
import Derived.Lib.AtoiErrMem
import Derived.Laws.Strings3
import Derived.WalkKit
import Derived.BigCall
import Derived.BigGuard
import Derived.BigRegion
set_option linter.unusedVariables false
set_option maxRecDepth 100000
set_option maxHeartbeats 3200000
namespace Go.Proofs.YtcbmoiabehpliaaGreatDoor
open Go.RowKit Go.Maps Go.WideMaps
def jg(s:ByteArray)(p:Nat):Nat->Nat
 |0=>0
 |n+1=>jg s p n*16+(bT (ae s (p+n))).toNat
theorem vL(s:ByteArray)(p:Nat):∀n,jg s p n<16 ^ n
 |0=>by simp[jg]
 |n+1=>by
  have h:=vL s p n;have b:=ej (ae s (p+n));have a:16 ^ (n+1)=16 ^ n*16:=Nat.pow_succ 16 n;unfold jg;omega
theorem Ar(s:ByteArray)(p n:Nat)(h:n<=15):jg s p n<1152921504606846976:=by
 have c:=vL s p n;have b:16 ^ n<=16 ^ 15:=Nat.pow_le_pow_right (by omega) h;have a:16 ^ 15=1152921504606846976:=by decide
 omega
theorem vM(s:ByteArray)(p n:Nat)(h:n<=16):jg s p n<18446744073709551616:=by
 have c:=vL s p n;have b:16 ^ n<=16 ^ 16:=Nat.pow_le_pow_right (by omega) h;have a:16 ^ 16=18446744073709551616:=by decide
 omega
theorem DM(c:Int)(b:97<=c)(a:c<=102):bits .or .u8 c 32=c:=by
 rcases(show c=97\/c=98\/c=99\/c=100\/c=101\/c=102 by omega) with rfl|rfl|rfl|rfl|rfl|rfl<;>decide+kernel
theorem As(s:ByteArray)(j:Nat)(h:j<s.size):((s.data.toList.getD j 0).toNat:Int)=ae s j:=by
 have:s.data.toList[j]?=some s[j]:=by
  rw[Array.getElem?_toList];exact Array.getElem?_eq_getElem h
 rw[List.getD,this];unfold ae;rw[dif_pos h];rfl
theorem JT(t:ByteArray)(C:1<=t.size)(U:t.size<=16)(z:∀i,i<t.size->eE (ae t i)=true)(w:World):
  Calls Tryz.prog 205 #[.string t,.int .i64 16,.int .i64 64] w fun e m=>e= .returned (.tuple #[.int .u64 (jg t 0 t.size:Int),.nilIface])/\m=Lib.bytesWorld w 5 t:=by
 have R:t.toList.isEmpty=false:=by
  rw[<-decide_eq_emptyBytes];exact decide_eq_false (fun F=>by rw[F]at C;simp at C)
 have H:=Lib.run_convert_string_bytes (P:=Tryz.prog) w 9 195 5 t (u:= .string) Tryz.underlying9 Tryz.underlying195 Tryz.underlying5;have l:∀d,d<t.size->(Lib.bytesWorld w 5 t).cell? ⟨w.heap.size,d,none⟩=some (.int .u8 (ae t d)):=fun d r=>by rw[Lib.bytesWorld_cell w 5 t d r,As t d r]
 obtain⟨A,y⟩:∃A,A=Lib.bytesWorld w 5 t:=⟨_,rfl⟩;rw[<-y]at H l⊢;clear y;have N:IntKind.u64.wrap (IntKind.u64.wrap 18446744073709551616-1)=18446744073709551615:=by
  rw[IntKind.wrap_u64,IntKind.wrap_u64];decide
 obtain⟨q,n⟩:∃q:Int,(jg t 0 t.size:Int)=q:=⟨_,rfl⟩;rw[n];have x:=ab n;clear n;go_in;go_wp2;go_loop [12,13,101] (fun E K p=>∃(a:Nat) (b:Int),E= .bool false/\K= .int .u64 b/\p= .int .i64 a/\a<=t.size/\Hid (b=(jg t 0 a:Int))) (fun _ _ p=>t.size-(intOf p).toNat)
 case atStart=>exact⟨0,0,rfl,rfl,rfl,by omega,rfl⟩
 case round=>
  obtain⟨a,b,rfl,rfl,rfl,S,f⟩:=hrel;by_cases v:a<t.size
  ·have G:=l a v;have B:=(ig _).1 (z a v);have I:=Ar t 0 a (by omega);have T:0<=b:=by rw[f.out];omega
   have O:b<1152921504606846976:=by rw[f.out];omega
   have g:Hid (∀j:Int,bT (ae t a)=j->0<=j->b*16+j=(jg t 0 (a+1):Int)):=fun j L Q=>by
    show _=((jg t 0 a*16+(bT (ae t (0+a))).toNat:Nat):Int);rw[Nat.zero_add,L,f.out];omega
   generalize ae t a=c at G B g;clear l I f z;rcases B with⟨h,k⟩|⟨h,k⟩
   ·have o:Hid (b*16+(c-48)=(jg t 0 (a+1):Int)):=g.out (c-48) (by unfold bT;rw[if_pos ⟨h,k⟩]) (by omega);clear g;go_wp2;refine⟨⟨a+1,b*16+(c-48),rfl,(by first|rfl|(congr 1;omega)),(by first|rfl|(congr 1;omega)),by omega,o⟩,by simp[intOf];omega⟩
   ·have o:Hid (b*16+(c-87)=(jg t 0 (a+1):Int)):=g.out (c-87) (by unfold bT;rw[if_neg (by omega),if_pos ⟨h,k⟩]) (by omega);clear g;have s:=DM c h k;have M:∀w,Calls Tryz.prog 220 #[.int .u8 c] w fun e m=>e= .returned (.int .u8 c)/\m=w:=fun w=>by
     have:=Tryz.internal_strconv_lower c w;rw[s]at this;exact this
    clear s;go_wp2_with (go_at_call 220;refine bc (M _) ?_);refine⟨⟨a+1,b*16+(c-87),rfl,(by first|rfl|(congr 1;omega)),(by first|rfl|(congr 1;omega)),by omega,o⟩,by simp[intOf];omega⟩
  ·obtain rfl:a=t.size:=by omega
   have J:b=q:=by rw[<-x.out,f.out]
   subst J;clear l f x;go_wp2;go_ret2;exact⟨rfl,rfl⟩
structure eF (w:World):Prop where
 syn:∃te pe,w.cell? ⟨6,0,none⟩=some (.iface te pe)
 rng:∃te pe,w.cell? ⟨7,0,none⟩=some (.iface te pe)
theorem jw{B:Nat}{w b:World}(h:Below B w b){a:Addr}(c:a.block<B):b.cell? a=w.cell? a:=by
 unfold World.cell?;rw[h.block _ c]
theorem qU{B:Nat}{a w:World}(h:Below B a w)(n:Nat):Below B a (w.drewN n):=⟨h.os,h.tape,h.output,h.size,h.block⟩
theorem eF.below{w b:World}{B:Nat}(h:eF w)(d:Below B w b)(a:w.heap.size<=B):eF b:=by
 obtain⟨⟨f,j,e⟩,⟨i,p2,c⟩⟩:=h;have k:=World.block_lt_of_cell? w _ e;have g:=World.block_lt_of_cell? w _ c;exact⟨⟨f,j,(jw d (Nat.lt_of_lt_of_le k a)).trans e⟩,⟨i,p2,(jw d (Nat.lt_of_lt_of_le g a)).trans c⟩⟩
theorem qV(s:ByteArray)(i:Nat):ae s i=match s.data.toList[i]? with|some b=>(b.toNat:Int)|none=> -1:=by
 cases h:s.data.toList[i]? with
 |some b=>exact((dL s i b).1 h).2
 |none=>
  refine aX fun a=>?_;have:s.data.toList[i]?=some s[i]:=by rw[Array.getElem?_toList];exact Array.getElem?_eq_getElem a
  rw[this]at h;cases h
def ql(s:ByteArray)(n:Nat):ByteArray:=⟨(s.data.toList.drop n).toArray⟩
theorem gB(s:ByteArray)(n:Nat):(ql s n).size=s.size-n:=by
 show(s.data.toList.drop n).toArray.size=_;rw[List.size_toArray,List.length_drop,Array.length_toList];rfl
theorem qm(s:ByteArray)(n i:Nat):ae (ql s n) i=ae s (n+i):=by
 rw[qV,qV];show(match (s.data.toList.drop n).toArray.toList[i]? with|some a=>(a.toNat:Int)|none=> -1)=_;rw[List.toList_toArray,List.getElem?_drop]
theorem sW(s:ByteArray)(a p:Nat):∀n,jg (ql s a) p n=jg s (a+p) n
 |0=>rfl
 |n+1=>by
  unfold jg;rw[sW s a p n,qm,Nat.add_assoc]
theorem IH(t:ByteArray)(f:1<=t.size)(a:t.size<=16)(d:∀i,i<t.size->eE (ae t i)=true)(w:World):
  Calls Tryz.prog 187 #[.string t,.int .i64 16,.int .i64 64] w fun e c=>e= .returned (.tuple #[.int .u64 (jg t 0 t.size:Int),.nilIface])/\Below w.heap.size w c:=by
 have b:=fun w=>JT t f a d w;have g:=vM t 0 t.size a;generalize (jg t 0 t.size:Int)=h at b;go_in;go_wp2_with (go_at_call 205;refine(b _).mono ?_;rintro e c ⟨rfl,rfl⟩);go_ret2;exact⟨rfl,Lib.bytesWorld_below _ _ _⟩
theorem sY(s:ByteArray)(x a:UInt8):Lib.hasPrefix s.data.toList [x,a]=decide (ae s 0=(x.toNat:Int)/\ae s 1=(a.toNat:Int)):=by
 have:=qT s 0 x a;rw[lV]at this;exact this
theorem qo(q:ByteArray)(j:ae q 0=48)(m:ae q 1=120)(p:3<=q.size)(t:q.size<=18)(d:∀i,2<=i->i<q.size->eE (ae q i)=true)(w:World):
  Calls Tryz.prog 159 #[.string q] w fun e b=>e= .returned (.tuple #[.int .i64 (wrap64 (jg q 2 (q.size-2):Int)),.bool true])/\Below w.heap.size w b:=by
 have f:Lib.hasPrefix q.data.toList [48,120]=true:=by rw[sY];simp[j,m]
 have g:∀w,Calls Tryz.prog 186 #[.string q,.string ⟨#[48,120]⟩] w fun e b=>e= .returned (.tuple #[.string (ql q 2),.bool true])/\b=w:=fun w=>by
  have:=Tryz.strings_CutPrefix q ⟨#[48,120]⟩ w;rw[show(⟨#[48,120]⟩:ByteArray).data.toList=[48,120] from rfl,Lib.trimPrefix,f]at this;exact this
 have a:=fun w=>IH (ql q 2) (by rw[gB];omega) (by rw[gB];omega) (fun i k=>by rw[qm];rw[gB]at k;exact d _ (by omega) (by omega)) w;rw[sW,gB]at a;have l:=vM q 2 (q.size-2) (by omega);simp only[Nat.add_zero]at a;obtain⟨c,h⟩:∃c:Int,(jg q 2 (q.size-2):Int)=c:=⟨_,rfl⟩;have s:0<=c:=by omega
 have r:c<18446744073709551616:=by omega
 rw[h]at a⊢;clear h l f d;generalize ql q 2=o at g a;go_in;go_wp2_with (first|(go_at_call 186;refine(g _).mono ?_;rintro e b ⟨rfl,rfl⟩)|(go_at_call 187;refine(a _).mono ?_;rintro e b ⟨rfl,n⟩));go_quiet (fail)
 go_wp2;go_ret2;exact⟨rfl,qU n _⟩
def ld(q:ByteArray):Option Int:=match Lib.parseIntB 64 q.data.toList with| .ok a=>some a|_=>none
theorem qp(q:ByteArray)(A:q.size<=1100000)(l:¬(ae q 0=48/\ae q 1=120))(w:World)(p:eF w):
  Calls Tryz.prog 159 #[.string q] w fun e a=>(∃x,e= .returned (.tuple #[.int .i64 x,.bool (ld q).isSome])/\∀v,ld q=some v->x=v)/\Below w.heap.size w a:=by
 have i:Lib.hasPrefix q.data.toList [48,120]=false:=by rw[sY];simpa using l
 have j:∀w,Calls Tryz.prog 186 #[.string q,.string ⟨#[48,120]⟩] w fun e a=>e= .returned (.tuple #[.string ⟨q.data.toList.toArray⟩,.bool false])/\a=w:=fun w=>by
  have:=Tryz.strings_CutPrefix q ⟨#[48,120]⟩ w;rw[show(⟨#[48,120]⟩:ByteArray).data.toList=[48,120] from rfl,Lib.trimPrefix,i]at this;exact this
 generalize (⟨q.data.toList.toArray⟩:ByteArray)=r at j;obtain⟨⟨s,z,k⟩,⟨y,u,h⟩⟩:=p;unfold ld;cases hp:Lib.parseIntB 64 q.data.toList with
 |ok v=>
  have d:=Tryz.strconv_ParseInt_10_at64_ok q (by omega) v hp w;have f:Calls Tryz.prog 188 #[.string q,.int .i64 10,.int .i64 64] w fun e a=>e= .returned (.tuple #[.int .i64 v,.nilIface])/\Below w.heap.size w a:=d.mono fun e a c=>⟨c.1,by
   rcases c.2 with rfl|⟨t,rfl⟩
   ·exact Below.refl _ _
   ·exact Lib.bytesWorld_below _ _ _⟩
  clear d hp i l k h;go_in;go_wp2_with (first|(go_at_call 186;refine(j _).mono ?_;rintro e a ⟨rfl,rfl⟩)|(go_at_call 188;refine f.mono ?_;rintro e a ⟨rfl,g⟩));go_quiet (fail)
  go_wp2;go_ret2;exact⟨⟨v,rfl,fun _ c=>Option.some.inj c⟩,qU g _⟩
 | «syntax» =>
  have d:=Tryz.strconv_ParseInt_10_at64_syntax q (by omega) hp _ w k (.inr ⟨_,_,rfl⟩);have f:Calls Tryz.prog 188 #[.string q,.int .i64 10,.int .i64 64] w fun e a=>∃b,e= .returned (.tuple #[.int .i64 0,.iface 257 (.pointer (some ⟨b,0,none⟩))])/\Below w.heap.size w a:=d.mono fun e a ⟨b,m,_,_,n⟩=>⟨b,m,n⟩;clear d hp i l k h;go_in;go_wp2_with (first|(go_at_call 186;refine(j _).mono ?_;rintro e a ⟨rfl,rfl⟩)|(go_at_call 188;refine f.mono ?_;rintro e a ⟨b,rfl,g⟩));go_quiet (fail)
  go_wp2;go_ret2;exact⟨⟨0,rfl,fun _ c=>by cases c⟩,qU g _⟩
 |range=>
  have d:=Tryz.strconv_ParseInt_10_at64_range q (by omega) hp _ w h (.inr ⟨_,_,rfl⟩);have f:Calls Tryz.prog 188 #[.string q,.int .i64 10,.int .i64 64] w fun e a=>∃b,e= .returned (.tuple #[.int .i64 (Lib.intSat 64 q.data.toList),.iface 257 (.pointer (some ⟨b,0,none⟩))])/\Below w.heap.size w a:=d.mono fun e a ⟨b,m,_,_,n⟩=>⟨b,m,n⟩;clear d hp i l k h;generalize Lib.intSat 64 q.data.toList=o at f;go_in;go_wp2_with (first|(go_at_call 186;refine(j _).mono ?_;rintro e a ⟨rfl,rfl⟩)|(go_at_call 188;refine f.mono ?_;rintro e a ⟨b,rfl,g⟩));go_quiet (fail)
  go_wp2;go_ret2;exact⟨⟨o,rfl,fun _ c=>by cases c⟩,qU g _⟩
def Gg(a:Option Nat)(c:UInt8):Option Nat:=match a with|none=>none|some b=>if b*10+(c.toNat-48)<=9223372036854775807 then some (b*10+(c.toNat-48)) else none
theorem sZ:∀l:List UInt8,l.foldl Gg none=none
 |[]=>rfl
 |c::r=>sZ r
theorem Gh:∀(l:List UInt8)(a:Nat),(∀c∈l,48<=c.toNat/\c.toNat<=57)->9223372036854775808<=a->Lib.parseUintM (2 ^ 64-1) a l= .range\/∃u,Lib.parseUintM (2 ^ 64-1) a l= .ok u/\9223372036854775808<=u
 |[],a,_,h=> .inr ⟨a,rfl,h⟩
 |c::r,a,b,h=>by
  have d:=b c (by simp);unfold Lib.parseUintM;rw[if_pos d,if_pos (by omega)];exact .inl rfl
theorem At:∀(l:List UInt8)(a:Nat),(∀c∈l,48<=c.toNat/\c.toNat<=57)->a<=9223372036854775807->(∀u,l.foldl Gg (some a)=some u->Lib.parseUintM (2 ^ 64-1) a l= .ok u/\u<=9223372036854775807)/\(l.foldl Gg (some a)=none->Lib.parseUintM (2 ^ 64-1) a l= .range\/∃u,Lib.parseUintM (2 ^ 64-1) a l= .ok u/\9223372036854775808<=u)
 |[],a,_,h=>by
  refine⟨fun u b=>?_,fun m=>by simp at m⟩;simp at b;subst b;exact⟨rfl,h⟩
 |c::r,a,g,h=>by
  have j:=g c (by simp);have f:∀d∈r,48<=d.toNat/\d.toNat<=57:=fun d p=>g d (by simp[p]);rw[List.foldl_cons,show Gg (some a) c=if a*10+(c.toNat-48)<=9223372036854775807 then some (a*10+(c.toNat-48)) else none from rfl];by_cases e:a*10+(c.toNat-48)<=9223372036854775807
  ·rw[if_pos e];have o:=At r (a*10+(c.toNat-48)) f e;have n:Lib.parseUintM (2 ^ 64-1) a (c::r)=Lib.parseUintM (2 ^ 64-1) (a*10+(c.toNat-48)) r:=by
    rw[Lib.parseUintM,if_pos j,if_neg (by omega),if_neg (by omega)]
   rw[n];exact o
  ·rw[if_neg e,sZ r];refine⟨fun u b=>(by cases b),fun _=>?_⟩;rw[Lib.parseUintM,if_pos j];by_cases i:1844674407370955162<=a
   ·rw[if_pos i];exact .inl rfl
   ·rw[if_neg i];by_cases k:2 ^ 64-1<a*10+(c.toNat-48)
    ·rw[if_pos k];exact .inl rfl
    ·rw[if_neg k];exact Gh r _ f (by omega)
theorem Au:∀(l:List UInt8)(d:Nat),(∃c∈l,¬(48<=c.toNat/\c.toNat<=57))->∀u,Lib.parseUintM (2 ^ 64-1) d l≠ .ok u
 |[],_,h,u=>by obtain⟨c,a,_⟩:=h;simp at a
 |c::f,d,h,u=>by
  rw[Lib.parseUintM];by_cases a:48<=c.toNat/\c.toNat<=57
  ·rw[if_pos a];split
   ·intro h;cases h
   ·split
    ·intro h;cases h
    ·refine Au f _ ?_ u;obtain⟨e,hd,b⟩:=h;rcases List.mem_cons.1 hd with rfl|hd
     ·exact absurd a b
     ·exact⟨e,hd,b⟩
  ·rw[if_neg a];intro h;cases h
def jh(s:ByteArray)(p:Nat):Nat->Option Nat
 |0=>some 0
 |n+1=>match jh s p n with|none=>none|some x=>if x*10+(ae s (p+n)-48).toNat<=9223372036854775807 then some (x*10+(ae s (p+n)-48).toNat) else none
theorem ta(s:ByteArray)(p:Nat):∀n,p+n<=s.size->jh s p n=((s.data.toList.drop p).take n).foldl Gg (some 0)
 |0,_=>rfl
 |n+1,h=>by
  have a:p+n<s.data.toList.length:=by rw[Array.length_toList];exact h
  have c:(s.data.toList.drop p)[n]?=some (s.data.toList[p+n]):=by rw[List.getElem?_drop];exact List.getElem?_eq_getElem a
  have d:ae s (p+n)=((s.data.toList[p+n]).toNat:Int):=((dL s (p+n) _).1 (List.getElem?_eq_getElem a)).2;rw[List.take_add_one,c,List.foldl_append,<-ta s p n (by omega),jh,d];simp only[Option.toList_some,List.foldl_cons,List.foldl_nil,Gg];have b:(((s.data.toList[p+n]).toNat:Int)-48).toNat=(s.data.toList[p+n]).toNat-48:=by omega
  rw[b]
theorem Gi(s:ByteArray)(p:Nat):∀n u,jh s p n=some u->u<=9223372036854775807
 |0,u,h=>by simp[jh]at h;omega
 |n+1,u,h=>by
  unfold jh at h;split at h
  ·cases h
  ·split at h
   ·rename_i a;cases h;exact a
   ·cases h
theorem Av(q:ByteArray)(h:∀i,i<q.size->aG (ae q i)=true):∀c∈q.data.toList,48<=c.toNat/\c.toNat<=57:=by
 intro c b;obtain⟨i,d,rfl⟩:=List.mem_iff_getElem.1 b;have:=(dL q i _).1 (List.getElem?_eq_getElem d);have a:=eQ (h i this.1);rw[this.2]at a;omega
theorem td(q:ByteArray)(a:aG (ae q 0)=true):∃c r,q.data.toList=c::r/\48<=c.toNat/\c.toNat<=57:=by
 have d:=fL a;cases hq:q.data.toList with
 |nil=>
  have:q.data.toList.length=q.size:=by rw[Array.length_toList];rfl
  rw[hq]at this;simp at this;omega
 |cons c r=>
  refine⟨c,r,rfl,?_⟩;have:=(dL q 0 c).1 (by rw[hq];rfl);have b:=eQ a;rw[this.2]at b;omega
theorem xF(c:UInt8)(r:List UInt8)(d:48<=c.toNat)(b:c.toNat<=57):Lib.parseIntB 64 (c::r)=match Lib.parseUintM (2 ^ 64-1) 0 (c::r) with| .syntax=> .syntax| .range=> .range| .ok u=>if 9223372036854775808<=u then .range else .ok (u:Int):=by
 simp only[Lib.parseIntB,Lib.parseUintB];rw[if_neg (show ¬(c.toNat=43\/c.toNat=45) by omega),if_neg (show ¬(c::r=[]) by simp)];have a:¬c.toNat=45:=by omega
 cases Lib.parseUintM (2 ^ 64-1) 0 (c::r) with
 |ok u=>simp[a]
 | «syntax» =>rfl
 |range=>rfl
theorem tg(q:ByteArray)(n:0<q.size)(h:∀i,i<q.size->aG (ae q i)=true):ld q=Option.map (fun u:Nat=>(u:Int)) (jh q 0 q.size):=by
 obtain⟨c,a,j,l,m⟩:=td q (h 0 n);have d:=Av q h;have f:=ta q 0 q.size (by omega);rw[List.drop_zero,List.take_of_length_le (by rw[Array.length_toList];exact Nat.le_refl _)]at f;unfold ld;rw[f];rw[j]at d⊢;rw[xF c a l m];have e:=At (c::a) 0 d (by omega);cases hx:(c::a).foldl Gg (some 0) with
 |some u=>
  obtain⟨g,o⟩:=e.1 u hx;rw[g];simp only[Option.map_some];rw[if_neg (by omega)]
 |none=>
  rcases e.2 hx with b|⟨u,b,k⟩
  ·rw[b];rfl
  ·rw[b];simp only[if_pos k];rfl
theorem jU(q:ByteArray)(f:aG (ae q 0)=true)(i:Nat)(l:i<q.size)(g:aG (ae q i)=false):ld q=none:=by
 obtain⟨a,b,e,m,k⟩:=td q f;have c:∃a∈q.data.toList,¬(48<=a.toNat/\a.toNat<=57):=by
  have d:i<q.data.toList.length:=by rw[Array.length_toList];exact l
  refine⟨q.data.toList[i],List.getElem_mem d,?_⟩;have:=(dL q i _).1 (List.getElem?_eq_getElem d);have j:¬(48<=ae q i/\ae q i<=57):=by simpa [aG] using g
  rw[this.2]at j;omega
 unfold ld;rw[e]at c⊢;rw[xF a b m k];have:=Au (a::b) 0 c;cases hx:Lib.parseUintM (2 ^ 64-1) 0 (a::b) with
 |ok h=>exact absurd hx (this h)
 | «syntax» =>rfl
 |range=>rfl
def fM(q:ByteArray):Bool:=decide (aG (ae q 0)=true/\aP q 0=(q.size,true)/\¬(ae q 0=48/\ae q 1=120)/\ld q=none)
theorem Gj(s:ByteArray)(p:Nat)(h:p<=s.size):p<=DL s p/\DL s p<=s.size:=fx eE mQ s _ p h
theorem th{s:ByteArray}{p e:Nat}(h:eu s p=(e,true)):p<e/\e<=p+16/\e=DL s p/\∀i,p<=i->i<e->eE (ae s i)=true:=by
 unfold eu at h;split at h
 ·cases h
 ·rename_i d;obtain⟨c,a⟩:=Prod.mk.inj h;subst c;exact⟨by simpa using a,by omega,rfl,fun i b a=>nH eE s _ p i b a⟩
theorem vN{q:ByteArray}(a:0<q.size):(q.toList==[])=false:=by
 have:q.toList.length=q.size:=by rw[ByteArray.toList_eq];simp
 cases hs:q.toList with
 |nil=>rw[hs]at this;simp at this;omega
 |cons c b=>rfl
theorem ti{q:ByteArray}(a:¬0<q.size):(q.toList==[])=true:=by
 have:q.toList.length=q.size:=by rw[ByteArray.toList_eq];simp
 have:q.toList=[]:=List.length_eq_zero_iff.1 (by omega);rw[this];rfl
theorem qr{c:Int}{b:Bool}(h:aG c=b)(w:World):Calls Tryz.prog 117 #[.int .u8 c] w fun e d=>e= .returned (.bool b)/\d=w:=(cG c w).mono fun e d a=>⟨by rw[a.1,h],a.2.symm⟩
theorem vO(s:ByteArray)(a:s.size<=1100000)(b:0<s.size)(w:World):Calls Tryz.prog 158 #[.string s,.int .i64 0] w fun e c=>e= .returned (.tuple #[.int .i64 ((aP s 0).1:Int),.bool (aP s 0).2])/\c=w:=jf s a 0 b w
theorem vP(s:ByteArray)(a:Nat)(h:a<=s.size):a<=(eT s a).1/\(eT s a).1<=s.size:=by
 unfold eT;split
 ·rename_i c;have d:=aS c (by omega);have b:nA2 s a<=s.size/\a<nA2 s a:=by
   unfold nA2;split
   ·rename_i hs;rcases hs with hs|hs
    ·have:=aS hs (by omega);omega
    ·have:=aS hs (by omega);omega
   ·omega
  have:=gA s (nA2 s a) b.1;simp only;omega
 ·exact⟨Nat.le_refl _,h⟩
theorem vQ(s:ByteArray)(p:Nat)(h:p<s.size):p<nA0 s p/\nA0 s p<=s.size:=by
 unfold nA0;split
 ·omega
 ·have:=gA s (p+1) (by omega);omega
theorem vR(s:ByteArray)(a:Nat)(h:a<=s.size):a<=nA1 s a/\nA1 s a<=s.size:=by
 unfold nA1;split
 ·rename_i b;have:=gA s (a+1) (by have:=fL b.2;omega);omega
 ·omega
theorem DN(s:ByteArray)(p:Nat)(h:p<=s.size):p<=(eu s p).1/\(eu s p).1<=s.size:=by
 have:=Gj s p h;unfold eu;split
 ·simp only;omega
 ·exact this
theorem iL(s:ByteArray)(p:Nat)(h:p<s.size):p<(aP s p).1/\(aP s p).1<=s.size:=by
 unfold aP;split
 ·rename_i b;have:=aS b.2 (by omega);have:=DN s (p+2) (by omega);omega
 ·have c:=vQ s p h;have a:=vR s _ c.2;have d:=vP s _ a.2;omega
theorem tj(q:ByteArray)(u:q.size<=1100000)(w:World)(y:eF w):Calls Tryz.prog 194 #[.string q] w fun e n=>e= .returned (.bool (fM q))/\Below w.heap.size w n:=by
 by_cases h:0<q.size
 ·have A:=vN h;have k:∀w,(Instr.index 9 (.string q) (.int .i64 0)).run Tryz.prog w= .ok (.int .u8 (ae q 0)) w:=fun w=>aI h w;by_cases f:aG (ae q 0)=true
  ·have b:=fun w=>qr f w;have c:=fun w=>vO q u h w;have x:=(iL q 0 h).2;by_cases d:(aP q 0).2=true
   ·by_cases i:(aP q 0).1=q.size
    ·have j:aP q 0=(q.size,true):=Prod.ext i d;have F:¬(q.size:Int)<(q.size:Int):=by omega
     rw[j]at c;by_cases g:ae q 0=48/\ae q 1=120
     ·have a:fM q=false:=by unfold fM;simp[g]
      rw[a];have t:eu q 2=(q.size,true):=by rw[<-j];unfold aP;rw[if_pos g]
      obtain⟨G,E,B,v⟩:=th t;have l:=fun w=>qo q g.1 g.2 (by omega) (by omega) v w;generalize wrap64 (jg q 2 (q.size-2):Int)=I at l;clear a t B v j d i g f;generalize ae q 0=m at k b;go_in;go_wp2_with (first|(go_at_call 117;refine bc (b _) ?_)|(go_at_call 158;refine bc (c _) ?_)|(go_at_call 159;refine(l _).mono ?_;rintro e n ⟨rfl,o⟩));go_ret;exact⟨rfl,o⟩
     ·have l:=qp q u g w y;have a:fM q=!(ld q).isSome:=by
       unfold fM;cases hdc:ld q<;>simp[f,j,g]
      rw[a];generalize (ld q).isSome=H at l;clear a j d i g f;generalize ae q 0=m at k b;go_in;go_wp2_with (first|(go_at_call 117;refine bc (b _) ?_)|(go_at_call 158;refine bc (c _) ?_)|(go_at_call 159;refine l.mono ?_;rintro e n ⟨⟨J,rfl,_⟩,o⟩));go_ret;exact⟨rfl,o⟩
    ·have a:fM q=false:=by unfold fM;rw[decide_eq_false_iff_not];rintro ⟨_,r,_⟩;rw[r]at i;exact i rfl
     rw[a];have C:((aP q 0).1:Int)<(q.size:Int):=by omega
     rw[d]at c;generalize (aP q 0).1=z at c C;clear a d i f x;generalize ae q 0=m at k b;go_in;go_wp2_with (first|(go_at_call 117;refine bc (b _) ?_)|(go_at_call 158;refine bc (c _) ?_));go_ret;exact⟨rfl,Below.refl _ _⟩
   ·have s:(aP q 0).2=false:=by simpa using d
    have a:fM q=false:=by unfold fM;rw[decide_eq_false_iff_not];rintro ⟨_,r,_⟩;rw[r]at d;exact d rfl
    rw[a];rw[s]at c;generalize (aP q 0).1=z at c x;clear a d s f;generalize ae q 0=m at k b;go_in;go_wp2_with (first|(go_at_call 117;refine bc (b _) ?_)|(go_at_call 158;refine bc (c _) ?_));go_ret;exact⟨rfl,Below.refl _ _⟩
  ·have p:aG (ae q 0)=false:=by simpa using f
   have b:=fun w=>qr p w;have a:fM q=false:=by unfold fM;simp[p]
   rw[a];clear a f p;generalize ae q 0=m at k b;go_in;go_wp2_with (first|(go_at_call 117;refine bc (b _) ?_));go_ret;exact⟨rfl,Below.refl _ _⟩
 ·have A:=ti h;have a:fM q=false:=by unfold fM;rw[aX h];simp[jS]
  rw[a];clear a;go_in;go_wp2;go_ret;exact⟨rfl,Below.refl _ _⟩
theorem aT{c:Int}{b:Bool}(h:aG c=b)(w:World):Calls Tryz.prog 83 #[.int .u8 c] w fun e d=>e= .returned (.bool b)/\d=w:=(lS c w).mono fun e d a=>⟨by rw[a.1,h],a.2.symm⟩
theorem bS(s:ByteArray)(f:s.size<=1100000)(a:Int)(i:Nat)(d:a=(i:Int))(w:World):Calls Tryz.prog 80 #[.string s,.int .i64 a] w fun e c=>e= .returned (.int .u8 (lk s i))/\c=w:=by
 subst d;exact(nz s f i w).mono fun e c b=>⟨b.1,b.2.symm⟩
theorem lg(c:Int)(i:0<=c)(j:c<256)(w:World):Calls Tryz.prog 147 #[.int .u8 c] w fun e h=>e= .returned (.int .i64 (bT c))/\h=w:=by
 unfold bT;by_cases b:aG c=true
 ·have a:=fun w=>aT b w;have d:=eQ b;rw[if_pos d];clear b;go_in;go_wp2_with (first|(go_at_call 83;refine bc (a _) ?_));go_ret;exact⟨rfl,rfl⟩
 ·have f:aG c=false:=by simpa using b
  have a:=fun w=>aT f w;have d:¬(48<=c/\c<=57):=by simpa [aG] using f
  rw[if_neg d];clear b f d;rcases(show(97<=c/\c<=102)\/¬97<=c\/(97<=c/\¬c<=102) by omega) with⟨g1,g⟩|g1|⟨g1,g⟩
  ·rw[if_pos ⟨g1,g⟩];go_in;go_wp2_with (first|(go_at_call 83;refine bc (a _) ?_));go_ret;exact⟨by simp;omega,rfl⟩
  ·rw[if_neg (by omega)];go_in;go_wp2_with (first|(go_at_call 83;refine bc (a _) ?_));go_ret;exact⟨rfl,rfl⟩
  ·rw[if_neg (by omega)];go_in;go_wp2_with (first|(go_at_call 83;refine bc (a _) ?_));go_ret;exact⟨rfl,rfl⟩
theorem xG(s:ByteArray)(i:Nat):bT (lk s i)=bT (ae s i):=by
 unfold lk;split
 ·rfl
 ·rename_i a;rw[aX a];decide
theorem gC{s:ByteArray}{i:Nat}(h:i<s.size):lk s i=ae s i:=by unfold lk;rw[if_pos h]
def Dq(s:ByteArray)(p:Nat):Value:=if(eu s (p+2)).2=true then .agg #[.int .i64 2,.int .i64 p,.int .i64 ((eu s (p+2)).1:Int),.int .i64 0,.int .i64 (wrap64 (jg s (p+2) ((eu s (p+2)).1-(p+2)):Int)),.string ⟨#[]⟩] else .agg #[.int .i64 2,.int .i64 p,.int .i64 0,.int .i64 0,.int .i64 0,.string ⟨#[]⟩]
def DO(s:ByteArray)(p:Nat):Int:=if(eu s (p+2)).2=true then -1 else((eu s (p+2)).1:Int)
theorem tm(s:ByteArray)(X:s.size<=1100000)(p:Nat)(V:p+2<=s.size)(w:World):Calls Tryz.prog 146 #[.string s,.agg #[.int .i64 2,.int .i64 p,.int .i64 0,.int .i64 0,.int .i64 0,.string ⟨#[]⟩]] w fun e S=>e= .returned (.tuple #[Dq s p,.int .i64 (DO s p)])/\Below w.heap.size w S:=by
 obtain⟨bd,l⟩:=ah (Dq s p);obtain⟨ak,hF⟩:=ah (DO s p);rw[l,hF];unfold Dq at l;unfold DO at hF;unfold eu at l hF;obtain⟨O,t⟩:=ah (DL s (p+2));rw[t]at l hF;unfold DL at t;have B:=ab t;have m:=ab l;have o:=ab hF;clear t l hF;have N:aO w.heap.size ((w.alloc (.cells #[.int .i64 2,.int .i64 p,.int .i64 0,.int .i64 0,.int .i64 0,.string ⟨#[]⟩] 45)).alloc (.cells #[.int .i64 0,.int .i64 0,.int .i64 0,.int .i64 0,.int .i64 0,.string ⟨#[]⟩] 45)) 2 p 0 0 0 ⟨#[]⟩:=(Below.heap_alloc _ _ _ (by simp)).trans (heap_alloc_new w _);have E:aO (w.heap.size+1) ((w.alloc (.cells #[.int .i64 2,.int .i64 p,.int .i64 0,.int .i64 0,.int .i64 0,.string ⟨#[]⟩] 45)).alloc (.cells #[.int .i64 0,.int .i64 0,.int .i64 0,.int .i64 0,.int .i64 0,.string ⟨#[]⟩] 45)) 0 0 0 0 0 ⟨#[]⟩:=by
  have:=heap_alloc_new (w.alloc (.cells #[.int .i64 2,.int .i64 p,.int .i64 0,.int .i64 0,.int .i64 0,.string ⟨#[]⟩] 45)) (.cells #[.int .i64 0,.int .i64 0,.int .i64 0,.int .i64 0,.int .i64 0,.string ⟨#[]⟩] 45);rw[World.size_alloc]at this;exact this
 have r:Below w.heap.size w ((w.alloc (.cells #[.int .i64 2,.int .i64 p,.int .i64 0,.int .i64 0,.int .i64 0,.string ⟨#[]⟩] 45)).alloc (.cells #[.int .i64 0,.int .i64 0,.int .i64 0,.int .i64 0,.int .i64 0,.string ⟨#[]⟩] 45)):=(((Below.refl _ w).alloc (Nat.le_refl _) _).alloc (by simp) _);go_in;go_wp2_with fail;generalize (w.alloc (.cells #[.int .i64 2,.int .i64 p,.int .i64 0,.int .i64 0,.int .i64 0,.string ⟨#[]⟩] 45)).alloc (.cells #[.int .i64 0,.int .i64 0,.int .i64 0,.int .i64 0,.int .i64 0,.string ⟨#[]⟩] 45)=W at N E r;have bo:w.heap.size+1<W.heap.size:=lt_of_block E;obtain⟨a5,bk,a4,a3,a7,bl,a8⟩:=aw N;obtain⟨z0,y,x,C,A,u,a2⟩:=aw E;go_loop [6,7] (fun F am=>∃(a g:Nat) (d:Int),p+2<=a/\a<=p+18/\a<=s.size/\s.size<a+g/\F= .int .i64 a/\am= .int .u64 d/\Hid (cZ eE s g a=O)/\Hid (d=(jg s (p+2) (a-(p+2)):Int))) (fun F _=>s.size-(intOf F).toNat)
 case atStart=>exact⟨p+2,s.size+1,0,by omega,by omega,V,by omega,by simp,rfl,B,by show(0:Int)=_;rw[Nat.sub_self];rfl⟩
 case round=>
  obtain⟨a,g,d,bb,a9,bn,bh,rfl,rfl,z,h⟩:=hrel;obtain⟨g,rfl⟩:∃al,g=al+1:=⟨g-1,by omega⟩;have k:=z.out;unfold cZ at k;have j:=fun w=>bS s X (a:Int) a rfl w;have f:=fun w=>lg (lk s a) (xB s a).1 (xB s a).2 w;rw[xG]at f;by_cases i:eE (ae s a)=true
  ·have K:a<s.size:=vJ mQ i;have ar:=fun w=>aI K w;rw[gC K]at j f;rw[if_pos i]at k;have af:=(fx eE mQ s g (a+1) (by omega)).1;rw[k]at af;have T:=ab k;have av:0<=bT (ae s a):=by simpa [eE] using i
   have ap:=ej (ae s a);have H:a≠p+18->jg s (p+2) (a-(p+2))<1152921504606846976:=fun G=>Ar s (p+2) _ (by omega);have M:Hid (d*16+bT (ae s a)=(jg s (p+2) (a+1-(p+2)):Int)):=by
    show _=_;rw[show a+1-(p+2)=(a-(p+2))+1 by omega,jg,show p+2+(a-(p+2))=a by omega,h.out];omega
   have ao:0<=d:=by rw[h.out];omega
   have q:a≠p+18->d<1152921504606846976:=fun G=>by have:=H G;rw[h.out];omega
   generalize bT (ae s a)=L at f av ap M;generalize ae s a=R at j f ar;clear k i H;by_cases I:a=p+18
   ·have b:=m.out;have c:=o.out;simp only[if_pos (show p+2+16<O by omega)]at b c;simp at b c;subst b;have Z:ak=(a:Int):=by omega
    clear c;subst Z;have an:((a:Int)-(p:Int)==18)=true:=by rw[beq_iff_eq];omega
    clear m o I q;go_wp2_with (first|(go_at_call 80;refine bc (j _) ?_)|(go_at_call 147;refine bc (f _) ?_));refine bodyPost_ret (v:= .tuple #[.agg #[.int .i64 2,.int .i64 p,.int .i64 0,.int .i64 0,.int .i64 0,.string ⟨#[]⟩],.int .i64 (a:Int)]) (by simp[results,Tryz.results146,go_sem,z0,y,x,C,A,u]) rfl ⟨rfl,?_⟩
    iterate 6 refine Below.setCell ?_ (by simp) _
    exact r
   ·have an:((a:Int)-(p:Int)==18)=false:=by rw[beq_eq_false_iff_ne];omega
    have a6:=q I;clear q;go_wp2_with (first|(go_at_call 80;refine bc (j _) ?_)|(go_at_call 147;refine bc (f _) ?_));go_round
    case rel=>exact⟨a+1,g,d*16+L,by omega,by omega,by omega,by omega,by go_num,by first|rfl|(congr 1;omega),T,M⟩
    case measure=>simp[intOf];omega
  ·have J:bT (ae s a)<0:=by
    have:¬0<=bT (ae s a):=by simpa [eE] using i
    omega
   rw[if_neg i]at k;subst k;have Y:¬(0:Int)<=bT (ae s a):=by omega
   have ao:0<=d:=by rw[h.out];omega
   have q:d<18446744073709551616:=by rw[h.out];have:=vM s (p+2) (a-(p+2)) (by omega);omega
   generalize bT (ae s a)=L at f Y;generalize lk s a=R at j f;have b:=m.out;have c:=o.out;simp only[if_neg (show ¬p+2+16<a by omega)]at b c;by_cases Q:a=p+2
   ·have n:decide (p+2<a)=false:=by rw[decide_eq_false_iff_not];omega
    simp only[n]at b c;simp at b c;subst b c;have U:((a:Int)==(p:Int)+2)=true:=by rw[beq_iff_eq];omega
    clear m o i J Q n h z B;go_wp2_with (first|(go_at_call 80;refine bc (j _) ?_)|(go_at_call 147;refine bc (f _) ?_));refine bodyPost_ret (v:= .tuple #[.agg #[.int .i64 2,.int .i64 p,.int .i64 0,.int .i64 0,.int .i64 0,.string ⟨#[]⟩],.int .i64 (a:Int)]) (by simp[results,Tryz.results146,go_sem,z0,y,x,C,A,u]) rfl ⟨rfl,?_⟩
    iterate 6 refine Below.setCell ?_ (by simp) _
    exact r
   ·have n:decide (p+2<a)=true:=by rw[decide_eq_true_iff];omega
    simp only[n]at b c;simp only[if_true]at b c;rw[<-h.out]at b;subst b c;have U:((a:Int)==(p:Int)+2)=false:=by rw[beq_eq_false_iff_ne];omega
    clear m o i J Q n h z B;go_wp2_with (first|(go_at_call 80;refine bc (j _) ?_)|(go_at_call 147;refine bc (f _) ?_));refine bodyPost_ret (v:= .tuple #[.agg #[.int .i64 2,.int .i64 p,.int .i64 (a:Int),.int .i64 0,.int .i64 (wrap64 d),.string ⟨#[]⟩],.int .i64 (-1)]) (by simp[results,Tryz.results146,go_sem,z0,y,x,C,A,u]) rfl ⟨rfl,?_⟩
    iterate 8 refine Below.setCell ?_ (by simp) _
    exact r
end Go.Proofs.YtcbmoiabehpliaaGreatDoor
