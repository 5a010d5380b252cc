import Derived.Test.YtkdijoogonigpaaGreatDoorHUk07
set_option linter.all false
set_option maxRecDepth 100000
set_option maxHeartbeats 3200000
open Go.Value renaming int->M,string->O,tuple->W,bool->Br,agg->B1,nilIface->B2
open Go.IntKind renaming i64->N
open Go.Lib renaming parseUintM->Q,hasPrefix->A2
open Go.Proofs.Tryz renaming prog->R
open Go.Ending renaming returned->S
open Bool renaming true->T,false->V
open Go renaming Calls->U,World->Y
open Option renaming some->X,none->A0
open Go.RowKit renaming Below->Z,intOf->B0
open Go.Obj renaming cells->Ax
namespace Go.Proofs.YtkdijoogonigpaaGreatDoor
open Go.RowKit Go.Maps Go.WideMaps
def mJ(s:ByteArray)(p:Nat):Nat->Nat
 |0=>0
 |n+1=>mJ s p n*16+(dE (ao s (p+n))).toNat
theorem zj(s:ByteArray)(p:Nat):∀n,mJ s p n<16 ^ n
 |0=>by simp[mJ]
 |n+1=>by
  have b:=zj s p n;have c:=jl (ao s (p+n));have a:16 ^ (n+1)=16 ^ n*16:=Nat.pow_succ 16 n;unfold mJ;omega
theorem Dc(s:ByteArray)(p n:Nat)(a:n<=15):mJ s p n<1152921504606846976:=by
 have b:=zj s p n;have c:16 ^ n<=16 ^ 15:=Nat.pow_le_pow_right (by omega) a;have d:16 ^ 15=1152921504606846976:=by decide
 omega
theorem zk(s:ByteArray)(p n:Nat)(a:n<=16):mJ s p n<18446744073709551616:=by
 have b:=zj s p n;have c:16 ^ n<=16 ^ 16:=Nat.pow_le_pow_right (by omega) a;have d:16 ^ 16=18446744073709551616:=by decide
 omega
theorem aat(c:Int)(a:97<=c)(b:c<=102):bits .or .u8 c 32=c:=by
 rcases(show c=97\/c=98\/c=99\/c=100\/c=101\/c=102 by omega) with rfl|rfl|rfl|rfl|rfl|rfl<;>decide+kernel
theorem Ii(s:ByteArray)(j:Nat)(a:j<s.size):((s.data.toList.getD j 0).toNat:Int)=ao s j:=by
 have:s.data.toList[j]?=X s[j]:=by
  rw[qw];exact oH a
 rw[List.getD,this];unfold ao;rw[jK a];rfl
theorem agp(t:ByteArray)(v:1<=t.size)(an:t.size<=16)(y:∀i,i<t.size->gz (ao t i)=T)(w:Y):
  U R 90 #[.string t,.int .i64 16,.int .i64 64] w fun e q=>e= .returned (.tuple #[.int .u64 (mJ t 0 t.size:Int),.nilIface])/\q=Lib.bytesWorld w 5 t:=by
 have ap:t.toList.isEmpty=V:=by
  rw[<-decide_eq_emptyBytes];exact bk (fun E=>by rw[E]at v;simp at v)
 have H:=Lib.run_convert_string_bytes (P:=R) w 9 22 5 t (u:= .string) Tryz.underlying9 Tryz.underlying22 Tryz.underlying5;have j:∀f,f<t.size->(Lib.bytesWorld w 5 t).cell? ⟨w.heap.size,f,A0⟩=X (.int .u8 (ao t f)):=fun f z=>by rw[Lib.bytesWorld_cell w 5 t f z,Ii t f z]
 obtain⟨s,x⟩:∃s,s=Lib.bytesWorld w 5 t:=⟨_,rfl⟩;rw[<-x]at H j⊢;clear x;have a2:IntKind.u64.wrap (IntKind.u64.wrap 18446744073709551616-1)=18446744073709551615:=by
  rw[IntKind.wrap_u64,IntKind.wrap_u64];decide
 obtain⟨n,o⟩:∃n:Int,(mJ t 0 t.size:Int)=n:=⟨_,rfl⟩;rw[o];have r:=ar o;clear o;go_in;go_wp2;go_loop [12,13,101] (fun af L p=>∃(a:Nat) (b:Int),af= .bool V/\L= .int .u64 b/\p= .int .i64 a/\a<=t.size/\Hid (b=(mJ t 0 a:Int))) (fun _ _ p=>t.size-(B0 p).toNat)
 case atStart=>exact⟨0,0,rfl,rfl,rfl,by omega,rfl⟩
 case round=>
  obtain⟨a,b,rfl,rfl,rfl,av,d⟩:=hrel;by_cases A:a<t.size
  ·have G:=j a A;have C:=(jt _).1 (y a A);have F:=Dc t 0 a (by omega);have ak:0<=b:=by rw[d.out];omega
   have al:b<1152921504606846976:=by rw[d.out];omega
   have g:Hid (∀h:Int,dE (ao t a)=h->0<=h->b*16+h=(mJ t 0 (a+1):Int)):=fun h I am=>by
    show _=((mJ t 0 a*16+(dE (ao t (0+a))).toNat:Nat):Int);rw[fm,I,d.out];omega
   generalize ao t a=c at G C g;clear j F d y;rcases C with⟨k,l⟩|⟨k,l⟩
   ·have m:Hid (b*16+(c-48)=(mJ t 0 (a+1):Int)):=g.out (c-48) (by unfold dE;rw[ab ⟨k,l⟩]) (by omega);clear g;go_wp2;refine⟨⟨a+1,b*16+(c-48),rfl,(by first|rfl|(congr 1;omega)),(by first|rfl|(congr 1;omega)),by omega,m⟩,by simp[B0];omega⟩
   ·have m:Hid (b*16+(c-87)=(mJ t 0 (a+1):Int)):=g.out (c-87) (by unfold dE;rw[aa (by omega),ab ⟨k,l⟩]) (by omega);clear g;have B:=aat c k l;have K:∀w,U R 119 #[.int .u8 c] w fun e q=>e= .returned (.int .u8 c)/\q=w:=fun w=>by
     have:=Tryz.internal_strconv_lower c w;rw[B]at this;exact this
    clear B;go_wp2_with (go_at_call 119;refine dz (K _) ?_);refine⟨⟨a+1,b*16+(c-87),rfl,(by first|rfl|(congr 1;omega)),(by first|rfl|(congr 1;omega)),by omega,m⟩,by simp[B0];omega⟩
  ·obtain rfl:a=t.size:=by omega
   have J:b=n:=by rw[<-r.out,d.out]
   subst J;clear j d r;go_wp2;go_ret2;exact⟨rfl,rfl⟩
structure uL (w:Y):Prop where
 syn:∃te pe,w.cell? ⟨4,0,A0⟩=X (.iface te pe)
 rng:∃te pe,w.cell? ⟨5,0,A0⟩=X (.iface te pe)
theorem lj{b:Nat}{w c:Y}(d:Z b w c){a:Addr}(e:a.block<b):c.cell? a=w.cell? a:=by
 unfold World.cell?;rw[d.block _ e]
theorem vc{c:Nat}{a w:Y}(b:Z c a w)(n:Nat):Z c a (w.drewN n):=⟨b.os,b.tape,b.output,b.size,b.block⟩
theorem uL.below{w f:Y}{a:Nat}(g:uL w)(e:Z a w f)(d:w.heap.size<=a):uL f:=by
 obtain⟨⟨k,j,b⟩,⟨l,p2,c⟩⟩:=g;have h:=qB w _ b;have i:=qB w _ c;exact⟨⟨k,j,(lj e (eI h d)).trans b⟩,⟨l,p2,(lj e (eI i d)).trans c⟩⟩
theorem ll(s:ByteArray)(i:Nat):ao s i=match s.data.toList[i]? with|some b=>(b.toNat:Int)|none=> -1:=by
 cases h:s.data.toList[i]? with
 |some b=>exact((dq s i b).1 h).2
 |none=>
  refine ci fun a=>?_;have:s.data.toList[i]?=X s[i]:=by rw[qw];exact oH a
  rw[this]at h;cases h
def xF(s:ByteArray)(n:Nat):ByteArray:=⟨(s.data.toList.drop n).toArray⟩
theorem ny(s:ByteArray)(n:Nat):(xF s n).size=s.size-n:=by
 show(s.data.toList.drop n).toArray.size=_;rw[oC,jg,cJ];rfl
theorem xG(s:ByteArray)(n i:Nat):ao (xF s n) i=ao s (n+i):=by
 rw[ll,ll];show(match (s.data.toList.drop n).toArray.toList[i]? with|some a=>(a.toNat:Int)|none=> -1)=_;rw[List.toList_toArray,oG]
theorem A8(s:ByteArray)(a p:Nat):∀n,mJ (xF s a) p n=mJ s (a+p) n
 |0=>rfl
 |n+1=>by
  unfold mJ;rw[A8 s a p n,xG,fp]
theorem afk(t:ByteArray)(d:1<=t.size)(a:t.size<=16)(f:∀i,i<t.size->gz (ao t i)=T)(w:Y):
  U R 73 #[O t,M N 16,M N 64] w fun e c=>e= S (W #[M .u64 (mJ t 0 t.size:Int),B2])/\Z w.heap.size w c:=by
 have b:=fun w=>agp t d a f w;have g:=zk t 0 t.size a;generalize (mJ t 0 t.size:Int)=h at b;go_in;go_wp2_with (go_at_call 90;refine(b _).mono ?_;rintro e c ⟨rfl,rfl⟩);go_ret2;exact⟨rfl,Lib.bytesWorld_below _ _ _⟩
theorem A9(s:ByteArray)(x y:UInt8):A2 s.data.toList [x,y]=decide (ao s 0=(x.toNat:Int)/\ao s 1=(y.toNat:Int)):=by
 have:=zi s 0 x y;rw[gi]at this;exact this
theorem xH(q:ByteArray)(j:ao q 0=48)(k:ao q 1=120)(r:3<=q.size)(p:q.size<=18)(d:∀i,2<=i->i<q.size->gz (ao q i)=T)(w:Y):
  U R 55 #[O q] w fun e b=>e= S (W #[M N (wrap64 (mJ q 2 (q.size-2):Int)),Br T])/\Z w.heap.size w b:=by
 have f:A2 q.data.toList [48,120]=T:=by rw[A9];simp[j,k]
 have h:∀w,U R 72 #[O q,O ⟨#[48,120]⟩] w fun e b=>e= S (W #[O (xF q 2),Br T])/\b=w:=fun w=>by
  have:=Tryz.strings_CutPrefix q ⟨#[48,120]⟩ w;rw[show(⟨#[48,120]⟩:ByteArray).data.toList=[48,120] from rfl,Lib.trimPrefix,f]at this;exact this
 have a:=fun w=>afk (xF q 2) (by rw[ny];omega) (by rw[ny];omega) (fun i n=>by rw[xG];rw[ny]at n;exact d _ (by omega) (by omega)) w;rw[A8,ny]at a;have l:=zk q 2 (q.size-2) (by omega);simp only[gK]at a;obtain⟨c,g⟩:∃c:Int,(mJ q 2 (q.size-2):Int)=c:=⟨_,rfl⟩;have s:0<=c:=by omega
 have t:c<18446744073709551616:=by omega
 rw[g]at a⊢;clear g l f d;generalize xF q 2=o at h a;go_in;go_wp2_with (first|(go_at_call 72;refine(h _).mono ?_;rintro e b ⟨rfl,rfl⟩)|(go_at_call 73;refine(a _).mono ?_;rintro e b ⟨rfl,m⟩));go_quiet (fail)
 go_wp2;go_ret2;exact⟨rfl,vc m _⟩
def sr(q:ByteArray):Option Int:=match Lib.parseIntB 64 q.data.toList with| .ok a=>X a|_=>A0
theorem xI(q:ByteArray)(s:q.size<=1100000)(k:¬(ao q 0=48/\ao q 1=120))(w:Y)(o:uL w):
  U R 55 #[O q] w fun e a=>(∃x,e= S (W #[M N x,Br (sr q).isSome])/\∀v,sr q=X v->x=v)/\Z w.heap.size w a:=by
 have h:A2 q.data.toList [48,120]=V:=by rw[A9];simpa using k
 have l:∀w,U R 72 #[O q,O ⟨#[48,120]⟩] w fun e a=>e= S (W #[O ⟨q.data.toList.toArray⟩,Br V])/\a=w:=fun w=>by
  have:=Tryz.strings_CutPrefix q ⟨#[48,120]⟩ w;rw[show(⟨#[48,120]⟩:ByteArray).data.toList=[48,120] from rfl,Lib.trimPrefix,h]at this;exact this
 generalize (⟨q.data.toList.toArray⟩:ByteArray)=r at l;obtain⟨⟨z,t,j⟩,⟨A,u,i⟩⟩:=o;unfold sr;cases hp:Lib.parseIntB 64 q.data.toList with
 |ok v=>
  have d:=Tryz.strconv_ParseInt_10_at64_ok q (by omega) v hp w;have f:U R 74 #[O q,M N 10,M N 64] w fun e a=>e= S (W #[M N v,B2])/\Z w.heap.size w a:=d.mono fun e a c=>⟨c.1,by
   rcases c.2 with rfl|⟨y,rfl⟩
   ·exact aq _ _
   ·exact Lib.bytesWorld_below _ _ _⟩
  clear d hp h k j i;go_in;go_wp2_with (first|(go_at_call 72;refine(l _).mono ?_;rintro e a ⟨rfl,rfl⟩)|(go_at_call 74;refine f.mono ?_;rintro e a ⟨rfl,g⟩));go_quiet (fail)
  go_wp2;go_ret2;exact⟨⟨v,rfl,fun _ c=>dr c⟩,vc g _⟩
 | «syntax» =>
  have d:=Tryz.strconv_ParseInt_10_at64_syntax q (by omega) hp _ w j (.inr ⟨_,_,rfl⟩);have f:U R 74 #[O q,M N 10,M N 64] w fun e a=>∃b,e= S (W #[M N 0,.iface 140 (.pointer (X ⟨b,0,A0⟩))])/\Z w.heap.size w a:=d.mono fun e a ⟨b,m,_,_,n⟩=>⟨b,m,n⟩;clear d hp h k j i;go_in;go_wp2_with (first|(go_at_call 72;refine(l _).mono ?_;rintro e a ⟨rfl,rfl⟩)|(go_at_call 74;refine f.mono ?_;rintro e a ⟨b,rfl,g⟩));go_quiet (fail)
  go_wp2;go_ret2;exact⟨⟨0,rfl,fun _ c=>by cases c⟩,vc g _⟩
 |range=>
  have d:=Tryz.strconv_ParseInt_10_at64_range q (by omega) hp _ w i (.inr ⟨_,_,rfl⟩);have f:U R 74 #[O q,M N 10,M N 64] w fun e a=>∃b,e= S (W #[M N (Lib.intSat 64 q.data.toList),.iface 140 (.pointer (X ⟨b,0,A0⟩))])/\Z w.heap.size w a:=d.mono fun e a ⟨b,m,_,_,n⟩=>⟨b,m,n⟩;clear d hp h k j i;generalize Lib.intSat 64 q.data.toList=p at f;go_in;go_wp2_with (first|(go_at_call 72;refine(l _).mono ?_;rintro e a ⟨rfl,rfl⟩)|(go_at_call 74;refine f.mono ?_;rintro e a ⟨b,rfl,g⟩));go_quiet (fail)
  go_wp2;go_ret2;exact⟨⟨p,rfl,fun _ c=>by cases c⟩,vc g _⟩
def stp(a:Option Nat)(c:UInt8):Option Nat:=match a with|none=>A0|some b=>if b*10+(c.toNat-48)<=9223372036854775807 then X (b*10+(c.toNat-48)) else A0
theorem Ba:∀l:List UInt8,l.foldl stp A0=A0
 |[]=>rfl
 |c::r=>Ba r
theorem ac3:∀(l:List UInt8)(a:Nat),(∀c∈l,48<=c.toNat/\c.toNat<=57)->9223372036854775808<=a->Q (2 ^ 64-1) a l= .range\/∃u,Q (2 ^ 64-1) a l= .ok u/\9223372036854775808<=u
 |[],a,_,b=> .inr ⟨a,rfl,b⟩
 |c::r,a,e,b=>by
  have d:=e c (by simp);unfold Q;rw[ab d,ab (by omega)];exact .inl rfl
theorem Ij:∀(l:List UInt8)(a:Nat),(∀c∈l,48<=c.toNat/\c.toNat<=57)->a<=9223372036854775807->(∀u,l.foldl stp (X a)=X u->Q (2 ^ 64-1) a l= .ok u/\u<=9223372036854775807)/\(l.foldl stp (X a)=A0->Q (2 ^ 64-1) a l= .range\/∃u,Q (2 ^ 64-1) a l= .ok u/\9223372036854775808<=u)
 |[],a,_,f=>by
  refine⟨fun u b=>?_,fun n=>by simp at n⟩;simp at b;subst b;exact⟨rfl,f⟩
 |c::r,a,j,f=>by
  have i:=j c (by simp);have k:∀d∈r,48<=d.toNat/\d.toNat<=57:=fun d o=>j d (by simp[o]);rw[ni,show stp (X a) c=if a*10+(c.toNat-48)<=9223372036854775807 then X (a*10+(c.toNat-48)) else A0 from rfl];by_cases e:a*10+(c.toNat-48)<=9223372036854775807
  ·rw[ab e];have p:=Ij r (a*10+(c.toNat-48)) k e;have m:Q (2 ^ 64-1) a (c::r)=Q (2 ^ 64-1) (a*10+(c.toNat-48)) r:=by
    rw[Q,ab i,aa (by omega),aa (by omega)]
   rw[m];exact p
  ·rw[aa e,Ba r];refine⟨fun u b=>(by cases b),fun _=>?_⟩;rw[Q,ab i];by_cases g:1844674407370955162<=a
   ·rw[ab g];exact .inl rfl
   ·rw[aa g];by_cases h:2 ^ 64-1<a*10+(c.toNat-48)
    ·rw[ab h];exact .inl rfl
    ·rw[aa h];exact ac3 r _ k (by omega)
theorem Ik:∀(l:List UInt8)(d:Nat),(∃c∈l,¬(48<=c.toNat/\c.toNat<=57))->∀u,Q (2 ^ 64-1) d l≠ .ok u
 |[],_,a,u=>by obtain⟨c,b,_⟩:=a;simp at b
 |c::g,d,a,u=>by
  rw[Q];by_cases b:48<=c.toNat/\c.toNat<=57
  ·rw[ab b];split
   ·intro a;cases a
   ·split
    ·intro a;cases a
    ·refine Ik g _ ?_ u;obtain⟨f,hd,e⟩:=a;rcases List.mem_cons.1 hd with rfl|hd
     ·exact absurd b e
     ·exact⟨f,hd,e⟩
  ·rw[aa b];intro a;cases a
def kH(s:ByteArray)(p:Nat):Nat->Option Nat
 |0=>X 0
 |n+1=>match kH s p n with|none=>A0|some x=>if x*10+(ao s (p+n)-48).toNat<=9223372036854775807 then X (x*10+(ao s (p+n)-48).toNat) else A0
theorem Bb(s:ByteArray)(p:Nat):∀n,p+n<=s.size->kH s p n=((s.data.toList.drop p).take n).foldl stp (X 0)
 |0,_=>rfl
 |n+1,d=>by
  have a:p+n<s.data.toList.length:=by rw[cJ];exact d
  have b:(s.data.toList.drop p)[n]?=X (s.data.toList[p+n]):=by rw[oG];exact aF a
  have e:ao s (p+n)=((s.data.toList[p+n]).toNat:Int):=((dq s (p+n) _).1 (aF a)).2;rw[iq,b,List.foldl_append,<-Bb s p n (by omega),kH,e];simp only[Ev,ni,List.foldl_nil,stp];have c:(((s.data.toList[p+n]).toNat:Int)-48).toNat=(s.data.toList[p+n]).toNat-48:=by omega
  rw[c]
theorem Dd(s:ByteArray)(p:Nat):∀n u,kH s p n=X u->u<=9223372036854775807
 |0,u,a=>by simp[kH]at a;omega
 |n+1,u,a=>by
  unfold kH at a;split at a
  ·cases a
  ·split at a
   ·rename_i b;cases a;exact b
   ·cases a
theorem Il(q:ByteArray)(a:∀i,i<q.size->aL (ao q i)=T):∀c∈q.data.toList,48<=c.toNat/\c.toNat<=57:=by
 intro c b;obtain⟨i,e,rfl⟩:=List.mem_iff_getElem.1 b;have:=(dq q i _).1 (aF e);have d:=dl (a i this.1);rw[this.2]at d;omega
theorem Bc(q:ByteArray)(a:aL (ao q 0)=T):∃c r,q.data.toList=c::r/\48<=c.toNat/\c.toNat<=57:=by
 have d:=li a;cases hq:q.data.toList with
 |nil=>
  have:q.data.toList.length=q.size:=by rw[cJ];rfl
  rw[hq]at this;simp at this;omega
 |cons c r=>
  refine⟨c,r,rfl,?_⟩;have:=(dq q 0 c).1 (by rw[hq];rfl);have b:=dl a;rw[this.2]at b;omega
theorem EL(c:UInt8)(r:List UInt8)(b:48<=c.toNat)(d:c.toNat<=57):Lib.parseIntB 64 (c::r)=match Q (2 ^ 64-1) 0 (c::r) with| .syntax=> .syntax| .range=> .range| .ok u=>if 9223372036854775808<=u then .range else .ok (u:Int):=by
 simp only[Lib.parseIntB,Lib.parseUintB];rw[aa (show ¬(c.toNat=43\/c.toNat=45) by omega),aa (show ¬(c::r=[]) by simp)];have a:¬c.toNat=45:=by omega
 cases Q (2 ^ 64-1) 0 (c::r) with
 |ok u=>simp[a]
 | «syntax» =>rfl
 |range=>rfl
theorem Be(q:ByteArray)(j:0<q.size)(d:∀i,i<q.size->aL (ao q i)=T):sr q=Option.map (fun u:Nat=>(u:Int)) (kH q 0 q.size):=by
 obtain⟨a,c,m,k,l⟩:=Bc q (d 0 j);have e:=Il q d;have f:=Bb q 0 q.size (by omega);rw[jI,cC (by rw[cJ];exact ag _)]at f;unfold sr;rw[f];rw[m]at e⊢;rw[EL a c k l];have g:=Ij (a::c) 0 e (by omega);cases hx:(a::c).foldl stp (X 0) with
 |some u=>
  obtain⟨h,o⟩:=g.1 u hx;rw[h];simp only[uc];rw[aa (by omega)]
 |none=>
  rcases g.2 hx with b|⟨u,b,n⟩
  ·rw[b];rfl
  ·rw[b];simp only[ab n];rfl
theorem rh(q:ByteArray)(f:aL (ao q 0)=T)(i:Nat)(j:i<q.size)(k:aL (ao q i)=V):sr q=A0:=by
 obtain⟨a,b,l,g,h⟩:=Bc q f;have c:∃a∈q.data.toList,¬(48<=a.toNat/\a.toNat<=57):=by
  have d:i<q.data.toList.length:=by rw[cJ];exact j
  refine⟨q.data.toList[i],lG d,?_⟩;have:=(dq q i _).1 (aF d);have e:¬(48<=ao q i/\ao q i<=57):=by simpa [aL] using k
  rw[this.2]at e;omega
 unfold sr;rw[l]at c⊢;rw[EL a b g h];have:=Ik (a::b) 0 c;cases hx:Q (2 ^ 64-1) 0 (a::b) with
 |ok m=>exact absurd hx (this m)
 | «syntax» =>rfl
 |range=>rfl
def lm(q:ByteArray):Bool:=decide (aL (ao q 0)=T/\bD q 0=(q.size,T)/\¬(ao q 0=48/\ao q 1=120)/\sr q=A0)
theorem Im(s:ByteArray)(p:Nat)(a:p<=s.size):p<=xa s p/\xa s p<=s.size:=jm gz re s _ p a
theorem ve{s:ByteArray}{p e:Nat}(a:ie s p=(e,T)):p<e/\e<=p+16/\e=xa s p/\∀i,p<=i->i<e->gz (ao s i)=T:=by
 unfold ie at a;split at a
 ·cases a
 ·rename_i f;obtain⟨c,b⟩:=qE a;subst c;exact⟨by simpa using b,by omega,rfl,fun i d b=>lh gz s _ p i d b⟩
theorem De{q:ByteArray}(b:0<q.size):(q.toList==[])=V:=by
 have:q.toList.length=q.size:=by rw[eo];simp
 cases hs:q.toList with
 |nil=>rw[hs]at this;simp at this;omega
 |cons a c=>rfl
theorem Bf{q:ByteArray}(a:¬0<q.size):(q.toList==[])=T:=by
 have:q.toList.length=q.size:=by rw[eo];simp
 have:q.toList=[]:=List.length_eq_zero_iff.1 (by omega);rw[this];rfl
theorem xJ{c:Int}{b:Bool}(f:aL c=b)(w:Y):U R 53 #[M .u8 c] w fun e d=>e= S (Br b)/\d=w:=(gh c w).mono fun e d a=>⟨by rw[a.1,f],a.2.symm⟩
theorem Df(s:ByteArray)(b:s.size<=1100000)(a:0<s.size)(w:Y):U R 54 #[O s,M N 0] w fun e c=>e= S (W #[M N ((bD s 0).1:Int),Br (bD s 0).2])/\c=w:=pG s b 0 a w
theorem zl(s:ByteArray)(a:Nat)(b:a<=s.size):a<=(jn s a).1/\(jn s a).1<=s.size:=by
 unfold jn;split
 ·rename_i d;have e:=ba d (by omega);have c:nA2 s a<=s.size/\a<nA2 s a:=by
   unfold nA2;split
   ·rename_i hs;rcases hs with hs|hs
    ·have:=ba hs (by omega);omega
    ·have:=ba hs (by omega);omega
   ·omega
  have:=jo s (nA2 s a) c.1;simp only;omega
 ·exact⟨ag _,b⟩
theorem ss(s:ByteArray)(p:Nat)(a:p<s.size):p<nA0 s p/\nA0 s p<=s.size:=by
 unfold nA0;split
 ·omega
 ·have:=jo s (p+1) (by omega);omega
theorem su(s:ByteArray)(a:Nat)(c:a<=s.size):a<=nA1 s a/\nA1 s a<=s.size:=by
 unfold nA1;split
 ·rename_i b;have:=jo s (a+1) (by have:=li b.2;omega);omega
 ·omega
theorem aau(s:ByteArray)(p:Nat)(a:p<=s.size):p<=(ie s p).1/\(ie s p).1<=s.size:=by
 have:=Im s p a;unfold ie;split
 ·simp only;omega
 ·exact this
theorem pb(s:ByteArray)(p:Nat)(a:p<s.size):p<(bD s p).1/\(bD s p).1<=s.size:=by
 unfold bD;split
 ·rename_i d;have:=ba d.2 (by omega);have:=aau s (p+2) (by omega);omega
 ·have b:=ss s p a;have c:=su s _ b.2;have e:=zl s _ c.2;omega
theorem Bh(q:ByteArray)(v:q.size<=1100000)(w:Y)(A:uL w):U R 20 #[O q] w fun e r=>e= S (Br (lm q))/\Z w.heap.size w r:=by
 by_cases h:0<q.size
 ·have C:=De h;have k:∀w,(Instr.index 9 (O q) (M N 0)).run R w= .ok (M .u8 (ao q 0)) w:=fun w=>ch h w;by_cases f:aL (ao q 0)=T
  ·have b:=fun w=>xJ f w;have d:=fun w=>Df q v h w;have s:=(pb q 0 h).2;by_cases c:(bD q 0).2=T
   ·by_cases i:(bD q 0).1=q.size
    ·have j:bD q 0=(q.size,T):=Prod.ext i c;have H:¬(q.size:Int)<(q.size:Int):=by omega
     rw[j]at d;by_cases g:ao q 0=48/\ao q 1=120
     ·have a:lm q=V:=by unfold lm;simp[g]
      rw[a];have u:ie q 2=(q.size,T):=by rw[<-j];unfold bD;rw[ab g]
      obtain⟨F,G,z,t⟩:=ve u;have l:=fun w=>xH q g.1 g.2 (by omega) (by omega) t w;generalize wrap64 (mJ q 2 (q.size-2):Int)=I at l;clear a u z t j c i g f;generalize ao q 0=m at k b;go_in;go_wp2_with (first|(go_at_call 53;refine dz (b _) ?_)|(go_at_call 54;refine dz (d _) ?_)|(go_at_call 55;refine(l _).mono ?_;rintro e r ⟨rfl,o⟩));go_ret;exact⟨rfl,o⟩
     ·have l:=xI q v g w A;have a:lm q=!(sr q).isSome:=by
       unfold lm;cases hdc:sr q<;>simp[f,j,g]
      rw[a];generalize (sr q).isSome=E at l;clear a j c i g f;generalize ao q 0=m at k b;go_in;go_wp2_with (first|(go_at_call 53;refine dz (b _) ?_)|(go_at_call 54;refine dz (d _) ?_)|(go_at_call 55;refine l.mono ?_;rintro e r ⟨⟨J,rfl,_⟩,o⟩));go_ret;exact⟨rfl,o⟩
    ·have a:lm q=V:=by unfold lm;rw[nc];rintro ⟨_,n,_⟩;rw[n]at i;exact i rfl
     rw[a];have B:((bD q 0).1:Int)<(q.size:Int):=by omega
     rw[c]at d;generalize (bD q 0).1=y at d B;clear a c i f s;generalize ao q 0=m at k b;go_in;go_wp2_with (first|(go_at_call 53;refine dz (b _) ?_)|(go_at_call 54;refine dz (d _) ?_));go_ret;exact⟨rfl,aq _ _⟩
   ·have x:(bD q 0).2=V:=by simpa using c
    have a:lm q=V:=by unfold lm;rw[nc];rintro ⟨_,n,_⟩;rw[n]at c;exact c rfl
    rw[a];rw[x]at d;generalize (bD q 0).1=y at d s;clear a c x f;generalize ao q 0=m at k b;go_in;go_wp2_with (first|(go_at_call 53;refine dz (b _) ?_)|(go_at_call 54;refine dz (d _) ?_));go_ret;exact⟨rfl,aq _ _⟩
  ·have p:aL (ao q 0)=V:=by simpa using f
   have b:=fun w=>xJ p w;have a:lm q=V:=by unfold lm;simp[p]
   rw[a];clear a f p;generalize ao q 0=m at k b;go_in;go_wp2_with (first|(go_at_call 53;refine dz (b _) ?_));go_ret;exact⟨rfl,aq _ _⟩
 ·have C:=Bf h;have a:lm q=V:=by unfold lm;rw[ci h];simp[nw]
  rw[a];clear a;go_in;go_wp2;go_ret;exact⟨rfl,aq _ _⟩
theorem cI{c:Int}{b:Bool}(f:aL c=b)(w:Y):U R 44 #[M .u8 c] w fun e d=>e= S (Br b)/\d=w:=(tm c w).mono fun e d a=>⟨by rw[a.1,f],a.2.symm⟩
theorem eC(s:ByteArray)(f:s.size<=1100000)(a:Int)(i:Nat)(d:a=(i:Int))(w:Y):U R 41 #[O s,M N a] w fun e c=>e= S (M .u8 (lk s i))/\c=w:=by
 subst d;exact(uC s f i w).mono fun e c b=>⟨b.1,b.2.symm⟩
theorem sw(c:Int)(i:0<=c)(j:c<256)(w:Y):U R 67 #[M .u8 c] w fun e h=>e= S (M N (dE c))/\h=w:=by
 unfold dE;by_cases a:aL c=T
 ·have b:=fun w=>cI a w;have d:=dl a;rw[ab d];clear a;go_in;go_wp2_with (first|(go_at_call 44;refine dz (b _) ?_));go_ret;exact⟨rfl,rfl⟩
 ·have f:aL c=V:=by simpa using a
  have b:=fun w=>cI f w;have d:¬(48<=c/\c<=57):=by simpa [aL] using f
  rw[aa d];clear a f d;rcases(show(97<=c/\c<=102)\/¬97<=c\/(97<=c/\¬c<=102) by omega) with⟨g1,g⟩|g1|⟨g1,g⟩
  ·rw[ab ⟨g1,g⟩];go_in;go_wp2_with (first|(go_at_call 44;refine dz (b _) ?_));go_ret;exact⟨by simp;omega,rfl⟩
  ·rw[aa (by omega)];go_in;go_wp2_with (first|(go_at_call 44;refine dz (b _) ?_));go_ret;exact⟨rfl,rfl⟩
  ·rw[aa (by omega)];go_in;go_wp2_with (first|(go_at_call 44;refine dz (b _) ?_));go_ret;exact⟨rfl,rfl⟩
theorem E2(s:ByteArray)(i:Nat):dE (lk s i)=dE (ao s i):=by
 unfold lk;split
 ·rfl
 ·rename_i a;rw[ci a];decide
theorem nA{s:ByteArray}{i:Nat}(a:i<s.size):lk s i=ao s i:=by unfold lk;rw[ab a]
def qF(s:ByteArray)(p:Nat):Value:=if(ie s (p+2)).2=T then B1 #[M N 2,M N p,M N ((ie s (p+2)).1:Int),M N 0,M N (wrap64 (mJ s (p+2) ((ie s (p+2)).1-(p+2)):Int)),O ⟨#[]⟩] else B1 #[M N 2,M N p,M N 0,M N 0,M N 0,O ⟨#[]⟩]
def hxF(s:ByteArray)(p:Nat):Int:=if(ie s (p+2)).2=T then -1 else((ie s (p+2)).1:Int)
theorem Bi(s:ByteArray)(a9:s.size<=1100000)(p:Nat)(bd:p+2<=s.size)(w:Y):U R 66 #[O s,B1 #[M N 2,M N p,M N 0,M N 0,M N 0,O ⟨#[]⟩]] w fun e bo=>e= S (W #[qF s p,M N (hxF s p)])/\Z w.heap.size w bo:=by
 obtain⟨bp,l⟩:=aD (qF s p);obtain⟨an,hF⟩:=aD (hxF s p);rw[l,hF];unfold qF at l;unfold hxF at hF;unfold ie at l hF;obtain⟨H,t⟩:=aD (xa s (p+2));rw[t]at l hF;unfold xa at t;have x:=ar t;have m:=ar l;have n:=ar hF;clear t l hF;have ak:cA w.heap.size ((w.alloc (Ax #[M N 2,M N p,M N 0,M N 0,M N 0,O ⟨#[]⟩] 29)).alloc (Ax #[M N 0,M N 0,M N 0,M N 0,M N 0,O ⟨#[]⟩] 29)) 2 p 0 0 0 ⟨#[]⟩:=(cg _ _ _ (by simp)).trans (ax w _);have y:cA (w.heap.size+1) ((w.alloc (Ax #[M N 2,M N p,M N 0,M N 0,M N 0,O ⟨#[]⟩] 29)).alloc (Ax #[M N 0,M N 0,M N 0,M N 0,M N 0,O ⟨#[]⟩] 29)) 0 0 0 0 0 ⟨#[]⟩:=by
  have:=ax (w.alloc (Ax #[M N 2,M N p,M N 0,M N 0,M N 0,O ⟨#[]⟩] 29)) (Ax #[M N 0,M N 0,M N 0,M N 0,M N 0,O ⟨#[]⟩] 29);rw[dI]at this;exact this
 have r:Z w.heap.size w ((w.alloc (Ax #[M N 2,M N p,M N 0,M N 0,M N 0,O ⟨#[]⟩] 29)).alloc (Ax #[M N 0,M N 0,M N 0,M N 0,M N 0,O ⟨#[]⟩] 29)):=(((aq _ w).alloc (ag _) _).alloc (by simp) _);go_in;go_wp2_with fail;generalize (w.alloc (Ax #[M N 2,M N p,M N 0,M N 0,M N 0,O ⟨#[]⟩] 29)).alloc (Ax #[M N 0,M N 0,M N 0,M N 0,M N 0,O ⟨#[]⟩] 29)=av at ak y r;have bE:w.heap.size+1<av.heap.size:=au y;obtain⟨b0,b1,b2,b3,b4,b5,b6⟩:=aE ak;obtain⟨z0,A,B,C,E,F,b7⟩:=aE y;go_loop [6,7] (fun z bn=>∃(a h:Nat) (d:Int),p+2<=a/\a<=p+18/\a<=s.size/\s.size<a+h/\z= M N a/\bn= M .u64 d/\Hid (eH gz s h a=H)/\Hid (d=(mJ s (p+2) (a-(p+2)):Int))) (fun z _=>s.size-(B0 z).toNat)
 case atStart=>exact⟨p+2,s.size+1,0,by omega,by omega,bd,by omega,by simp,rfl,x,by show(0:Int)=_;rw[fC];rfl⟩
 case round=>
  obtain⟨a,h,d,bx,bw,bt,bs,rfl,rfl,u,g⟩:=hrel;obtain⟨h,rfl⟩:∃a6,h=a6+1:=⟨h-1,by omega⟩;have j:=u.out;unfold eH at j;have k:=fun w=>eC s a9 (a:Int) a rfl w;have f:=fun w=>sw (lk s a) (EG s a).1 (EG s a).2 w;rw[E2]at f;by_cases i:gz (ao s a)=T
  ·have al:a<s.size:=Da re i;have bl:=fun w=>ch al w;rw[nA al]at k f;rw[ab i]at j;have a7:=(jm gz re s h (a+1) (by omega)).1;rw[j]at a7;have ap:=ar j;have bf:0<=dE (ao s a):=by simpa [gz] using i
   have bj:=jl (ao s a);have af:a≠p+18->mJ s (p+2) (a-(p+2))<1152921504606846976:=fun J=>Dc s (p+2) _ (by omega);have G:Hid (d*16+dE (ao s a)=(mJ s (p+2) (a+1-(p+2)):Int)):=by
    show _=_;rw[show a+1-(p+2)=(a-(p+2))+1 by omega,mJ,show p+2+(a-(p+2))=a by omega,g.out];omega
   have a2:0<=d:=by rw[g.out];omega
   have q:a≠p+18->d<1152921504606846976:=fun J=>by have:=af J;rw[g.out];omega
   generalize dE (ao s a)=I at f bf bj G;generalize ao s a=a3 at k f bl;clear j i af;by_cases K:a=p+18
   ·have b:=m.out;have c:=n.out;simp only[ab (show p+2+16<H by omega)]at b c;simp at b c;subst b;have a8:an=(a:Int):=by omega
    clear c;subst a8;have a4:((a:Int)-(p:Int)==18)=T:=by rw[jj];omega
    clear m n K q;go_wp2_with (first|(go_at_call 41;refine dz (k _) ?_)|(go_at_call 67;refine dz (f _) ?_));refine bg (v:= W #[B1 #[M N 2,M N p,M N 0,M N 0,M N 0,O ⟨#[]⟩],M N (a:Int)]) (by simp[results,Tryz.results66,go_sem,z0,A,B,C,E,F]) rfl ⟨rfl,?_⟩
    iterate 6 refine dK ?_ (by simp) _
    exact r
   ·have a4:((a:Int)-(p:Int)==18)=V:=by rw[aC];omega
    have br:=q K;clear q;go_wp2_with (first|(go_at_call 41;refine dz (k _) ?_)|(go_at_call 67;refine dz (f _) ?_));go_round
    case rel=>exact⟨a+1,h,d*16+I,by omega,by omega,by omega,by omega,by go_num,by first|rfl|(congr 1;omega),ap,G⟩
    case measure=>simp[B0];omega
  ·have am:dE (ao s a)<0:=by
    have:¬0<=dE (ao s a):=by simpa [gz] using i
    omega
   rw[aa i]at j;subst j;have bb:¬(0:Int)<=dE (ao s a):=by omega
   have a2:0<=d:=by rw[g.out];omega
   have q:d<18446744073709551616:=by rw[g.out];have:=zk s (p+2) (a-(p+2)) (by omega);omega
   generalize dE (ao s a)=I at f bb;generalize lk s a=a3 at k f;have b:=m.out;have c:=n.out;simp only[aa (show ¬p+2+16<a by omega)]at b c;by_cases L:a=p+2
   ·have o:decide (p+2<a)=V:=by rw[nc];omega
    simp only[o]at b c;simp at b c;subst b c;have a5:((a:Int)==(p:Int)+2)=T:=by rw[jj];omega
    clear m n i am L o g u x;go_wp2_with (first|(go_at_call 41;refine dz (k _) ?_)|(go_at_call 67;refine dz (f _) ?_));refine bg (v:= W #[B1 #[M N 2,M N p,M N 0,M N 0,M N 0,O ⟨#[]⟩],M N (a:Int)]) (by simp[results,Tryz.results66,go_sem,z0,A,B,C,E,F]) rfl ⟨rfl,?_⟩
    iterate 6 refine dK ?_ (by simp) _
    exact r
   ·have o:decide (p+2<a)=T:=by rw[jH];omega
    simp only[o]at b c;simp only[gJ]at b c;rw[<-g.out]at b;subst b c;have a5:((a:Int)==(p:Int)+2)=V:=by rw[aC];omega
    clear m n i am L o g u x;go_wp2_with (first|(go_at_call 41;refine dz (k _) ?_)|(go_at_call 67;refine dz (f _) ?_));refine bg (v:= W #[B1 #[M N 2,M N p,M N (a:Int),M N 0,M N (wrap64 d),O ⟨#[]⟩],M N (-1)]) (by simp[results,Tryz.results66,go_sem,z0,A,B,C,E,F]) rfl ⟨rfl,?_⟩
    iterate 8 refine dK ?_ (by simp) _
    exact r
