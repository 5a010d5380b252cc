import Derived.Test.YtnoojdbdapljoaaGreatDoorHOk05
set_option linter.all false
set_option maxRecDepth 100000
set_option maxHeartbeats 3200000
open Go.Value renaming int->M,string->O,tuple->W,bool->A2,agg->A4,nilIface->A5
open Go.IntKind renaming i64->N
open Go.Lib renaming parseUintM->Q,hasPrefix->A1
open Go.Proofs.Tryz renaming prog->R
open Go.Ending renaming returned->S
open Bool renaming true->T,false->V
open Go renaming Calls->U,World->Y
open Option renaming some->X,none->A0
open Go.RowKit renaming Below->Z,intOf->A3
open Go.Obj renaming cells->Ax
namespace Go.Proofs.YtnoojdbdapljoaaGreatDoor
open Go.RowKit Go.Maps Go.WideMaps
def vy(s:ByteArray)(p:Nat):Nat->Nat
 |0=>0
 |n+1=>vy s p n*16+(iy (aK s (p+n))).toNat
theorem GL(s:ByteArray)(p:Nat):∀n,vy s p n<16 ^ n
 |0=>by simp[vy]
 |n+1=>by
  have h:=GL s p n;have b:=ry (aK s (p+n));have a:16 ^ (n+1)=16 ^ n*16:=Nat.pow_succ 16 n;unfold vy;omega
theorem aa4(s:ByteArray)(p n:Nat)(h:n<=15):vy s p n<1152921504606846976:=by
 have a:=GL s p n;have b:16 ^ n<=16 ^ 15:=Nat.pow_le_pow_right (by omega) h;have c:16 ^ 15=1152921504606846976:=by decide
 omega
theorem G0(s:ByteArray)(p n:Nat)(h:n<=16):vy s p n<18446744073709551616:=by
 have a:=GL s p n;have b:16 ^ n<=16 ^ 16:=Nat.pow_le_pow_right (by omega) h;have c:16 ^ 16=18446744073709551616:=by decide
 omega
theorem aeK(c:Int)(a:97<=c)(b:c<=102):bits .or .u8 c 32=c:=by
 rcases(show c=97\/c=98\/c=99\/c=100\/c=101\/c=102 by omega) with rfl|rfl|rfl|rfl|rfl|rfl<;>decide+kernel
theorem aa5(s:ByteArray)(j:Nat)(h:j<s.size):((s.data.toList.getD j 0).toNat:Int)=aK s j:=by
 have:s.data.toList[j]?=X s[j]:=by
  rw[rk];exact yh h
 rw[List.getD,this];unfold aK;rw[oe h];rfl
theorem aku(t:ByteArray)(v:1<=t.size)(an:t.size<=16)(y:∀i,i<t.size->lI (aK t i)=T)(w:Y):
  U R 207 #[.string t,.int .i64 16,.int .i64 64] w fun e q=>e= .returned (.tuple #[.int .u64 (vy t 0 t.size:Int),.nilIface])/\q=Lib.bytesWorld w 5 t:=by
 have ao:t.toList.isEmpty=V:=by
  rw[<-decide_eq_emptyBytes];exact aD (fun E=>by rw[E]at v;simp at v)
 have H:=Lib.run_convert_string_bytes (P:=R) w 9 22 5 t (u:= .string) Tryz.underlying9 Tryz.underlying22 Tryz.underlying5;have j:∀f,f<t.size->(Lib.bytesWorld w 5 t).cell? ⟨w.heap.size,f,A0⟩=X (.int .u8 (aK t f)):=fun f z=>by rw[Lib.bytesWorld_cell w 5 t f z,aa5 t f z]
 obtain⟨s,x⟩:∃s,s=Lib.bytesWorld w 5 t:=⟨_,rfl⟩;rw[<-x]at H j⊢;clear x;have ar:IntKind.u64.wrap (IntKind.u64.wrap 18446744073709551616-1)=18446744073709551615:=by
  rw[IntKind.wrap_u64,IntKind.wrap_u64];decide
 obtain⟨n,o⟩:∃n:Int,(vy t 0 t.size:Int)=n:=⟨_,rfl⟩;rw[o];have r:=aq o;clear o;go_in;go_wp2;go_loop [12,13,101] (fun ad L p=>∃(a:Nat) (b:Int),ad= .bool V/\L= .int .u64 b/\p= .int .i64 a/\a<=t.size/\Hid (b=(vy t 0 a:Int))) (fun _ _ p=>t.size-(A3 p).toNat)
 case atStart=>exact⟨0,0,rfl,rfl,rfl,by omega,rfl⟩
 case round=>
  obtain⟨a,b,rfl,rfl,rfl,ap,d⟩:=hrel;by_cases A:a<t.size
  ·have G:=j a A;have C:=(qx _).1 (y a A);have F:=aa4 t 0 a (by omega);have af:0<=b:=by rw[d.out];omega
   have ak:b<1152921504606846976:=by rw[d.out];omega
   have g:Hid (∀h:Int,iy (aK t a)=h->0<=h->b*16+h=(vy t 0 (a+1):Int)):=fun h I am=>by
    show _=((vy t 0 a*16+(iy (aK t (0+a))).toNat:Nat):Int);rw[od,I,d.out];omega
   generalize aK t a=c at G C g;clear j F d y;rcases C with⟨k,l⟩|⟨k,l⟩
   ·have m:Hid (b*16+(c-48)=(vy t 0 (a+1):Int)):=g.out (c-48) (by unfold iy;rw[ab ⟨k,l⟩]) (by omega);clear g;go_wp2;refine⟨⟨a+1,b*16+(c-48),rfl,(by first|rfl|(congr 1;omega)),(by first|rfl|(congr 1;omega)),by omega,m⟩,by simp[A3];omega⟩
   ·have m:Hid (b*16+(c-87)=(vy t 0 (a+1):Int)):=g.out (c-87) (by unfold iy;rw[aa (by omega),ab ⟨k,l⟩]) (by omega);clear g;have B:=aeK c k l;have K:∀w,U R 212 #[.int .u8 c] w fun e q=>e= .returned (.int .u8 c)/\q=w:=fun w=>by
     have:=Tryz.internal_strconv_lower c w;rw[B]at this;exact this
    clear B;go_wp2_with (go_at_call 212;refine ee (K _) ?_);refine⟨⟨a+1,b*16+(c-87),rfl,(by first|rfl|(congr 1;omega)),(by first|rfl|(congr 1;omega)),by omega,m⟩,by simp[A3];omega⟩
  ·obtain rfl:a=t.size:=by omega
   have J:b=n:=by rw[<-r.out,d.out]
   subst J;clear j d r;go_wp2;go_ret2;exact⟨rfl,rfl⟩
structure nI (w:Y):Prop where
 syn:∃te pe,w.cell? ⟨7,0,A0⟩=X (.iface te pe)
 rng:∃te pe,w.cell? ⟨8,0,A0⟩=X (.iface te pe)
theorem gF{b:Nat}{w c:Y}(h:Z b w c){a:Addr}(d:a.block<b):c.cell? a=w.cell? a:=by
 unfold World.cell?;rw[h.block _ d]
theorem sG{b:Nat}{a w:Y}(h:Z b a w)(n:Nat):Z b a (w.drewN n):=⟨h.os,h.tape,h.output,h.size,h.block⟩
theorem nI.below{w f:Y}{a:Nat}(h:nI w)(e:Z a w f)(d:w.heap.size<=a):nI f:=by
 obtain⟨⟨k,j,b⟩,⟨l,p2,c⟩⟩:=h;have g:=Ct w _ b;have i:=Ct w _ c;exact⟨⟨k,j,(gF e (gh g d)).trans b⟩,⟨l,p2,(gF e (gh i d)).trans c⟩⟩
theorem CK(s:ByteArray)(i:Nat):aK s i=match s.data.toList[i]? with|some b=>(b.toNat:Int)|none=> -1:=by
 cases h:s.data.toList[i]? with
 |some b=>exact((jy s i b).1 h).2
 |none=>
  refine er fun a=>?_;have:s.data.toList[i]?=X s[i]:=by rw[rk];exact yh a
  rw[this]at h;cases h
def BC(s:ByteArray)(n:Nat):ByteArray:=⟨(s.data.toList.drop n).toArray⟩
theorem pC(s:ByteArray)(n:Nat):(BC s n).size=s.size-n:=by
 show(s.data.toList.drop n).toArray.size=_;rw[ip,gJ,iq];rfl
theorem BD(s:ByteArray)(n i:Nat):aK (BC s n) i=aK s (n+i):=by
 rw[CK,CK];show(match (s.data.toList.drop n).toArray.toList[i]? with|some a=>(a.toNat:Int)|none=> -1)=_;rw[List.toList_toArray,px]
theorem Et(s:ByteArray)(a p:Nat):∀n,vy (BC s a) p n=vy s (a+p) n
 |0=>rfl
 |n+1=>by
  unfold vy;rw[Et s a p n,BD,Nat.add_assoc]
theorem ajs(t:ByteArray)(d:1<=t.size)(a:t.size<=16)(f:∀i,i<t.size->lI (aK t i)=T)(w:Y):
  U R 201 #[O t,M N 16,M N 64] w fun e c=>e= S (W #[M .u64 (vy t 0 t.size:Int),A5])/\Z w.heap.size w c:=by
 have b:=fun w=>aku t d a f w;have g:=G0 t 0 t.size a;generalize (vy t 0 t.size:Int)=h at b;go_in;go_wp2_with (go_at_call 207;refine(b _).mono ?_;rintro e c ⟨rfl,rfl⟩);go_ret2;exact⟨rfl,Lib.bytesWorld_below _ _ _⟩
theorem Eu(s:ByteArray)(x y:UInt8):A1 s.data.toList [x,y]=decide (aK s 0=(x.toNat:Int)/\aK s 1=(y.toNat:Int)):=by
 have:=I3 s 0 x y;rw[wy]at this;exact this
theorem Kv(q:ByteArray)(j:aK q 0=48)(k:aK q 1=120)(r:3<=q.size)(p:q.size<=18)(d:∀i,2<=i->i<q.size->lI (aK q i)=T)(w:Y):
  U R 185 #[O q] w fun e b=>e= S (W #[M N (wrap64 (vy q 2 (q.size-2):Int)),A2 T])/\Z w.heap.size w b:=by
 have f:A1 q.data.toList [48,120]=T:=by rw[Eu];simp[j,k]
 have h:∀w,U R 200 #[O q,O ⟨#[48,120]⟩] w fun e b=>e= S (W #[O (BC q 2),A2 T])/\b=w:=fun w=>by
  have:=Tryz.strings_CutPrefix q ⟨#[48,120]⟩ w;rw[show(⟨#[48,120]⟩:ByteArray).data.toList=[48,120] from rfl,Lib.trimPrefix,f]at this;exact this
 have a:=fun w=>ajs (BC q 2) (by rw[pC];omega) (by rw[pC];omega) (fun i n=>by rw[BD];rw[pC]at n;exact d _ (by omega) (by omega)) w;rw[Et,pC]at a;have l:=G0 q 2 (q.size-2) (by omega);simp only[Nat.add_zero]at a;obtain⟨c,g⟩:∃c:Int,(vy q 2 (q.size-2):Int)=c:=⟨_,rfl⟩;have s:0<=c:=by omega
 have t:c<18446744073709551616:=by omega
 rw[g]at a⊢;clear g l f d;generalize BC q 2=o at h a;go_in;go_wp2_with (first|(go_at_call 200;refine(h _).mono ?_;rintro e b ⟨rfl,rfl⟩)|(go_at_call 201;refine(a _).mono ?_;rintro e b ⟨rfl,m⟩));go_quiet (fail)
 go_wp2;go_ret2;exact⟨rfl,sG m _⟩
def xh(q:ByteArray):Option Int:=match Lib.parseIntB 64 q.data.toList with| .ok a=>X a|_=>A0
theorem Kx(q:ByteArray)(s:q.size<=1100000)(k:¬(aK q 0=48/\aK q 1=120))(w:Y)(o:nI w):
  U R 185 #[O q] w fun e a=>(∃x,e= S (W #[M N x,A2 (xh q).isSome])/\∀v,xh q=X v->x=v)/\Z w.heap.size w a:=by
 have h:A1 q.data.toList [48,120]=V:=by rw[Eu];simpa using k
 have l:∀w,U R 200 #[O q,O ⟨#[48,120]⟩] w fun e a=>e= S (W #[O ⟨q.data.toList.toArray⟩,A2 V])/\a=w:=fun w=>by
  have:=Tryz.strings_CutPrefix q ⟨#[48,120]⟩ w;rw[show(⟨#[48,120]⟩:ByteArray).data.toList=[48,120] from rfl,Lib.trimPrefix,h]at this;exact this
 generalize (⟨q.data.toList.toArray⟩:ByteArray)=r at l;obtain⟨⟨z,t,j⟩,⟨A,u,i⟩⟩:=o;unfold xh;cases hp:Lib.parseIntB 64 q.data.toList with
 |ok v=>
  have d:=Tryz.strconv_ParseInt_10_at64_ok q (by omega) v hp w;have f:U R 202 #[O q,M N 10,M N 64] w fun e a=>e= S (W #[M N v,A5])/\Z w.heap.size w a:=d.mono fun e a c=>⟨c.1,by
   rcases c.2 with rfl|⟨y,rfl⟩
   ·exact aj _ _
   ·exact Lib.bytesWorld_below _ _ _⟩
  clear d hp h k j i;go_in;go_wp2_with (first|(go_at_call 200;refine(l _).mono ?_;rintro e a ⟨rfl,rfl⟩)|(go_at_call 202;refine f.mono ?_;rintro e a ⟨rfl,g⟩));go_quiet (fail)
  go_wp2;go_ret2;exact⟨⟨v,rfl,fun _ c=>db c⟩,sG g _⟩
 | «syntax» =>
  have d:=Tryz.strconv_ParseInt_10_at64_syntax q (by omega) hp _ w j (.inr ⟨_,_,rfl⟩);have f:U R 202 #[O q,M N 10,M N 64] w fun e a=>∃b,e= S (W #[M N 0,.iface 254 (.pointer (X ⟨b,0,A0⟩))])/\Z w.heap.size w a:=d.mono fun e a ⟨b,m,_,_,n⟩=>⟨b,m,n⟩;clear d hp h k j i;go_in;go_wp2_with (first|(go_at_call 200;refine(l _).mono ?_;rintro e a ⟨rfl,rfl⟩)|(go_at_call 202;refine f.mono ?_;rintro e a ⟨b,rfl,g⟩));go_quiet (fail)
  go_wp2;go_ret2;exact⟨⟨0,rfl,fun _ c=>by cases c⟩,sG g _⟩
 |range=>
  have d:=Tryz.strconv_ParseInt_10_at64_range q (by omega) hp _ w i (.inr ⟨_,_,rfl⟩);have f:U R 202 #[O q,M N 10,M N 64] w fun e a=>∃b,e= S (W #[M N (Lib.intSat 64 q.data.toList),.iface 254 (.pointer (X ⟨b,0,A0⟩))])/\Z w.heap.size w a:=d.mono fun e a ⟨b,m,_,_,n⟩=>⟨b,m,n⟩;clear d hp h k j i;generalize Lib.intSat 64 q.data.toList=p at f;go_in;go_wp2_with (first|(go_at_call 200;refine(l _).mono ?_;rintro e a ⟨rfl,rfl⟩)|(go_at_call 202;refine f.mono ?_;rintro e a ⟨b,rfl,g⟩));go_quiet (fail)
  go_wp2;go_ret2;exact⟨⟨p,rfl,fun _ c=>by cases c⟩,sG g _⟩
def stp(a:Option Nat)(c:UInt8):Option Nat:=match a with|none=>A0|some b=>if b*10+(c.toNat-48)<=9223372036854775807 then X (b*10+(c.toNat-48)) else A0
theorem Ev:∀a:List UInt8,a.foldl stp A0=A0
 |[]=>rfl
 |c::r=>Ev r
theorem ahz:∀(b:List UInt8)(a:Nat),(∀c∈b,48<=c.toNat/\c.toNat<=57)->9223372036854775808<=a->Q (2 ^ 64-1) a b= .range\/∃u,Q (2 ^ 64-1) a b= .ok u/\9223372036854775808<=u
 |[],a,_,h=> .inr ⟨a,rfl,h⟩
 |c::r,a,e,h=>by
  have d:=e c (by simp);unfold Q;rw[ab d,ab (by omega)];exact .inl rfl
theorem aa6:∀(b:List UInt8)(a:Nat),(∀c∈b,48<=c.toNat/\c.toNat<=57)->a<=9223372036854775807->(∀u,b.foldl stp (X a)=X u->Q (2 ^ 64-1) a b= .ok u/\u<=9223372036854775807)/\(b.foldl stp (X a)=A0->Q (2 ^ 64-1) a b= .range\/∃u,Q (2 ^ 64-1) a b= .ok u/\9223372036854775808<=u)
 |[],a,_,h=>by
  refine⟨fun u d=>?_,fun n=>by simp at n⟩;simp at d;subst d;exact⟨rfl,h⟩
 |c::r,a,k,h=>by
  have j:=k c (by simp);have l:∀e∈r,48<=e.toNat/\e.toNat<=57:=fun e o=>k e (by simp[o]);rw[rx,show stp (X a) c=if a*10+(c.toNat-48)<=9223372036854775807 then X (a*10+(c.toNat-48)) else A0 from rfl];by_cases f:a*10+(c.toNat-48)<=9223372036854775807
  ·rw[ab f];have p:=aa6 r (a*10+(c.toNat-48)) l f;have m:Q (2 ^ 64-1) a (c::r)=Q (2 ^ 64-1) (a*10+(c.toNat-48)) r:=by
    rw[Q,ab j,aa (by omega),aa (by omega)]
   rw[m];exact p
  ·rw[aa f,Ev r];refine⟨fun u d=>(by cases d),fun _=>?_⟩;rw[Q,ab j];by_cases g:1844674407370955162<=a
   ·rw[ab g];exact .inl rfl
   ·rw[aa g];by_cases i:2 ^ 64-1<a*10+(c.toNat-48)
    ·rw[ab i];exact .inl rfl
    ·rw[aa i];exact ahz r _ l (by omega)
theorem aa7:∀(e:List UInt8)(b:Nat),(∃c∈e,¬(48<=c.toNat/\c.toNat<=57))->∀u,Q (2 ^ 64-1) b e≠ .ok u
 |[],_,h,u=>by obtain⟨c,a,_⟩:=h;simp at a
 |c::g,b,h,u=>by
  rw[Q];by_cases a:48<=c.toNat/\c.toNat<=57
  ·rw[ab a];split
   ·intro h;cases h
   ·split
    ·intro h;cases h
    ·refine aa7 g _ ?_ u;obtain⟨f,hd,d⟩:=h;rcases List.mem_cons.1 hd with rfl|hd
     ·exact absurd a d
     ·exact⟨f,hd,d⟩
  ·rw[aa a];intro h;cases h
def xi(s:ByteArray)(p:Nat):Nat->Option Nat
 |0=>X 0
 |n+1=>match xi s p n with|none=>A0|some x=>if x*10+(aK s (p+n)-48).toNat<=9223372036854775807 then X (x*10+(aK s (p+n)-48).toNat) else A0
theorem Ew(s:ByteArray)(p:Nat):∀n,p+n<=s.size->xi s p n=((s.data.toList.drop p).take n).foldl stp (X 0)
 |0,_=>rfl
 |n+1,h=>by
  have a:p+n<s.data.toList.length:=by rw[iq];exact h
  have b:(s.data.toList.drop p)[n]?=X (s.data.toList[p+n]):=by rw[px];exact aI a
  have d:aK s (p+n)=((s.data.toList[p+n]).toNat:Int):=((jy s (p+n) _).1 (aI a)).2;rw[dG,b,List.foldl_append,<-Ew s p n (by omega),xi,d];simp only[CA,rx,List.foldl_nil,stp];have c:(((s.data.toList[p+n]).toNat:Int)-48).toNat=(s.data.toList[p+n]).toNat-48:=by omega
  rw[c]
theorem aa8(s:ByteArray)(p:Nat):∀n u,xi s p n=X u->u<=9223372036854775807
 |0,u,h=>by simp[xi]at h;omega
 |n+1,u,h=>by
  unfold xi at h;split at h
  ·cases h
  ·split at h
   ·rename_i a;cases h;exact a
   ·cases h
theorem aa9(q:ByteArray)(h:∀i,i<q.size->dl (aK q i)=T):∀c∈q.data.toList,48<=c.toNat/\c.toNat<=57:=by
 intro c a;obtain⟨i,d,rfl⟩:=List.mem_iff_getElem.1 a;have:=(jy q i _).1 (aI d);have b:=mC (h i this.1);rw[this.2]at b;omega
theorem Ey(q:ByteArray)(a:dl (aK q 0)=T):∃c r,q.data.toList=c::r/\48<=c.toNat/\c.toNat<=57:=by
 have d:=pA a;cases hq:q.data.toList with
 |nil=>
  have:q.data.toList.length=q.size:=by rw[iq];rfl
  rw[hq]at this;simp at this;omega
 |cons c r=>
  refine⟨c,r,rfl,?_⟩;have:=(jy q 0 c).1 (by rw[hq];rfl);have b:=mC a;rw[this.2]at b;omega
theorem I4(c:UInt8)(r:List UInt8)(b:48<=c.toNat)(d:c.toNat<=57):Lib.parseIntB 64 (c::r)=match Q (2 ^ 64-1) 0 (c::r) with| .syntax=> .syntax| .range=> .range| .ok u=>if 9223372036854775808<=u then .range else .ok (u:Int):=by
 simp only[Lib.parseIntB,Lib.parseUintB];rw[aa (show ¬(c.toNat=43\/c.toNat=45) by omega),aa (show ¬(c::r=[]) by simp)];have a:¬c.toNat=45:=by omega
 cases Q (2 ^ 64-1) 0 (c::r) with
 |ok u=>simp[a]
 | «syntax» =>rfl
 |range=>rfl
theorem aba(q:ByteArray)(j:0<q.size)(h:∀i,i<q.size->dl (aK q i)=T):xh q=Option.map (fun u:Nat=>(u:Int)) (xi q 0 q.size):=by
 obtain⟨a,c,m,k,l⟩:=Ey q (h 0 j);have d:=aa9 q h;have e:=Ew q 0 q.size (by omega);rw[jl,cw (by rw[iq];exact ah _)]at e;unfold xh;rw[e];rw[m]at d⊢;rw[I4 a c k l];have f:=aa6 (a::c) 0 d (by omega);cases hx:(a::c).foldl stp (X 0) with
 |some u=>
  obtain⟨g,o⟩:=f.1 u hx;rw[g];simp only[ym];rw[aa (by omega)]
 |none=>
  rcases f.2 hx with b|⟨u,b,n⟩
  ·rw[b];rfl
  ·rw[b];simp only[ab n];rfl
theorem Ez(q:ByteArray)(f:dl (aK q 0)=T)(i:Nat)(j:i<q.size)(k:dl (aK q i)=V):xh q=A0:=by
 obtain⟨a,b,l,g,h⟩:=Ey q f;have c:∃a∈q.data.toList,¬(48<=a.toNat/\a.toNat<=57):=by
  have d:i<q.data.toList.length:=by rw[iq];exact j
  refine⟨q.data.toList[i],yv d,?_⟩;have:=(jy q i _).1 (aI d);have e:¬(48<=aK q i/\aK q i<=57):=by simpa [dl] using k
  rw[this.2]at e;omega
 unfold xh;rw[l]at c⊢;rw[I4 a b g h];have:=aa7 (a::b) 0 c;cases hx:Q (2 ^ 64-1) 0 (a::b) with
 |ok m=>exact absurd hx (this m)
 | «syntax» =>rfl
 |range=>rfl
def oB(q:ByteArray):Bool:=decide (dl (aK q 0)=T/\fC q 0=(q.size,T)/\¬(aK q 0=48/\aK q 1=120)/\xh q=A0)
theorem ahA(s:ByteArray)(p:Nat)(h:p<=s.size):p<=hxE s p/\hxE s p<=s.size:=og lI yB s _ p h
theorem abb{s:ByteArray}{p e:Nat}(h:mu s p=(e,T)):p<e/\e<=p+16/\e=hxE s p/\∀i,p<=i->i<e->lI (aK s i)=T:=by
 unfold mu at h;split at h
 ·cases h
 ·rename_i d;obtain⟨b,a⟩:=tE h;subst b;exact⟨by simpa using a,by omega,rfl,fun i c a=>zj lI s _ p i c a⟩
theorem G1{q:ByteArray}(b:0<q.size):(q.toList==[])=V:=by
 have:q.toList.length=q.size:=by rw[gH];simp
 cases hs:q.toList with
 |nil=>rw[hs]at this;simp at this;omega
 |cons a c=>rfl
theorem EA{q:ByteArray}(a:¬0<q.size):(q.toList==[])=T:=by
 have:q.toList.length=q.size:=by rw[gH];simp
 have:q.toList=[]:=List.length_eq_zero_iff.1 (by omega);rw[this];rfl
theorem BE{c:Int}{b:Bool}(h:dl c=b)(w:Y):U R 183 #[M .u8 c] w fun e d=>e= S (A2 b)/\d=w:=(lq c w).mono fun e d a=>⟨by rw[a.1,h],a.2.symm⟩
theorem G2(s:ByteArray)(b:s.size<=1100000)(a:0<s.size)(w:Y):U R 184 #[O s,M N 0] w fun e c=>e= S (W #[M N ((fC s 0).1:Int),A2 (fC s 0).2])/\c=w:=AI s b 0 a w
theorem abc(s:ByteArray)(a:Nat)(h:a<=s.size):a<=(nH s a).1/\(nH s a).1<=s.size:=by
 unfold nH;split
 ·rename_i c;have d:=dE c (by omega);have b:nA2 s a<=s.size/\a<nA2 s a:=by
   unfold nA2;split
   ·rename_i hs;rcases hs with hs|hs
    ·have:=dE hs (by omega);omega
    ·have:=dE hs (by omega);omega
   ·omega
  have:=uj s (nA2 s a) b.1;simp only;omega
 ·exact⟨ah _,h⟩
theorem abd(s:ByteArray)(p:Nat)(h:p<s.size):p<nA0 s p/\nA0 s p<=s.size:=by
 unfold nA0;split
 ·omega
 ·have:=uj s (p+1) (by omega);omega
theorem abe(s:ByteArray)(a:Nat)(h:a<=s.size):a<=nA1 s a/\nA1 s a<=s.size:=by
 unfold nA1;split
 ·rename_i b;have:=uj s (a+1) (by have:=pA b.2;omega);omega
 ·omega
theorem aeL(s:ByteArray)(p:Nat)(h:p<=s.size):p<=(mu s p).1/\(mu s p).1<=s.size:=by
 have:=ahA s p h;unfold mu;split
 ·simp only;omega
 ·exact this
theorem I5(s:ByteArray)(p:Nat)(h:p<s.size):p<(fC s p).1/\(fC s p).1<=s.size:=by
 unfold fC;split
 ·rename_i c;have:=dE c.2 (by omega);have:=aeL s (p+2) (by omega);omega
 ·have a:=abd s p h;have b:=abe s _ a.2;have d:=abc s _ b.2;omega
theorem EB(q:ByteArray)(v:q.size<=1100000)(w:Y)(A:nI w):U R 162 #[O q] w fun e r=>e= S (A2 (oB q))/\Z w.heap.size w r:=by
 by_cases h:0<q.size
 ·have C:=G1 h;have k:∀w,(Instr.index 9 (O q) (M N 0)).run R w= .ok (M .u8 (aK q 0)) w:=fun w=>dL h w;by_cases f:dl (aK q 0)=T
  ·have b:=fun w=>BE f w;have d:=fun w=>G2 q v h w;have s:=(I5 q 0 h).2;by_cases c:(fC q 0).2=T
   ·by_cases i:(fC q 0).1=q.size
    ·have j:fC q 0=(q.size,T):=Prod.ext i c;have H:¬(q.size:Int)<(q.size:Int):=by omega
     rw[j]at d;by_cases g:aK q 0=48/\aK q 1=120
     ·have a:oB q=V:=by unfold oB;simp[g]
      rw[a];have u:mu q 2=(q.size,T):=by rw[<-j];unfold fC;rw[ab g]
      obtain⟨F,G,z,t⟩:=abb u;have l:=fun w=>Kv q g.1 g.2 (by omega) (by omega) t w;generalize wrap64 (vy q 2 (q.size-2):Int)=I at l;clear a u z t j c i g f;generalize aK q 0=m at k b;go_in;go_wp2_with (first|(go_at_call 183;refine ee (b _) ?_)|(go_at_call 184;refine ee (d _) ?_)|(go_at_call 185;refine(l _).mono ?_;rintro e r ⟨rfl,o⟩));go_ret;exact⟨rfl,o⟩
     ·have l:=Kx q v g w A;have a:oB q=!(xh q).isSome:=by
       unfold oB;cases hdc:xh q<;>simp[f,j,g]
      rw[a];generalize (xh q).isSome=E at l;clear a j c i g f;generalize aK q 0=m at k b;go_in;go_wp2_with (first|(go_at_call 183;refine ee (b _) ?_)|(go_at_call 184;refine ee (d _) ?_)|(go_at_call 185;refine l.mono ?_;rintro e r ⟨⟨J,rfl,_⟩,o⟩));go_ret;exact⟨rfl,o⟩
    ·have a:oB q=V:=by unfold oB;rw[pu];rintro ⟨_,n,_⟩;rw[n]at i;exact i rfl
     rw[a];have B:((fC q 0).1:Int)<(q.size:Int):=by omega
     rw[c]at d;generalize (fC q 0).1=y at d B;clear a c i f s;generalize aK q 0=m at k b;go_in;go_wp2_with (first|(go_at_call 183;refine ee (b _) ?_)|(go_at_call 184;refine ee (d _) ?_));go_ret;exact⟨rfl,aj _ _⟩
   ·have x:(fC q 0).2=V:=by simpa using c
    have a:oB q=V:=by unfold oB;rw[pu];rintro ⟨_,n,_⟩;rw[n]at c;exact c rfl
    rw[a];rw[x]at d;generalize (fC q 0).1=y at d s;clear a c x f;generalize aK q 0=m at k b;go_in;go_wp2_with (first|(go_at_call 183;refine ee (b _) ?_)|(go_at_call 184;refine ee (d _) ?_));go_ret;exact⟨rfl,aj _ _⟩
  ·have p:dl (aK q 0)=V:=by simpa using f
   have b:=fun w=>BE p w;have a:oB q=V:=by unfold oB;simp[p]
   rw[a];clear a f p;generalize aK q 0=m at k b;go_in;go_wp2_with (first|(go_at_call 183;refine ee (b _) ?_));go_ret;exact⟨rfl,aj _ _⟩
 ·have C:=EA h;have a:oB q=V:=by unfold oB;rw[er h];simp[ui]
  rw[a];clear a;go_in;go_wp2;go_ret;exact⟨rfl,aj _ _⟩
theorem dy{c:Int}{b:Bool}(h:dl c=b)(w:Y):U R 79 #[M .u8 c] w fun e d=>e= S (A2 b)/\d=w:=(wo c w).mono fun e d a=>⟨by rw[a.1,h],a.2.symm⟩
theorem fD(s:ByteArray)(f:s.size<=1100000)(a:Int)(i:Nat)(d:a=(i:Int))(w:Y):U R 76 #[O s,M N a] w fun e c=>e= S (M .u8 (lk s i))/\c=w:=by
 subst d;exact(zd s f i w).mono fun e c b=>⟨b.1,b.2.symm⟩
theorem vz(c:Int)(i:0<=c)(j:c<256)(w:Y):U R 141 #[M .u8 c] w fun e h=>e= S (M N (iy c))/\h=w:=by
 unfold iy;by_cases a:dl c=T
 ·have b:=fun w=>dy a w;have d:=mC a;rw[ab d];clear a;go_in;go_wp2_with (first|(go_at_call 79;refine ee (b _) ?_));go_ret;exact⟨rfl,rfl⟩
 ·have f:dl c=V:=by simpa using a
  have b:=fun w=>dy f w;have d:¬(48<=c/\c<=57):=by simpa [dl] using f
  rw[aa d];clear a f d;rcases(show(97<=c/\c<=102)\/¬97<=c\/(97<=c/\¬c<=102) by omega) with⟨g1,g⟩|g1|⟨g1,g⟩
  ·rw[ab ⟨g1,g⟩];go_in;go_wp2_with (first|(go_at_call 79;refine ee (b _) ?_));go_ret;exact⟨by simp;omega,rfl⟩
  ·rw[aa (by omega)];go_in;go_wp2_with (first|(go_at_call 79;refine ee (b _) ?_));go_ret;exact⟨rfl,rfl⟩
  ·rw[aa (by omega)];go_in;go_wp2_with (first|(go_at_call 79;refine ee (b _) ?_));go_ret;exact⟨rfl,rfl⟩
theorem I6(s:ByteArray)(i:Nat):iy (lk s i)=iy (aK s i):=by
 unfold lk;split
 ·rfl
 ·rename_i a;rw[er a];decide
theorem pD{s:ByteArray}{i:Nat}(h:i<s.size):lk s i=aK s i:=by unfold lk;rw[ab h]
def hxA(s:ByteArray)(p:Nat):Value:=if(mu s (p+2)).2=T then A4 #[M N 2,M N p,M N ((mu s (p+2)).1:Int),M N 0,M N (wrap64 (vy s (p+2) ((mu s (p+2)).1-(p+2)):Int)),O ⟨#[]⟩] else A4 #[M N 2,M N p,M N 0,M N 0,M N 0,O ⟨#[]⟩]
def hxF(s:ByteArray)(p:Nat):Int:=if(mu s (p+2)).2=T then -1 else((mu s (p+2)).1:Int)
theorem EC(s:ByteArray)(a7:s.size<=1100000)(p:Nat)(a9:p+2<=s.size)(w:Y):U R 140 #[O s,A4 #[M N 2,M N p,M N 0,M N 0,M N 0,O ⟨#[]⟩]] w fun e bn=>e= S (W #[hxA s p,M N (hxF s p)])/\Z w.heap.size w bn:=by
 obtain⟨bo,l⟩:=aA (hxA s p);obtain⟨an,hF⟩:=aA (hxF s p);rw[l,hF];unfold hxA at l;unfold hxF at hF;unfold mu at l hF;obtain⟨H,t⟩:=aA (hxE s (p+2));rw[t]at l hF;unfold hxE at t;have x:=aq t;have m:=aq l;have n:=aq hF;clear t l hF;have af:fy w.heap.size ((w.alloc (Ax #[M N 2,M N p,M N 0,M N 0,M N 0,O ⟨#[]⟩] 109)).alloc (Ax #[M N 0,M N 0,M N 0,M N 0,M N 0,O ⟨#[]⟩] 109)) 2 p 0 0 0 ⟨#[]⟩:=(dr _ _ _ (by simp)).trans (aw w _);have y:fy (w.heap.size+1) ((w.alloc (Ax #[M N 2,M N p,M N 0,M N 0,M N 0,O ⟨#[]⟩] 109)).alloc (Ax #[M N 0,M N 0,M N 0,M N 0,M N 0,O ⟨#[]⟩] 109)) 0 0 0 0 0 ⟨#[]⟩:=by
  have:=aw (w.alloc (Ax #[M N 2,M N p,M N 0,M N 0,M N 0,O ⟨#[]⟩] 109)) (Ax #[M N 0,M N 0,M N 0,M N 0,M N 0,O ⟨#[]⟩] 109);rw[ba]at this;exact this
 have r:Z w.heap.size w ((w.alloc (Ax #[M N 2,M N p,M N 0,M N 0,M N 0,O ⟨#[]⟩] 109)).alloc (Ax #[M N 0,M N 0,M N 0,M N 0,M N 0,O ⟨#[]⟩] 109)):=(((aj _ w).alloc (ah _) _).alloc (by simp) _);go_in;go_wp2_with fail;generalize (w.alloc (Ax #[M N 2,M N p,M N 0,M N 0,M N 0,O ⟨#[]⟩] 109)).alloc (Ax #[M N 0,M N 0,M N 0,M N 0,M N 0,O ⟨#[]⟩] 109)=ap at af y r;have bx:w.heap.size+1<ap.heap.size:=ax y;obtain⟨bA,bD,bE,bF,b0,b1,b2⟩:=da af;obtain⟨z0,A,B,C,E,F,b3⟩:=da y;go_loop [6,7] (fun z bl=>∃(a h:Nat) (d:Int),p+2<=a/\a<=p+18/\a<=s.size/\s.size<a+h/\z= M N a/\bl= M .u64 d/\Hid (iL lI s h a=H)/\Hid (d=(vy s (p+2) (a-(p+2)):Int))) (fun z _=>s.size-(A3 z).toNat)
 case atStart=>exact⟨p+2,s.size+1,0,by omega,by omega,a9,by omega,by simp,rfl,x,by show(0:Int)=_;rw[gj];rfl⟩
 case round=>
  obtain⟨a,h,d,bw,bt,bs,br,rfl,rfl,u,g⟩:=hrel;obtain⟨h,rfl⟩:∃a4,h=a4+1:=⟨h-1,by omega⟩;have j:=u.out;unfold iL at j;have k:=fun w=>fD s a7 (a:Int) a rfl w;have f:=fun w=>vz (lk s a) (I0 s a).1 (I0 s a).2 w;rw[I6]at f;by_cases i:lI (aK s a)=T
  ·have ak:a<s.size:=GJ yB i;have bf:=fun w=>dL ak w;rw[pD ak]at k f;rw[ab i]at j;have a5:=(og lI yB s h (a+1) (by omega)).1;rw[j]at a5;have ao:=aq j;have bb:0<=iy (aK s a):=by simpa [lI] using i
   have bd:=ry (aK s a);have ad:a≠p+18->vy s (p+2) (a-(p+2))<1152921504606846976:=fun J=>aa4 s (p+2) _ (by omega);have G:Hid (d*16+iy (aK s a)=(vy s (p+2) (a+1-(p+2)):Int)):=by
    show _=_;rw[show a+1-(p+2)=(a-(p+2))+1 by omega,vy,show p+2+(a-(p+2))=a by omega,g.out];omega
   have ar:0<=d:=by rw[g.out];omega
   have q:a≠p+18->d<1152921504606846976:=fun J=>by have:=ad J;rw[g.out];omega
   generalize iy (aK s a)=I at f bb bd G;generalize aK s a=av at k f bf;clear j i ad;by_cases K:a=p+18
   ·have b:=m.out;have c:=n.out;simp only[ab (show p+2+16<H by omega)]at b c;simp at b c;subst b;have a6:an=(a:Int):=by omega
    clear c;subst a6;have a2:((a:Int)-(p:Int)==18)=T:=by rw[gn];omega
    clear m n K q;go_wp2_with (first|(go_at_call 76;refine ee (k _) ?_)|(go_at_call 141;refine ee (f _) ?_));refine bB (v:= W #[A4 #[M N 2,M N p,M N 0,M N 0,M N 0,O ⟨#[]⟩],M N (a:Int)]) (by simp[results,Tryz.results140,go_sem,z0,A,B,C,E,F]) rfl ⟨rfl,?_⟩
    iterate 6 refine eI ?_ (by simp) _
    exact r
   ·have a2:((a:Int)-(p:Int)==18)=V:=by rw[bg];omega
    have bp:=q K;clear q;go_wp2_with (first|(go_at_call 76;refine ee (k _) ?_)|(go_at_call 141;refine ee (f _) ?_));go_round
    case rel=>exact⟨a+1,h,d*16+I,by omega,by omega,by omega,by omega,by go_num,by first|rfl|(congr 1;omega),ao,G⟩
    case measure=>simp[A3];omega
  ·have am:iy (aK s a)<0:=by
    have:¬0<=iy (aK s a):=by simpa [lI] using i
    omega
   rw[aa i]at j;subst j;have a8:¬(0:Int)<=iy (aK s a):=by omega
   have ar:0<=d:=by rw[g.out];omega
   have q:d<18446744073709551616:=by rw[g.out];have:=G0 s (p+2) (a-(p+2)) (by omega);omega
   generalize iy (aK s a)=I at f a8;generalize lk s a=av at k f;have b:=m.out;have c:=n.out;simp only[aa (show ¬p+2+16<a by omega)]at b c;by_cases L:a=p+2
   ·have o:decide (p+2<a)=V:=by rw[pu];omega
    simp only[o]at b c;simp at b c;subst b c;have a3:((a:Int)==(p:Int)+2)=T:=by rw[gn];omega
    clear m n i am L o g u x;go_wp2_with (first|(go_at_call 76;refine ee (k _) ?_)|(go_at_call 141;refine ee (f _) ?_));refine bB (v:= W #[A4 #[M N 2,M N p,M N 0,M N 0,M N 0,O ⟨#[]⟩],M N (a:Int)]) (by simp[results,Tryz.results140,go_sem,z0,A,B,C,E,F]) rfl ⟨rfl,?_⟩
    iterate 6 refine eI ?_ (by simp) _
    exact r
   ·have o:decide (p+2<a)=T:=by rw[ob];omega
    simp only[o]at b c;simp only[rq]at b c;rw[<-g.out]at b;subst b c;have a3:((a:Int)==(p:Int)+2)=V:=by rw[bg];omega
    clear m n i am L o g u x;go_wp2_with (first|(go_at_call 76;refine ee (k _) ?_)|(go_at_call 141;refine ee (f _) ?_));refine bB (v:= W #[A4 #[M N 2,M N p,M N (a:Int),M N 0,M N (wrap64 d),O ⟨#[]⟩],M N (-1)]) (by simp[results,Tryz.results140,go_sem,z0,A,B,C,E,F]) rfl ⟨rfl,?_⟩
    iterate 8 refine eI ?_ (by simp) _
    exact r
