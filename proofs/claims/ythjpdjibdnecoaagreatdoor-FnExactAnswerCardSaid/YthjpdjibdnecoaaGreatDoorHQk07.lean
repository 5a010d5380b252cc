import Derived.Test.YthjpdjibdnecoaaGreatDoorHQk06
set_option linter.all false
set_option maxRecDepth 100000
set_option maxHeartbeats 3200000
open Go.Value renaming int->M,string->O,tuple->W,bool->A2,agg->A4,nilIface->A5
open Go.IntKind renaming i64->N
open Go.Lib renaming parseUintM->Q,hasPrefix->A1
open Go.Proofs.Tryz renaming prog->R
open Go.Ending renaming returned->S
open Bool renaming true->T,false->V
open Go renaming Calls->U,World->Y
open Option renaming some->X,none->A0
open Go.RowKit renaming Below->Z,intOf->A3
open Go.Obj renaming cells->Ax
namespace Go.Proofs.YthjpdjibdnecoaaGreatDoor
open Go.RowKit Go.Maps Go.WideMaps
def uK(s:ByteArray)(p:Nat):Nat->Nat
 |0=>0
 |n+1=>uK s p n*16+(gj (az s (p+n))).toNat
theorem Jw(s:ByteArray)(p:Nat):∀n,uK s p n<16 ^ n
 |0=>by simp[uK]
 |n+1=>by
  have h:=Jw s p n;have b:=mm (az s (p+n));have a:16 ^ (n+1)=16 ^ n*16:=Nat.pow_succ 16 n;unfold uK;omega
theorem acE(s:ByteArray)(p n:Nat)(h:n<=15):uK s p n<1152921504606846976:=by
 have a:=Jw s p n;have b:16 ^ n<=16 ^ 15:=Nat.pow_le_pow_right (by omega) h;have c:16 ^ 15=1152921504606846976:=by decide
 omega
theorem Jy(s:ByteArray)(p n:Nat)(h:n<=16):uK s p n<18446744073709551616:=by
 have a:=Jw s p n;have b:16 ^ n<=16 ^ 16:=Nat.pow_le_pow_right (by omega) h;have c:16 ^ 16=18446744073709551616:=by decide
 omega
theorem ago(c:Int)(a:97<=c)(b:c<=102):bits .or .u8 c 32=c:=by
 rcases(show c=97\/c=98\/c=99\/c=100\/c=101\/c=102 by omega) with rfl|rfl|rfl|rfl|rfl|rfl<;>decide+kernel
theorem acF(s:ByteArray)(j:Nat)(h:j<s.size):((s.data.toList.getD j 0).toNat:Int)=az s j:=by
 have:s.data.toList[j]?=X s[j]:=by
  rw[pm];exact Ap h
 rw[List.getD,this];unfold az;rw[kJ h];rfl
theorem amv(t:ByteArray)(v:1<=t.size)(am:t.size<=16)(y:∀i,i<t.size->mH (az t i)=T)(w:Y):
  U R 250 #[.string t,.int .i64 16,.int .i64 64] w fun e q=>e= .returned (.tuple #[.int .u64 (uK t 0 t.size:Int),.nilIface])/\q=Lib.bytesWorld w 5 t:=by
 have an:t.toList.isEmpty=V:=by
  rw[<-decide_eq_emptyBytes];exact aB (fun E=>by rw[E]at v;simp at v)
 have H:=Lib.run_convert_string_bytes (P:=R) w 9 49 5 t (u:= .string) Tryz.underlying9 Tryz.underlying49 Tryz.underlying5;have j:∀f,f<t.size->(Lib.bytesWorld w 5 t).cell? ⟨w.heap.size,f,A0⟩=X (.int .u8 (az t f)):=fun f z=>by rw[Lib.bytesWorld_cell w 5 t f z,acF t f z]
 obtain⟨s,x⟩:∃s,s=Lib.bytesWorld w 5 t:=⟨_,rfl⟩;rw[<-x]at H j⊢;clear x;have ap:IntKind.u64.wrap (IntKind.u64.wrap 18446744073709551616-1)=18446744073709551615:=by
  rw[IntKind.wrap_u64,IntKind.wrap_u64];decide
 obtain⟨n,o⟩:∃n:Int,(uK t 0 t.size:Int)=n:=⟨_,rfl⟩;rw[o];have r:=aw o;clear o;go_in;go_wp2;go_loop [12,13,101] (fun ad L p=>∃(a:Nat) (b:Int),ad= .bool V/\L= .int .u64 b/\p= .int .i64 a/\a<=t.size/\Hid (b=(uK t 0 a:Int))) (fun _ _ p=>t.size-(A3 p).toNat)
 case atStart=>exact⟨0,0,rfl,rfl,rfl,by omega,rfl⟩
 case round=>
  obtain⟨a,b,rfl,rfl,rfl,ao,d⟩:=hrel;by_cases A:a<t.size
  ·have G:=j a A;have C:=(sy _).1 (y a A);have F:=acE t 0 a (by omega);have af:0<=b:=by rw[d.out];omega
   have ak:b<1152921504606846976:=by rw[d.out];omega
   have g:Hid (∀h:Int,gj (az t a)=h->0<=h->b*16+h=(uK t 0 (a+1):Int)):=fun h I al=>by
    show _=((uK t 0 a*16+(gj (az t (0+a))).toNat:Nat):Int);rw[pu,I,d.out];omega
   generalize az t a=c at G C g;clear j F d y;rcases C with⟨k,l⟩|⟨k,l⟩
   ·have m:Hid (b*16+(c-48)=(uK t 0 (a+1):Int)):=g.out (c-48) (by unfold gj;rw[ab ⟨k,l⟩]) (by omega);clear g;go_wp2;refine⟨⟨a+1,b*16+(c-48),rfl,(by first|rfl|(congr 1;omega)),(by first|rfl|(congr 1;omega)),by omega,m⟩,by simp[A3];omega⟩
   ·have m:Hid (b*16+(c-87)=(uK t 0 (a+1):Int)):=g.out (c-87) (by unfold gj;rw[aa (by omega),ab ⟨k,l⟩]) (by omega);clear g;have B:=ago c k l;have K:∀w,U R 258 #[.int .u8 c] w fun e q=>e= .returned (.int .u8 c)/\q=w:=fun w=>by
     have:=Tryz.internal_strconv_lower c w;rw[B]at this;exact this
    clear B;go_wp2_with (go_at_call 258;refine dK (K _) ?_);refine⟨⟨a+1,b*16+(c-87),rfl,(by first|rfl|(congr 1;omega)),(by first|rfl|(congr 1;omega)),by omega,m⟩,by simp[A3];omega⟩
  ·obtain rfl:a=t.size:=by omega
   have J:b=n:=by rw[<-r.out,d.out]
   subst J;clear j d r;go_wp2;go_ret2;exact⟨rfl,rfl⟩
structure mI (w:Y):Prop where
 syn:∃te pe,w.cell? ⟨12,0,A0⟩=X (.iface te pe)
 rng:∃te pe,w.cell? ⟨13,0,A0⟩=X (.iface te pe)
theorem jC{B:Nat}{w b:Y}(h:Z B w b){a:Addr}(c:a.block<B):b.cell? a=w.cell? a:=by
 unfold World.cell?;rw[h.block _ c]
theorem EG{B:Nat}{a w:Y}(h:Z B a w)(n:Nat):Z B a (w.drewN n):=⟨h.os,h.tape,h.output,h.size,h.block⟩
theorem mI.below{w e:Y}{B:Nat}(h:mI w)(d:Z B w e)(c:w.heap.size<=B):mI e:=by
 obtain⟨⟨j,i,a⟩,⟨k,p2,b⟩⟩:=h;have f:=Eg w _ a;have g:=Eg w _ b;exact⟨⟨j,i,(jC d (eF f c)).trans a⟩,⟨k,p2,(jC d (eF g c)).trans b⟩⟩
theorem EH(s:ByteArray)(i:Nat):az s i=match s.data.toList[i]? with|some b=>(b.toNat:Int)|none=> -1:=by
 cases h:s.data.toList[i]? with
 |some b=>exact((lh s i b).1 h).2
 |none=>
  refine dE fun a=>?_;have:s.data.toList[i]?=X s[i]:=by rw[pm];exact Ap a
  rw[this]at h;cases h
def Dt(s:ByteArray)(n:Nat):ByteArray:=⟨(s.data.toList.drop n).toArray⟩
theorem rp(s:ByteArray)(n:Nat):(Dt s n).size=s.size-n:=by
 show(s.data.toList.drop n).toArray.size=_;rw[gi,jx,iv];rfl
theorem Du(s:ByteArray)(n i:Nat):az (Dt s n) i=az s (n+i):=by
 rw[EH,EH];show(match (s.data.toList.drop n).toArray.toList[i]? with|some a=>(a.toNat:Int)|none=> -1)=_;rw[List.toList_toArray,tH]
theorem GK(s:ByteArray)(a p:Nat):∀n,uK (Dt s a) p n=uK s (a+p) n
 |0=>rfl
 |n+1=>by
  unfold uK;rw[GK s a p n,Du,Ey]
theorem ak4(t:ByteArray)(d:1<=t.size)(a:t.size<=16)(f:∀i,i<t.size->mH (az t i)=T)(w:Y):
  U R 235 #[O t,M N 16,M N 64] w fun e c=>e= S (W #[M .u64 (uK t 0 t.size:Int),A5])/\Z w.heap.size w c:=by
 have b:=fun w=>amv t d a f w;have g:=Jy t 0 t.size a;generalize (uK t 0 t.size:Int)=h at b;go_in;go_wp2_with (go_at_call 250;refine(b _).mono ?_;rintro e c ⟨rfl,rfl⟩);go_ret2;exact⟨rfl,Lib.bytesWorld_below _ _ _⟩
theorem GL(s:ByteArray)(x a:UInt8):A1 s.data.toList [x,a]=decide (az s 0=(x.toNat:Int)/\az s 1=(a.toNat:Int)):=by
 have:=EF s 0 x a;rw[zk]at this;exact this
theorem Dv(q:ByteArray)(j:az q 0=48)(k:az q 1=120)(r:3<=q.size)(p:q.size<=18)(d:∀i,2<=i->i<q.size->mH (az q i)=T)(w:Y):
  U R 208 #[O q] w fun e b=>e= S (W #[M N (wrap64 (uK q 2 (q.size-2):Int)),A2 T])/\Z w.heap.size w b:=by
 have f:A1 q.data.toList [48,120]=T:=by rw[GL];simp[j,k]
 have h:∀w,U R 234 #[O q,O ⟨#[48,120]⟩] w fun e b=>e= S (W #[O (Dt q 2),A2 T])/\b=w:=fun w=>by
  have:=Tryz.strings_CutPrefix q ⟨#[48,120]⟩ w;rw[show(⟨#[48,120]⟩:ByteArray).data.toList=[48,120] from rfl,Lib.trimPrefix,f]at this;exact this
 have a:=fun w=>ak4 (Dt q 2) (by rw[rp];omega) (by rw[rp];omega) (fun i n=>by rw[Du];rw[rp]at n;exact d _ (by omega) (by omega)) w;rw[GK,rp]at a;have l:=Jy q 2 (q.size-2) (by omega);simp only[ua]at a;obtain⟨c,g⟩:∃c:Int,(uK q 2 (q.size-2):Int)=c:=⟨_,rfl⟩;have s:0<=c:=by omega
 have t:c<18446744073709551616:=by omega
 rw[g]at a⊢;clear g l f d;generalize Dt q 2=o at h a;go_in;go_wp2_with (first|(go_at_call 234;refine(h _).mono ?_;rintro e b ⟨rfl,rfl⟩)|(go_at_call 235;refine(a _).mono ?_;rintro e b ⟨rfl,m⟩));go_quiet (fail)
 go_wp2;go_ret2;exact⟨rfl,EG m _⟩
def yo(q:ByteArray):Option Int:=match Lib.parseIntB 64 q.data.toList with| .ok a=>X a|_=>A0
theorem Dw(q:ByteArray)(s:q.size<=1100000)(k:¬(az q 0=48/\az q 1=120))(w:Y)(o:mI w):
  U R 208 #[O q] w fun e a=>(∃x,e= S (W #[M N x,A2 (yo q).isSome])/\∀v,yo q=X v->x=v)/\Z w.heap.size w a:=by
 have h:A1 q.data.toList [48,120]=V:=by rw[GL];simpa using k
 have l:∀w,U R 234 #[O q,O ⟨#[48,120]⟩] w fun e a=>e= S (W #[O ⟨q.data.toList.toArray⟩,A2 V])/\a=w:=fun w=>by
  have:=Tryz.strings_CutPrefix q ⟨#[48,120]⟩ w;rw[show(⟨#[48,120]⟩:ByteArray).data.toList=[48,120] from rfl,Lib.trimPrefix,h]at this;exact this
 generalize (⟨q.data.toList.toArray⟩:ByteArray)=r at l;obtain⟨⟨z,t,j⟩,⟨A,u,i⟩⟩:=o;unfold yo;cases hp:Lib.parseIntB 64 q.data.toList with
 |ok v=>
  have d:=Tryz.strconv_ParseInt_10_at64_ok q (by omega) v hp w;have f:U R 236 #[O q,M N 10,M N 64] w fun e a=>e= S (W #[M N v,A5])/\Z w.heap.size w a:=d.mono fun e a c=>⟨c.1,by
   rcases c.2 with rfl|⟨y,rfl⟩
   ·exact ag _ _
   ·exact Lib.bytesWorld_below _ _ _⟩
  clear d hp h k j i;go_in;go_wp2_with (first|(go_at_call 234;refine(l _).mono ?_;rintro e a ⟨rfl,rfl⟩)|(go_at_call 236;refine f.mono ?_;rintro e a ⟨rfl,g⟩));go_quiet (fail)
  go_wp2;go_ret2;exact⟨⟨v,rfl,fun _ c=>bu c⟩,EG g _⟩
 | «syntax» =>
  have d:=Tryz.strconv_ParseInt_10_at64_syntax q (by omega) hp _ w j (.inr ⟨_,_,rfl⟩);have f:U R 236 #[O q,M N 10,M N 64] w fun e a=>∃b,e= S (W #[M N 0,.iface 306 (.pointer (X ⟨b,0,A0⟩))])/\Z w.heap.size w a:=d.mono fun e a ⟨b,m,_,_,n⟩=>⟨b,m,n⟩;clear d hp h k j i;go_in;go_wp2_with (first|(go_at_call 234;refine(l _).mono ?_;rintro e a ⟨rfl,rfl⟩)|(go_at_call 236;refine f.mono ?_;rintro e a ⟨b,rfl,g⟩));go_quiet (fail)
  go_wp2;go_ret2;exact⟨⟨0,rfl,fun _ c=>by cases c⟩,EG g _⟩
 |range=>
  have d:=Tryz.strconv_ParseInt_10_at64_range q (by omega) hp _ w i (.inr ⟨_,_,rfl⟩);have f:U R 236 #[O q,M N 10,M N 64] w fun e a=>∃b,e= S (W #[M N (Lib.intSat 64 q.data.toList),.iface 306 (.pointer (X ⟨b,0,A0⟩))])/\Z w.heap.size w a:=d.mono fun e a ⟨b,m,_,_,n⟩=>⟨b,m,n⟩;clear d hp h k j i;generalize Lib.intSat 64 q.data.toList=p at f;go_in;go_wp2_with (first|(go_at_call 234;refine(l _).mono ?_;rintro e a ⟨rfl,rfl⟩)|(go_at_call 236;refine f.mono ?_;rintro e a ⟨b,rfl,g⟩));go_quiet (fail)
  go_wp2;go_ret2;exact⟨⟨p,rfl,fun _ c=>by cases c⟩,EG g _⟩
def stp(a:Option Nat)(c:UInt8):Option Nat:=match a with|none=>A0|some b=>if b*10+(c.toNat-48)<=9223372036854775807 then X (b*10+(c.toNat-48)) else A0
theorem G1:∀l:List UInt8,l.foldl stp A0=A0
 |[]=>rfl
 |c::r=>G1 r
theorem aiE:∀(l:List UInt8)(a:Nat),(∀c∈l,48<=c.toNat/\c.toNat<=57)->9223372036854775808<=a->Q (2 ^ 64-1) a l= .range\/∃u,Q (2 ^ 64-1) a l= .ok u/\9223372036854775808<=u
 |[],a,_,h=> .inr ⟨a,rfl,h⟩
 |c::r,a,d,h=>by
  have b:=d c (by simp);unfold Q;rw[ab b,ab (by omega)];exact .inl rfl
theorem acG:∀(l:List UInt8)(a:Nat),(∀c∈l,48<=c.toNat/\c.toNat<=57)->a<=9223372036854775807->(∀u,l.foldl stp (X a)=X u->Q (2 ^ 64-1) a l= .ok u/\u<=9223372036854775807)/\(l.foldl stp (X a)=A0->Q (2 ^ 64-1) a l= .range\/∃u,Q (2 ^ 64-1) a l= .ok u/\9223372036854775808<=u)
 |[],a,_,h=>by
  refine⟨fun u b=>?_,fun n=>by simp at n⟩;simp at b;subst b;exact⟨rfl,h⟩
 |c::r,a,j,h=>by
  have i:=j c (by simp);have k:∀d∈r,48<=d.toNat/\d.toNat<=57:=fun d o=>j d (by simp[o]);rw[xk,show stp (X a) c=if a*10+(c.toNat-48)<=9223372036854775807 then X (a*10+(c.toNat-48)) else A0 from rfl];by_cases e:a*10+(c.toNat-48)<=9223372036854775807
  ·rw[ab e];have p:=acG r (a*10+(c.toNat-48)) k e;have m:Q (2 ^ 64-1) a (c::r)=Q (2 ^ 64-1) (a*10+(c.toNat-48)) r:=by
    rw[Q,ab i,aa (by omega),aa (by omega)]
   rw[m];exact p
  ·rw[aa e,G1 r];refine⟨fun u b=>(by cases b),fun _=>?_⟩;rw[Q,ab i];by_cases f:1844674407370955162<=a
   ·rw[ab f];exact .inl rfl
   ·rw[aa f];by_cases g:2 ^ 64-1<a*10+(c.toNat-48)
    ·rw[ab g];exact .inl rfl
    ·rw[aa g];exact aiE r _ k (by omega)
theorem acH:∀(l:List UInt8)(b:Nat),(∃c∈l,¬(48<=c.toNat/\c.toNat<=57))->∀u,Q (2 ^ 64-1) b l≠ .ok u
 |[],_,h,u=>by obtain⟨c,a,_⟩:=h;simp at a
 |c::f,b,h,u=>by
  rw[Q];by_cases a:48<=c.toNat/\c.toNat<=57
  ·rw[ab a];split
   ·intro h;cases h
   ·split
    ·intro h;cases h
    ·refine acH f _ ?_ u;obtain⟨e,hd,d⟩:=h;rcases List.mem_cons.1 hd with rfl|hd
     ·exact absurd a d
     ·exact⟨e,hd,d⟩
  ·rw[aa a];intro h;cases h
def uL(s:ByteArray)(p:Nat):Nat->Option Nat
 |0=>X 0
 |n+1=>match uL s p n with|none=>A0|some x=>if x*10+(az s (p+n)-48).toNat<=9223372036854775807 then X (x*10+(az s (p+n)-48).toNat) else A0
theorem G4(s:ByteArray)(p:Nat):∀n,p+n<=s.size->uL s p n=((s.data.toList.drop p).take n).foldl stp (X 0)
 |0,_=>rfl
 |n+1,h=>by
  have a:p+n<s.data.toList.length:=by rw[iv];exact h
  have b:(s.data.toList.drop p)[n]?=X (s.data.toList[p+n]):=by rw[tH];exact bJ a
  have d:az s (p+n)=((s.data.toList[p+n]).toNat:Int):=((lh s (p+n) _).1 (bJ a)).2;rw[fK,b,List.foldl_append,<-G4 s p n (by omega),uL,d];simp only[Ek,xk,List.foldl_nil,stp];have c:(((s.data.toList[p+n]).toNat:Int)-48).toNat=(s.data.toList[p+n]).toNat-48:=by omega
  rw[c]
theorem acI(s:ByteArray)(p:Nat):∀n u,uL s p n=X u->u<=9223372036854775807
 |0,u,h=>by simp[uL]at h;omega
 |n+1,u,h=>by
  unfold uL at h;split at h
  ·cases h
  ·split at h
   ·rename_i a;cases h;exact a
   ·cases h
theorem acJ(q:ByteArray)(h:∀i,i<q.size->cu (az q i)=T):∀c∈q.data.toList,48<=c.toNat/\c.toNat<=57:=by
 intro c a;obtain⟨i,d,rfl⟩:=List.mem_iff_getElem.1 a;have:=(lh q i _).1 (bJ d);have b:=oh (h i this.1);rw[this.2]at b;omega
theorem G5(q:ByteArray)(a:cu (az q 0)=T):∃c r,q.data.toList=c::r/\48<=c.toNat/\c.toNat<=57:=by
 have d:=qa a;cases hq:q.data.toList with
 |nil=>
  have:q.data.toList.length=q.size:=by rw[iv];rfl
  rw[hq]at this;simp at this;omega
 |cons c r=>
  refine⟨c,r,rfl,?_⟩;have:=(lh q 0 c).1 (by rw[hq];rfl);have b:=oh a;rw[this.2]at b;omega
theorem Lz(c:UInt8)(r:List UInt8)(b:48<=c.toNat)(d:c.toNat<=57):Lib.parseIntB 64 (c::r)=match Q (2 ^ 64-1) 0 (c::r) with| .syntax=> .syntax| .range=> .range| .ok u=>if 9223372036854775808<=u then .range else .ok (u:Int):=by
 simp only[Lib.parseIntB,Lib.parseUintB];rw[aa (show ¬(c.toNat=43\/c.toNat=45) by omega),aa (show ¬(c::r=[]) by simp)];have a:¬c.toNat=45:=by omega
 cases Q (2 ^ 64-1) 0 (c::r) with
 |ok u=>simp[a]
 | «syntax» =>rfl
 |range=>rfl
theorem G6(q:ByteArray)(j:0<q.size)(h:∀i,i<q.size->cu (az q i)=T):yo q=Option.map (fun u:Nat=>(u:Int)) (uL q 0 q.size):=by
 obtain⟨a,c,m,k,l⟩:=G5 q (h 0 j);have d:=acJ q h;have e:=G4 q 0 q.size (by omega);rw[pn,fs (by rw[iv];exact ae _)]at e;unfold yo;rw[e];rw[m]at d⊢;rw[Lz a c k l];have f:=acG (a::c) 0 d (by omega);cases hx:(a::c).foldl stp (X 0) with
 |some u=>
  obtain⟨g,o⟩:=f.1 u hx;rw[g];simp only[xc];rw[aa (by omega)]
 |none=>
  rcases f.2 hx with b|⟨u,b,n⟩
  ·rw[b];rfl
  ·rw[b];simp only[ab n];rfl
theorem xu(q:ByteArray)(f:cu (az q 0)=T)(i:Nat)(j:i<q.size)(k:cu (az q i)=V):yo q=A0:=by
 obtain⟨a,b,l,g,h⟩:=G5 q f;have c:∃a∈q.data.toList,¬(48<=a.toNat/\a.toNat<=57):=by
  have d:i<q.data.toList.length:=by rw[iv];exact j
  refine⟨q.data.toList[i],Aw d,?_⟩;have:=(lh q i _).1 (bJ d);have e:¬(48<=az q i/\az q i<=57):=by simpa [cu] using k
  rw[this.2]at e;omega
 unfold yo;rw[l]at c⊢;rw[Lz a b g h];have:=acH (a::b) 0 c;cases hx:Q (2 ^ 64-1) 0 (a::b) with
 |ok m=>exact absurd hx (this m)
 | «syntax» =>rfl
 |range=>rfl
def qc(q:ByteArray):Bool:=decide (cu (az q 0)=T/\dl q 0=(q.size,T)/\¬(az q 0=48/\az q 1=120)/\yo q=A0)
theorem aiF(s:ByteArray)(p:Nat)(h:p<=s.size):p<=hxE s p/\hxE s p<=s.size:=pA mH Bb s _ p h
theorem G7{s:ByteArray}{p e:Nat}(h:mw s p=(e,T)):p<e/\e<=p+16/\e=hxE s p/\∀i,p<=i->i<e->mH (az s i)=T:=by
 unfold mw at h;split at h
 ·cases h
 ·rename_i d;obtain⟨b,a⟩:=xi h;subst b;exact⟨by simpa using a,by omega,rfl,fun i c a=>Bw mH s _ p i c a⟩
theorem Jz{q:ByteArray}(b:0<q.size):(q.toList==[])=V:=by
 have:q.toList.length=q.size:=by rw[fj];simp
 cases hs:q.toList with
 |nil=>rw[hs]at this;simp at this;omega
 |cons a c=>rfl
theorem G8{q:ByteArray}(a:¬0<q.size):(q.toList==[])=T:=by
 have:q.toList.length=q.size:=by rw[fj];simp
 have:q.toList=[]:=List.length_eq_zero_iff.1 (by omega);rw[this];rfl
theorem Dx{c:Int}{b:Bool}(h:cu c=b)(w:Y):U R 166 #[M .u8 c] w fun e d=>e= S (A2 b)/\d=w:=(ip c w).mono fun e d a=>⟨by rw[a.1,h],a.2.symm⟩
theorem JA(s:ByteArray)(b:s.size<=1100000)(a:0<s.size)(w:Y):U R 207 #[O s,M N 0] w fun e c=>e= S (W #[M N ((dl s 0).1:Int),A2 (dl s 0).2])/\c=w:=uJ s b 0 a w
theorem JB(s:ByteArray)(a:Nat)(h:a<=s.size):a<=(oA s a).1/\(oA s a).1<=s.size:=by
 unfold oA;split
 ·rename_i c;have d:=dv c (by omega);have b:nA2 s a<=s.size/\a<nA2 s a:=by
   unfold nA2;split
   ·rename_i hs;rcases hs with hs|hs
    ·have:=dv hs (by omega);omega
    ·have:=dv hs (by omega);omega
   ·omega
  have:=rm s (nA2 s a) b.1;simp only;omega
 ·exact⟨ae _,h⟩
theorem JC(s:ByteArray)(p:Nat)(h:p<s.size):p<nA0 s p/\nA0 s p<=s.size:=by
 unfold nA0;split
 ·omega
 ·have:=rm s (p+1) (by omega);omega
theorem JD(s:ByteArray)(a:Nat)(h:a<=s.size):a<=nA1 s a/\nA1 s a<=s.size:=by
 unfold nA1;split
 ·rename_i b;have:=rm s (a+1) (by have:=qa b.2;omega);omega
 ·omega
theorem agp(s:ByteArray)(p:Nat)(h:p<=s.size):p<=(mw s p).1/\(mw s p).1<=s.size:=by
 have:=aiF s p h;unfold mw;split
 ·simp only;omega
 ·exact this
theorem uh(s:ByteArray)(p:Nat)(h:p<s.size):p<(dl s p).1/\(dl s p).1<=s.size:=by
 unfold dl;split
 ·rename_i c;have:=dv c.2 (by omega);have:=agp s (p+2) (by omega);omega
 ·have a:=JC s p h;have b:=JD s _ a.2;have d:=JB s _ b.2;omega
theorem G9(q:ByteArray)(v:q.size<=1100000)(w:Y)(A:mI w):U R 223 #[O q] w fun e r=>e= S (A2 (qc q))/\Z w.heap.size w r:=by
 by_cases h:0<q.size
 ·have C:=Jz h;have k:∀w,(Instr.index 9 (O q) (M N 0)).run R w= .ok (M .u8 (az q 0)) w:=fun w=>cD h w;by_cases f:cu (az q 0)=T
  ·have b:=fun w=>Dx f w;have d:=fun w=>JA q v h w;have s:=(uh q 0 h).2;by_cases c:(dl q 0).2=T
   ·by_cases i:(dl q 0).1=q.size
    ·have j:dl q 0=(q.size,T):=Prod.ext i c;have H:¬(q.size:Int)<(q.size:Int):=by omega
     rw[j]at d;by_cases g:az q 0=48/\az q 1=120
     ·have a:qc q=V:=by unfold qc;simp[g]
      rw[a];have u:mw q 2=(q.size,T):=by rw[<-j];unfold dl;rw[ab g]
      obtain⟨F,G,z,t⟩:=G7 u;have l:=fun w=>Dv q g.1 g.2 (by omega) (by omega) t w;generalize wrap64 (uK q 2 (q.size-2):Int)=I at l;clear a u z t j c i g f;generalize az q 0=m at k b;go_in;go_wp2_with (first|(go_at_call 166;refine dK (b _) ?_)|(go_at_call 207;refine dK (d _) ?_)|(go_at_call 208;refine(l _).mono ?_;rintro e r ⟨rfl,o⟩));go_ret;exact⟨rfl,o⟩
     ·have l:=Dw q v g w A;have a:qc q=!(yo q).isSome:=by
       unfold qc;cases hdc:yo q<;>simp[f,j,g]
      rw[a];generalize (yo q).isSome=E at l;clear a j c i g f;generalize az q 0=m at k b;go_in;go_wp2_with (first|(go_at_call 166;refine dK (b _) ?_)|(go_at_call 207;refine dK (d _) ?_)|(go_at_call 208;refine l.mono ?_;rintro e r ⟨⟨J,rfl,_⟩,o⟩));go_ret;exact⟨rfl,o⟩
    ·have a:qc q=V:=by unfold qc;rw[qJ];rintro ⟨_,n,_⟩;rw[n]at i;exact i rfl
     rw[a];have B:((dl q 0).1:Int)<(q.size:Int):=by omega
     rw[c]at d;generalize (dl q 0).1=y at d B;clear a c i f s;generalize az q 0=m at k b;go_in;go_wp2_with (first|(go_at_call 166;refine dK (b _) ?_)|(go_at_call 207;refine dK (d _) ?_));go_ret;exact⟨rfl,ag _ _⟩
   ·have x:(dl q 0).2=V:=by simpa using c
    have a:qc q=V:=by unfold qc;rw[qJ];rintro ⟨_,n,_⟩;rw[n]at c;exact c rfl
    rw[a];rw[x]at d;generalize (dl q 0).1=y at d s;clear a c x f;generalize az q 0=m at k b;go_in;go_wp2_with (first|(go_at_call 166;refine dK (b _) ?_)|(go_at_call 207;refine dK (d _) ?_));go_ret;exact⟨rfl,ag _ _⟩
  ·have p:cu (az q 0)=V:=by simpa using f
   have b:=fun w=>Dx p w;have a:qc q=V:=by unfold qc;simp[p]
   rw[a];clear a f p;generalize az q 0=m at k b;go_in;go_wp2_with (first|(go_at_call 166;refine dK (b _) ?_));go_ret;exact⟨rfl,ag _ _⟩
 ·have C:=G8 h;have a:qc q=V:=by unfold qc;rw[dE h];simp[xq]
  rw[a];clear a;go_in;go_wp2;go_ret;exact⟨rfl,ag _ _⟩
theorem dw{c:Int}{b:Bool}(h:cu c=b)(w:Y):U R 90 #[M .u8 c] w fun e d=>e= S (A2 b)/\d=w:=(zh c w).mono fun e d a=>⟨by rw[a.1,h],a.2.symm⟩
theorem gg(s:ByteArray)(f:s.size<=1100000)(a:Int)(i:Nat)(d:a=(i:Int))(w:Y):U R 87 #[O s,M N a] w fun e c=>e= S (M .u8 (lk s i))/\c=w:=by
 subst d;exact(Bp s f i w).mono fun e c b=>⟨b.1,b.2.symm⟩
theorem yp(c:Int)(i:0<=c)(j:c<256)(w:Y):U R 153 #[M .u8 c] w fun e h=>e= S (M N (gj c))/\h=w:=by
 unfold gj;by_cases a:cu c=T
 ·have b:=fun w=>dw a w;have d:=oh a;rw[ab d];clear a;go_in;go_wp2_with (first|(go_at_call 90;refine dK (b _) ?_));go_ret;exact⟨rfl,rfl⟩
 ·have f:cu c=V:=by simpa using a
  have b:=fun w=>dw f w;have d:¬(48<=c/\c<=57):=by simpa [cu] using f
  rw[aa d];clear a f d;rcases(show(97<=c/\c<=102)\/¬97<=c\/(97<=c/\¬c<=102) by omega) with⟨g1,g⟩|g1|⟨g1,g⟩
  ·rw[ab ⟨g1,g⟩];go_in;go_wp2_with (first|(go_at_call 90;refine dK (b _) ?_));go_ret;exact⟨by simp;omega,rfl⟩
  ·rw[aa (by omega)];go_in;go_wp2_with (first|(go_at_call 90;refine dK (b _) ?_));go_ret;exact⟨rfl,rfl⟩
  ·rw[aa (by omega)];go_in;go_wp2_with (first|(go_at_call 90;refine dK (b _) ?_));go_ret;exact⟨rfl,rfl⟩
theorem LA(s:ByteArray)(i:Nat):gj (lk s i)=gj (az s i):=by
 unfold lk;split
 ·rfl
 ·rename_i a;rw[dE a];decide
theorem rq{s:ByteArray}{i:Nat}(h:i<s.size):lk s i=az s i:=by unfold lk;rw[ab h]
def hxA(s:ByteArray)(p:Nat):Value:=if(mw s (p+2)).2=T then A4 #[M N 2,M N p,M N ((mw s (p+2)).1:Int),M N 0,M N (wrap64 (uK s (p+2) ((mw s (p+2)).1-(p+2)):Int)),O ⟨#[]⟩] else A4 #[M N 2,M N p,M N 0,M N 0,M N 0,O ⟨#[]⟩]
def hxF(s:ByteArray)(p:Nat):Int:=if(mw s (p+2)).2=T then -1 else((mw s (p+2)).1:Int)
theorem Ha(s:ByteArray)(a6:s.size<=1100000)(p:Nat)(a8:p+2<=s.size)(w:Y):U R 152 #[O s,A4 #[M N 2,M N p,M N 0,M N 0,M N 0,O ⟨#[]⟩]] w fun e bk=>e= S (W #[hxA s p,M N (hxF s p)])/\Z w.heap.size w bk:=by
 obtain⟨bl,l⟩:=ay (hxA s p);obtain⟨am,hF⟩:=ay (hxF s p);rw[l,hF];unfold hxA at l;unfold hxF at hF;unfold mw at l hF;obtain⟨H,t⟩:=ay (hxE s (p+2));rw[t]at l hF;unfold hxE at t;have x:=aw t;have m:=aw l;have n:=aw hF;clear t l hF;have af:dj w.heap.size ((w.alloc (Ax #[M N 2,M N p,M N 0,M N 0,M N 0,O ⟨#[]⟩] 96)).alloc (Ax #[M N 0,M N 0,M N 0,M N 0,M N 0,O ⟨#[]⟩] 96)) 2 p 0 0 0 ⟨#[]⟩:=(bm _ _ _ (by simp)).trans (aj w _);have y:dj (w.heap.size+1) ((w.alloc (Ax #[M N 2,M N p,M N 0,M N 0,M N 0,O ⟨#[]⟩] 96)).alloc (Ax #[M N 0,M N 0,M N 0,M N 0,M N 0,O ⟨#[]⟩] 96)) 0 0 0 0 0 ⟨#[]⟩:=by
  have:=aj (w.alloc (Ax #[M N 2,M N p,M N 0,M N 0,M N 0,O ⟨#[]⟩] 96)) (Ax #[M N 0,M N 0,M N 0,M N 0,M N 0,O ⟨#[]⟩] 96);rw[aF]at this;exact this
 have r:Z w.heap.size w ((w.alloc (Ax #[M N 2,M N p,M N 0,M N 0,M N 0,O ⟨#[]⟩] 96)).alloc (Ax #[M N 0,M N 0,M N 0,M N 0,M N 0,O ⟨#[]⟩] 96)):=(((ag _ w).alloc (ae _) _).alloc (by simp) _);go_in;go_wp2_with fail;generalize (w.alloc (Ax #[M N 2,M N p,M N 0,M N 0,M N 0,O ⟨#[]⟩] 96)).alloc (Ax #[M N 0,M N 0,M N 0,M N 0,M N 0,O ⟨#[]⟩] 96)=ao at af y r;have bw:w.heap.size+1<ao.heap.size:=ah y;obtain⟨bx,bA,bD,bE,b0,b1,b2⟩:=bf af;obtain⟨z0,A,B,C,E,F,b3⟩:=bf y;go_loop [6,7] (fun z bh=>∃(a h:Nat) (d:Int),p+2<=a/\a<=p+18/\a<=s.size/\s.size<a+h/\z= M N a/\bh= M .u64 d/\Hid (iJ mH s h a=H)/\Hid (d=(uK s (p+2) (a-(p+2)):Int))) (fun z _=>s.size-(A3 z).toNat)
 case atStart=>exact⟨p+2,s.size+1,0,by omega,by omega,a8,by omega,by simp,rfl,x,by show(0:Int)=_;rw[eB];rfl⟩
 case round=>
  obtain⟨a,h,d,bt,bs,br,bo,rfl,rfl,u,g⟩:=hrel;obtain⟨h,rfl⟩:∃a3,h=a3+1:=⟨h-1,by omega⟩;have j:=u.out;unfold iJ at j;have k:=fun w=>gg s a6 (a:Int) a rfl w;have f:=fun w=>yp (lk s a) (Lu s a).1 (Lu s a).2 w;rw[LA]at f;by_cases i:mH (az s a)=T
  ·have ak:a<s.size:=Ju Bb i;have bd:=fun w=>cD ak w;rw[rq ak]at k f;rw[ab i]at j;have a4:=(pA mH Bb s h (a+1) (by omega)).1;rw[j]at a4;have an:=aw j;have a9:0<=gj (az s a):=by simpa [mH] using i
   have bb:=mm (az s a);have ad:a≠p+18->uK s (p+2) (a-(p+2))<1152921504606846976:=fun J=>acE s (p+2) _ (by omega);have G:Hid (d*16+gj (az s a)=(uK s (p+2) (a+1-(p+2)):Int)):=by
    show _=_;rw[show a+1-(p+2)=(a-(p+2))+1 by omega,uK,show p+2+(a-(p+2))=a by omega,g.out];omega
   have ap:0<=d:=by rw[g.out];omega
   have q:a≠p+18->d<1152921504606846976:=fun J=>by have:=ad J;rw[g.out];omega
   generalize gj (az s a)=I at f a9 bb G;generalize az s a=ar at k f bd;clear j i ad;by_cases K:a=p+18
   ·have b:=m.out;have c:=n.out;simp only[ab (show p+2+16<H by omega)]at b c;simp at b c;subst b;have a5:am=(a:Int):=by omega
    clear c;subst a5;have av:((a:Int)-(p:Int)==18)=T:=by rw[ix];omega
    clear m n K q;go_wp2_with (first|(go_at_call 87;refine dK (k _) ?_)|(go_at_call 153;refine dK (f _) ?_));refine ba (v:= W #[A4 #[M N 2,M N p,M N 0,M N 0,M N 0,O ⟨#[]⟩],M N (a:Int)]) (by simp[results,Tryz.results152,go_sem,z0,A,B,C,E,F]) rfl ⟨rfl,?_⟩
    iterate 6 refine eH ?_ (by simp) _
    exact r
   ·have av:((a:Int)-(p:Int)==18)=V:=by rw[aK];omega
    have bn:=q K;clear q;go_wp2_with (first|(go_at_call 87;refine dK (k _) ?_)|(go_at_call 153;refine dK (f _) ?_));go_round
    case rel=>exact⟨a+1,h,d*16+I,by omega,by omega,by omega,by omega,by go_num,by first|rfl|(congr 1;omega),an,G⟩
    case measure=>simp[A3];omega
  ·have al:gj (az s a)<0:=by
    have:¬0<=gj (az s a):=by simpa [mH] using i
    omega
   rw[aa i]at j;subst j;have a7:¬(0:Int)<=gj (az s a):=by omega
   have ap:0<=d:=by rw[g.out];omega
   have q:d<18446744073709551616:=by rw[g.out];have:=Jy s (p+2) (a-(p+2)) (by omega);omega
   generalize gj (az s a)=I at f a7;generalize lk s a=ar at k f;have b:=m.out;have c:=n.out;simp only[aa (show ¬p+2+16<a by omega)]at b c;by_cases L:a=p+2
   ·have o:decide (p+2<a)=V:=by rw[qJ];omega
    simp only[o]at b c;simp at b c;subst b c;have a2:((a:Int)==(p:Int)+2)=T:=by rw[ix];omega
    clear m n i al L o g u x;go_wp2_with (first|(go_at_call 87;refine dK (k _) ?_)|(go_at_call 153;refine dK (f _) ?_));refine ba (v:= W #[A4 #[M N 2,M N p,M N 0,M N 0,M N 0,O ⟨#[]⟩],M N (a:Int)]) (by simp[results,Tryz.results152,go_sem,z0,A,B,C,E,F]) rfl ⟨rfl,?_⟩
    iterate 6 refine eH ?_ (by simp) _
    exact r
   ·have o:decide (p+2<a)=T:=by rw[jf];omega
    simp only[o]at b c;simp only[jh]at b c;rw[<-g.out]at b;subst b c;have a2:((a:Int)==(p:Int)+2)=V:=by rw[aK];omega
    clear m n i al L o g u x;go_wp2_with (first|(go_at_call 87;refine dK (k _) ?_)|(go_at_call 153;refine dK (f _) ?_));refine ba (v:= W #[A4 #[M N 2,M N p,M N (a:Int),M N 0,M N (wrap64 d),O ⟨#[]⟩],M N (-1)]) (by simp[results,Tryz.results152,go_sem,z0,A,B,C,E,F]) rfl ⟨rfl,?_⟩
    iterate 8 refine eH ?_ (by simp) _
    exact r
