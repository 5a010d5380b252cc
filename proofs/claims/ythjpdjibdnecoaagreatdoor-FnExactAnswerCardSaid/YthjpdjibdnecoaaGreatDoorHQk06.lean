import Derived.Test.YthjpdjibdnecoaaGreatDoorHQk03
import Derived.Test.YthjpdjibdnecoaaGreatDoorHQk04
set_option linter.all false
set_option maxRecDepth 100000
set_option maxHeartbeats 25600000
open Go.Proofs.Tryz renaming prog->M
open Go.Ending renaming returned->N
open Bool renaming false->O,true->T
open Go.Value renaming int->Q,string->R,bool->W,tuple->X
open Go.IntKind renaming i64->S,u8->Y
open Go renaming Calls->U,World->V
namespace Go.Proofs.YthjpdjibdnecoaaGreatDoor
open Go.RowKit Go.Maps Go.WideMaps
def mH(c:Int):Bool:=decide (0<=gj c)
theorem sy(c:Int):mH c=T↔(48<=c/\c<=57)\/(97<=c/\c<=102):=by
 unfold mH gj;rw[jf];split
 ·omega
 ·split<;>omega
theorem Bv(c:Int)(w:V):U M 248 #[Q Y c] w fun e f=>e= N (W (mH c))/\w=f:=by
 have b:=fun w=>ip c w;by_cases a:cu c=T
 ·rw[show mH c=T by rw[sy];have:=oh a;omega];rw[a]at b;clear a;go_in;go_wp2_with (first|(go_at_call 166;refine(b _).mono ?_;rintro e f ⟨rfl,rfl⟩));go_ret;exact⟨rfl,rfl⟩
 ·have d:cu c=O:=by simpa using a
  rw[d]at b;have h:¬(48<=c/\c<=57):=by simpa [cu] using d
  rcases(show(97<=c/\c<=102)\/c<97\/(97<=c/\102<c) by omega) with⟨j,k⟩|g|⟨j,k⟩
  ·rw[show mH c=T by rw[sy];omega];clear a d h;go_in;go_wp2_with (first|(go_at_call 166;refine(b _).mono ?_;rintro e f ⟨rfl,rfl⟩));go_ret;exact⟨rfl,rfl⟩
  ·rw[show mH c=O by rw[<-Em,sy];omega];have i:¬97<=c:=by omega
   clear a d h;go_in;go_wp2_with (first|(go_at_call 166;refine(b _).mono ?_;rintro e f ⟨rfl,rfl⟩));go_ret;exact⟨rfl,rfl⟩
  ·rw[show mH c=O by rw[<-Em,sy];omega];have i:¬c<=102:=by omega
   clear a d h;go_in;go_wp2_with (first|(go_at_call 166;refine(b _).mono ?_;rintro e f ⟨rfl,rfl⟩));go_ret;exact⟨by simp;omega,rfl⟩
def iJ(q:Int->Bool)(s:ByteArray):Nat->Nat->Nat
 |0,p=>p
 |f+1,p=>if q (az s p)=T then iJ q s f (p+1) else p
theorem Ju{q:Int->Bool}(a:q (-1)=O){s:ByteArray}{p:Nat}(h:q (az s p)=T):p<s.size:=by
 rcases co p s.size with h1|h1
 ·exact h1
 ·rw[dE (by omega),a]at h;cases h
theorem pA(q:Int->Bool)(a:q (-1)=O)(s:ByteArray):∀(f p:Nat),p<=s.size->p<=iJ q s f p/\iJ q s f p<=s.size
 |0,p,h=>⟨ae _,h⟩
 |f+1,p,h=>by
  unfold iJ;split
  ·rename_i b;have c:=Ju a b;have:=pA q a s f (p+1) (by omega);omega
  ·exact⟨ae _,h⟩
theorem Bw(q:Int->Bool)(s:ByteArray):∀(f p i:Nat),p<=i->i<iJ q s f p->q (az s i)=T
 |0,p,i,b,a=>by simp[iJ]at a;omega
 |f+1,p,i,b,a=>by
  unfold iJ at a;split at a
  ·rename_i c;rcases mi b with rfl|h3
   ·exact c
   ·exact Bw q s f (p+1) i h3 a
  ·omega
theorem xq:cu (-1)=O:=by decide
theorem Bb:mH (-1)=O:=by decide
def vF(s:ByteArray)(p:Nat):Nat:=iJ cu s (s.size+1) p
def hxE(s:ByteArray)(p:Nat):Nat:=iJ mH s (s.size+1) p
theorem uH(s:ByteArray)(z:s.size<=1100000)(p:Nat)(t:p<=s.size)(w:V):U M 233 #[R s,Q S p] w fun e k=>e= N (Q S (vF s p))/\k=w:=by
 unfold vF;obtain⟨q,i⟩:=ay (iJ cu s (s.size+1) p);rw[i];have o:=aw i;clear i;go_in;go_wp2_with fail;go_loop [1] (fun j=>∃(b c:Nat),b<=s.size/\s.size<b+c/\j= Q S b/\Hid (iJ cu s c b=q)) (fun j=>s.size-(intOf j).toNat)
 case atStart=>exact⟨p,s.size+1,t,by omega,rfl,o⟩
 case round=>
  obtain⟨b,c,y,x,rfl,n⟩:=hrel;obtain⟨c,rfl⟩:∃r,c=r+1:=⟨c-1,by omega⟩;have a:=n.out;unfold iJ at a;by_cases m:b<s.size
  ·have u:=fun w=>cD m w;generalize az s b=h at u a;have g:=fun w=>ip h w;by_cases d:cu h=T
   ·rw[ab d]at a;have f:=aw a;clear a;rw[d]at g;clear d;go_wp2_with (go_at_call 166;refine(g _).mono ?_;rintro e k ⟨rfl,rfl⟩);go_round
    case rel=>exact⟨b+1,c,by omega,by omega,by go_num,f⟩
    case measure=>simp[intOf];omega
   ·have l:cu h=O:=by simpa using d
    rw[aa d]at a;have f:=aw a;rw[l]at g;clear d l a;go_wp2_with (go_at_call 166;refine(g _).mono ?_;rintro e k ⟨rfl,rfl⟩);go_ret;exact⟨by rw[<-f.out];rfl,rfl⟩
  ·rw[aa (by rw[dE m];decide)]at a;have f:=aw a;clear a;have v:¬(b:Int)<(s.size:Int):=by omega
   go_wp2;go_ret;exact⟨by rw[<-f.out];rfl,rfl⟩
def mw(s:ByteArray)(q:Nat):Nat×Bool:=if q+16<hxE s q then(q+16,O) else(hxE s q,decide (q<hxE s q))
theorem Jv(s:ByteArray)(J:s.size<=1100000)(p:Nat)(C:p<=s.size)(w:V):U M 232 #[R s,Q S p] w fun e j=>e= N (X #[Q S ((mw s p).1:Int),W (mw s p).2])/\j=w:=by
 unfold mw hxE;obtain⟨i,m⟩:=ay (iJ mH s (s.size+1) p);rw[m];have x:=aw m;clear m;obtain⟨o,q,l⟩:∃o q,(if p+16<i then(p+16,O) else(i,decide (p<i)))=(o,q):=⟨_,_,rfl⟩;rw[l];have f:=aw l;clear l;go_in;go_wp2_with fail;go_loop [6] (fun n=>∃(a d:Nat),p<=a/\a<=p+16/\a<=s.size/\s.size<a+d/\n= Q S a/\Hid (iJ mH s d a=i)) (fun n=>s.size-(intOf n).toNat)
 case atStart=>exact⟨p,s.size+1,ae _,by omega,C,by omega,rfl,x⟩
 case round=>
  obtain⟨a,d,K,I,H,G,rfl,v⟩:=hrel;obtain⟨d,rfl⟩:∃A,d=A+1:=⟨d-1,by omega⟩;have c:=v.out;unfold iJ at c;by_cases u:a<s.size
  ·have E:=fun w=>cD u w;generalize az s a=k at E c;have h:=fun w=>Bv k w;by_cases g:mH k=T
   ·rw[ab g]at c;have B:=(pA mH Bb s d (a+1) (by omega)).1;rw[c]at B;have y:=aw c;clear c;rw[g]at h;clear g;by_cases t:a=p+16
    ·have b:=f.out;rw[ab (by omega),<-t]at b;obtain⟨rfl,rfl⟩:=xi b;have z:((a:Int)-(p:Int)==16)=T:=by rw[ix];omega
     clear b f t;go_wp2_with (go_at_call 248;refine(h _).mono ?_;rintro e j ⟨rfl,rfl⟩);go_ret2;exact⟨rfl,rfl⟩
    ·have z:((a:Int)-(p:Int)==16)=O:=by rw[aK];omega
     go_wp2_with (go_at_call 248;refine(h _).mono ?_;rintro e j ⟨rfl,rfl⟩);go_round
     case rel=>exact⟨a+1,d,by omega,by omega,by omega,by omega,by go_num,y⟩
     case measure=>simp[intOf];omega
   ·have r:mH k=O:=by simpa using g
    rw[aa g]at c;subst c;rw[r]at h;clear g r;have b:=f.out;rw[aa (by omega)]at b;obtain⟨rfl,rfl⟩:=xi b;clear b f;go_wp2_with (go_at_call 248;refine(h _).mono ?_;rintro e j ⟨rfl,rfl⟩);go_ret2;exact⟨by simp,rfl⟩
  ·rw[aa (by rw[dE u];decide)]at c;subst c;have F:¬(a:Int)<(s.size:Int):=by omega
   have b:=f.out;rw[aa (by omega)]at b;obtain⟨rfl,rfl⟩:=xi b;clear b f;go_wp2;go_ret2;exact⟨by simp,rfl⟩
theorem lh(s:ByteArray)(i:Nat)(b:UInt8):s.data.toList[i]?=some b↔i<s.size/\az s i=(b.toNat:Int):=by
 unfold az;by_cases a:i<s.size
 ·rw[kJ a];have d:s.data.toList[i]?=some s[i]:=by
   rw[pm];exact Ap a
  rw[d];constructor
  ·intro c;injection c with c;exact⟨a,by rw[c]⟩
  ·intro ⟨_,c⟩;congr 1;exact UInt8.toNat_inj.1 (by omega)
 ·have d:s.data.toList[i]?=none:=by
   rw[pm];exact tE (Nat.not_lt.1 a)
  rw[d];simp[a]
theorem EF(s:ByteArray)(p:Nat)(x b:UInt8):Lib.hasPrefix (s.extract p s.size).data.toList [x,b]=decide (az s p=(x.toNat:Int)/\az s (p+1)=(b.toNat:Int)):=by
 have o:(s.extract p s.size).data.toList=s.data.toList.drop p:=by
  rw[<-fj,Lib.extract_toList,fs];rw[jx,iv];exact ae _
 rw[o];unfold Lib.hasPrefix;rw[AC,Ao,jf];constructor
 ·rintro ⟨t,h⟩;have d:(s.data.toList.drop p)[0]?=some x:=by rw[<-h];rfl
  have e:(s.data.toList.drop p)[1]?=some b:=by rw[<-h];rfl
  rw[tH]at d e;exact⟨((lh s _ x).1 d).2,((lh s _ b).1 e).2⟩
 ·rintro ⟨d,e⟩;have f:∀a (c:UInt8),az s a=(c.toNat:Int)->s.data.toList[a]?=some c:=fun a c g=>by
   refine(lh s a c).2 ⟨?_,g⟩;rcases co a s.size with h2|h2
   ·exact h2
   ·rw[dE (by omega)]at g;omega
  have q:=f p x d;have r:=f (p+1) b e;refine⟨s.data.toList.drop (p+2),?_⟩;have i:=List.getElem?_eq_some_iff.1 q;have j:=List.getElem?_eq_some_iff.1 r;obtain⟨k,m⟩:=i;obtain⟨l,n⟩:=j;rw[je k,je l,m,n];rfl
def nA0(s:ByteArray)(p:Nat):Nat:=if az s p=48 then p+1 else vF s (p+1)
def nA1(s:ByteArray)(a:Nat):Nat:=if az s a=46/\cu (az s (a+1))=T then vF s (a+1) else a
def nA2(s:ByteArray)(a:Nat):Nat:=if az s (a+1)=43\/az s (a+1)=45 then a+1+1 else a+1
def oA(s:ByteArray)(a:Nat):Nat×Bool:=if az s a=101 then(vF s (nA2 s a),decide (nA2 s a<vF s (nA2 s a))) else(a,T)
def dl(s:ByteArray)(p:Nat):Nat×Bool:=if az s p=48/\az s (p+1)=120 then mw s (p+2) else oA s (nA1 s (nA0 s p))
theorem rm(s:ByteArray)(p:Nat)(h:p<=s.size):p<=vF s p/\vF s p<=s.size:=pA cu xq s _ p h
theorem uI(s:ByteArray)(c:s.size<=1100000)(a:Int)(p:Nat)(b:a=(p:Int))(d:p<=s.size)(w:V):U M 233 #[R s,Q S a] w fun e f=>e= N (Q S (vF s p))/\f=w:=by
 subst b;exact uH s c p d w
theorem xr{s:ByteArray}(a:Int)(i:Nat)(b:a=(i:Int))(h:i<s.size)(w:V):(Instr.index 9 (R s) (Q S a)).run M w= .ok (Q Y (az s i)) w:=by
 subst b;exact cD h w
theorem dv{s:ByteArray}{i:Nat}{c:Int}(h:az s i=c)(a:0<=c):i<s.size:=by
 rcases co i s.size with h2|h2
 ·exact h2
 ·rw[dE (by omega)]at h;omega
theorem qa{s:ByteArray}{i:Nat}(h:cu (az s i)=T):i<s.size:=Ju xq h
theorem Bx(s:ByteArray)(p:Nat)(w:V):U M 124 #[R (s.extract p s.size),R ⟨#[48,120]⟩] w fun e b=>e= N (W (decide (az s p=48/\az s (p+1)=120)))/\b=w:=by
 have a:=Tryz.strings_HasPrefix (s.extract p s.size) ⟨#[48,120]⟩ w;rw[show(⟨#[48,120]⟩:ByteArray).data.toList=[48,120] from rfl,EF]at a;exact a
theorem C4(s:ByteArray)(h:s.size<=1100000)(p:Nat)(a:az s p=48)(b:az s (p+1)=120)(w:V):U M 207 #[R s,Q S p] w fun e d=>e= N (X #[Q S ((mw s (p+2)).1:Int),W (mw s (p+2)).2])/\d=w:=by
 have k:=dv a (by omega);have l:=dv b (by omega);have f:=fun w=>Bx s p w;rw[show decide (az s p=48/\az s (p+1)=120)=T by simp[a,b]]at f;have c:∀w,U M 232 #[R s,Q S ((p:Int)+2)] w fun e d=>e= N (X #[Q S ((mw s (p+2)).1:Int),W (mw s (p+2)).2])/\d=w:=fun w=>Jv s h (p+2) (by omega) w;generalize mw s (p+2)=g at c;obtain⟨i,j⟩:=g;simp only at c⊢;clear a b;go_in;go_wp2_with (first|(go_at_call 124;refine dK (f _) ?_)|(go_at_call 232;refine dK (c _) ?_));go_ret2;exact⟨rfl,rfl⟩
abbrev IX(s:ByteArray)(a c:Int):Prop:=∀b,(Instr.index 9 (R s) (Q S a)).run M b= .ok (Q Y c) b
abbrev DE(s:ByteArray)(a:Int)(B:Nat):Prop:=∀b,U M 233 #[R s,Q S a] b fun c d=>c= N (Q S (B:Int))/\d=b
abbrev DQ(c:Int)(b:Bool):Prop:=∀a,U M 166 #[Q Y c] a fun d e=>d= N (W b)/\e=a
theorem ams(s:ByteArray)(d:s.size<=1100000)(p:Nat)(f:p<s.size):∃a:Int,a=(nA0 s p:Nat)/\nA0 s p<=s.size/\((az s p=48/\a=(p:Int)+1)\/((az s p==48)=O/\DE s ((p:Int)+1) (nA0 s p)/\∃c,nA0 s p=c/\a=(c:Int))):=by
 unfold nA0;split
 ·rename_i b;exact⟨_,rfl,by omega,.inl ⟨b,by omega⟩⟩
 ·rename_i b;exact⟨_,rfl,(rm s (p+1) (by omega)).2,.inr ⟨by simp[b],fun e=>uH s d (p+1) (by omega) e,_,rfl,rfl⟩⟩
theorem amt(s:ByteArray)(n:s.size<=1100000)(c:Nat)(m:c<=s.size)(a:Int)(h:a=(c:Int)):∃b:Int,b=(nA1 s c:Nat)/\nA1 s c<=s.size/\((¬a+1<(s.size:Int)/\b=a/\nA1 s c=c)\/(a+1<(s.size:Int)/\IX s a (az s c)/\((b=a/\nA1 s c=c/\(az s c==46)=O)\/(az s c=46/\IX s (a+1) (az s (c+1))/\((b=a/\nA1 s c=c/\DQ (az s (c+1)) O)\/(DQ (az s (c+1)) T/\DE s (a+1) (nA1 s c)/\∃B,nA1 s c=B/\b=(B:Int))))))):=by
 have k:∀f,DQ f (cu f):=fun f e=>(ip _ e).mono fun o p d=>⟨d.1,d.2.symm⟩;have i:c<s.size->IX s a (az s c):=fun d e=>xr _ c h d e;have j:c+1<s.size->IX s (a+1) (az s (c+1)):=fun d e=>xr _ (c+1) (by omega) d e;unfold nA1;split
 ·rename_i d;have h1:=qa d.2;exact⟨_,rfl,(rm s (c+1) (by omega)).2,.inr ⟨by omega,i (by omega),.inr ⟨d.1,j h1,.inr ⟨by rw[<-d.2];exact k _,fun e=>uI s n _ (c+1) (by omega) (by omega) e,_,rfl,rfl⟩⟩⟩⟩
 ·rename_i d;refine⟨a,h,m,?_⟩;rcases co (c+1) s.size with h1|h1
  ·refine .inr ⟨by omega,i (by omega),?_⟩;by_cases g:az s c=46
   ·refine .inr ⟨g,j h1,.inl ⟨rfl,rfl,?_⟩⟩;have l:cu (az s (c+1))=O:=by simpa [g] using d
    rw[<-l];exact k _
   ·exact .inl ⟨rfl,rfl,by simp[g]⟩
  ·exact .inl ⟨by omega,rfl,rfl⟩
theorem amu(s:ByteArray)(l:s.size<=1100000)(B:Nat)(m:B<=s.size)(b:Int)(f:b=(B:Int)):((b==(s.size:Int))=T/\((oA s B).1:Int)=b/\(oA s B).2=T)\/((b==(s.size:Int))=O/\IX s b (az s B)/\(((az s B==101)=O/\((oA s B).1:Int)=b/\(oA s B).2=T)\/(az s B=101/\∃d:Int,((¬b+1<(s.size:Int)/\d=b+1)\/(b+1<(s.size:Int)/\IX s (b+1) (az s (B+1))/\((az s (B+1)=43/\d=b+1+1)\/(az s (B+1)=45/\d=b+1+1)\/((az s (B+1)==43)=O/\(az s (B+1)==45)=O/\d=b+1))))/\∃C:Nat,DE s d C/\(oA s B).1=C/\(oA s B).2=decide (d<(C:Int))))):=by
 unfold oA;have i:B+1<s.size->IX s (b+1) (az s (B+1)):=fun h c=>xr _ (B+1) (by omega) h c;by_cases e:az s B=101
 ·have j:=dv e (by omega);rw[ab e];refine .inr ⟨by rw[aK];omega,fun c=>xr _ B f j c,.inr ⟨e,(nA2 s B:Nat),?_,_,fun c=>uI s l _ (nA2 s B) rfl ?_ c,rfl,by rw[En];omega⟩⟩
  ·unfold nA2;rcases(show ¬B+1<s.size\/(B+1<s.size/\az s (B+1)=43)\/(B+1<s.size/\az s (B+1)=45)\/(B+1<s.size/\az s (B+1)≠43/\az s (B+1)≠45) by omega) with h2|⟨h2,a⟩|⟨h2,a⟩|⟨h2,a,k⟩
   ·rw[aa (by rw[dE h2];omega)];exact .inl ⟨by omega,by omega⟩
   ·rw[ab (.inl a)];exact .inr ⟨by omega,i h2,.inl ⟨a,by omega⟩⟩
   ·rw[ab (.inr a)];exact .inr ⟨by omega,i h2,.inr (.inl ⟨a,by omega⟩)⟩
   ·rw[aa (by omega)];exact .inr ⟨by omega,i h2,.inr (.inr ⟨by simp[a],by simp[k],by omega⟩)⟩
  ·unfold nA2;split
   ·rename_i h;rcases co (B+1) s.size with g|g
    ·omega
    ·rw[dE (by omega)]at h;omega
   ·omega
 ·rw[aa e];rcases(show B=s.size\/B<s.size by omega) with h2|h2
  ·exact .inl ⟨by rw[ix];omega,f.symm,rfl⟩
  ·exact .inr ⟨by rw[aK];omega,fun c=>xr _ B f h2 c,.inl ⟨by simp[e],f.symm,rfl⟩⟩
theorem C5(s:ByteArray)(f:s.size<=1100000)(p:Nat)(k:p<s.size)(l:¬(az s p=48/\az s (p+1)=120))(w:V):U M 207 #[R s,Q S p] w fun e H=>e= N (X #[Q S ((oA s (nA1 s (nA0 s p))).1:Int),W (oA s (nA1 s (nA0 s p))).2])/\H=w:=by
 have m:=fun w=>Bx s p w;rw[aB l]at m;have an:=fun w=>cD k w;obtain⟨r,c,i,o⟩:=ams s f p k;obtain⟨t,d,j,g⟩:=amt s f _ i r c;have a:=amu s f _ j t d;generalize oA s (nA1 s (nA0 s p))=q at a⊢;obtain⟨af,ak⟩:=q;simp only at a⊢;clear l;have u:nA0 s p<=1100000:=by omega
 have v:nA1 s (nA0 s p)<=1100000:=by omega
 generalize nA1 s (nA0 s p)=K at d j g a v;generalize nA0 s p=I at c i o g u;rcases o with⟨x,rfl⟩|⟨x,A,J,rfl,rfl⟩;all_goals
  rcases g with⟨G,rfl,rfl⟩|⟨G,ao,⟨rfl,rfl,y⟩|⟨y,ap,⟨rfl,rfl,n⟩|⟨n,B,L,rfl,rfl⟩⟩⟩;all_goals
   rcases a with⟨E,b,rfl⟩|⟨E,ar,⟨z,b,rfl⟩|⟨z,al,⟨F,rfl⟩|⟨F,av,⟨h,rfl⟩|⟨h,rfl⟩|⟨h,am,rfl⟩⟩,ad,C,rfl,rfl⟩⟩;all_goals first|omega|skip
   all_goals
    try rw[b]
    try clear b
    clear c d;go_in;go_wp2_with (first|(go_at_call 124;refine dK (m _) ?_)|(go_at_call 166;refine dK (n _) ?_)|(go_at_call 233;first|(with_reducible refine dK (A _) ?_)|(with_reducible refine dK (B _) ?_)|(with_reducible refine dK (C _) ?_)));all_goals
     go_ret2;exact⟨rfl,rfl⟩
theorem uJ(s:ByteArray)(b:s.size<=1100000)(p:Nat)(c:p<s.size)(w:V):U M 207 #[R s,Q S p] w fun e d=>e= N (X #[Q S ((dl s p).1:Int),W (dl s p).2])/\d=w:=by
 unfold dl;by_cases a:az s p=48/\az s (p+1)=120
 ·rw[ab a];exact C4 s b p a.1 a.2 w
 ·rw[aa a];exact C5 s b p c a w
