import Derived.Test.YtjeamjdieofoeaaGreatDoorHZk02
import Derived.Test.YtjeamjdieofoeaaGreatDoorHZk03
set_option linter.all false
set_option maxRecDepth 100000
set_option maxHeartbeats 25600000
open Go.Proofs.Tryz renaming prog->M
open Go.Value renaming int->N,string->Q,tuple->X,bool->Z,agg->Bs,nilIface->B0
open Go.IntKind renaming i64->O,u8->A9
open Go.Ending renaming returned->R
open Go.Lib renaming parseUintM->S,hasPrefix->Ax
open Bool renaming false->T,true->U
open Go renaming Calls->V,World->W
open Option renaming some->Y,none->A0
open Go.RowKit renaming Below->A2,intOf->A5,Hid->Br
namespace Go.Proofs.YtjeamjdieofoeaaGreatDoor
open Go.RowKit Go.Maps Go.WideMaps
variable{B i:Nat}{c:Int}{s:ByteArray}{w:World}
def ny(c:Int):Bool:=decide (0<=fK c)
theorem tL(c:Int):ny c=U↔(48<=c/\c<=57)\/(97<=c/\c<=102):=by
 unfold ny fK;rw[jF];split
 ·omega
 ·split<;>omega
theorem B2(c:Int)(w:W):V M 293 #[N A9 c] w fun e w'=>e= R (Z (ny c))/\w=w':=by
 have b:=fun w=>iH c w;by_cases a:cp c=U
 ·rw[show ny c=U by rw[tL];have:=oD a;omega];rw[a]at b;clear a;go_in;go_wp2_with (first|(go_at_call 200;refine(b _).mono ?_;rintro e w' ⟨rfl,rfl⟩));go_ret;exact⟨rfl,rfl⟩
 ·have d:cp c=T:=by simpa using a
  rw[d]at b;have f:¬(48<=c/\c<=57):=by simpa [cp] using d
  rcases(show(97<=c/\c<=102)\/c<97\/(97<=c/\102<c) by omega) with⟨i,j⟩|g|⟨i,j⟩
  ·rw[show ny c=U by rw[tL];omega];clear a d f;go_in;go_wp2_with (first|(go_at_call 200;refine(b _).mono ?_;rintro e w' ⟨rfl,rfl⟩));go_ret;exact⟨rfl,rfl⟩
  ·rw[show ny c=T by rw[<-FA,tL];omega];have h:¬97<=c:=by omega
   clear a d f;go_in;go_wp2_with (first|(go_at_call 200;refine(b _).mono ?_;rintro e w' ⟨rfl,rfl⟩));go_ret;exact⟨rfl,rfl⟩
  ·rw[show ny c=T by rw[<-FA,tL];omega];have h:¬c<=102:=by omega
   clear a d f;go_in;go_wp2_with (first|(go_at_call 200;refine(b _).mono ?_;rintro e w' ⟨rfl,rfl⟩));go_ret;exact⟨by simp;omega,rfl⟩
def gF(q:Int->Bool)(s:ByteArray):Nat->Nat->Nat
 |0,p=>p
 |f+1,p=>if q (ax s p)=U then gF q s f (p+1) else p
theorem Lc{q:Int->Bool}(a:q (-1)=T){p:Nat}(h:q (ax s p)=U):p<s.size:=by
 rcases bj p s.size with h1|h1
 ·exact h1
 ·rw[dj,a]at h;cases h
theorem oq(q:Int->Bool)(a:q (-1)=T)(s:ByteArray):∀(f p:Nat),p<=s.size->p<=gF q s f p/\gF q s f p<=s.size
 |0,p,h=>⟨ag _,h⟩
 |f+1,p,h=>by
  unfold gF;split
  ·rename_i b;have c:=Lc a b;have:=oq q a s f (p+1) (by omega);omega
  ·exact⟨ag _,h⟩
theorem xK(q:Int->Bool)(s:ByteArray):∀(f p i:Nat),p<=i->i<gF q s f p->q (ax s i)=U
 |0,p,i,b,a=>by simp[gF]at a;omega
 |f+1,p,i,b,a=>by
  unfold gF at a;split at a
  ·rename_i c;rcases iL b with rfl|h3
   ·exact c
   ·exact xK q s f (p+1) i h3 a
  ·omega
theorem xL:cp (-1)=T:=by decide
theorem Be:ny (-1)=T:=by decide
def ua(s:ByteArray)(p:Nat):Nat:=gF cp s (s.size+1) p
def hxE(s:ByteArray)(p:Nat):Nat:=gF ny s (s.size+1) p
theorem vI(s:ByteArray)(x:s.size<=1100000)(p:Nat)(r:p<=s.size)(w:W):V M 277 #[Q s,N O p] w fun e w'=>e= R (N O (ua s p))/\w'=w:=by
 unfold ua;obtain⟨o,i⟩:=az (gF cp s (s.size+1) p);rw[i];have n:=aq i;clear i;go_in;go_wp21
 go_loop [1] (fun j=>∃(b c:Nat),b<=s.size/\s.size<b+c/\j= N O b/\Br (gF cp s c b=o)) (fun j=>s.size-(A5 j).toNat)
 case atStart=>exact⟨p,s.size+1,r,by omega,rfl,n⟩
 case round=>
  obtain⟨b,c,v,u,rfl,m⟩:=hrel;obtain⟨c,rfl⟩:∃q,c=q+1:=⟨c-1,by omega⟩;have a:=m.out;unfold gF at a;by_cases l:b<s.size
  ·have t:=fun w=>cL l w;generalize ax s b=h at t a;have g:=fun w=>iH h w;by_cases d:cp h=U
   ·rw[ab d]at a;have f:=aq a;clear a;rw[d]at g;clear d;go_wp2_with (go_at_call 200;refine(g _).mono ?_;rintro e w' ⟨rfl,rfl⟩);go_round
    case rel=>exact⟨b+1,c,by omega,by omega,by go_num,f⟩
    case measure=>simp[A5];omega
   ·have k:cp h=T:=by simpa using d
    rw[aa d]at a;have f:=aq a;rw[k]at g;clear d k a;go_wp2_with (go_at_call 200;refine(g _).mono ?_;rintro e w' ⟨rfl,rfl⟩);go_ret;exact⟨by rw[<-f.out];rfl,rfl⟩
  ·rw[aa (by rw[dj l];decide)]at a;have f:=aq a;clear a;go_wp2;go_ret;exact⟨by rw[<-f.out];rfl,rfl⟩
def mu(s:ByteArray)(q:Nat):Nat×Bool:=if q+16<hxE s q then(q+16,T) else(hxE s q,decide (q<hxE s q))
theorem Ld(s:ByteArray)(H:s.size<=1100000)(p:Nat)(B:p<=s.size)(w:W):V M 276 #[Q s,N O p] w fun e w'=>e= R (X #[N O ((mu s p).1:Int),Z (mu s p).2])/\w'=w:=by
 unfold mu hxE;obtain⟨i,l⟩:=az (gF ny s (s.size+1) p);rw[l];have v:=aq l;clear l;obtain⟨n,o,k⟩:∃n o,(if p+16<i then(p+16,T) else(i,decide (p<i)))=(n,o):=⟨_,_,rfl⟩;rw[k];have f:=aq k;clear k;go_in;go_wp21
 go_loop [6] (fun m=>∃(a d:Nat),p<=a/\a<=p+16/\a<=s.size/\s.size<a+d/\m= N O a/\Br (gF ny s d a=i)) (fun m=>s.size-(A5 m).toNat)
 case atStart=>exact⟨p,s.size+1,ag _,by omega,B,by omega,rfl,v⟩
 case round=>
  obtain⟨a,d,I,G,F,E,rfl,u⟩:=hrel;obtain⟨d,rfl⟩:∃z,d=z+1:=⟨d-1,by omega⟩;have c:=u.out;unfold gF at c;by_cases t:a<s.size
  ·have C:=fun w=>cL t w;generalize ax s a=j at C c;have h:=fun w=>B2 j w;by_cases g:ny j=U
   ·rw[ab g]at c;have A:=(oq ny Be s d (a+1) (by omega)).1;rw[c]at A;have x:=aq c;clear c;rw[g]at h;clear g;by_cases r:a=p+16
    ·have b:=f.out;rw[ab (by omega),<-r]at b;obtain⟨rfl,rfl⟩:=xz b;have y:((a:Int)-(p:Int)==16)=U:=by rw[ja];omega
     clear b f r;go_wp2_with (go_at_call 293;refine(h _).mono ?_;rintro e w' ⟨rfl,rfl⟩);go_ret2;exact⟨rfl,rfl⟩
    ·have y:((a:Int)-(p:Int)==16)=T:=by rw[cG];omega
     go_wp2_with (go_at_call 293;refine(h _).mono ?_;rintro e w' ⟨rfl,rfl⟩);go_round
     case rel=>exact⟨a+1,d,by omega,by omega,by omega,by omega,by go_num,x⟩
     case measure=>simp[A5];omega
   ·have q:ny j=T:=by simpa using g
    rw[aa g]at c;subst c;rw[q]at h;clear g q;have b:=f.out;rw[aa (by omega)]at b;obtain⟨rfl,rfl⟩:=xz b;clear b f;go_wp2_with (go_at_call 293;refine(h _).mono ?_;rintro e w' ⟨rfl,rfl⟩);go_ret2;exact⟨by simp,rfl⟩
  ·rw[aa (by rw[dj t];decide)]at c;subst c;have b:=f.out;rw[aa (by omega)]at b;obtain⟨rfl,rfl⟩:=xz b;clear b f;go_wp2;go_ret2;exact⟨by simp,rfl⟩
theorem iC(s:ByteArray)(i:Nat)(b:UInt8):s.data.toList[i]?=Y b↔i<s.size/\ax s i=(b.toNat:Int):=by
 unfold ax;by_cases a:i<s.size
 ·rw[mJ a];have d:s.data.toList[i]?=Y s[i]:=by
   rw[ux];exact uA a
  rw[d];constructor
  ·intro c;injection c with c;exact⟨a,by rw[c]⟩
  ·intro ⟨_,c⟩;congr 1;exact UInt8.toNat_inj.1 (by omega)
 ·have d:s.data.toList[i]?=A0:=by
   rw[ux];exact xk (Nat.not_lt.1 a)
  rw[d];simp[a]
theorem F7(s:ByteArray)(p:Nat)(x b:UInt8):Ax (s.extract p s.size).data.toList [x,b]=decide (ax s p=(x.toNat:Int)/\ax s (p+1)=(b.toNat:Int)):=by
 have o:(s.extract p s.size).data.toList=s.data.toList.drop p:=by
  rw[<-fE,Lib.extract_toList,cA];rw[ep,ib];exact ag _
 rw[o];unfold Ax;rw[xy,xm,jF];constructor
 ·rintro ⟨t,h⟩;have d:(s.data.toList.drop p)[0]?=Y x:=by rw[<-h];rfl
  have e:(s.data.toList.drop p)[1]?=Y b:=by rw[<-h];rfl
  rw[pI]at d e;exact⟨((iC s _ x).1 d).2,((iC s _ b).1 e).2⟩
 ·rintro ⟨d,e⟩;have f:∀a (c:UInt8),ax s a=(c.toNat:Int)->s.data.toList[a]?=Y c:=fun a c g=>by
   refine(iC s a c).2 ⟨?_,g⟩;rcases bj a s.size with h2|h2
   ·exact h2
   ·rw[dj]at g;omega
  have q:=f p x d;have r:=f (p+1) b e;refine⟨s.data.toList.drop (p+2),?_⟩;have i:=List.getElem?_eq_some_iff.1 q;have j:=List.getElem?_eq_some_iff.1 r;obtain⟨k,m⟩:=i;obtain⟨l,n⟩:=j;rw[jo k,jo l,m,n];rfl
def nA0(s:ByteArray)(p:Nat):Nat:=if ax s p=48 then p+1 else ua s (p+1)
def nA1(s:ByteArray)(a:Nat):Nat:=if ax s a=46/\cp (ax s (a+1))=U then ua s (a+1) else a
def nA2(s:ByteArray)(a:Nat):Nat:=if ax s (a+1)=43\/ax s (a+1)=45 then a+1+1 else a+1
def nJ(s:ByteArray)(a:Nat):Nat×Bool:=if ax s a=101 then(ua s (nA2 s a),decide (nA2 s a<ua s (nA2 s a))) else(a,U)
def di(s:ByteArray)(p:Nat):Nat×Bool:=if ax s p=48/\ax s (p+1)=120 then mu s (p+2) else nJ s (nA1 s (nA0 s p))
theorem so(s:ByteArray)(p:Nat)(h:p<=s.size):p<=ua s p/\ua s p<=s.size:=oq cp xL s _ p h
theorem vJ(s:ByteArray)(c:s.size<=1100000)(a:Int)(p:Nat)(b:a=(p:Int))(d:p<=s.size)(w:W):V M 277 #[Q s,N O a] w fun e w'=>e= R (N O (ua s p))/\w'=w:=by
 subst b;exact vI s c p d w
theorem ya(a:Int)(i:Nat)(b:a=(i:Int))(h:i<s.size)(w:W):(Instr.index 9 (Q s) (N O a)).run M w= .ok (N A9 (ax s i)) w:=by
 subst b;exact cL h w
theorem db(h:ax s i=c)(a:0<=c:=by omega):i<s.size:=by
 rcases bj i s.size with h2|h2
 ·exact h2
 ·rw[dj]at h;omega
theorem qx(h:cp (ax s i)=U):i<s.size:=Lc xL h
theorem B5(s:ByteArray)(p:Nat)(w:W):V M 130 #[Q (s.extract p s.size),Q ⟨#[48,120]⟩] w fun e w'=>e= R (Z (decide (ax s p=48/\ax s (p+1)=120)))/\w'=w:=by
 have a:=Tryz.strings_HasPrefix (s.extract p s.size) ⟨#[48,120]⟩ w;rw[show(⟨#[48,120]⟩:ByteArray).data.toList=[48,120] from rfl,F7]at a;exact a
theorem DJ(s:ByteArray)(g:s.size<=1100000)(p:Nat)(c:ax s p=48)(a:ax s (p+1)=120)(w:W):V M 244 #[Q s,N O p] w fun e w'=>e= R (X #[N O ((mu s (p+2)).1:Int),Z (mu s (p+2)).2])/\w'=w:=by
 have j:=db a;have d:=fun w=>B5 s p w;rw[show decide (ax s p=48/\ax s (p+1)=120)=U by simp[c,a]]at d;have b:∀w,V M 276 #[Q s,N O ((p:Int)+2)] w fun e w'=>e= R (X #[N O ((mu s (p+2)).1:Int),Z (mu s (p+2)).2])/\w'=w:=fun w=>Ld s g (p+2) (by omega) w;generalize mu s (p+2)=f at b;obtain⟨h,i⟩:=f;simp only at b⊢;clear c a;go_in;go_wp2_with (first|(go_at_call 130;refine dB (d _) ?_)|(go_at_call 276;refine dB (b _) ?_));go_ret2;exact⟨rfl,rfl⟩
abbrev IX(s:ByteArray)(a c:Int):Prop:=∀w,(Instr.index 9 (Q s) (N O a)).run M w= .ok (N A9 c) w
abbrev DE(s:ByteArray)(a:Int)(B:Nat):Prop:=∀w,V M 277 #[Q s,N O a] w fun b c=>b= R (N O (B:Int))/\c=w
abbrev DQ(c:Int)(b:Bool):Prop:=∀w,V M 200 #[N A9 c] w fun a d=>a= R (Z b)/\d=w
theorem aos(s:ByteArray)(d:s.size<=1100000)(p:Nat)(f:p<s.size):∃a:Int,a=(nA0 s p:Nat)/\nA0 s p<=s.size/\((ax s p=48/\a=(p:Int)+1)\/((ax s p==48)=T/\DE s ((p:Int)+1) (nA0 s p)/\∃c,nA0 s p=c/\a=(c:Int))):=by
 unfold nA0;split
 ·rename_i b;exact⟨_,rfl,by omega,.inl ⟨b,by omega⟩⟩
 ·rename_i b;exact⟨_,rfl,(so s (p+1) (by omega)).2,.inr ⟨by simp[b],fun e=>vI s d (p+1) (by omega) e,_,rfl,rfl⟩⟩
theorem aot(s:ByteArray)(n:s.size<=1100000)(c:Nat)(m:c<=s.size)(a:Int)(h:a=(c:Int)):∃b:Int,b=(nA1 s c:Nat)/\nA1 s c<=s.size/\((¬a+1<(s.size:Int)/\b=a/\nA1 s c=c)\/(a+1<(s.size:Int)/\IX s a (ax s c)/\((b=a/\nA1 s c=c/\(ax s c==46)=T)\/(ax s c=46/\IX s (a+1) (ax s (c+1))/\((b=a/\nA1 s c=c/\DQ (ax s (c+1)) T)\/(DQ (ax s (c+1)) U/\DE s (a+1) (nA1 s c)/\∃B,nA1 s c=B/\b=(B:Int))))))):=by
 have k:∀f,DQ f (cp f):=fun f e=>(iH _ e).mono fun o p d=>⟨d.1,d.2.symm⟩;have i:c<s.size->IX s a (ax s c):=fun d e=>ya _ c h d e;have j:c+1<s.size->IX s (a+1) (ax s (c+1)):=fun d e=>ya _ (c+1) (by omega) d e;unfold nA1;split
 ·rename_i d;have h1:=qx d.2;exact⟨_,rfl,(so s (c+1) (by omega)).2,.inr ⟨by omega,i (by omega),.inr ⟨d.1,j h1,.inr ⟨by rw[<-d.2];exact k _,fun e=>vJ s n _ (c+1) (by omega) (by omega) e,_,rfl,rfl⟩⟩⟩⟩
 ·rename_i d;refine⟨a,h,m,?_⟩;rcases bj (c+1) s.size with h1|h1
  ·refine .inr ⟨by omega,i (by omega),?_⟩;by_cases g:ax s c=46
   ·refine .inr ⟨g,j h1,.inl ⟨rfl,rfl,?_⟩⟩;have l:cp (ax s (c+1))=T:=by simpa [g] using d
    rw[<-l];exact k _
   ·exact .inl ⟨rfl,rfl,by simp[g]⟩
  ·exact .inl ⟨by omega,rfl,rfl⟩
theorem aou(s:ByteArray)(l:s.size<=1100000)(B:Nat)(m:B<=s.size)(b:Int)(f:b=(B:Int)):((b==(s.size:Int))=U/\((nJ s B).1:Int)=b/\(nJ s B).2=U)\/((b==(s.size:Int))=T/\IX s b (ax s B)/\(((ax s B==101)=T/\((nJ s B).1:Int)=b/\(nJ s B).2=U)\/(ax s B=101/\∃d:Int,((¬b+1<(s.size:Int)/\d=b+1)\/(b+1<(s.size:Int)/\IX s (b+1) (ax s (B+1))/\((ax s (B+1)=43/\d=b+1+1)\/(ax s (B+1)=45/\d=b+1+1)\/((ax s (B+1)==43)=T/\(ax s (B+1)==45)=T/\d=b+1))))/\∃C:Nat,DE s d C/\(nJ s B).1=C/\(nJ s B).2=decide (d<(C:Int))))):=by
 unfold nJ;have i:B+1<s.size->IX s (b+1) (ax s (B+1)):=fun h c=>ya _ (B+1) (by omega) h c;by_cases e:ax s B=101
 ·have j:=db e;rw[ab e];refine .inr ⟨by rw[cG];omega,fun c=>ya _ B f j c,.inr ⟨e,(nA2 s B:Nat),?_,_,fun c=>vJ s l _ (nA2 s B) rfl ?_ c,rfl,by rw[FB];omega⟩⟩
  ·unfold nA2;rcases(show ¬B+1<s.size\/(B+1<s.size/\ax s (B+1)=43)\/(B+1<s.size/\ax s (B+1)=45)\/(B+1<s.size/\ax s (B+1)≠43/\ax s (B+1)≠45) by omega) with h2|⟨h2,a⟩|⟨h2,a⟩|⟨h2,a,k⟩
   ·rw[aa (by rw[dj h2];omega)];exact .inl ⟨by omega,by omega⟩
   ·rw[ab (.inl a)];exact .inr ⟨by omega,i h2,.inl ⟨a,by omega⟩⟩
   ·rw[ab (.inr a)];exact .inr ⟨by omega,i h2,.inr (.inl ⟨a,by omega⟩)⟩
   ·rw[aa (by omega)];exact .inr ⟨by omega,i h2,.inr (.inr ⟨by simp[a],by simp[k],by omega⟩)⟩
  ·unfold nA2;split
   ·rename_i h;rcases bj (B+1) s.size with g|g
    ·omega
    ·rw[dj]at h;omega
   ·omega
 ·rw[aa e];rcases(show B=s.size\/B<s.size by omega) with h2|h2
  ·exact .inl ⟨by rw[ja];omega,f.symm,rfl⟩
  ·exact .inr ⟨by rw[cG];omega,fun c=>ya _ B f h2 c,.inl ⟨by simp[e],f.symm,rfl⟩⟩
theorem DK(s:ByteArray)(f:s.size<=1100000)(p:Nat)(k:p<s.size)(l:¬(ax s p=48/\ax s (p+1)=120))(w:W):V M 244 #[Q s,N O p] w fun e w'=>e= R (X #[N O ((nJ s (nA1 s (nA0 s p))).1:Int),Z (nJ s (nA1 s (nA0 s p))).2])/\w'=w:=by
 have m:=fun w=>B5 s p w;rw[aC l]at m;have am:=fun w=>cL k w;obtain⟨r,c,i,o⟩:=aos s f p k;obtain⟨t,d,j,g⟩:=aot s f _ i r c;have a:=aou s f _ j t d;generalize nJ s (nA1 s (nA0 s p))=q at a⊢;obtain⟨ad,af⟩:=q;simp only at a⊢;clear l;have u:nA0 s p<=1100000:=by omega
 have v:nA1 s (nA0 s p)<=1100000:=by omega
 generalize nA1 s (nA0 s p)=J at d j g a v;generalize nA0 s p=H at c i o g u;rcases o with⟨x,rfl⟩|⟨x,A,I,rfl,rfl⟩;all_goals
  rcases g with⟨G,rfl,rfl⟩|⟨G,an,⟨rfl,rfl,y⟩|⟨y,ao,⟨rfl,rfl,n⟩|⟨n,B,K,rfl,rfl⟩⟩⟩;all_goals
   rcases a with⟨E,b,rfl⟩|⟨E,ap,⟨z,b,rfl⟩|⟨z,ak,⟨F,rfl⟩|⟨F,ar,⟨h,rfl⟩|⟨h,rfl⟩|⟨h,al,rfl⟩⟩,L,C,rfl,rfl⟩⟩;all_goals first|omega|skip
   all_goals
    try rw[b]
    try clear b
    clear c d;go_in;go_wp2_with (first|(go_at_call 130;refine dB (m _) ?_)|(go_at_call 200;refine dB (n _) ?_)|(go_at_call 277;first|(with_reducible refine dB (A _) ?_)|(with_reducible refine dB (B _) ?_)|(with_reducible refine dB (C _) ?_)));all_goals
     go_ret2;exact⟨rfl,rfl⟩
theorem vK(s:ByteArray)(b:s.size<=1100000)(p:Nat)(c:p<s.size)(w:W):V M 244 #[Q s,N O p] w fun e w'=>e= R (X #[N O ((di s p).1:Int),Z (di s p).2])/\w'=w:=by
 unfold di;by_cases a:ax s p=48/\ax s (p+1)=120
 ·rw[ab a];exact DJ s b p a.1 a.2 w
 ·rw[aa a];exact DK s b p c a w
def tB(s:ByteArray)(p:Nat):Nat->Nat
 |0=>0
 |n+1=>tB s p n*16+(fK (ax s (p+n))).toNat
theorem Le(s:ByteArray)(p:Nat):∀n,tB s p n<16 ^ n
 |0=>by simp[tB]
 |n+1=>by
  have h:=Le s p n;have b:=mK (ax s (p+n));have a:16 ^ (n+1)=16 ^ n*16:=Nat.pow_succ 16 n;unfold tB;omega
theorem aeA(s:ByteArray)(p n:Nat)(h:n<=15):tB s p n<1152921504606846976:=by
 have a:=Le s p n;have b:16 ^ n<=16 ^ 15:=Nat.pow_le_pow_right (by omega) h;have c:16 ^ 15=1152921504606846976:=by decide
 omega
theorem Lf(s:ByteArray)(p n:Nat)(h:n<=16):tB s p n<18446744073709551616:=by
 have a:=Le s p n;have b:16 ^ n<=16 ^ 16:=Nat.pow_le_pow_right (by omega) h;have c:16 ^ 16=18446744073709551616:=by decide
 omega
theorem aik(c:Int)(a:97<=c)(b:c<=102):bits .or A9 c 32=c:=by
 rcases(show c=97\/c=98\/c=99\/c=100\/c=101\/c=102 by omega) with rfl|rfl|rfl|rfl|rfl|rfl<;>decide+kernel
theorem aeB(s:ByteArray)(j:Nat)(h:j<s.size):((s.data.toList.getD j 0).toNat:Int)=ax s j:=by
 have:s.data.toList[j]?=Y s[j]:=by
  rw[ux];exact uA h
 rw[List.getD,this];unfold ax;rw[mJ h];rfl
theorem aov(t:ByteArray)(s:1<=t.size)(al:t.size<=16)(x:∀i,i<t.size->ny (ax t i)=U)(w:W):
  V M 295 #[.string t,.int .i64 16,.int .i64 64] w fun e w'=>e= .returned (.tuple #[.int .u64 (tB t 0 t.size:Int),.nilIface])/\w'=Lib.bytesWorld w 5 t:=by
 have am:t.toList.isEmpty=T:=by
  rw[<-decide_eq_emptyBytes];exact aC (fun C=>by rw[C]at s;simp at s)
 have G:=Lib.run_convert_string_bytes (P:=M) w 9 39 5 t (u:= .string) Tryz.underlying9 Tryz.underlying39 Tryz.underlying5;have j:∀f,f<t.size->(Lib.bytesWorld w 5 t).cell? ⟨w.heap.size,f,A0⟩=Y (.int .u8 (ax t f)):=fun f y=>by rw[Lib.bytesWorld_cell w 5 t f y,aeB t f y]
 obtain⟨r,v⟩:∃r,r=Lib.bytesWorld w 5 t:=⟨_,rfl⟩;rw[<-v]at G j⊢;clear v;have ao:IntKind.u64.wrap (IntKind.u64.wrap 18446744073709551616-1)=18446744073709551615:=by
  rw[IntKind.wrap_u64,IntKind.wrap_u64];decide
 obtain⟨n,o⟩:∃n:Int,(tB t 0 t.size:Int)=n:=⟨_,rfl⟩;rw[o];have q:=aq o;clear o;go_in;go_wp2;go_loop [12,13,101] (fun L K p=>∃(a:Nat) (b:Int),L= .bool T/\K= .int .u64 b/\p= .int .i64 a/\a<=t.size/\Br (b=(tB t 0 a:Int))) (fun _ _ p=>t.size-(A5 p).toNat)
 case atStart=>exact⟨0,0,rfl,rfl,rfl,by omega,rfl⟩
 case round=>
  obtain⟨a,b,rfl,rfl,rfl,an,d⟩:=hrel;by_cases z:a<t.size
  ·have F:=j a z;have B:=(tL _).1 (x a z);have E:=aeA t 0 a (by omega);have ad:0<=b:=by rw[d.out];omega
   have af:b<1152921504606846976:=by rw[d.out];omega
   have g:Br (∀h:Int,fK (ax t a)=h->0<=h->b*16+h=(tB t 0 (a+1):Int)):=fun h H ak=>by
    show _=((tB t 0 a*16+(fK (ax t (0+a))).toNat:Nat):Int);rw[qa,H,d.out];omega
   generalize ax t a=c at F B g;clear j E d x;rcases B with⟨k,l⟩|⟨k,l⟩
   ·have m:Br (b*16+(c-48)=(tB t 0 (a+1):Int)):=g.out (c-48) (by unfold fK;rw[ab ⟨k,l⟩]) (by omega);clear g;go_wp2;refine⟨⟨a+1,b*16+(c-48),rfl,(by first|rfl|(congr 1;omega)),(by first|rfl|(congr 1;omega)),by omega,m⟩,by simp[A5];omega⟩
   ·have m:Br (b*16+(c-87)=(tB t 0 (a+1):Int)):=g.out (c-87) (by unfold fK;rw[aa (by omega),ab ⟨k,l⟩]) (by omega);clear g;have A:=aik c k l;have J:∀w,V M 305 #[.int .u8 c] w fun e w'=>e= .returned (.int .u8 c)/\w'=w:=fun w=>by
     have:=Tryz.internal_strconv_lower c w;rw[A]at this;exact this
    clear A;go_wp2_with (go_at_call 305;refine dB (J _) ?_);refine⟨⟨a+1,b*16+(c-87),rfl,(by first|rfl|(congr 1;omega)),(by first|rfl|(congr 1;omega)),by omega,m⟩,by simp[A5];omega⟩
  ·obtain rfl:a=t.size:=by omega
   have I:b=n:=by rw[<-q.out,d.out]
   subst I;clear j d q;go_wp2;go_ret2;exact⟨rfl,rfl⟩
structure nA (w:W):Prop where
 syn:∃te pe,w.cell? ⟨10,0,A0⟩=Y (.iface te pe)
 rng:∃te pe,w.cell? ⟨11,0,A0⟩=Y (.iface te pe)
theorem pd{w':W}(h:A2 B w w'){a:Addr}(b:a.block<B):w'.cell? a=w.cell? a:=by
 unfold World.cell?;rw[h.block _ b]
theorem F8{a:W}(h:A2 B a w)(n:Nat):A2 B a (w.drewN n):=⟨h.os,h.tape,h.output,h.size,h.block⟩
theorem nA.below{w':W}(h:nA w)(d:A2 B w w')(c:w.heap.size<=B):nA w':=by
 obtain⟨⟨i,g,a⟩,⟨j,p2,b⟩⟩:=h;have e:=AL w _ a;have f:=AL w _ b;exact⟨⟨i,g,(pd d (fD e c)).trans a⟩,⟨j,p2,(pd d (fD f c)).trans b⟩⟩
theorem F9(s:ByteArray)(i:Nat):ax s i=match s.data.toList[i]? with|some b=>(b.toNat:Int)|none=> -1:=by
 cases h:s.data.toList[i]? with
 |some b=>exact((iC s i b).1 h).2
 |none=>
  refine dj fun a=>?_;have:s.data.toList[i]?=Y s[i]:=by rw[ux];exact uA a
  rw[this]at h;cases h
def El(s:ByteArray)(n:Nat):ByteArray:=⟨(s.data.toList.drop n).toArray⟩
theorem sr(s:ByteArray)(n:Nat):(El s n).size=s.size-n:=by
 show(s.data.toList.drop n).toArray.size=_;rw[gj,ep,ib];rfl
theorem Em(s:ByteArray)(n i:Nat):ax (El s n) i=ax s (n+i):=by
 rw[F9,F9];show(match (s.data.toList.drop n).toArray.toList[i]? with|some a=>(a.toNat:Int)|none=> -1)=_;rw[List.toList_toArray,pI]
theorem IC(s:ByteArray)(a p:Nat):∀n,tB (El s a) p n=tB s (a+p) n
 |0=>rfl
 |n+1=>by
  unfold tB;rw[IC s a p n,Em,eE]
theorem am8(t:ByteArray)(c:1<=t.size)(a:t.size<=16)(d:∀i,i<t.size->ny (ax t i)=U)(w:W):
  V M 279 #[Q t,N O 16,N O 64] w fun e w'=>e= R (X #[N .u64 (tB t 0 t.size:Int),B0])/\A2 w.heap.size w w':=by
 have b:=fun w=>aov t c a d w;have f:=Lf t 0 t.size a;generalize (tB t 0 t.size:Int)=g at b;go_in;go_wp2_with (go_at_call 295;refine(b _).mono ?_;rintro e w' ⟨rfl,rfl⟩);go_ret2;exact⟨rfl,Lib.bytesWorld_below _ _ _⟩
theorem ID(s:ByteArray)(x a:UInt8):Ax s.data.toList [x,a]=decide (ax s 0=(x.toNat:Int)/\ax s 1=(a.toNat:Int)):=by
 have:=F7 s 0 x a;rw[zF]at this;exact this
theorem En(q:ByteArray)(h:ax q 0=48)(j:ax q 1=120)(p:3<=q.size)(o:q.size<=18)(c:∀i,2<=i->i<q.size->ny (ax q i)=U)(w:W):
  V M 245 #[Q q] w fun e w'=>e= R (X #[N O (wrap64 (tB q 2 (q.size-2):Int)),Z U])/\A2 w.heap.size w w':=by
 have d:Ax q.data.toList [48,120]=U:=by rw[ID];simp[h,j]
 have g:∀w,V M 278 #[Q q,Q ⟨#[48,120]⟩] w fun e w'=>e= R (X #[Q (El q 2),Z U])/\w'=w:=fun w=>by
  have:=Tryz.strings_CutPrefix q ⟨#[48,120]⟩ w;rw[show(⟨#[48,120]⟩:ByteArray).data.toList=[48,120] from rfl,Lib.trimPrefix,d]at this;exact this
 have a:=fun w=>am8 (El q 2) (by rw[sr];omega) (by rw[sr];omega) (fun i m=>by rw[Em];rw[sr]at m;exact c _ (by omega) (by omega)) w;rw[IC,sr]at a;have k:=Lf q 2 (q.size-2) (by omega);simp only[lH]at a;obtain⟨b,f⟩:∃b:Int,(tB q 2 (q.size-2):Int)=b:=⟨_,rfl⟩;have r:0<=b:=by omega
 have s:b<18446744073709551616:=by omega
 rw[f]at a⊢;clear f k d c;generalize El q 2=n at g a;go_in;go_wp2_with (first|(go_at_call 278;refine(g _).mono ?_;rintro e w' ⟨rfl,rfl⟩)|(go_at_call 279;refine(a _).mono ?_;rintro e w' ⟨rfl,l⟩));go_quiet (fail)
 go_wp2;go_ret2;exact⟨rfl,F8 l _⟩
def yF(q:ByteArray):Option Int:=match Lib.parseIntB 64 q.data.toList with| .ok a=>Y a|_=>A0
theorem Eo(q:ByteArray)(r:q.size<=1100000)(j:¬(ax q 0=48/\ax q 1=120))(w:W)(n:nA w):
  V M 245 #[Q q] w fun e w'=>(∃x,e= R (X #[N O x,Z (yF q).isSome])/\∀v,yF q=Y v->x=v)/\A2 w.heap.size w w':=by
 have g:Ax q.data.toList [48,120]=T:=by rw[ID];simpa using j
 have k:∀w,V M 278 #[Q q,Q ⟨#[48,120]⟩] w fun e w'=>e= R (X #[Q ⟨q.data.toList.toArray⟩,Z T])/\w'=w:=fun w=>by
  have:=Tryz.strings_CutPrefix q ⟨#[48,120]⟩ w;rw[show(⟨#[48,120]⟩:ByteArray).data.toList=[48,120] from rfl,Lib.trimPrefix,g]at this;exact this
 generalize (⟨q.data.toList.toArray⟩:ByteArray)=p at k;obtain⟨⟨y,s,i⟩,⟨z,t,h⟩⟩:=n;unfold yF;cases hp:Lib.parseIntB 64 q.data.toList with
 |ok v=>
  have c:=Tryz.strconv_ParseInt_10_at64_ok q (by omega) v hp w;have d:V M 280 #[Q q,N O 10,N O 64] w fun e w'=>e= R (X #[N O v,B0])/\A2 w.heap.size w w':=c.mono fun e w' b=>⟨b.1,by
   rcases b.2 with rfl|⟨u,rfl⟩
   ·exact ah _ _
   ·exact Lib.bytesWorld_below _ _ _⟩
  clear c hp g j i h;go_in;go_wp2_with (first|(go_at_call 278;refine(k _).mono ?_;rintro e w' ⟨rfl,rfl⟩)|(go_at_call 280;refine d.mono ?_;rintro e w' ⟨rfl,f⟩));go_quiet (fail)
  go_wp2;go_ret2;exact⟨⟨v,rfl,fun _ b=>bp b⟩,F8 f _⟩
 | «syntax» =>
  have c:=Tryz.strconv_ParseInt_10_at64_syntax q (by omega) hp _ w i (.inr ⟨_,_,rfl⟩);have d:V M 280 #[Q q,N O 10,N O 64] w fun e w'=>∃a,e= R (X #[N O 0,.iface 318 (.pointer (Y ⟨a,0,A0⟩))])/\A2 w.heap.size w w':=c.mono fun e w' ⟨a,l,_,_,m⟩=>⟨a,l,m⟩;clear c hp g j i h;go_in;go_wp2_with (first|(go_at_call 278;refine(k _).mono ?_;rintro e w' ⟨rfl,rfl⟩)|(go_at_call 280;refine d.mono ?_;rintro e w' ⟨a,rfl,f⟩));go_quiet (fail)
  go_wp2;go_ret2;exact⟨⟨0,rfl,fun _ b=>by cases b⟩,F8 f _⟩
 |range=>
  have c:=Tryz.strconv_ParseInt_10_at64_range q (by omega) hp _ w h (.inr ⟨_,_,rfl⟩);have d:V M 280 #[Q q,N O 10,N O 64] w fun e w'=>∃a,e= R (X #[N O (Lib.intSat 64 q.data.toList),.iface 318 (.pointer (Y ⟨a,0,A0⟩))])/\A2 w.heap.size w w':=c.mono fun e w' ⟨a,l,_,_,m⟩=>⟨a,l,m⟩;clear c hp g j i h;generalize Lib.intSat 64 q.data.toList=o at d;go_in;go_wp2_with (first|(go_at_call 278;refine(k _).mono ?_;rintro e w' ⟨rfl,rfl⟩)|(go_at_call 280;refine d.mono ?_;rintro e w' ⟨a,rfl,f⟩));go_quiet (fail)
  go_wp2;go_ret2;exact⟨⟨o,rfl,fun _ b=>by cases b⟩,F8 f _⟩
def stp(a:Option Nat)(c:UInt8):Option Nat:=match a with|none=>A0|some b=>if b*10+(c.toNat-48)<=9223372036854775807 then Y (b*10+(c.toNat-48)) else A0
theorem IE:∀l:List UInt8,l.foldl stp A0=A0
 |[]=>rfl
 |c::r=>IE r
theorem ak0:∀(l:List UInt8)(a:Nat),(∀c∈l,48<=c.toNat/\c.toNat<=57)->9223372036854775808<=a->S (2 ^ 64-1) a l= .range\/∃u,S (2 ^ 64-1) a l= .ok u/\9223372036854775808<=u
 |[],a,_,h=> .inr ⟨a,rfl,h⟩
 |c::r,a,d,h=>by
  have b:=d c (by simp);unfold S;rw[ab b,ab (by omega)];exact .inl rfl
theorem aeC:∀(l:List UInt8)(a:Nat),(∀c∈l,48<=c.toNat/\c.toNat<=57)->a<=9223372036854775807->(∀u,l.foldl stp (Y a)=Y u->S (2 ^ 64-1) a l= .ok u/\u<=9223372036854775807)/\(l.foldl stp (Y a)=A0->S (2 ^ 64-1) a l= .range\/∃u,S (2 ^ 64-1) a l= .ok u/\9223372036854775808<=u)
 |[],a,_,h=>by
  refine⟨fun u b=>?_,fun n=>by simp at n⟩;simp at b;subst b;exact⟨rfl,h⟩
 |c::r,a,j,h=>by
  have i:=j c (by simp);have k:∀d∈r,48<=d.toNat/\d.toNat<=57:=fun d o=>j d (by simp[o]);rw[qe,show stp (Y a) c=if a*10+(c.toNat-48)<=9223372036854775807 then Y (a*10+(c.toNat-48)) else A0 from rfl];by_cases e:a*10+(c.toNat-48)<=9223372036854775807
  ·rw[ab e];have p:=aeC r (a*10+(c.toNat-48)) k e;have m:S (2 ^ 64-1) a (c::r)=S (2 ^ 64-1) (a*10+(c.toNat-48)) r:=by
    rw[S,ab i,aa (by omega),aa (by omega)]
   rw[m];exact p
  ·rw[aa e,IE r];refine⟨fun u b=>(by cases b),fun _=>?_⟩;rw[S,ab i];by_cases f:1844674407370955162<=a
   ·rw[ab f];exact .inl rfl
   ·rw[aa f];by_cases g:2 ^ 64-1<a*10+(c.toNat-48)
    ·rw[ab g];exact .inl rfl
    ·rw[aa g];exact ak0 r _ k (by omega)
theorem aeD:∀(l:List UInt8)(b:Nat),(∃c∈l,¬(48<=c.toNat/\c.toNat<=57))->∀u,S (2 ^ 64-1) b l≠ .ok u
 |[],_,h,u=>by obtain⟨c,a,_⟩:=h;simp at a
 |c::f,b,h,u=>by
  rw[S];by_cases a:48<=c.toNat/\c.toNat<=57
  ·rw[ab a];split
   ·intro h;cases h
   ·split
    ·intro h;cases h
    ·refine aeD f _ ?_ u;obtain⟨e,hd,d⟩:=h;rcases List.mem_cons.1 hd with rfl|hd
     ·exact absurd a d
     ·exact⟨e,hd,d⟩
  ·rw[aa a];intro h;cases h
def tC(s:ByteArray)(p:Nat):Nat->Option Nat
 |0=>Y 0
 |n+1=>match tC s p n with|none=>A0|some x=>if x*10+(ax s (p+n)-48).toNat<=9223372036854775807 then Y (x*10+(ax s (p+n)-48).toNat) else A0
theorem IF(s:ByteArray)(p:Nat):∀n,p+n<=s.size->tC s p n=((s.data.toList.drop p).take n).foldl stp (Y 0)
 |0,_=>rfl
 |n+1,h=>by
  have a:p+n<s.data.toList.length:=by rw[ib];exact h
  have b:(s.data.toList.drop p)[n]?=Y (s.data.toList[p+n]):=by rw[pI];exact aJ a
  have d:ax s (p+n)=((s.data.toList[p+n]).toNat:Int):=((iC s (p+n) _).1 (aJ a)).2;rw[iI,b,List.foldl_append,<-IF s p n (by omega),tC,d];simp only[Fy,qe,List.foldl_nil,stp];have c:(((s.data.toList[p+n]).toNat:Int)-48).toNat=(s.data.toList[p+n]).toNat-48:=by omega
  rw[c]
theorem aeE(s:ByteArray)(p:Nat):∀n u,tC s p n=Y u->u<=9223372036854775807
 |0,u,h=>by simp[tC]at h;omega
 |n+1,u,h=>by
  unfold tC at h;split at h
  ·cases h
  ·split at h
   ·rename_i a;cases h;exact a
   ·cases h
theorem aeF(q:ByteArray)(h:∀i,i<q.size->cp (ax q i)=U):∀c∈q.data.toList,48<=c.toNat/\c.toNat<=57:=by
 intro c a;obtain⟨i,d,rfl⟩:=List.mem_iff_getElem.1 a;have:=(iC q i _).1 (aJ d);have b:=oD (h i this.1);rw[this.2]at b;omega
theorem IG(q:ByteArray)(a:cp (ax q 0)=U):∃c r,q.data.toList=c::r/\48<=c.toNat/\c.toNat<=57:=by
 have d:=qx a;cases hq:q.data.toList with
 |nil=>
  have:q.data.toList.length=q.size:=by rw[ib];rfl
  rw[hq]at this;simp at this;omega
 |cons c r=>
  refine⟨c,r,rfl,?_⟩;have:=(iC q 0 c).1 (by rw[hq];rfl);have b:=oD a;rw[this.2]at b;omega
theorem abd(c:UInt8)(r:List UInt8)(b:48<=c.toNat)(d:c.toNat<=57):Lib.parseIntB 64 (c::r)=match S (2 ^ 64-1) 0 (c::r) with| .syntax=> .syntax| .range=> .range| .ok u=>if 9223372036854775808<=u then .range else .ok (u:Int):=by
 simp only[Lib.parseIntB,Lib.parseUintB];rw[aa (show ¬(c.toNat=43\/c.toNat=45) by omega),aa (show ¬(c::r=[]) by simp)];have a:¬c.toNat=45:=by omega
 cases S (2 ^ 64-1) 0 (c::r) with
 |ok u=>simp[a]
 | «syntax» =>rfl
 |range=>rfl
theorem IH(q:ByteArray)(j:0<q.size)(h:∀i,i<q.size->cp (ax q i)=U):yF q=Option.map (fun u:Nat=>(u:Int)) (tC q 0 q.size):=by
 obtain⟨a,c,m,k,l⟩:=IG q (h 0 j);have d:=aeF q h;have e:=IF q 0 q.size (by omega);rw[ey,cA (by rw[ib];exact ag _)]at e;unfold yF;rw[e];rw[m]at d⊢;rw[abd a c k l];have f:=aeC (a::c) 0 d (by omega);cases hx:(a::c).foldl stp (Y 0) with
 |some u=>
  obtain⟨g,o⟩:=f.1 u hx;rw[g];simp only[uC];rw[aa (by omega)]
 |none=>
  rcases f.2 hx with b|⟨u,b,n⟩
  ·rw[b];rfl
  ·rw[b];simp only[ab n];rfl
theorem yc(q:ByteArray)(f:cp (ax q 0)=U)(i:Nat)(j:i<q.size)(k:cp (ax q i)=T):yF q=A0:=by
 obtain⟨a,b,l,g,h⟩:=IG q f;have c:∃a∈q.data.toList,¬(48<=a.toNat/\a.toNat<=57):=by
  have d:i<q.data.toList.length:=by rw[ib];exact j
  refine⟨q.data.toList[i],A6 d,?_⟩;have:=(iC q i _).1 (aJ d);have e:¬(48<=ax q i/\ax q i<=57):=by simpa [cp] using k
  rw[this.2]at e;omega
 unfold yF;rw[l]at c⊢;rw[abd a b g h];have:=aeD (a::b) 0 c;cases hx:S (2 ^ 64-1) 0 (a::b) with
 |ok m=>exact absurd hx (this m)
 | «syntax» =>rfl
 |range=>rfl
def qy(q:ByteArray):Bool:=decide (cp (ax q 0)=U/\di q 0=(q.size,U)/\¬(ax q 0=48/\ax q 1=120)/\yF q=A0)
theorem ak1(s:ByteArray)(p:Nat)(h:p<=s.size):p<=hxE s p/\hxE s p<=s.size:=oq ny Be s _ p h
theorem II{p e:Nat}(h:mu s p=(e,U)):p<e/\e<=p+16/\e=hxE s p/\∀i,p<=i->i<e->ny (ax s i)=U:=by
 unfold mu at h;split at h
 ·cases h
 ·rename_i d;obtain⟨b,a⟩:=xz h;subst b;exact⟨by simpa using a,by omega,rfl,fun i c a=>xK ny s _ p i c a⟩
theorem Lg{q:ByteArray}(b:0<q.size):(q.toList==[])=T:=by
 have:q.toList.length=q.size:=by rw[fE];simp
 cases hs:q.toList with
 |nil=>rw[hs]at this;simp at this;omega
 |cons a c=>rfl
theorem IJ{q:ByteArray}(a:¬0<q.size):(q.toList==[])=U:=by
 have:q.toList.length=q.size:=by rw[fE];simp
 have:q.toList=[]:=List.length_eq_zero_iff.1 (by omega);rw[this];rfl
theorem Ep{b:Bool}(h:cp c=b)(w:W):V M 200 #[N A9 c] w fun e w'=>e= R (Z b)/\w'=w:=(iH c w).mono fun e w' a=>⟨by rw[a.1,h],a.2.symm⟩
theorem Lh(s:ByteArray)(b:s.size<=1100000)(a:0<s.size)(w:W):V M 244 #[Q s,N O 0] w fun e w'=>e= R (X #[N O ((di s 0).1:Int),Z (di s 0).2])/\w'=w:=vK s b 0 a w
theorem Li(s:ByteArray)(a:Nat)(h:a<=s.size):a<=(nJ s a).1/\(nJ s a).1<=s.size:=by
 unfold nJ;split
 ·rename_i c;have d:=db c;have b:nA2 s a<=s.size/\a<nA2 s a:=by
   unfold nA2;split
   ·rename_i hs;rcases hs with hs|hs
    ·have:=db hs;omega
    ·have:=db hs;omega
   ·omega
  have:=so s (nA2 s a) b.1;simp only;omega
 ·exact⟨ag _,h⟩
theorem B9(s:ByteArray)(p:Nat)(h:p<s.size):p<nA0 s p/\nA0 s p<=s.size:=by
 unfold nA0;split
 ·omega
 ·have:=so s (p+1) (by omega);omega
theorem Ca(s:ByteArray)(a:Nat)(h:a<=s.size):a<=nA1 s a/\nA1 s a<=s.size:=by
 unfold nA1;split
 ·rename_i b;have:=so s (a+1) (by have:=qx b.2;omega);omega
 ·omega
theorem ail(s:ByteArray)(p:Nat)(h:p<=s.size):p<=(mu s p).1/\(mu s p).1<=s.size:=by
 have:=ak1 s p h;unfold mu;split
 ·simp only;omega
 ·exact this
theorem ss(s:ByteArray)(p:Nat)(h:p<s.size):p<(di s p).1/\(di s p).1<=s.size:=by
 unfold di;split
 ·rename_i c;have:=db c.2;have:=ail s (p+2) (by omega);omega
 ·have a:=B9 s p h;have b:=Ca s _ a.2;have d:=Li s _ b.2;omega
theorem IK(q:ByteArray)(u:q.size<=1100000)(w:W)(z:nA w):V M 230 #[Q q] w fun e w'=>e= R (Z (qy q))/\A2 w.heap.size w w':=by
 by_cases h:0<q.size
 ·have B:=Lg h;have k:∀w,(Instr.index 9 (Q q) (N O 0)).run M w= .ok (N A9 (ax q 0)) w:=fun w=>cL h w;by_cases f:cp (ax q 0)=U
  ·have b:=fun w=>Ep f w;have d:=fun w=>Lh q u h w;have r:=(ss q 0 h).2;by_cases c:(di q 0).2=U
   ·by_cases i:(di q 0).1=q.size
    ·have j:di q 0=(q.size,U):=Prod.ext i c;rw[j]at d;by_cases g:ax q 0=48/\ax q 1=120
     ·have a:qy q=T:=by unfold qy;simp[g]
      rw[a];have t:mu q 2=(q.size,U):=by rw[<-j];unfold di;rw[ab g]
      obtain⟨E,F,y,s⟩:=II t;have l:=fun w=>En q g.1 g.2 (by omega) (by omega) s w;generalize wrap64 (tB q 2 (q.size-2):Int)=G at l;clear a t y s j c i g f;generalize ax q 0=m at k b;go_in;go_wp2_with (first|(go_at_call 200;refine dB (b _) ?_)|(go_at_call 244;refine dB (d _) ?_)|(go_at_call 245;refine(l _).mono ?_;rintro e w' ⟨rfl,o⟩));go_ret;exact⟨rfl,o⟩
     ·have l:=Eo q u g w z;have a:qy q=!(yF q).isSome:=by
       unfold qy;cases hdc:yF q<;>simp[f,j,g]
      rw[a];generalize (yF q).isSome=C at l;clear a j c i g f;generalize ax q 0=m at k b;go_in;go_wp2_with (first|(go_at_call 200;refine dB (b _) ?_)|(go_at_call 244;refine dB (d _) ?_)|(go_at_call 245;refine l.mono ?_;rintro e w' ⟨⟨H,rfl,_⟩,o⟩));go_ret;exact⟨rfl,o⟩
    ·have a:qy q=T:=by unfold qy;rw[rL];rintro ⟨_,n,_⟩;rw[n]at i;exact i rfl
     rw[a];have A:((di q 0).1:Int)<(q.size:Int):=by omega
     rw[c]at d;generalize (di q 0).1=x at d A;clear a c i f r;generalize ax q 0=m at k b;go_in;go_wp2_with (first|(go_at_call 200;refine dB (b _) ?_)|(go_at_call 244;refine dB (d _) ?_));go_ret;exact⟨rfl,ah _ _⟩
   ·have v:(di q 0).2=T:=by simpa using c
    have a:qy q=T:=by unfold qy;rw[rL];rintro ⟨_,n,_⟩;rw[n]at c;exact c rfl
    rw[a];rw[v]at d;generalize (di q 0).1=x at d r;clear a c v f;generalize ax q 0=m at k b;go_in;go_wp2_with (first|(go_at_call 200;refine dB (b _) ?_)|(go_at_call 244;refine dB (d _) ?_));go_ret;exact⟨rfl,ah _ _⟩
  ·have p:cp (ax q 0)=T:=by simpa using f
   have b:=fun w=>Ep p w;have a:qy q=T:=by unfold qy;simp[p]
   rw[a];clear a f p;generalize ax q 0=m at k b;go_in;go_wp2_with (first|(go_at_call 200;refine dB (b _) ?_));go_ret;exact⟨rfl,ah _ _⟩
 ·have B:=IJ h;have a:qy q=T:=by unfold qy;rw[dj h];simp[xL]
  rw[a];clear a;go_in;go_wp2;go_ret;exact⟨rfl,ah _ _⟩
theorem dE{b:Bool}(h:cp c=b)(w:W):V M 146 #[N A9 c] w fun e w'=>e= R (Z b)/\w'=w:=(zC c w).mono fun e w' a=>⟨by rw[a.1,h],a.2.symm⟩
theorem gh(s:ByteArray)(d:s.size<=1100000)(a:Int)(i:Nat)(c:a=(i:Int))(w:W):V M 143 #[Q s,N O a] w fun e w'=>e= R (N A9 (lk s i))/\w'=w:=by
 subst c;exact(BC s d i w).mono fun e w' b=>⟨b.1,b.2.symm⟩
theorem yG(c:Int)(h:0<=c)(i:c<256)(w:W):V M 221 #[N A9 c] w fun e w'=>e= R (N O (fK c))/\w'=w:=by
 unfold fK;by_cases a:cp c=U
 ·have b:=fun w=>dE a w;have d:=oD a;rw[ab d];clear a;go_in;go_wp2_with (first|(go_at_call 146;refine dB (b _) ?_));go_ret;exact⟨rfl,rfl⟩
 ·have f:cp c=T:=by simpa using a
  have b:=fun w=>dE f w;have d:¬(48<=c/\c<=57):=by simpa [cp] using f
  rw[aa d];clear a f d;rcases(show(97<=c/\c<=102)\/¬97<=c\/(97<=c/\¬c<=102) by omega) with⟨g1,g⟩|g1|⟨g1,g⟩
  ·rw[ab ⟨g1,g⟩];go_in;go_wp2_with (first|(go_at_call 146;refine dB (b _) ?_));go_ret;exact⟨by simp;omega,rfl⟩
  ·rw[aa (by omega)];go_in;go_wp2_with (first|(go_at_call 146;refine dB (b _) ?_));go_ret;exact⟨rfl,rfl⟩
  ·rw[aa (by omega)];go_in;go_wp2_with (first|(go_at_call 146;refine dB (b _) ?_));go_ret;exact⟨rfl,rfl⟩
theorem abe(s:ByteArray)(i:Nat):fK (lk s i)=fK (ax s i):=by
 unfold lk;split
 ·rfl
 ·rename_i a;rw[dj a];decide
theorem su(h:i<s.size):lk s i=ax s i:=by unfold lk;rw[ab h]
def hxA(s:ByteArray)(p:Nat):Value:=if(mu s (p+2)).2=U then Bs #[N O 2,N O p,N O ((mu s (p+2)).1:Int),N O 0,N O (wrap64 (tB s (p+2) ((mu s (p+2)).1-(p+2)):Int)),Q ⟨#[]⟩] else Bs #[N O 2,N O p,N O 0,N O 0,N O 0,Q ⟨#[]⟩]
def hxF(s:ByteArray)(p:Nat):Int:=if(mu s (p+2)).2=U then -1 else((mu s (p+2)).1:Int)
theorem IL(s:ByteArray)(a8:s.size<=1100000)(p:Nat)(ba:p+2<=s.size)(w:W):V M 220 #[Q s,Bs #[N O 2,N O p,N O 0,N O 0,N O 0,Q ⟨#[]⟩]] w fun e w'=>e= R (X #[hxA s p,N O (hxF s p)])/\A2 w.heap.size w w':=by
 obtain⟨bh,l⟩:=az (hxA s p);obtain⟨ao,hF⟩:=az (hxF s p);rw[l,hF];unfold hxA at l;unfold hxF at hF;unfold mu at l hF;obtain⟨H,r⟩:=az (hxE s (p+2));rw[r]at l hF;unfold hxE at r;have u:=aq r;have m:=aq l;have n:=aq hF;clear r l hF;go_in;go_wp2_with fail;generalize ak:(w.alloc _).alloc _=x;obtain⟨b,I,y, -⟩:=DB ak;have a5:dD w.heap.size x 2 p 0 0 0 ⟨#[]⟩:=b;have al:dD (w.heap.size+1) x 0 0 0 0 0 ⟨#[]⟩:=I;clear ak b I;have bs:w.heap.size+1<x.heap.size:=ai al;obtain⟨bt,bw,bx,bA,bD,bE,bF⟩:=bg a5;obtain⟨z0,A,B,C,E,F,b0⟩:=bg al;go_loop [6,7] (fun z bf=>∃(a h:Nat) (b:Int),p+2<=a/\a<=p+18/\a<=s.size/\s.size<a+h/\z= N O a/\bf= N .u64 b/\Br (gF ny s h a=H)/\Br (b=(tB s (p+2) (a-(p+2)):Int))) (fun z _=>s.size-(A5 z).toNat)
 case atStart=>exact⟨p+2,s.size+1,0,by omega,by omega,ba,by omega,by simp,rfl,u,by show(0:Int)=_;rw[eC];rfl⟩
 case round=>
  obtain⟨a,h,b,br,bo,bn,bl,rfl,rfl,t,g⟩:=hrel;obtain⟨h,rfl⟩:∃a4,h=a4+1:=⟨h-1,by omega⟩;have j:=t.out;unfold gF at j;have k:=fun w=>gh s a8 (a:Int) a rfl w;have f:=fun w=>yG (lk s a) (aa8 s a).1 (aa8 s a).2 w;rw[abe]at f;by_cases i:ny (ax s a)=U
  ·have am:a<s.size:=Lc Be i;have bd:=fun w=>cL am w;rw[su am]at k f;rw[ab i]at j;have a6:=(oq ny Be s h (a+1) (by omega)).1;rw[j]at a6;have ap:=aq j;have bb:0<=fK (ax s a):=by simpa [ny] using i
   have bc:=mK (ax s a);have af:a≠p+18->tB s (p+2) (a-(p+2))<1152921504606846976:=fun K=>aeA s (p+2) _ (by omega);have G:Br (b*16+fK (ax s a)=(tB s (p+2) (a+1-(p+2)):Int)):=by
    show _=_;rw[show a+1-(p+2)=(a-(p+2))+1 by omega,tB,show p+2+(a-(p+2))=a by omega,g.out];omega
   have ar:0<=b:=by rw[g.out];omega
   have q:a≠p+18->b<1152921504606846976:=fun K=>by have:=af K;rw[g.out];omega
   generalize fK (ax s a)=J at f bb bc G;generalize ax s a=av at k f bd;clear j i af;by_cases L:a=p+18
   ·have c:=m.out;have d:=n.out;simp only[ab (show p+2+16<H by omega)]at c d;simp at c d;subst c;have a7:ao=(a:Int):=by omega
    clear d;subst a7;have a2:((a:Int)-(p:Int)==18)=U:=by rw[ja];omega
    clear m n L q;go_wp2_with (first|(go_at_call 143;refine dB (k _) ?_)|(go_at_call 221;refine dB (f _) ?_));refine aI (v:= X #[Bs #[N O 2,N O p,N O 0,N O 0,N O 0,Q ⟨#[]⟩],N O (a:Int)]) (by simp[results,Tryz.results220,go_sem,z0,A,B,C,E,F]) rfl ⟨rfl,?_⟩
    iterate 6 refine eJ ?_ (by simp) _
    exact y
   ·have a2:((a:Int)-(p:Int)==18)=T:=by rw[cG];omega
    have bk:=q L;clear q;go_wp2_with (first|(go_at_call 143;refine dB (k _) ?_)|(go_at_call 221;refine dB (f _) ?_));go_round
    case rel=>exact⟨a+1,h,b*16+J,by omega,by omega,by omega,by omega,by go_num,by first|rfl|(congr 1;omega),ap,G⟩
    case measure=>simp[A5];omega
  ·have an:fK (ax s a)<0:=by
    have:¬0<=fK (ax s a):=by simpa [ny] using i
    omega
   rw[aa i]at j;subst j;have a9:¬(0:Int)<=fK (ax s a):=by omega
   have ar:0<=b:=by rw[g.out];omega
   have q:b<18446744073709551616:=by rw[g.out];have:=Lf s (p+2) (a-(p+2)) (by omega);omega
   generalize fK (ax s a)=J at f a9;generalize lk s a=av at k f;have c:=m.out;have d:=n.out;simp only[aa (show ¬p+2+16<a by omega)]at c d;by_cases ad:a=p+2
   ·have o:decide (p+2<a)=T:=by rw[rL];omega
    simp only[o]at c d;simp at c d;subst c d;have a3:((a:Int)==(p:Int)+2)=U:=by rw[ja];omega
    clear m n i an ad o g t u;go_wp2_with (first|(go_at_call 143;refine dB (k _) ?_)|(go_at_call 221;refine dB (f _) ?_));refine aI (v:= X #[Bs #[N O 2,N O p,N O 0,N O 0,N O 0,Q ⟨#[]⟩],N O (a:Int)]) (by simp[results,Tryz.results220,go_sem,z0,A,B,C,E,F]) rfl ⟨rfl,?_⟩
    iterate 6 refine eJ ?_ (by simp) _
    exact y
   ·have o:decide (p+2<a)=U:=by rw[jF];omega
    simp only[o]at c d;simp only[jq]at c d;rw[<-g.out]at c;subst c d;have a3:((a:Int)==(p:Int)+2)=T:=by rw[cG];omega
    clear m n i an ad o g t u;go_wp2_with (first|(go_at_call 143;refine dB (k _) ?_)|(go_at_call 221;refine dB (f _) ?_));refine aI (v:= X #[Bs #[N O 2,N O p,N O (a:Int),N O 0,N O (wrap64 b),Q ⟨#[]⟩],N O (-1)]) (by simp[results,Tryz.results220,go_sem,z0,A,B,C,E,F]) rfl ⟨rfl,?_⟩
    iterate 8 refine eJ ?_ (by simp) _
    exact y
