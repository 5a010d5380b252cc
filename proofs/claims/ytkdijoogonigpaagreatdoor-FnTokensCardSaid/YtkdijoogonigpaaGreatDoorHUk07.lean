import Derived.Test.YtkdijoogonigpaaGreatDoorHUk04
import Derived.Test.YtkdijoogonigpaaGreatDoorHUk05
set_option linter.all false
set_option maxRecDepth 100000
set_option maxHeartbeats 25600000
open Go.Proofs.Tryz renaming prog->M
open Go.Ending renaming returned->N
open Bool renaming false->O,true->T
open Go.Value renaming int->Q,string->R,bool->W,tuple->X
open Go.IntKind renaming i64->S,u8->Y
open Go renaming Calls->U,World->V
namespace Go.Proofs.YtkdijoogonigpaaGreatDoor
open Go.RowKit Go.Maps Go.WideMaps
def gz(c:Int):Bool:=decide (0<=dE c)
theorem jt(c:Int):gz c=T↔(48<=c/\c<=57)\/(97<=c/\c<=102):=by
 unfold gz dE;rw[jH];split
 ·omega
 ·split<;>omega
theorem uJ(c:Int)(w:V):U M 88 #[Q Y c] w fun e f=>e= N (W (gz c))/\w=f:=by
 have b:=fun w=>gh c w;by_cases a:aL c=T
 ·rw[show gz c=T by rw[jt];have:=dl a;omega];rw[a]at b;clear a;go_in;go_wp2_with (first|(go_at_call 53;refine(b _).mono ?_;rintro e f ⟨rfl,rfl⟩));go_ret;exact⟨rfl,rfl⟩
 ·have d:aL c=O:=by simpa using a
  rw[d]at b;have h:¬(48<=c/\c<=57):=by simpa [aL] using d
  rcases(show(97<=c/\c<=102)\/c<97\/(97<=c/\102<c) by omega) with⟨j,k⟩|g|⟨j,k⟩
  ·rw[show gz c=T by rw[jt];omega];clear a d h;go_in;go_wp2_with (first|(go_at_call 53;refine(b _).mono ?_;rintro e f ⟨rfl,rfl⟩));go_ret;exact⟨rfl,rfl⟩
  ·rw[show gz c=O by rw[<-Ew,jt];omega];have i:¬97<=c:=by omega
   clear a d h;go_in;go_wp2_with (first|(go_at_call 53;refine(b _).mono ?_;rintro e f ⟨rfl,rfl⟩));go_ret;exact⟨rfl,rfl⟩
  ·rw[show gz c=O by rw[<-Ew,jt];omega];have i:¬c<=102:=by omega
   clear a d h;go_in;go_wp2_with (first|(go_at_call 53;refine(b _).mono ?_;rintro e f ⟨rfl,rfl⟩));go_ret;exact⟨by simp;omega,rfl⟩
def eH(q:Int->Bool)(s:ByteArray):Nat->Nat->Nat
 |0,p=>p
 |f+1,p=>if q (ao s p)=T then eH q s f (p+1) else p
theorem Da{q:Int->Bool}(b:q (-1)=O){s:ByteArray}{p:Nat}(a:q (ao s p)=T):p<s.size:=by
 rcases be p s.size with h1|h1
 ·exact h1
 ·rw[ci (by omega),b]at a;cases a
theorem jm(q:Int->Bool)(b:q (-1)=O)(s:ByteArray):∀(f p:Nat),p<=s.size->p<=eH q s f p/\eH q s f p<=s.size
 |0,p,a=>⟨ag _,a⟩
 |f+1,p,a=>by
  unfold eH;split
  ·rename_i c;have d:=Da b c;have:=jm q b s f (p+1) (by omega);omega
  ·exact⟨ag _,a⟩
theorem lh(q:Int->Bool)(s:ByteArray):∀(f p i:Nat),p<=i->i<eH q s f p->q (ao s i)=T
 |0,p,i,b,a=>by simp[eH]at a;omega
 |f+1,p,i,b,a=>by
  unfold eH at a;split at a
  ·rename_i c;rcases gI b with rfl|h3
   ·exact c
   ·exact lh q s f (p+1) i h3 a
  ·omega
theorem mB(q:Int->Bool)(a:q (-1)=O)(s:ByteArray):∀(f p:Nat),s.size<p+f->q (ao s (eH q s f p))=O
 |0,p,b=>by
  unfold eH;rw[ci (by omega),a]
 |f+1,p,b=>by
  unfold eH;split
  ·exact mB q a s f (p+1) (by omega)
  ·rename_i c;simpa using c
theorem nw:aL (-1)=O:=by decide
theorem re:gz (-1)=O:=by decide
def ju(s:ByteArray)(p:Nat):Nat:=eH aL s (s.size+1) p
def xa(s:ByteArray)(p:Nat):Nat:=eH gz s (s.size+1) p
theorem pE(s:ByteArray)(z:s.size<=1100000)(p:Nat)(t:p<=s.size)(w:V):U M 71 #[R s,Q S p] w fun e k=>e= N (Q S (ju s p))/\k=w:=by
 unfold ju;obtain⟨q,i⟩:=aD (eH aL s (s.size+1) p);rw[i];have o:=ar i;clear i;go_in;go_wp2_with fail;go_loop [1] (fun j=>∃(b c:Nat),b<=s.size/\s.size<b+c/\j= Q S b/\Hid (eH aL s c b=q)) (fun j=>s.size-(intOf j).toNat)
 case atStart=>exact⟨p,s.size+1,t,by omega,rfl,o⟩
 case round=>
  obtain⟨b,c,y,x,rfl,n⟩:=hrel;obtain⟨c,rfl⟩:∃r,c=r+1:=⟨c-1,by omega⟩;have a:=n.out;unfold eH at a;by_cases m:b<s.size
  ·have u:=fun w=>ch m w;generalize ao s b=h at u a;have g:=fun w=>gh h w;by_cases d:aL h=T
   ·rw[ab d]at a;have f:=ar a;clear a;rw[d]at g;clear d;go_wp2_with (go_at_call 53;refine(g _).mono ?_;rintro e k ⟨rfl,rfl⟩);go_round
    case rel=>exact⟨b+1,c,by omega,by omega,by go_num,f⟩
    case measure=>simp[intOf];omega
   ·have l:aL h=O:=by simpa using d
    rw[aa d]at a;have f:=ar a;rw[l]at g;clear d l a;go_wp2_with (go_at_call 53;refine(g _).mono ?_;rintro e k ⟨rfl,rfl⟩);go_ret;exact⟨by rw[<-f.out];rfl,rfl⟩
  ·rw[aa (by rw[ci m];decide)]at a;have f:=ar a;clear a;have v:¬(b:Int)<(s.size:Int):=by omega
   go_wp2;go_ret;exact⟨by rw[<-f.out];rfl,rfl⟩
def ie(s:ByteArray)(q:Nat):Nat×Bool:=if q+16<xa s q then(q+16,O) else(xa s q,decide (q<xa s q))
theorem Db(s:ByteArray)(J:s.size<=1100000)(p:Nat)(C:p<=s.size)(w:V):U M 70 #[R s,Q S p] w fun e j=>e= N (X #[Q S ((ie s p).1:Int),W (ie s p).2])/\j=w:=by
 unfold ie xa;obtain⟨i,m⟩:=aD (eH gz s (s.size+1) p);rw[m];have x:=ar m;clear m;obtain⟨o,q,l⟩:∃o q,(if p+16<i then(p+16,O) else(i,decide (p<i)))=(o,q):=⟨_,_,rfl⟩;rw[l];have f:=ar l;clear l;go_in;go_wp2_with fail;go_loop [6] (fun n=>∃(a d:Nat),p<=a/\a<=p+16/\a<=s.size/\s.size<a+d/\n= Q S a/\Hid (eH gz s d a=i)) (fun n=>s.size-(intOf n).toNat)
 case atStart=>exact⟨p,s.size+1,ag _,by omega,C,by omega,rfl,x⟩
 case round=>
  obtain⟨a,d,K,I,H,G,rfl,v⟩:=hrel;obtain⟨d,rfl⟩:∃A,d=A+1:=⟨d-1,by omega⟩;have c:=v.out;unfold eH at c;by_cases u:a<s.size
  ·have E:=fun w=>ch u w;generalize ao s a=k at E c;have h:=fun w=>uJ k w;by_cases g:gz k=T
   ·rw[ab g]at c;have B:=(jm gz re s d (a+1) (by omega)).1;rw[c]at B;have y:=ar c;clear c;rw[g]at h;clear g;by_cases t:a=p+16
    ·have b:=f.out;rw[ab (by omega),<-t]at b;obtain⟨rfl,rfl⟩:=qE b;have z:((a:Int)-(p:Int)==16)=T:=by rw[jj];omega
     clear b f t;go_wp2_with (go_at_call 88;refine(h _).mono ?_;rintro e j ⟨rfl,rfl⟩);go_ret2;exact⟨rfl,rfl⟩
    ·have z:((a:Int)-(p:Int)==16)=O:=by rw[aC];omega
     go_wp2_with (go_at_call 88;refine(h _).mono ?_;rintro e j ⟨rfl,rfl⟩);go_round
     case rel=>exact⟨a+1,d,by omega,by omega,by omega,by omega,by go_num,y⟩
     case measure=>simp[intOf];omega
   ·have r:gz k=O:=by simpa using g
    rw[aa g]at c;subst c;rw[r]at h;clear g r;have b:=f.out;rw[aa (by omega)]at b;obtain⟨rfl,rfl⟩:=qE b;clear b f;go_wp2_with (go_at_call 88;refine(h _).mono ?_;rintro e j ⟨rfl,rfl⟩);go_ret2;exact⟨by simp,rfl⟩
  ·rw[aa (by rw[ci u];decide)]at c;subst c;have F:¬(a:Int)<(s.size:Int):=by omega
   have b:=f.out;rw[aa (by omega)]at b;obtain⟨rfl,rfl⟩:=qE b;clear b f;go_wp2;go_ret2;exact⟨by simp,rfl⟩
theorem dq(s:ByteArray)(i:Nat)(b:UInt8):s.data.toList[i]?=some b↔i<s.size/\ao s i=(b.toNat:Int):=by
 unfold ao;by_cases a:i<s.size
 ·rw[jK a];have d:s.data.toList[i]?=some s[i]:=by
   rw[qw];exact oH a
  rw[d];constructor
  ·intro c;injection c with c;exact⟨a,by rw[c]⟩
  ·intro ⟨_,c⟩;congr 1;exact UInt8.toNat_inj.1 (by omega)
 ·have d:s.data.toList[i]?=none:=by
   rw[qw];exact qx (Nat.not_lt.1 a)
  rw[d];simp[a]
theorem zi(s:ByteArray)(p:Nat)(x y:UInt8):Lib.hasPrefix (s.extract p s.size).data.toList [x,y]=decide (ao s p=(x.toNat:Int)/\ao s (p+1)=(y.toNat:Int)):=by
 have n:(s.extract p s.size).data.toList=s.data.toList.drop p:=by
  rw[<-eo,Lib.extract_toList,cC];rw[jg,cJ];exact ag _
 rw[n];unfold Lib.hasPrefix;rw[ud,qz,jH];constructor
 ·rintro ⟨r,g⟩;have c:(s.data.toList.drop p)[0]?=some x:=by rw[<-g];rfl
  have d:(s.data.toList.drop p)[1]?=some y:=by rw[<-g];rfl
  rw[oG]at c d;exact⟨((dq s _ x).1 c).2,((dq s _ y).1 d).2⟩
 ·rintro ⟨c,d⟩;have e:∀a (b:UInt8),ao s a=(b.toNat:Int)->s.data.toList[a]?=some b:=fun a b f=>by
   refine(dq s a b).2 ⟨?_,f⟩;rcases be a s.size with h2|h2
   ·exact h2
   ·rw[ci (by omega)]at f;omega
  have o:=e p x c;have q:=e (p+1) y d;refine⟨s.data.toList.drop (p+2),?_⟩;have h:=List.getElem?_eq_some_iff.1 o;have i:=List.getElem?_eq_some_iff.1 q;obtain⟨j,l⟩:=h;obtain⟨k,m⟩:=i;rw[lB j,lB k,l,m];rfl
def nA0(s:ByteArray)(p:Nat):Nat:=if ao s p=48 then p+1 else ju s (p+1)
def nA1(s:ByteArray)(a:Nat):Nat:=if ao s a=46/\aL (ao s (a+1))=T then ju s (a+1) else a
def nA2(s:ByteArray)(a:Nat):Nat:=if ao s (a+1)=43\/ao s (a+1)=45 then a+1+1 else a+1
def jn(s:ByteArray)(a:Nat):Nat×Bool:=if ao s a=101 then(ju s (nA2 s a),decide (nA2 s a<ju s (nA2 s a))) else(a,T)
def bD(s:ByteArray)(p:Nat):Nat×Bool:=if ao s p=48/\ao s (p+1)=120 then ie s (p+2) else jn s (nA1 s (nA0 s p))
theorem jo(s:ByteArray)(p:Nat)(a:p<=s.size):p<=ju s p/\ju s p<=s.size:=jm aL nw s _ p a
theorem pF(s:ByteArray)(c:s.size<=1100000)(a:Int)(p:Nat)(b:a=(p:Int))(d:p<=s.size)(w:V):U M 71 #[R s,Q S a] w fun e f=>e= N (Q S (ju s p))/\f=w:=by
 subst b;exact pE s c p d w
theorem rg{s:ByteArray}(a:Int)(i:Nat)(c:a=(i:Int))(b:i<s.size)(w:V):(Instr.index 9 (R s) (Q S a)).run M w= .ok (Q Y (ao s i)) w:=by
 subst c;exact ch b w
theorem ba{s:ByteArray}{i:Nat}{c:Int}(a:ao s i=c)(b:0<=c):i<s.size:=by
 rcases be i s.size with h2|h2
 ·exact h2
 ·rw[ci (by omega)]at a;omega
theorem li{s:ByteArray}{i:Nat}(a:aL (ao s i)=T):i<s.size:=Da nw a
theorem uK(s:ByteArray)(p:Nat)(w:V):U M 39 #[R (s.extract p s.size),R ⟨#[48,120]⟩] w fun e b=>e= N (W (decide (ao s p=48/\ao s (p+1)=120)))/\b=w:=by
 have a:=Tryz.strings_HasPrefix (s.extract p s.size) ⟨#[48,120]⟩ w;rw[show(⟨#[48,120]⟩:ByteArray).data.toList=[48,120] from rfl,zi]at a;exact a
theorem xc(s:ByteArray)(h:s.size<=1100000)(p:Nat)(a:ao s p=48)(b:ao s (p+1)=120)(w:V):U M 54 #[R s,Q S p] w fun e d=>e= N (X #[Q S ((ie s (p+2)).1:Int),W (ie s (p+2)).2])/\d=w:=by
 have k:=ba a (by omega);have l:=ba b (by omega);have f:=fun w=>uK s p w;rw[show decide (ao s p=48/\ao s (p+1)=120)=T by simp[a,b]]at f;have c:∀w,U M 70 #[R s,Q S ((p:Int)+2)] w fun e d=>e= N (X #[Q S ((ie s (p+2)).1:Int),W (ie s (p+2)).2])/\d=w:=fun w=>Db s h (p+2) (by omega) w;generalize ie s (p+2)=g at c;obtain⟨i,j⟩:=g;simp only at c⊢;clear a b;go_in;go_wp2_with (first|(go_at_call 39;refine dz (f _) ?_)|(go_at_call 70;refine dz (c _) ?_));go_ret2;exact⟨rfl,rfl⟩
abbrev IX(s:ByteArray)(a c:Int):Prop:=∀b,(Instr.index 9 (R s) (Q S a)).run M b= .ok (Q Y c) b
abbrev DE(s:ByteArray)(a:Int)(c:Nat):Prop:=∀b,U M 71 #[R s,Q S a] b fun d e=>d= N (Q S (c:Int))/\e=b
abbrev DQ(c:Int)(b:Bool):Prop:=∀a,U M 53 #[Q Y c] a fun d e=>d= N (W b)/\e=a
theorem agl(s:ByteArray)(d:s.size<=1100000)(p:Nat)(f:p<s.size):∃a:Int,a=(nA0 s p:Nat)/\nA0 s p<=s.size/\((ao s p=48/\a=(p:Int)+1)\/((ao s p==48)=O/\DE s ((p:Int)+1) (nA0 s p)/\∃c,nA0 s p=c/\a=(c:Int))):=by
 unfold nA0;split
 ·rename_i b;exact⟨_,rfl,by omega,.inl ⟨b,by omega⟩⟩
 ·rename_i b;exact⟨_,rfl,(jo s (p+1) (by omega)).2,.inr ⟨by simp[b],fun e=>pE s d (p+1) (by omega) e,_,rfl,rfl⟩⟩
theorem agm(s:ByteArray)(o:s.size<=1100000)(c:Nat)(n:c<=s.size)(a:Int)(i:a=(c:Int)):∃b:Int,b=(nA1 s c:Nat)/\nA1 s c<=s.size/\((¬a+1<(s.size:Int)/\b=a/\nA1 s c=c)\/(a+1<(s.size:Int)/\IX s a (ao s c)/\((b=a/\nA1 s c=c/\(ao s c==46)=O)\/(ao s c=46/\IX s (a+1) (ao s (c+1))/\((b=a/\nA1 s c=c/\DQ (ao s (c+1)) O)\/(DQ (ao s (c+1)) T/\DE s (a+1) (nA1 s c)/\∃h,nA1 s c=h/\b=(h:Int))))))):=by
 have l:∀f,DQ f (aL f):=fun f e=>(gh _ e).mono fun p q d=>⟨d.1,d.2.symm⟩;have j:c<s.size->IX s a (ao s c):=fun d e=>rg _ c i d e;have k:c+1<s.size->IX s (a+1) (ao s (c+1)):=fun d e=>rg _ (c+1) (by omega) d e;unfold nA1;split
 ·rename_i d;have h1:=li d.2;exact⟨_,rfl,(jo s (c+1) (by omega)).2,.inr ⟨by omega,j (by omega),.inr ⟨d.1,k h1,.inr ⟨by rw[<-d.2];exact l _,fun e=>pF s o _ (c+1) (by omega) (by omega) e,_,rfl,rfl⟩⟩⟩⟩
 ·rename_i d;refine⟨a,i,n,?_⟩;rcases be (c+1) s.size with h1|h1
  ·refine .inr ⟨by omega,j (by omega),?_⟩;by_cases g:ao s c=46
   ·refine .inr ⟨g,k h1,.inl ⟨rfl,rfl,?_⟩⟩;have m:aL (ao s (c+1))=O:=by simpa [g] using d
    rw[<-m];exact l _
   ·exact .inl ⟨rfl,rfl,by simp[g]⟩
  ·exact .inl ⟨by omega,rfl,rfl⟩
theorem ago(s:ByteArray)(m:s.size<=1100000)(a:Nat)(n:a<=s.size)(b:Int)(h:b=(a:Int)):((b==(s.size:Int))=T/\((jn s a).1:Int)=b/\(jn s a).2=T)\/((b==(s.size:Int))=O/\IX s b (ao s a)/\(((ao s a==101)=O/\((jn s a).1:Int)=b/\(jn s a).2=T)\/(ao s a=101/\∃d:Int,((¬b+1<(s.size:Int)/\d=b+1)\/(b+1<(s.size:Int)/\IX s (b+1) (ao s (a+1))/\((ao s (a+1)=43/\d=b+1+1)\/(ao s (a+1)=45/\d=b+1+1)\/((ao s (a+1)==43)=O/\(ao s (a+1)==45)=O/\d=b+1))))/\∃C:Nat,DE s d C/\(jn s a).1=C/\(jn s a).2=decide (d<(C:Int))))):=by
 unfold jn;have j:a+1<s.size->IX s (b+1) (ao s (a+1)):=fun i e=>rg _ (a+1) (by omega) i e;by_cases f:ao s a=101
 ·have k:=ba f (by omega);rw[ab f];refine .inr ⟨by rw[aC];omega,fun e=>rg _ a h k e,.inr ⟨f,(nA2 s a:Nat),?_,_,fun e=>pF s m _ (nA2 s a) rfl ?_ e,rfl,by rw[zb];omega⟩⟩
  ·unfold nA2;rcases(show ¬a+1<s.size\/(a+1<s.size/\ao s (a+1)=43)\/(a+1<s.size/\ao s (a+1)=45)\/(a+1<s.size/\ao s (a+1)≠43/\ao s (a+1)≠45) by omega) with h2|⟨h2,c⟩|⟨h2,c⟩|⟨h2,c,l⟩
   ·rw[aa (by rw[ci h2];omega)];exact .inl ⟨by omega,by omega⟩
   ·rw[ab (.inl c)];exact .inr ⟨by omega,j h2,.inl ⟨c,by omega⟩⟩
   ·rw[ab (.inr c)];exact .inr ⟨by omega,j h2,.inr (.inl ⟨c,by omega⟩)⟩
   ·rw[aa (by omega)];exact .inr ⟨by omega,j h2,.inr (.inr ⟨by simp[c],by simp[l],by omega⟩)⟩
  ·unfold nA2;split
   ·rename_i i;rcases be (a+1) s.size with g|g
    ·omega
    ·rw[ci (by omega)]at i;omega
   ·omega
 ·rw[aa f];rcases(show a=s.size\/a<s.size by omega) with h2|h2
  ·exact .inl ⟨by rw[jj];omega,h.symm,rfl⟩
  ·exact .inr ⟨by rw[aC];omega,fun e=>rg _ a h h2 e,.inl ⟨by simp[f],h.symm,rfl⟩⟩
theorem xe(s:ByteArray)(f:s.size<=1100000)(p:Nat)(k:p<s.size)(l:¬(ao s p=48/\ao s (p+1)=120))(w:V):U M 54 #[R s,Q S p] w fun e H=>e= N (X #[Q S ((jn s (nA1 s (nA0 s p))).1:Int),W (jn s (nA1 s (nA0 s p))).2])/\H=w:=by
 have m:=fun w=>uK s p w;rw[bk l]at m;have ap:=fun w=>ch k w;obtain⟨r,c,i,o⟩:=agl s f p k;obtain⟨t,d,j,g⟩:=agm s f _ i r c;have a:=ago s f _ j t d;generalize jn s (nA1 s (nA0 s p))=q at a⊢;obtain⟨ak,al⟩:=q;simp only at a⊢;clear l;have u:nA0 s p<=1100000:=by omega
 have v:nA1 s (nA0 s p)<=1100000:=by omega
 generalize nA1 s (nA0 s p)=K at d j g a v;generalize nA0 s p=I at c i o g u;rcases o with⟨x,rfl⟩|⟨x,A,J,rfl,rfl⟩;all_goals
  rcases g with⟨G,rfl,rfl⟩|⟨G,av,⟨rfl,rfl,y⟩|⟨y,a0,⟨rfl,rfl,n⟩|⟨n,B,L,rfl,rfl⟩⟩⟩;all_goals
   rcases a with⟨E,b,rfl⟩|⟨E,a1,⟨z,b,rfl⟩|⟨z,am,⟨F,rfl⟩|⟨F,a2,⟨h,rfl⟩|⟨h,rfl⟩|⟨h,an,rfl⟩⟩,af,C,rfl,rfl⟩⟩;all_goals first|omega|skip
   all_goals
    try rw[b]
    try clear b
    clear c d;go_in;go_wp2_with (first|(go_at_call 39;refine dz (m _) ?_)|(go_at_call 53;refine dz (n _) ?_)|(go_at_call 71;first|(with_reducible refine dz (A _) ?_)|(with_reducible refine dz (B _) ?_)|(with_reducible refine dz (C _) ?_)));all_goals
     go_ret2;exact⟨rfl,rfl⟩
theorem pG(s:ByteArray)(b:s.size<=1100000)(p:Nat)(c:p<s.size)(w:V):U M 54 #[R s,Q S p] w fun e d=>e= N (X #[Q S ((bD s p).1:Int),W (bD s p).2])/\d=w:=by
 unfold bD;by_cases a:ao s p=48/\ao s (p+1)=120
 ·rw[ab a];exact xc s b p a.1 a.2 w
 ·rw[aa a];exact xe s b p c a w
