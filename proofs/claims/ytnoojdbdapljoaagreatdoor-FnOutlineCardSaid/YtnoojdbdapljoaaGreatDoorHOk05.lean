import Derived.Test.YtnoojdbdapljoaaGreatDoorHOk03
import Derived.Test.YtnoojdbdapljoaaGreatDoorHOk04
set_option linter.all false
set_option maxRecDepth 100000
set_option maxHeartbeats 25600000
open Go.Proofs.Tryz renaming prog->M
open Go.Ending renaming returned->N
open Bool renaming false->O,true->T
open Go.Value renaming int->Q,string->R,bool->W,tuple->X
open Go.IntKind renaming i64->S,u8->Y
open Go renaming Calls->U,World->V
namespace Go.Proofs.YtnoojdbdapljoaaGreatDoor
open Go.RowKit Go.Maps Go.WideMaps
def lI(c:Int):Bool:=decide (0<=iy c)
theorem qx(c:Int):lI c=T↔(48<=c/\c<=57)\/(97<=c/\c<=102):=by
 unfold lI iy;rw[ob];split
 ·omega
 ·split<;>omega
theorem zi(c:Int)(w:V):U M 205 #[Q Y c] w fun e f=>e= N (W (lI c))/\w=f:=by
 have b:=fun w=>lq c w;by_cases a:dl c=T
 ·rw[show lI c=T by rw[qx];have:=mC a;omega];rw[a]at b;clear a;go_in;go_wp2_with (first|(go_at_call 183;refine(b _).mono ?_;rintro e f ⟨rfl,rfl⟩));go_ret;exact⟨rfl,rfl⟩
 ·have d:dl c=O:=by simpa using a
  rw[d]at b;have h:¬(48<=c/\c<=57):=by simpa [dl] using d
  rcases(show(97<=c/\c<=102)\/c<97\/(97<=c/\102<c) by omega) with⟨j,k⟩|g|⟨j,k⟩
  ·rw[show lI c=T by rw[qx];omega];clear a d h;go_in;go_wp2_with (first|(go_at_call 183;refine(b _).mono ?_;rintro e f ⟨rfl,rfl⟩));go_ret;exact⟨rfl,rfl⟩
  ·rw[show lI c=O by rw[<-IJ,qx];omega];have i:¬97<=c:=by omega
   clear a d h;go_in;go_wp2_with (first|(go_at_call 183;refine(b _).mono ?_;rintro e f ⟨rfl,rfl⟩));go_ret;exact⟨rfl,rfl⟩
  ·rw[show lI c=O by rw[<-IJ,qx];omega];have i:¬c<=102:=by omega
   clear a d h;go_in;go_wp2_with (first|(go_at_call 183;refine(b _).mono ?_;rintro e f ⟨rfl,rfl⟩));go_ret;exact⟨by simp;omega,rfl⟩
def iL(q:Int->Bool)(s:ByteArray):Nat->Nat->Nat
 |0,p=>p
 |f+1,p=>if q (aK s p)=T then iL q s f (p+1) else p
theorem GJ{q:Int->Bool}(a:q (-1)=O){s:ByteArray}{p:Nat}(h:q (aK s p)=T):p<s.size:=by
 rcases cA p s.size with h1|h1
 ·exact h1
 ·rw[er (by omega),a]at h;cases h
theorem og(q:Int->Bool)(a:q (-1)=O)(s:ByteArray):∀(f p:Nat),p<=s.size->p<=iL q s f p/\iL q s f p<=s.size
 |0,p,h=>⟨ah _,h⟩
 |f+1,p,h=>by
  unfold iL;split
  ·rename_i b;have c:=GJ a b;have:=og q a s f (p+1) (by omega);omega
  ·exact⟨ah _,h⟩
theorem zj(q:Int->Bool)(s:ByteArray):∀(f p i:Nat),p<=i->i<iL q s f p->q (aK s i)=T
 |0,p,i,b,a=>by simp[iL]at a;omega
 |f+1,p,i,b,a=>by
  unfold iL at a;split at a
  ·rename_i c;rcases jk b with rfl|h3
   ·exact c
   ·exact zj q s f (p+1) i h3 a
  ·omega
theorem ui:dl (-1)=O:=by decide
theorem yB:lI (-1)=O:=by decide
def sF(s:ByteArray)(p:Nat):Nat:=iL dl s (s.size+1) p
def hxE(s:ByteArray)(p:Nat):Nat:=iL lI s (s.size+1) p
theorem sr(s:ByteArray)(z:s.size<=1100000)(p:Nat)(t:p<=s.size)(w:V):U M 199 #[R s,Q S p] w fun e k=>e= N (Q S (sF s p))/\k=w:=by
 unfold sF;obtain⟨q,i⟩:=aA (iL dl s (s.size+1) p);rw[i];have o:=aq i;clear i;go_in;go_wp2_with fail;go_loop [1] (fun j=>∃(b c:Nat),b<=s.size/\s.size<b+c/\j= Q S b/\Hid (iL dl s c b=q)) (fun j=>s.size-(intOf j).toNat)
 case atStart=>exact⟨p,s.size+1,t,by omega,rfl,o⟩
 case round=>
  obtain⟨b,c,y,x,rfl,n⟩:=hrel;obtain⟨c,rfl⟩:∃r,c=r+1:=⟨c-1,by omega⟩;have a:=n.out;unfold iL at a;by_cases m:b<s.size
  ·have u:=fun w=>dL m w;generalize aK s b=h at u a;have g:=fun w=>lq h w;by_cases d:dl h=T
   ·rw[ab d]at a;have f:=aq a;clear a;rw[d]at g;clear d;go_wp2_with (go_at_call 183;refine(g _).mono ?_;rintro e k ⟨rfl,rfl⟩);go_round
    case rel=>exact⟨b+1,c,by omega,by omega,by go_num,f⟩
    case measure=>simp[intOf];omega
   ·have l:dl h=O:=by simpa using d
    rw[aa d]at a;have f:=aq a;rw[l]at g;clear d l a;go_wp2_with (go_at_call 183;refine(g _).mono ?_;rintro e k ⟨rfl,rfl⟩);go_ret;exact⟨by rw[<-f.out];rfl,rfl⟩
  ·rw[aa (by rw[er m];decide)]at a;have f:=aq a;clear a;have v:¬(b:Int)<(s.size:Int):=by omega
   go_wp2;go_ret;exact⟨by rw[<-f.out];rfl,rfl⟩
def mu(s:ByteArray)(q:Nat):Nat×Bool:=if q+16<hxE s q then(q+16,O) else(hxE s q,decide (q<hxE s q))
theorem GK(s:ByteArray)(J:s.size<=1100000)(p:Nat)(C:p<=s.size)(w:V):U M 198 #[R s,Q S p] w fun e j=>e= N (X #[Q S ((mu s p).1:Int),W (mu s p).2])/\j=w:=by
 unfold mu hxE;obtain⟨i,m⟩:=aA (iL lI s (s.size+1) p);rw[m];have x:=aq m;clear m;obtain⟨o,q,l⟩:∃o q,(if p+16<i then(p+16,O) else(i,decide (p<i)))=(o,q):=⟨_,_,rfl⟩;rw[l];have f:=aq l;clear l;go_in;go_wp2_with fail;go_loop [6] (fun n=>∃(a d:Nat),p<=a/\a<=p+16/\a<=s.size/\s.size<a+d/\n= Q S a/\Hid (iL lI s d a=i)) (fun n=>s.size-(intOf n).toNat)
 case atStart=>exact⟨p,s.size+1,ah _,by omega,C,by omega,rfl,x⟩
 case round=>
  obtain⟨a,d,K,I,H,G,rfl,v⟩:=hrel;obtain⟨d,rfl⟩:∃A,d=A+1:=⟨d-1,by omega⟩;have c:=v.out;unfold iL at c;by_cases u:a<s.size
  ·have E:=fun w=>dL u w;generalize aK s a=k at E c;have h:=fun w=>zi k w;by_cases g:lI k=T
   ·rw[ab g]at c;have B:=(og lI yB s d (a+1) (by omega)).1;rw[c]at B;have y:=aq c;clear c;rw[g]at h;clear g;by_cases t:a=p+16
    ·have b:=f.out;rw[ab (by omega),<-t]at b;obtain⟨rfl,rfl⟩:=tE b;have z:((a:Int)-(p:Int)==16)=T:=by rw[gn];omega
     clear b f t;go_wp2_with (go_at_call 205;refine(h _).mono ?_;rintro e j ⟨rfl,rfl⟩);go_ret2;exact⟨rfl,rfl⟩
    ·have z:((a:Int)-(p:Int)==16)=O:=by rw[bg];omega
     go_wp2_with (go_at_call 205;refine(h _).mono ?_;rintro e j ⟨rfl,rfl⟩);go_round
     case rel=>exact⟨a+1,d,by omega,by omega,by omega,by omega,by go_num,y⟩
     case measure=>simp[intOf];omega
   ·have r:lI k=O:=by simpa using g
    rw[aa g]at c;subst c;rw[r]at h;clear g r;have b:=f.out;rw[aa (by omega)]at b;obtain⟨rfl,rfl⟩:=tE b;clear b f;go_wp2_with (go_at_call 205;refine(h _).mono ?_;rintro e j ⟨rfl,rfl⟩);go_ret2;exact⟨by simp,rfl⟩
  ·rw[aa (by rw[er u];decide)]at c;subst c;have F:¬(a:Int)<(s.size:Int):=by omega
   have b:=f.out;rw[aa (by omega)]at b;obtain⟨rfl,rfl⟩:=tE b;clear b f;go_wp2;go_ret2;exact⟨by simp,rfl⟩
theorem jy(s:ByteArray)(i:Nat)(b:UInt8):s.data.toList[i]?=some b↔i<s.size/\aK s i=(b.toNat:Int):=by
 unfold aK;by_cases a:i<s.size
 ·rw[oe a];have d:s.data.toList[i]?=some s[i]:=by
   rw[rk];exact yh a
  rw[d];constructor
  ·intro c;injection c with c;exact⟨a,by rw[c]⟩
  ·intro ⟨_,c⟩;congr 1;exact UInt8.toNat_inj.1 (by omega)
 ·have d:s.data.toList[i]?=none:=by
   rw[rk];exact xJ (Nat.not_lt.1 a)
  rw[d];simp[a]
theorem I3(s:ByteArray)(p:Nat)(x y:UInt8):Lib.hasPrefix (s.extract p s.size).data.toList [x,y]=decide (aK s p=(x.toNat:Int)/\aK s (p+1)=(y.toNat:Int)):=by
 have n:(s.extract p s.size).data.toList=s.data.toList.drop p:=by
  rw[<-gH,Lib.extract_toList,cw];rw[gJ,iq];exact ah _
 rw[n];unfold Lib.hasPrefix;rw[Cx,yd,ob];constructor
 ·rintro ⟨r,g⟩;have c:(s.data.toList.drop p)[0]?=some x:=by rw[<-g];rfl
  have d:(s.data.toList.drop p)[1]?=some y:=by rw[<-g];rfl
  rw[px]at c d;exact⟨((jy s _ x).1 c).2,((jy s _ y).1 d).2⟩
 ·rintro ⟨c,d⟩;have e:∀a (b:UInt8),aK s a=(b.toNat:Int)->s.data.toList[a]?=some b:=fun a b f=>by
   refine(jy s a b).2 ⟨?_,f⟩;rcases cA a s.size with h2|h2
   ·exact h2
   ·rw[er (by omega)]at f;omega
  have o:=e p x c;have q:=e (p+1) y d;refine⟨s.data.toList.drop (p+2),?_⟩;have h:=List.getElem?_eq_some_iff.1 o;have i:=List.getElem?_eq_some_iff.1 q;obtain⟨j,l⟩:=h;obtain⟨k,m⟩:=i;rw[mg j,mg k,l,m];rfl
def nA0(s:ByteArray)(p:Nat):Nat:=if aK s p=48 then p+1 else sF s (p+1)
def nA1(s:ByteArray)(a:Nat):Nat:=if aK s a=46/\dl (aK s (a+1))=T then sF s (a+1) else a
def nA2(s:ByteArray)(a:Nat):Nat:=if aK s (a+1)=43\/aK s (a+1)=45 then a+1+1 else a+1
def nH(s:ByteArray)(a:Nat):Nat×Bool:=if aK s a=101 then(sF s (nA2 s a),decide (nA2 s a<sF s (nA2 s a))) else(a,T)
def fC(s:ByteArray)(p:Nat):Nat×Bool:=if aK s p=48/\aK s (p+1)=120 then mu s (p+2) else nH s (nA1 s (nA0 s p))
theorem uj(s:ByteArray)(p:Nat)(h:p<=s.size):p<=sF s p/\sF s p<=s.size:=og dl ui s _ p h
theorem ss(s:ByteArray)(c:s.size<=1100000)(a:Int)(p:Nat)(b:a=(p:Int))(d:p<=s.size)(w:V):U M 199 #[R s,Q S a] w fun e f=>e= N (Q S (sF s p))/\f=w:=by
 subst b;exact sr s c p d w
theorem uk{s:ByteArray}(a:Int)(i:Nat)(b:a=(i:Int))(h:i<s.size)(w:V):(Instr.index 9 (R s) (Q S a)).run M w= .ok (Q Y (aK s i)) w:=by
 subst b;exact dL h w
theorem dE{s:ByteArray}{i:Nat}{c:Int}(h:aK s i=c)(a:0<=c):i<s.size:=by
 rcases cA i s.size with h2|h2
 ·exact h2
 ·rw[er (by omega)]at h;omega
theorem pA{s:ByteArray}{i:Nat}(h:dl (aK s i)=T):i<s.size:=GJ ui h
theorem zl(s:ByteArray)(p:Nat)(w:V):U M 164 #[R (s.extract p s.size),R ⟨#[48,120]⟩] w fun e b=>e= N (W (decide (aK s p=48/\aK s (p+1)=120)))/\b=w:=by
 have a:=Tryz.strings_HasPrefix (s.extract p s.size) ⟨#[48,120]⟩ w;rw[show(⟨#[48,120]⟩:ByteArray).data.toList=[48,120] from rfl,I3]at a;exact a
theorem AG(s:ByteArray)(h:s.size<=1100000)(p:Nat)(a:aK s p=48)(b:aK s (p+1)=120)(w:V):U M 184 #[R s,Q S p] w fun e d=>e= N (X #[Q S ((mu s (p+2)).1:Int),W (mu s (p+2)).2])/\d=w:=by
 have k:=dE a (by omega);have l:=dE b (by omega);have f:=fun w=>zl s p w;rw[show decide (aK s p=48/\aK s (p+1)=120)=T by simp[a,b]]at f;have c:∀w,U M 198 #[R s,Q S ((p:Int)+2)] w fun e d=>e= N (X #[Q S ((mu s (p+2)).1:Int),W (mu s (p+2)).2])/\d=w:=fun w=>GK s h (p+2) (by omega) w;generalize mu s (p+2)=g at c;obtain⟨i,j⟩:=g;simp only at c⊢;clear a b;go_in;go_wp2_with (first|(go_at_call 164;refine ee (f _) ?_)|(go_at_call 198;refine ee (c _) ?_));go_ret2;exact⟨rfl,rfl⟩
abbrev IX(s:ByteArray)(a c:Int):Prop:=∀b,(Instr.index 9 (R s) (Q S a)).run M b= .ok (Q Y c) b
abbrev DE(s:ByteArray)(a:Int)(c:Nat):Prop:=∀b,U M 199 #[R s,Q S a] b fun d e=>d= N (Q S (c:Int))/\e=b
abbrev DQ(c:Int)(b:Bool):Prop:=∀a,U M 183 #[Q Y c] a fun d e=>d= N (W b)/\e=a
theorem akr(s:ByteArray)(d:s.size<=1100000)(p:Nat)(f:p<s.size):∃a:Int,a=(nA0 s p:Nat)/\nA0 s p<=s.size/\((aK s p=48/\a=(p:Int)+1)\/((aK s p==48)=O/\DE s ((p:Int)+1) (nA0 s p)/\∃c,nA0 s p=c/\a=(c:Int))):=by
 unfold nA0;split
 ·rename_i b;exact⟨_,rfl,by omega,.inl ⟨b,by omega⟩⟩
 ·rename_i b;exact⟨_,rfl,(uj s (p+1) (by omega)).2,.inr ⟨by simp[b],fun e=>sr s d (p+1) (by omega) e,_,rfl,rfl⟩⟩
theorem aks(s:ByteArray)(o:s.size<=1100000)(c:Nat)(n:c<=s.size)(a:Int)(i:a=(c:Int)):∃b:Int,b=(nA1 s c:Nat)/\nA1 s c<=s.size/\((¬a+1<(s.size:Int)/\b=a/\nA1 s c=c)\/(a+1<(s.size:Int)/\IX s a (aK s c)/\((b=a/\nA1 s c=c/\(aK s c==46)=O)\/(aK s c=46/\IX s (a+1) (aK s (c+1))/\((b=a/\nA1 s c=c/\DQ (aK s (c+1)) O)\/(DQ (aK s (c+1)) T/\DE s (a+1) (nA1 s c)/\∃h,nA1 s c=h/\b=(h:Int))))))):=by
 have l:∀f,DQ f (dl f):=fun f e=>(lq _ e).mono fun p q d=>⟨d.1,d.2.symm⟩;have j:c<s.size->IX s a (aK s c):=fun d e=>uk _ c i d e;have k:c+1<s.size->IX s (a+1) (aK s (c+1)):=fun d e=>uk _ (c+1) (by omega) d e;unfold nA1;split
 ·rename_i d;have h1:=pA d.2;exact⟨_,rfl,(uj s (c+1) (by omega)).2,.inr ⟨by omega,j (by omega),.inr ⟨d.1,k h1,.inr ⟨by rw[<-d.2];exact l _,fun e=>ss s o _ (c+1) (by omega) (by omega) e,_,rfl,rfl⟩⟩⟩⟩
 ·rename_i d;refine⟨a,i,n,?_⟩;rcases cA (c+1) s.size with h1|h1
  ·refine .inr ⟨by omega,j (by omega),?_⟩;by_cases g:aK s c=46
   ·refine .inr ⟨g,k h1,.inl ⟨rfl,rfl,?_⟩⟩;have m:dl (aK s (c+1))=O:=by simpa [g] using d
    rw[<-m];exact l _
   ·exact .inl ⟨rfl,rfl,by simp[g]⟩
  ·exact .inl ⟨by omega,rfl,rfl⟩
theorem akt(s:ByteArray)(m:s.size<=1100000)(a:Nat)(n:a<=s.size)(b:Int)(h:b=(a:Int)):((b==(s.size:Int))=T/\((nH s a).1:Int)=b/\(nH s a).2=T)\/((b==(s.size:Int))=O/\IX s b (aK s a)/\(((aK s a==101)=O/\((nH s a).1:Int)=b/\(nH s a).2=T)\/(aK s a=101/\∃d:Int,((¬b+1<(s.size:Int)/\d=b+1)\/(b+1<(s.size:Int)/\IX s (b+1) (aK s (a+1))/\((aK s (a+1)=43/\d=b+1+1)\/(aK s (a+1)=45/\d=b+1+1)\/((aK s (a+1)==43)=O/\(aK s (a+1)==45)=O/\d=b+1))))/\∃C:Nat,DE s d C/\(nH s a).1=C/\(nH s a).2=decide (d<(C:Int))))):=by
 unfold nH;have j:a+1<s.size->IX s (b+1) (aK s (a+1)):=fun i e=>uk _ (a+1) (by omega) i e;by_cases f:aK s a=101
 ·have k:=dE f (by omega);rw[ab f];refine .inr ⟨by rw[bg];omega,fun e=>uk _ a h k e,.inr ⟨f,(nA2 s a:Nat),?_,_,fun e=>ss s m _ (nA2 s a) rfl ?_ e,rfl,by rw[CC];omega⟩⟩
  ·unfold nA2;rcases(show ¬a+1<s.size\/(a+1<s.size/\aK s (a+1)=43)\/(a+1<s.size/\aK s (a+1)=45)\/(a+1<s.size/\aK s (a+1)≠43/\aK s (a+1)≠45) by omega) with h2|⟨h2,c⟩|⟨h2,c⟩|⟨h2,c,l⟩
   ·rw[aa (by rw[er h2];omega)];exact .inl ⟨by omega,by omega⟩
   ·rw[ab (.inl c)];exact .inr ⟨by omega,j h2,.inl ⟨c,by omega⟩⟩
   ·rw[ab (.inr c)];exact .inr ⟨by omega,j h2,.inr (.inl ⟨c,by omega⟩)⟩
   ·rw[aa (by omega)];exact .inr ⟨by omega,j h2,.inr (.inr ⟨by simp[c],by simp[l],by omega⟩)⟩
  ·unfold nA2;split
   ·rename_i i;rcases cA (a+1) s.size with g|g
    ·omega
    ·rw[er (by omega)]at i;omega
   ·omega
 ·rw[aa f];rcases(show a=s.size\/a<s.size by omega) with h2|h2
  ·exact .inl ⟨by rw[gn];omega,h.symm,rfl⟩
  ·exact .inr ⟨by rw[bg];omega,fun e=>uk _ a h h2 e,.inl ⟨by simp[f],h.symm,rfl⟩⟩
theorem AH(s:ByteArray)(f:s.size<=1100000)(p:Nat)(k:p<s.size)(l:¬(aK s p=48/\aK s (p+1)=120))(w:V):U M 184 #[R s,Q S p] w fun e H=>e= N (X #[Q S ((nH s (nA1 s (nA0 s p))).1:Int),W (nH s (nA1 s (nA0 s p))).2])/\H=w:=by
 have m:=fun w=>zl s p w;rw[aD l]at m;have ao:=fun w=>dL k w;obtain⟨r,c,i,o⟩:=akr s f p k;obtain⟨t,d,j,g⟩:=aks s f _ i r c;have a:=akt s f _ j t d;generalize nH s (nA1 s (nA0 s p))=q at a⊢;obtain⟨af,ak⟩:=q;simp only at a⊢;clear l;have u:nA0 s p<=1100000:=by omega
 have v:nA1 s (nA0 s p)<=1100000:=by omega
 generalize nA1 s (nA0 s p)=K at d j g a v;generalize nA0 s p=I at c i o g u;rcases o with⟨x,rfl⟩|⟨x,A,J,rfl,rfl⟩;all_goals
  rcases g with⟨G,rfl,rfl⟩|⟨G,ap,⟨rfl,rfl,y⟩|⟨y,ar,⟨rfl,rfl,n⟩|⟨n,B,L,rfl,rfl⟩⟩⟩;all_goals
   rcases a with⟨E,b,rfl⟩|⟨E,av,⟨z,b,rfl⟩|⟨z,am,⟨F,rfl⟩|⟨F,a0,⟨h,rfl⟩|⟨h,rfl⟩|⟨h,an,rfl⟩⟩,ad,C,rfl,rfl⟩⟩;all_goals first|omega|skip
   all_goals
    try rw[b]
    try clear b
    clear c d;go_in;go_wp2_with (first|(go_at_call 164;refine ee (m _) ?_)|(go_at_call 183;refine ee (n _) ?_)|(go_at_call 199;first|(with_reducible refine ee (A _) ?_)|(with_reducible refine ee (B _) ?_)|(with_reducible refine ee (C _) ?_)));all_goals
     go_ret2;exact⟨rfl,rfl⟩
theorem AI(s:ByteArray)(b:s.size<=1100000)(p:Nat)(c:p<s.size)(w:V):U M 184 #[R s,Q S p] w fun e d=>e= N (X #[Q S ((fC s p).1:Int),W (fC s p).2])/\d=w:=by
 unfold fC;by_cases a:aK s p=48/\aK s (p+1)=120
 ·rw[ab a];exact AG s b p a.1 a.2 w
 ·rw[aa a];exact AH s b p c a w
