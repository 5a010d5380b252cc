import Derived.Test.YtoahhnnflblfaaaGreatDoorHVk03
import Derived.Test.YtoahhnnflblfaaaGreatDoorHVk04
set_option linter.all false
set_option maxRecDepth 100000
set_option maxHeartbeats 25600000
open Go.Value renaming int->M,string->O,tuple->X,bool->Z,agg->A6,nilIface->A7
open Go.IntKind renaming i64->N,u8->A4
open Go.Proofs.Tryz renaming prog->Q
open Go.Ending renaming returned->R
open Go.Lib renaming parseUintM->S,hasPrefix->Ax
open Bool renaming false->T,true->U
open Go renaming Calls->V,World->W
open Option renaming some->Y,none->A1
open Go.RowKit renaming Below->A0,intOf->A3,Hid->A5
open Go.Obj renaming cells->A2
namespace Go.Proofs.YtoahhnnflblfaaaGreatDoor
open Go.RowKit Go.Maps Go.WideMaps
def mj(c:Int):Bool:=decide (0<=iC c)
theorem rL(c:Int):mj c=U↔(48<=c/\c<=57)\/(97<=c/\c<=102):=by
 unfold mj iC;rw[pF];split
 ·omega
 ·split<;>omega
theorem Ai(c:Int)(w:W):V Q 178 #[M A4 c] w fun e f=>e= R (Z (mj c))/\w=f:=by
 have b:=fun w=>mL c w;by_cases a:ch c=U
 ·rw[show mj c=U by rw[rL];have:=iI a;omega];rw[a]at b;clear a;go_in;go_wp2_with (first|(go_at_call 153;refine(b _).mono ?_;rintro e f ⟨rfl,rfl⟩));go_ret;exact⟨rfl,rfl⟩
 ·have d:ch c=T:=by simpa using a
  rw[d]at b;have h:¬(48<=c/\c<=57):=by simpa [ch] using d
  rcases(show(97<=c/\c<=102)\/c<97\/(97<=c/\102<c) by omega) with⟨j,k⟩|g|⟨j,k⟩
  ·rw[show mj c=U by rw[rL];omega];clear a d h;go_in;go_wp2_with (first|(go_at_call 153;refine(b _).mono ?_;rintro e f ⟨rfl,rfl⟩));go_ret;exact⟨rfl,rfl⟩
  ·rw[show mj c=T by rw[<-Ko,rL];omega];have i:¬97<=c:=by omega
   clear a d h;go_in;go_wp2_with (first|(go_at_call 153;refine(b _).mono ?_;rintro e f ⟨rfl,rfl⟩));go_ret;exact⟨rfl,rfl⟩
  ·rw[show mj c=T by rw[<-Ko,rL];omega];have i:¬c<=102:=by omega
   clear a d h;go_in;go_wp2_with (first|(go_at_call 153;refine(b _).mono ?_;rintro e f ⟨rfl,rfl⟩));go_ret;exact⟨by simp;omega,rfl⟩
def iw(q:Int->Bool)(s:ByteArray):Nat->Nat->Nat
 |0,p=>p
 |f+1,p=>if q (aw s p)=U then iw q s f (p+1) else p
theorem Iw{q:Int->Bool}(a:q (-1)=T){s:ByteArray}{p:Nat}(h:q (aw s p)=U):p<s.size:=by
 rcases bv p s.size with h1|h1
 ·exact h1
 ·rw[dD (by omega),a]at h;cases h
theorem oD(q:Int->Bool)(a:q (-1)=T)(s:ByteArray):∀(f p:Nat),p<=s.size->p<=iw q s f p/\iw q s f p<=s.size
 |0,p,h=>⟨ag _,h⟩
 |f+1,p,h=>by
  unfold iw;split
  ·rename_i b;have c:=Iw a b;have:=oD q a s f (p+1) (by omega);omega
  ·exact⟨ag _,h⟩
theorem sa(q:Int->Bool)(s:ByteArray):∀(f p i:Nat),p<=i->i<iw q s f p->q (aw s i)=U
 |0,p,i,b,a=>by simp[iw]at a;omega
 |f+1,p,i,b,a=>by
  unfold iw at a;split at a
  ·rename_i c;rcases jg b with rfl|h3
   ·exact c
   ·exact sa q s f (p+1) i h3 a
  ·omega
theorem F9(q:Int->Bool)(a:q (-1)=T)(s:ByteArray):∀(f p:Nat),s.size<p+f->q (aw s (iw q s f p))=T
 |0,p,h=>by
  unfold iw;rw[dD (by omega),a]
 |f+1,p,h=>by
  unfold iw;split
  ·exact F9 q a s f (p+1) (by omega)
  ·rename_i b;simpa using b
theorem vB:ch (-1)=T:=by decide
theorem zk:mj (-1)=T:=by decide
def qJ(s:ByteArray)(p:Nat):Nat:=iw ch s (s.size+1) p
def KB(s:ByteArray)(p:Nat):Nat:=iw mj s (s.size+1) p
theorem uc(s:ByteArray)(z:s.size<=1100000)(p:Nat)(t:p<=s.size)(w:W):V Q 170 #[O s,M N p] w fun e k=>e= R (M N (qJ s p))/\k=w:=by
 unfold qJ;obtain⟨q,i⟩:=aA (iw ch s (s.size+1) p);rw[i];have o:=aj i;clear i;go_in;go_wp2_with fail;go_loop [1] (fun j=>∃(b c:Nat),b<=s.size/\s.size<b+c/\j= M N b/\A5 (iw ch s c b=q)) (fun j=>s.size-(A3 j).toNat)
 case atStart=>exact⟨p,s.size+1,t,by omega,rfl,o⟩
 case round=>
  obtain⟨b,c,y,x,rfl,n⟩:=hrel;obtain⟨c,rfl⟩:∃r,c=r+1:=⟨c-1,by omega⟩;have a:=n.out;unfold iw at a;by_cases m:b<s.size
  ·have u:=fun w=>eI m w;generalize aw s b=h at u a;have g:=fun w=>mL h w;by_cases d:ch h=U
   ·rw[ab d]at a;have f:=aj a;clear a;rw[d]at g;clear d;go_wp2_with (go_at_call 153;refine(g _).mono ?_;rintro e k ⟨rfl,rfl⟩);go_round
    case rel=>exact⟨b+1,c,by omega,by omega,by go_num,f⟩
    case measure=>simp[A3];omega
   ·have l:ch h=T:=by simpa using d
    rw[aa d]at a;have f:=aj a;rw[l]at g;clear d l a;go_wp2_with (go_at_call 153;refine(g _).mono ?_;rintro e k ⟨rfl,rfl⟩);go_ret;exact⟨by rw[<-f.out];rfl,rfl⟩
  ·rw[aa (by rw[dD m];decide)]at a;have f:=aj a;clear a;have v:¬(b:Int)<(s.size:Int):=by omega
   go_wp2;go_ret;exact⟨by rw[<-f.out];rfl,rfl⟩
def na(s:ByteArray)(q:Nat):Nat×Bool:=if q+16<KB s q then(q+16,T) else(KB s q,decide (q<KB s q))
theorem Ix(s:ByteArray)(J:s.size<=1100000)(p:Nat)(C:p<=s.size)(w:W):V Q 169 #[O s,M N p] w fun e j=>e= R (X #[M N ((na s p).1:Int),Z (na s p).2])/\j=w:=by
 unfold na KB;obtain⟨i,m⟩:=aA (iw mj s (s.size+1) p);rw[m];have x:=aj m;clear m;obtain⟨o,q,l⟩:∃o q,(if p+16<i then(p+16,T) else(i,decide (p<i)))=(o,q):=⟨_,_,rfl⟩;rw[l];have f:=aj l;clear l;go_in;go_wp2_with fail;go_loop [6] (fun n=>∃(a d:Nat),p<=a/\a<=p+16/\a<=s.size/\s.size<a+d/\n= M N a/\A5 (iw mj s d a=i)) (fun n=>s.size-(A3 n).toNat)
 case atStart=>exact⟨p,s.size+1,ag _,by omega,C,by omega,rfl,x⟩
 case round=>
  obtain⟨a,d,K,I,H,G,rfl,v⟩:=hrel;obtain⟨d,rfl⟩:∃A,d=A+1:=⟨d-1,by omega⟩;have c:=v.out;unfold iw at c;by_cases u:a<s.size
  ·have E:=fun w=>eI u w;generalize aw s a=k at E c;have h:=fun w=>Ai k w;by_cases g:mj k=U
   ·rw[ab g]at c;have B:=(oD mj zk s d (a+1) (by omega)).1;rw[c]at B;have y:=aj c;clear c;rw[g]at h;clear g;by_cases t:a=p+16
    ·have b:=f.out;rw[ab (by omega),<-t]at b;obtain⟨rfl,rfl⟩:=ve b;have z:((a:Int)-(p:Int)==16)=U:=by rw[jH];omega
     clear b f t;go_wp2_with (go_at_call 178;refine(h _).mono ?_;rintro e j ⟨rfl,rfl⟩);go_ret2;exact⟨rfl,rfl⟩
    ·have z:((a:Int)-(p:Int)==16)=T:=by rw[aL];omega
     go_wp2_with (go_at_call 178;refine(h _).mono ?_;rintro e j ⟨rfl,rfl⟩);go_round
     case rel=>exact⟨a+1,d,by omega,by omega,by omega,by omega,by go_num,y⟩
     case measure=>simp[A3];omega
   ·have r:mj k=T:=by simpa using g
    rw[aa g]at c;subst c;rw[r]at h;clear g r;have b:=f.out;rw[aa (by omega)]at b;obtain⟨rfl,rfl⟩:=ve b;clear b f;go_wp2_with (go_at_call 178;refine(h _).mono ?_;rintro e j ⟨rfl,rfl⟩);go_ret2;exact⟨by simp,rfl⟩
  ·rw[aa (by rw[dD u];decide)]at c;subst c;have F:¬(a:Int)<(s.size:Int):=by omega
   have b:=f.out;rw[aa (by omega)]at b;obtain⟨rfl,rfl⟩:=ve b;clear b f;go_wp2;go_ret2;exact⟨by simp,rfl⟩
theorem fJ(s:ByteArray)(i:Nat)(b:UInt8):s.data.toList[i]?=Y b↔i<s.size/\aw s i=(b.toNat:Int):=by
 unfold aw;by_cases a:i<s.size
 ·rw[oA a];have d:s.data.toList[i]?=Y s[i]:=by
   rw[sG];exact yH a
  rw[d];constructor
  ·intro c;injection c with c;exact⟨a,by rw[c]⟩
  ·intro ⟨_,c⟩;congr 1;exact UInt8.toNat_inj.1 (by omega)
 ·have d:s.data.toList[i]?=A1:=by
   rw[sG];exact yF (Nat.not_lt.1 a)
  rw[d];simp[a]
theorem KC(s:ByteArray)(p:Nat)(x y:UInt8):Ax (s.extract p s.size).data.toList [x,y]=decide (aw s p=(x.toNat:Int)/\aw s (p+1)=(y.toNat:Int)):=by
 have n:(s.extract p s.size).data.toList=s.data.toList.drop p:=by
  rw[<-gw,Lib.extract_toList,cI];rw[ij,eB];exact ag _
 rw[n];unfold Ax;rw[vc,uI,pF];constructor
 ·rintro ⟨r,g⟩;have c:(s.data.toList.drop p)[0]?=Y x:=by rw[<-g];rfl
  have d:(s.data.toList.drop p)[1]?=Y y:=by rw[<-g];rfl
  rw[qI]at c d;exact⟨((fJ s _ x).1 c).2,((fJ s _ y).1 d).2⟩
 ·rintro ⟨c,d⟩;have e:∀a (b:UInt8),aw s a=(b.toNat:Int)->s.data.toList[a]?=Y b:=fun a b f=>by
   refine(fJ s a b).2 ⟨?_,f⟩;rcases bv a s.size with h2|h2
   ·exact h2
   ·rw[dD (by omega)]at f;omega
  have o:=e p x c;have q:=e (p+1) y d;refine⟨s.data.toList.drop (p+2),?_⟩;have h:=List.getElem?_eq_some_iff.1 o;have i:=List.getElem?_eq_some_iff.1 q;obtain⟨j,l⟩:=h;obtain⟨k,m⟩:=i;rw[ly j,ly k,l,m];rfl
def nA0(s:ByteArray)(p:Nat):Nat:=if aw s p=48 then p+1 else qJ s (p+1)
def nA1(s:ByteArray)(a:Nat):Nat:=if aw s a=46/\ch (aw s (a+1))=U then qJ s (a+1) else a
def nA2(s:ByteArray)(a:Nat):Nat:=if aw s (a+1)=43\/aw s (a+1)=45 then a+1+1 else a+1
def nJ(s:ByteArray)(a:Nat):Nat×Bool:=if aw s a=101 then(qJ s (nA2 s a),decide (nA2 s a<qJ s (nA2 s a))) else(a,U)
def fe(s:ByteArray)(p:Nat):Nat×Bool:=if aw s p=48/\aw s (p+1)=120 then na s (p+2) else nJ s (nA1 s (nA0 s p))
theorem vC(s:ByteArray)(p:Nat)(h:p<=s.size):p<=qJ s p/\qJ s p<=s.size:=oD ch vB s _ p h
theorem ud(s:ByteArray)(c:s.size<=1100000)(a:Int)(p:Nat)(b:a=(p:Int))(d:p<=s.size)(w:W):V Q 170 #[O s,M N a] w fun e f=>e= R (M N (qJ s p))/\f=w:=by
 subst b;exact uc s c p d w
theorem vD{s:ByteArray}(a:Int)(i:Nat)(b:a=(i:Int))(h:i<s.size)(w:W):(Instr.index 9 (O s) (M N a)).run Q w= .ok (M A4 (aw s i)) w:=by
 subst b;exact eI h w
theorem bm{s:ByteArray}{i:Nat}{c:Int}(h:aw s i=c)(a:0<=c):i<s.size:=by
 rcases bv i s.size with h2|h2
 ·exact h2
 ·rw[dD (by omega)]at h;omega
theorem qK{s:ByteArray}{i:Nat}(h:ch (aw s i)=U):i<s.size:=Iw vB h
theorem Aj(s:ByteArray)(p:Nat)(w:W):V Q 136 #[O (s.extract p s.size),O ⟨#[48,120]⟩] w fun e b=>e= R (Z (decide (aw s p=48/\aw s (p+1)=120)))/\b=w:=by
 have a:=Tryz.strings_HasPrefix (s.extract p s.size) ⟨#[48,120]⟩ w;rw[show(⟨#[48,120]⟩:ByteArray).data.toList=[48,120] from rfl,KC]at a;exact a
theorem Cg(s:ByteArray)(h:s.size<=1100000)(p:Nat)(a:aw s p=48)(b:aw s (p+1)=120)(w:W):V Q 154 #[O s,M N p] w fun e d=>e= R (X #[M N ((na s (p+2)).1:Int),Z (na s (p+2)).2])/\d=w:=by
 have k:=bm a (by omega);have l:=bm b (by omega);have f:=fun w=>Aj s p w;rw[show decide (aw s p=48/\aw s (p+1)=120)=U by simp[a,b]]at f;have c:∀w,V Q 169 #[O s,M N ((p:Int)+2)] w fun e d=>e= R (X #[M N ((na s (p+2)).1:Int),Z (na s (p+2)).2])/\d=w:=fun w=>Ix s h (p+2) (by omega) w;generalize na s (p+2)=g at c;obtain⟨i,j⟩:=g;simp only at c⊢;clear a b;go_in;go_wp2_with (first|(go_at_call 136;refine fc (f _) ?_)|(go_at_call 169;refine fc (c _) ?_));go_ret2;exact⟨rfl,rfl⟩
abbrev IX(s:ByteArray)(a c:Int):Prop:=∀b,(Instr.index 9 (O s) (M N a)).run Q b= .ok (M A4 c) b
abbrev DE(s:ByteArray)(a:Int)(c:Nat):Prop:=∀b,V Q 170 #[O s,M N a] b fun d e=>d= R (M N (c:Int))/\e=b
abbrev DQ(c:Int)(b:Bool):Prop:=∀a,V Q 153 #[M A4 c] a fun d e=>d= R (Z b)/\e=a
theorem anu(s:ByteArray)(d:s.size<=1100000)(p:Nat)(f:p<s.size):∃a:Int,a=(nA0 s p:Nat)/\nA0 s p<=s.size/\((aw s p=48/\a=(p:Int)+1)\/((aw s p==48)=T/\DE s ((p:Int)+1) (nA0 s p)/\∃c,nA0 s p=c/\a=(c:Int))):=by
 unfold nA0;split
 ·rename_i b;exact⟨_,rfl,by omega,.inl ⟨b,by omega⟩⟩
 ·rename_i b;exact⟨_,rfl,(vC s (p+1) (by omega)).2,.inr ⟨by simp[b],fun e=>uc s d (p+1) (by omega) e,_,rfl,rfl⟩⟩
theorem anv(s:ByteArray)(o:s.size<=1100000)(c:Nat)(n:c<=s.size)(a:Int)(i:a=(c:Int)):∃b:Int,b=(nA1 s c:Nat)/\nA1 s c<=s.size/\((¬a+1<(s.size:Int)/\b=a/\nA1 s c=c)\/(a+1<(s.size:Int)/\IX s a (aw s c)/\((b=a/\nA1 s c=c/\(aw s c==46)=T)\/(aw s c=46/\IX s (a+1) (aw s (c+1))/\((b=a/\nA1 s c=c/\DQ (aw s (c+1)) T)\/(DQ (aw s (c+1)) U/\DE s (a+1) (nA1 s c)/\∃h,nA1 s c=h/\b=(h:Int))))))):=by
 have l:∀f,DQ f (ch f):=fun f e=>(mL _ e).mono fun p q d=>⟨d.1,d.2.symm⟩;have j:c<s.size->IX s a (aw s c):=fun d e=>vD _ c i d e;have k:c+1<s.size->IX s (a+1) (aw s (c+1)):=fun d e=>vD _ (c+1) (by omega) d e;unfold nA1;split
 ·rename_i d;have h1:=qK d.2;exact⟨_,rfl,(vC s (c+1) (by omega)).2,.inr ⟨by omega,j (by omega),.inr ⟨d.1,k h1,.inr ⟨by rw[<-d.2];exact l _,fun e=>ud s o _ (c+1) (by omega) (by omega) e,_,rfl,rfl⟩⟩⟩⟩
 ·rename_i d;refine⟨a,i,n,?_⟩;rcases bv (c+1) s.size with h1|h1
  ·refine .inr ⟨by omega,j (by omega),?_⟩;by_cases g:aw s c=46
   ·refine .inr ⟨g,k h1,.inl ⟨rfl,rfl,?_⟩⟩;have m:ch (aw s (c+1))=T:=by simpa [g] using d
    rw[<-m];exact l _
   ·exact .inl ⟨rfl,rfl,by simp[g]⟩
  ·exact .inl ⟨by omega,rfl,rfl⟩
theorem anw(s:ByteArray)(m:s.size<=1100000)(a:Nat)(n:a<=s.size)(b:Int)(h:b=(a:Int)):((b==(s.size:Int))=U/\((nJ s a).1:Int)=b/\(nJ s a).2=U)\/((b==(s.size:Int))=T/\IX s b (aw s a)/\(((aw s a==101)=T/\((nJ s a).1:Int)=b/\(nJ s a).2=U)\/(aw s a=101/\∃d:Int,((¬b+1<(s.size:Int)/\d=b+1)\/(b+1<(s.size:Int)/\IX s (b+1) (aw s (a+1))/\((aw s (a+1)=43/\d=b+1+1)\/(aw s (a+1)=45/\d=b+1+1)\/((aw s (a+1)==43)=T/\(aw s (a+1)==45)=T/\d=b+1))))/\∃C:Nat,DE s d C/\(nJ s a).1=C/\(nJ s a).2=decide (d<(C:Int))))):=by
 unfold nJ;have j:a+1<s.size->IX s (b+1) (aw s (a+1)):=fun i e=>vD _ (a+1) (by omega) i e;by_cases f:aw s a=101
 ·have k:=bm f (by omega);rw[ab f];refine .inr ⟨by rw[aL];omega,fun e=>vD _ a h k e,.inr ⟨f,(nA2 s a:Nat),?_,_,fun e=>ud s m _ (nA2 s a) rfl ?_ e,rfl,by rw[D6];omega⟩⟩
  ·unfold nA2;rcases(show ¬a+1<s.size\/(a+1<s.size/\aw s (a+1)=43)\/(a+1<s.size/\aw s (a+1)=45)\/(a+1<s.size/\aw s (a+1)≠43/\aw s (a+1)≠45) by omega) with h2|⟨h2,c⟩|⟨h2,c⟩|⟨h2,c,l⟩
   ·rw[aa (by rw[dD h2];omega)];exact .inl ⟨by omega,by omega⟩
   ·rw[ab (.inl c)];exact .inr ⟨by omega,j h2,.inl ⟨c,by omega⟩⟩
   ·rw[ab (.inr c)];exact .inr ⟨by omega,j h2,.inr (.inl ⟨c,by omega⟩)⟩
   ·rw[aa (by omega)];exact .inr ⟨by omega,j h2,.inr (.inr ⟨by simp[c],by simp[l],by omega⟩)⟩
  ·unfold nA2;split
   ·rename_i i;rcases bv (a+1) s.size with g|g
    ·omega
    ·rw[dD (by omega)]at i;omega
   ·omega
 ·rw[aa f];rcases(show a=s.size\/a<s.size by omega) with h2|h2
  ·exact .inl ⟨by rw[jH];omega,h.symm,rfl⟩
  ·exact .inr ⟨by rw[aL];omega,fun e=>vD _ a h h2 e,.inl ⟨by simp[f],h.symm,rfl⟩⟩
theorem Ch(s:ByteArray)(f:s.size<=1100000)(p:Nat)(k:p<s.size)(l:¬(aw s p=48/\aw s (p+1)=120))(w:W):V Q 154 #[O s,M N p] w fun e H=>e= R (X #[M N ((nJ s (nA1 s (nA0 s p))).1:Int),Z (nJ s (nA1 s (nA0 s p))).2])/\H=w:=by
 have m:=fun w=>Aj s p w;rw[az l]at m;have ao:=fun w=>eI k w;obtain⟨r,c,i,o⟩:=anu s f p k;obtain⟨t,d,j,g⟩:=anv s f _ i r c;have a:=anw s f _ j t d;generalize nJ s (nA1 s (nA0 s p))=q at a⊢;obtain⟨ak,al⟩:=q;simp only at a⊢;clear l;have u:nA0 s p<=1100000:=by omega
 have v:nA1 s (nA0 s p)<=1100000:=by omega
 generalize nA1 s (nA0 s p)=K at d j g a v;generalize nA0 s p=I at c i o g u;rcases o with⟨x,rfl⟩|⟨x,A,J,rfl,rfl⟩;all_goals
  rcases g with⟨G,rfl,rfl⟩|⟨G,ap,⟨rfl,rfl,y⟩|⟨y,av,⟨rfl,rfl,n⟩|⟨n,B,L,rfl,rfl⟩⟩⟩;all_goals
   rcases a with⟨E,b,rfl⟩|⟨E,a0,⟨z,b,rfl⟩|⟨z,am,⟨F,rfl⟩|⟨F,a1,⟨h,rfl⟩|⟨h,rfl⟩|⟨h,an,rfl⟩⟩,af,C,rfl,rfl⟩⟩;all_goals first|omega|skip
   all_goals
    try rw[b]
    try clear b
    clear c d;go_in;go_wp2_with (first|(go_at_call 136;refine fc (m _) ?_)|(go_at_call 153;refine fc (n _) ?_)|(go_at_call 170;first|(with_reducible refine fc (A _) ?_)|(with_reducible refine fc (B _) ?_)|(with_reducible refine fc (C _) ?_)));all_goals
     go_ret2;exact⟨rfl,rfl⟩
theorem Ci(s:ByteArray)(b:s.size<=1100000)(p:Nat)(c:p<s.size)(w:W):V Q 154 #[O s,M N p] w fun e d=>e= R (X #[M N ((fe s p).1:Int),Z (fe s p).2])/\d=w:=by
 unfold fe;by_cases a:aw s p=48/\aw s (p+1)=120
 ·rw[ab a];exact Cg s b p a.1 a.2 w
 ·rw[aa a];exact Ch s b p c a w
def tg(s:ByteArray)(p:Nat):Nat->Nat
 |0=>0
 |n+1=>tg s p n*16+(iC (aw s (p+n))).toNat
theorem Iy(s:ByteArray)(p:Nat):∀n,tg s p n<16 ^ n
 |0=>by simp[tg]
 |n+1=>by
  have h:=Iy s p n;have b:=sL (aw s (p+n));have a:16 ^ (n+1)=16 ^ n*16:=Nat.pow_succ 16 n;unfold tg;omega
theorem acG(s:ByteArray)(p n:Nat)(h:n<=15):tg s p n<1152921504606846976:=by
 have a:=Iy s p n;have b:16 ^ n<=16 ^ 15:=Nat.pow_le_pow_right (by omega) h;have c:16 ^ 15=1152921504606846976:=by decide
 omega
theorem Iz(s:ByteArray)(p n:Nat)(h:n<=16):tg s p n<18446744073709551616:=by
 have a:=Iy s p n;have b:16 ^ n<=16 ^ 16:=Nat.pow_le_pow_right (by omega) h;have c:16 ^ 16=18446744073709551616:=by decide
 omega
theorem agF(c:Int)(a:97<=c)(b:c<=102):bits .or A4 c 32=c:=by
 rcases(show c=97\/c=98\/c=99\/c=100\/c=101\/c=102 by omega) with rfl|rfl|rfl|rfl|rfl|rfl<;>decide+kernel
theorem acH(s:ByteArray)(j:Nat)(h:j<s.size):((s.data.toList.getD j 0).toNat:Int)=aw s j:=by
 have:s.data.toList[j]?=Y s[j]:=by
  rw[sG];exact yH h
 rw[List.getD,this];unfold aw;rw[oA h];rfl
theorem anx(t:ByteArray)(v:1<=t.size)(an:t.size<=16)(y:∀i,i<t.size->mj (aw t i)=U)(w:W):
  V Q 180 #[.string t,.int .i64 16,.int .i64 64] w fun e q=>e= .returned (.tuple #[.int .u64 (tg t 0 t.size:Int),.nilIface])/\q=Lib.bytesWorld w 5 t:=by
 have ao:t.toList.isEmpty=T:=by
  rw[<-decide_eq_emptyBytes];exact az (fun E=>by rw[E]at v;simp at v)
 have H:=Lib.run_convert_string_bytes (P:=Q) w 9 22 5 t (u:= .string) Tryz.underlying9 Tryz.underlying22 Tryz.underlying5;have j:∀f,f<t.size->(Lib.bytesWorld w 5 t).cell? ⟨w.heap.size,f,A1⟩=Y (.int .u8 (aw t f)):=fun f z=>by rw[Lib.bytesWorld_cell w 5 t f z,acH t f z]
 obtain⟨s,x⟩:∃s,s=Lib.bytesWorld w 5 t:=⟨_,rfl⟩;rw[<-x]at H j⊢;clear x;have av:IntKind.u64.wrap (IntKind.u64.wrap 18446744073709551616-1)=18446744073709551615:=by
  rw[IntKind.wrap_u64,IntKind.wrap_u64];decide
 obtain⟨n,o⟩:∃n:Int,(tg t 0 t.size:Int)=n:=⟨_,rfl⟩;rw[o];have r:=aj o;clear o;go_in;go_wp2;go_loop [12,13,101] (fun af L p=>∃(a:Nat) (b:Int),af= .bool T/\L= .int .u64 b/\p= .int .i64 a/\a<=t.size/\A5 (b=(tg t 0 a:Int))) (fun _ _ p=>t.size-(A3 p).toNat)
 case atStart=>exact⟨0,0,rfl,rfl,rfl,by omega,rfl⟩
 case round=>
  obtain⟨a,b,rfl,rfl,rfl,ap,d⟩:=hrel;by_cases A:a<t.size
  ·have G:=j a A;have C:=(rL _).1 (y a A);have F:=acG t 0 a (by omega);have ak:0<=b:=by rw[d.out];omega
   have al:b<1152921504606846976:=by rw[d.out];omega
   have g:A5 (∀h:Int,iC (aw t a)=h->0<=h->b*16+h=(tg t 0 (a+1):Int)):=fun h I am=>by
    show _=((tg t 0 a*16+(iC (aw t (0+a))).toNat:Nat):Int);rw[fE,I,d.out];omega
   generalize aw t a=c at G C g;clear j F d y;rcases C with⟨k,l⟩|⟨k,l⟩
   ·have m:A5 (b*16+(c-48)=(tg t 0 (a+1):Int)):=g.out (c-48) (by unfold iC;rw[ab ⟨k,l⟩]) (by omega);clear g;go_wp2;refine⟨⟨a+1,b*16+(c-48),rfl,(by first|rfl|(congr 1;omega)),(by first|rfl|(congr 1;omega)),by omega,m⟩,by simp[A3];omega⟩
   ·have m:A5 (b*16+(c-87)=(tg t 0 (a+1):Int)):=g.out (c-87) (by unfold iC;rw[aa (by omega),ab ⟨k,l⟩]) (by omega);clear g;have B:=agF c k l;have K:∀w,V Q 185 #[.int .u8 c] w fun e q=>e= .returned (.int .u8 c)/\q=w:=fun w=>by
     have:=Tryz.internal_strconv_lower c w;rw[B]at this;exact this
    clear B;go_wp2_with (go_at_call 185;refine fc (K _) ?_);refine⟨⟨a+1,b*16+(c-87),rfl,(by first|rfl|(congr 1;omega)),(by first|rfl|(congr 1;omega)),by omega,m⟩,by simp[A3];omega⟩
  ·obtain rfl:a=t.size:=by omega
   have J:b=n:=by rw[<-r.out,d.out]
   subst J;clear j d r;go_wp2;go_ret2;exact⟨rfl,rfl⟩
structure ql (w:W):Prop where
 syn:∃te pe,w.cell? ⟨4,0,A1⟩=Y (.iface te pe)
 rng:∃te pe,w.cell? ⟨5,0,A1⟩=Y (.iface te pe)
theorem us{b:Nat}{w c:W}(h:A0 b w c){a:Addr}(d:a.block<b):c.cell? a=w.cell? a:=by
 unfold World.cell?;rw[h.block _ d]
theorem Ed{b:Nat}{a w:W}(h:A0 b a w)(n:Nat):A0 b a (w.drewN n):=⟨h.os,h.tape,h.output,h.size,h.block⟩
theorem ql.below{w f:W}{a:Nat}(h:ql w)(e:A0 a w f)(d:w.heap.size<=a):ql f:=by
 obtain⟨⟨k,j,b⟩,⟨l,p2,c⟩⟩:=h;have g:=D0 w _ b;have i:=D0 w _ c;exact⟨⟨k,j,(us e (jq g d)).trans b⟩,⟨l,p2,(us e (jq i d)).trans c⟩⟩
theorem qL(s:ByteArray)(i:Nat):aw s i=match s.data.toList[i]? with|some b=>(b.toNat:Int)|none=> -1:=by
 cases h:s.data.toList[i]? with
 |some b=>exact((fJ s i b).1 h).2
 |none=>
  refine dD fun a=>?_;have:s.data.toList[i]?=Y s[i]:=by rw[sG];exact yH a
  rw[this]at h;cases h
def CJ(s:ByteArray)(n:Nat):ByteArray:=⟨(s.data.toList.drop n).toArray⟩
theorem re(s:ByteArray)(n:Nat):(CJ s n).size=s.size-n:=by
 show(s.data.toList.drop n).toArray.size=_;rw[jG,ij,eB];rfl
theorem CK(s:ByteArray)(n i:Nat):aw (CJ s n) i=aw s (n+i):=by
 rw[qL,qL];show(match (s.data.toList.drop n).toArray.toList[i]? with|some a=>(a.toNat:Int)|none=> -1)=_;rw[List.toList_toArray,qI]
theorem Ga(s:ByteArray)(a p:Nat):∀n,tg (CJ s a) p n=tg s (a+p) n
 |0=>rfl
 |n+1=>by
  unfold tg;rw[Ga s a p n,CK,iu]
theorem amh(t:ByteArray)(d:1<=t.size)(a:t.size<=16)(f:∀i,i<t.size->mj (aw t i)=U)(w:W):
  V Q 172 #[O t,M N 16,M N 64] w fun e c=>e= R (X #[M .u64 (tg t 0 t.size:Int),A7])/\A0 w.heap.size w c:=by
 have b:=fun w=>anx t d a f w;have g:=Iz t 0 t.size a;generalize (tg t 0 t.size:Int)=h at b;go_in;go_wp2_with (go_at_call 180;refine(b _).mono ?_;rintro e c ⟨rfl,rfl⟩);go_ret2;exact⟨rfl,Lib.bytesWorld_below _ _ _⟩
theorem Gb(s:ByteArray)(x y:UInt8):Ax s.data.toList [x,y]=decide (aw s 0=(x.toNat:Int)/\aw s 1=(y.toNat:Int)):=by
 have:=KC s 0 x y;rw[gh]at this;exact this
theorem aa3(q:ByteArray)(j:aw q 0=48)(k:aw q 1=120)(r:3<=q.size)(p:q.size<=18)(d:∀i,2<=i->i<q.size->mj (aw q i)=U)(w:W):
  V Q 155 #[O q] w fun e b=>e= R (X #[M N (wrap64 (tg q 2 (q.size-2):Int)),Z U])/\A0 w.heap.size w b:=by
 have f:Ax q.data.toList [48,120]=U:=by rw[Gb];simp[j,k]
 have h:∀w,V Q 171 #[O q,O ⟨#[48,120]⟩] w fun e b=>e= R (X #[O (CJ q 2),Z U])/\b=w:=fun w=>by
  have:=Tryz.strings_CutPrefix q ⟨#[48,120]⟩ w;rw[show(⟨#[48,120]⟩:ByteArray).data.toList=[48,120] from rfl,Lib.trimPrefix,f]at this;exact this
 have a:=fun w=>amh (CJ q 2) (by rw[re];omega) (by rw[re];omega) (fun i n=>by rw[CK];rw[re]at n;exact d _ (by omega) (by omega)) w;rw[Ga,re]at a;have l:=Iz q 2 (q.size-2) (by omega);simp only[gI]at a;obtain⟨c,g⟩:∃c:Int,(tg q 2 (q.size-2):Int)=c:=⟨_,rfl⟩;have s:0<=c:=by omega
 have t:c<18446744073709551616:=by omega
 rw[g]at a⊢;clear g l f d;generalize CJ q 2=o at h a;go_in;go_wp2_with (first|(go_at_call 171;refine(h _).mono ?_;rintro e b ⟨rfl,rfl⟩)|(go_at_call 172;refine(a _).mono ?_;rintro e b ⟨rfl,m⟩));go_quiet (fail)
 go_wp2;go_ret2;exact⟨rfl,Ed m _⟩
def yo(q:ByteArray):Option Int:=match Lib.parseIntB 64 q.data.toList with| .ok a=>Y a|_=>A1
theorem aa4(q:ByteArray)(s:q.size<=1100000)(k:¬(aw q 0=48/\aw q 1=120))(w:W)(o:ql w):
  V Q 155 #[O q] w fun e a=>(∃x,e= R (X #[M N x,Z (yo q).isSome])/\∀v,yo q=Y v->x=v)/\A0 w.heap.size w a:=by
 have h:Ax q.data.toList [48,120]=T:=by rw[Gb];simpa using k
 have l:∀w,V Q 171 #[O q,O ⟨#[48,120]⟩] w fun e a=>e= R (X #[O ⟨q.data.toList.toArray⟩,Z T])/\a=w:=fun w=>by
  have:=Tryz.strings_CutPrefix q ⟨#[48,120]⟩ w;rw[show(⟨#[48,120]⟩:ByteArray).data.toList=[48,120] from rfl,Lib.trimPrefix,h]at this;exact this
 generalize (⟨q.data.toList.toArray⟩:ByteArray)=r at l;obtain⟨⟨z,t,j⟩,⟨A,u,i⟩⟩:=o;unfold yo;cases hp:Lib.parseIntB 64 q.data.toList with
 |ok v=>
  have d:=Tryz.strconv_ParseInt_10_at64_ok q (by omega) v hp w;have f:V Q 173 #[O q,M N 10,M N 64] w fun e a=>e= R (X #[M N v,A7])/\A0 w.heap.size w a:=d.mono fun e a c=>⟨c.1,by
   rcases c.2 with rfl|⟨y,rfl⟩
   ·exact ai _ _
   ·exact Lib.bytesWorld_below _ _ _⟩
  clear d hp h k j i;go_in;go_wp2_with (first|(go_at_call 171;refine(l _).mono ?_;rintro e a ⟨rfl,rfl⟩)|(go_at_call 173;refine f.mono ?_;rintro e a ⟨rfl,g⟩));go_quiet (fail)
  go_wp2;go_ret2;exact⟨⟨v,rfl,fun _ c=>db c⟩,Ed g _⟩
 | «syntax» =>
  have d:=Tryz.strconv_ParseInt_10_at64_syntax q (by omega) hp _ w j (.inr ⟨_,_,rfl⟩);have f:V Q 173 #[O q,M N 10,M N 64] w fun e a=>∃b,e= R (X #[M N 0,.iface 231 (.pointer (Y ⟨b,0,A1⟩))])/\A0 w.heap.size w a:=d.mono fun e a ⟨b,m,_,_,n⟩=>⟨b,m,n⟩;clear d hp h k j i;go_in;go_wp2_with (first|(go_at_call 171;refine(l _).mono ?_;rintro e a ⟨rfl,rfl⟩)|(go_at_call 173;refine f.mono ?_;rintro e a ⟨b,rfl,g⟩));go_quiet (fail)
  go_wp2;go_ret2;exact⟨⟨0,rfl,fun _ c=>by cases c⟩,Ed g _⟩
 |range=>
  have d:=Tryz.strconv_ParseInt_10_at64_range q (by omega) hp _ w i (.inr ⟨_,_,rfl⟩);have f:V Q 173 #[O q,M N 10,M N 64] w fun e a=>∃b,e= R (X #[M N (Lib.intSat 64 q.data.toList),.iface 231 (.pointer (Y ⟨b,0,A1⟩))])/\A0 w.heap.size w a:=d.mono fun e a ⟨b,m,_,_,n⟩=>⟨b,m,n⟩;clear d hp h k j i;generalize Lib.intSat 64 q.data.toList=p at f;go_in;go_wp2_with (first|(go_at_call 171;refine(l _).mono ?_;rintro e a ⟨rfl,rfl⟩)|(go_at_call 173;refine f.mono ?_;rintro e a ⟨b,rfl,g⟩));go_quiet (fail)
  go_wp2;go_ret2;exact⟨⟨p,rfl,fun _ c=>by cases c⟩,Ed g _⟩
def stp(a:Option Nat)(c:UInt8):Option Nat:=match a with|none=>A1|some b=>if b*10+(c.toNat-48)<=9223372036854775807 then Y (b*10+(c.toNat-48)) else A1
theorem Gc:∀l:List UInt8,l.foldl stp A1=A1
 |[]=>rfl
 |c::r=>Gc r
theorem ajF:∀(l:List UInt8)(a:Nat),(∀c∈l,48<=c.toNat/\c.toNat<=57)->9223372036854775808<=a->S (2 ^ 64-1) a l= .range\/∃u,S (2 ^ 64-1) a l= .ok u/\9223372036854775808<=u
 |[],a,_,h=> .inr ⟨a,rfl,h⟩
 |c::r,a,d,h=>by
  have b:=d c (by simp);unfold S;rw[ab b,ab (by omega)];exact .inl rfl
theorem acI:∀(l:List UInt8)(a:Nat),(∀c∈l,48<=c.toNat/\c.toNat<=57)->a<=9223372036854775807->(∀u,l.foldl stp (Y a)=Y u->S (2 ^ 64-1) a l= .ok u/\u<=9223372036854775807)/\(l.foldl stp (Y a)=A1->S (2 ^ 64-1) a l= .range\/∃u,S (2 ^ 64-1) a l= .ok u/\9223372036854775808<=u)
 |[],a,_,h=>by
  refine⟨fun u b=>?_,fun n=>by simp at n⟩;simp at b;subst b;exact⟨rfl,h⟩
 |c::r,a,j,h=>by
  have i:=j c (by simp);have k:∀d∈r,48<=d.toNat/\d.toNat<=57:=fun d o=>j d (by simp[o]);rw[ju,show stp (Y a) c=if a*10+(c.toNat-48)<=9223372036854775807 then Y (a*10+(c.toNat-48)) else A1 from rfl];by_cases e:a*10+(c.toNat-48)<=9223372036854775807
  ·rw[ab e];have p:=acI r (a*10+(c.toNat-48)) k e;have m:S (2 ^ 64-1) a (c::r)=S (2 ^ 64-1) (a*10+(c.toNat-48)) r:=by
    rw[S,ab i,aa (by omega),aa (by omega)]
   rw[m];exact p
  ·rw[aa e,Gc r];refine⟨fun u b=>(by cases b),fun _=>?_⟩;rw[S,ab i];by_cases f:1844674407370955162<=a
   ·rw[ab f];exact .inl rfl
   ·rw[aa f];by_cases g:2 ^ 64-1<a*10+(c.toNat-48)
    ·rw[ab g];exact .inl rfl
    ·rw[aa g];exact ajF r _ k (by omega)
theorem acJ:∀(l:List UInt8)(b:Nat),(∃c∈l,¬(48<=c.toNat/\c.toNat<=57))->∀u,S (2 ^ 64-1) b l≠ .ok u
 |[],_,h,u=>by obtain⟨c,a,_⟩:=h;simp at a
 |c::f,b,h,u=>by
  rw[S];by_cases a:48<=c.toNat/\c.toNat<=57
  ·rw[ab a];split
   ·intro h;cases h
   ·split
    ·intro h;cases h
    ·refine acJ f _ ?_ u;obtain⟨e,hd,d⟩:=h;rcases List.mem_cons.1 hd with rfl|hd
     ·exact absurd a d
     ·exact⟨e,hd,d⟩
  ·rw[aa a];intro h;cases h
def rC(s:ByteArray)(p:Nat):Nat->Option Nat
 |0=>Y 0
 |n+1=>match rC s p n with|none=>A1|some x=>if x*10+(aw s (p+n)-48).toNat<=9223372036854775807 then Y (x*10+(aw s (p+n)-48).toNat) else A1
theorem Ge(s:ByteArray)(p:Nat):∀n,p+n<=s.size->rC s p n=((s.data.toList.drop p).take n).foldl stp (Y 0)
 |0,_=>rfl
 |n+1,h=>by
  have a:p+n<s.data.toList.length:=by rw[eB];exact h
  have b:(s.data.toList.drop p)[n]?=Y (s.data.toList[p+n]):=by rw[qI];exact aE a
  have d:aw s (p+n)=((s.data.toList[p+n]).toNat:Int):=((fJ s (p+n) _).1 (aE a)).2;rw[gG,b,List.foldl_append,<-Ge s p n (by omega),rC,d];simp only[D5,ju,List.foldl_nil,stp];have c:(((s.data.toList[p+n]).toNat:Int)-48).toNat=(s.data.toList[p+n]).toNat-48:=by omega
  rw[c]
theorem ajG(s:ByteArray)(p:Nat):∀n u,rC s p n=Y u->u<=9223372036854775807
 |0,u,h=>by simp[rC]at h;omega
 |n+1,u,h=>by
  unfold rC at h;split at h
  ·cases h
  ·split at h
   ·rename_i a;cases h;exact a
   ·cases h
theorem acK(q:ByteArray)(h:∀i,i<q.size->ch (aw q i)=U):∀c∈q.data.toList,48<=c.toNat/\c.toNat<=57:=by
 intro c a;obtain⟨i,d,rfl⟩:=List.mem_iff_getElem.1 a;have:=(fJ q i _).1 (aE d);have b:=iI (h i this.1);rw[this.2]at b;omega
theorem Gf(q:ByteArray)(a:ch (aw q 0)=U):∃c r,q.data.toList=c::r/\48<=c.toNat/\c.toNat<=57:=by
 have d:=qK a;cases hq:q.data.toList with
 |nil=>
  have:q.data.toList.length=q.size:=by rw[eB];rfl
  rw[hq]at this;simp at this;omega
 |cons c r=>
  refine⟨c,r,rfl,?_⟩;have:=(fJ q 0 c).1 (by rw[hq];rfl);have b:=iI a;rw[this.2]at b;omega
theorem KD(c:UInt8)(r:List UInt8)(b:48<=c.toNat)(d:c.toNat<=57):Lib.parseIntB 64 (c::r)=match S (2 ^ 64-1) 0 (c::r) with| .syntax=> .syntax| .range=> .range| .ok u=>if 9223372036854775808<=u then .range else .ok (u:Int):=by
 simp only[Lib.parseIntB,Lib.parseUintB];rw[aa (show ¬(c.toNat=43\/c.toNat=45) by omega),aa (show ¬(c::r=[]) by simp)];have a:¬c.toNat=45:=by omega
 cases S (2 ^ 64-1) 0 (c::r) with
 |ok u=>simp[a]
 | «syntax» =>rfl
 |range=>rfl
theorem acL(q:ByteArray)(j:0<q.size)(h:∀i,i<q.size->ch (aw q i)=U):yo q=Option.map (fun u:Nat=>(u:Int)) (rC q 0 q.size):=by
 obtain⟨a,c,m,k,l⟩:=Gf q (h 0 j);have d:=acK q h;have e:=Ge q 0 q.size (by omega);rw[jt,cI (by rw[eB];exact ag _)]at e;unfold yo;rw[e];rw[m]at d⊢;rw[KD a c k l];have f:=acI (a::c) 0 d (by omega);cases hx:(a::c).foldl stp (Y 0) with
 |some u=>
  obtain⟨g,o⟩:=f.1 u hx;rw[g];simp only[uK];rw[aa (by omega)]
 |none=>
  rcases f.2 hx with b|⟨u,b,n⟩
  ·rw[b];rfl
  ·rw[b];simp only[ab n];rfl
theorem Gg(q:ByteArray)(f:ch (aw q 0)=U)(i:Nat)(j:i<q.size)(k:ch (aw q i)=T):yo q=A1:=by
 obtain⟨a,b,l,g,h⟩:=Gf q f;have c:∃a∈q.data.toList,¬(48<=a.toNat/\a.toNat<=57):=by
  have d:i<q.data.toList.length:=by rw[eB];exact j
  refine⟨q.data.toList[i],lG d,?_⟩;have:=(fJ q i _).1 (aE d);have e:¬(48<=aw q i/\aw q i<=57):=by simpa [ch] using k
  rw[this.2]at e;omega
 unfold yo;rw[l]at c⊢;rw[KD a b g h];have:=acJ (a::b) 0 c;cases hx:S (2 ^ 64-1) 0 (a::b) with
 |ok m=>exact absurd hx (this m)
 | «syntax» =>rfl
 |range=>rfl
def pi(q:ByteArray):Bool:=decide (ch (aw q 0)=U/\fe q 0=(q.size,U)/\¬(aw q 0=48/\aw q 1=120)/\yo q=A1)
theorem ajH(s:ByteArray)(p:Nat)(h:p<=s.size):p<=KB s p/\KB s p<=s.size:=oD mj zk s _ p h
theorem ac0{s:ByteArray}{p e:Nat}(h:na s p=(e,U)):p<e/\e<=p+16/\e=KB s p/\∀i,p<=i->i<e->mj (aw s i)=U:=by
 unfold na at h;split at h
 ·cases h
 ·rename_i d;obtain⟨b,a⟩:=ve h;subst b;exact⟨by simpa using a,by omega,rfl,fun i c a=>sa mj s _ p i c a⟩
theorem IA{q:ByteArray}(b:0<q.size):(q.toList==[])=T:=by
 have:q.toList.length=q.size:=by rw[gw];simp
 cases hs:q.toList with
 |nil=>rw[hs]at this;simp at this;omega
 |cons a c=>rfl
theorem Gh{q:ByteArray}(a:¬0<q.size):(q.toList==[])=U:=by
 have:q.toList.length=q.size:=by rw[gw];simp
 have:q.toList=[]:=List.length_eq_zero_iff.1 (by omega);rw[this];rfl
theorem C1{c:Int}{b:Bool}(h:ch c=b)(w:W):V Q 153 #[M A4 c] w fun e d=>e= R (Z b)/\d=w:=(mL c w).mono fun e d a=>⟨by rw[a.1,h],a.2.symm⟩
theorem IB(s:ByteArray)(b:s.size<=1100000)(a:0<s.size)(w:W):V Q 154 #[O s,M N 0] w fun e c=>e= R (X #[M N ((fe s 0).1:Int),Z (fe s 0).2])/\c=w:=Ci s b 0 a w
theorem ac1(s:ByteArray)(a:Nat)(h:a<=s.size):a<=(nJ s a).1/\(nJ s a).1<=s.size:=by
 unfold nJ;split
 ·rename_i c;have d:=bm c (by omega);have b:nA2 s a<=s.size/\a<nA2 s a:=by
   unfold nA2;split
   ·rename_i hs;rcases hs with hs|hs
    ·have:=bm hs (by omega);omega
    ·have:=bm hs (by omega);omega
   ·omega
  have:=vC s (nA2 s a) b.1;simp only;omega
 ·exact⟨ag _,h⟩
theorem Ee(s:ByteArray)(p:Nat)(h:p<s.size):p<nA0 s p/\nA0 s p<=s.size:=by
 unfold nA0;split
 ·omega
 ·have:=vC s (p+1) (by omega);omega
theorem Ef(s:ByteArray)(a:Nat)(h:a<=s.size):a<=nA1 s a/\nA1 s a<=s.size:=by
 unfold nA1;split
 ·rename_i b;have:=vC s (a+1) (by have:=qK b.2;omega);omega
 ·omega
theorem agG(s:ByteArray)(p:Nat)(h:p<=s.size):p<=(na s p).1/\(na s p).1<=s.size:=by
 have:=ajH s p h;unfold na;split
 ·simp only;omega
 ·exact this
theorem KF(s:ByteArray)(p:Nat)(h:p<s.size):p<(fe s p).1/\(fe s p).1<=s.size:=by
 unfold fe;split
 ·rename_i c;have:=bm c.2 (by omega);have:=agG s (p+2) (by omega);omega
 ·have a:=Ee s p h;have b:=Ef s _ a.2;have d:=ac1 s _ b.2;omega
theorem Gi(q:ByteArray)(v:q.size<=1100000)(w:W)(A:ql w):V Q 134 #[O q] w fun e r=>e= R (Z (pi q))/\A0 w.heap.size w r:=by
 by_cases h:0<q.size
 ·have C:=IA h;have k:∀w,(Instr.index 9 (O q) (M N 0)).run Q w= .ok (M A4 (aw q 0)) w:=fun w=>eI h w;by_cases f:ch (aw q 0)=U
  ·have b:=fun w=>C1 f w;have d:=fun w=>IB q v h w;have s:=(KF q 0 h).2;by_cases c:(fe q 0).2=U
   ·by_cases i:(fe q 0).1=q.size
    ·have j:fe q 0=(q.size,U):=Prod.ext i c;have H:¬(q.size:Int)<(q.size:Int):=by omega
     rw[j]at d;by_cases g:aw q 0=48/\aw q 1=120
     ·have a:pi q=T:=by unfold pi;simp[g]
      rw[a];have u:na q 2=(q.size,U):=by rw[<-j];unfold fe;rw[ab g]
      obtain⟨F,G,z,t⟩:=ac0 u;have l:=fun w=>aa3 q g.1 g.2 (by omega) (by omega) t w;generalize wrap64 (tg q 2 (q.size-2):Int)=I at l;clear a u z t j c i g f;generalize aw q 0=m at k b;go_in;go_wp2_with (first|(go_at_call 153;refine fc (b _) ?_)|(go_at_call 154;refine fc (d _) ?_)|(go_at_call 155;refine(l _).mono ?_;rintro e r ⟨rfl,o⟩));go_ret;exact⟨rfl,o⟩
     ·have l:=aa4 q v g w A;have a:pi q=!(yo q).isSome:=by
       unfold pi;cases hdc:yo q<;>simp[f,j,g]
      rw[a];generalize (yo q).isSome=E at l;clear a j c i g f;generalize aw q 0=m at k b;go_in;go_wp2_with (first|(go_at_call 153;refine fc (b _) ?_)|(go_at_call 154;refine fc (d _) ?_)|(go_at_call 155;refine l.mono ?_;rintro e r ⟨⟨J,rfl,_⟩,o⟩));go_ret;exact⟨rfl,o⟩
    ·have a:pi q=T:=by unfold pi;rw[qH];rintro ⟨_,n,_⟩;rw[n]at i;exact i rfl
     rw[a];have B:((fe q 0).1:Int)<(q.size:Int):=by omega
     rw[c]at d;generalize (fe q 0).1=y at d B;clear a c i f s;generalize aw q 0=m at k b;go_in;go_wp2_with (first|(go_at_call 153;refine fc (b _) ?_)|(go_at_call 154;refine fc (d _) ?_));go_ret;exact⟨rfl,ai _ _⟩
   ·have x:(fe q 0).2=T:=by simpa using c
    have a:pi q=T:=by unfold pi;rw[qH];rintro ⟨_,n,_⟩;rw[n]at c;exact c rfl
    rw[a];rw[x]at d;generalize (fe q 0).1=y at d s;clear a c x f;generalize aw q 0=m at k b;go_in;go_wp2_with (first|(go_at_call 153;refine fc (b _) ?_)|(go_at_call 154;refine fc (d _) ?_));go_ret;exact⟨rfl,ai _ _⟩
  ·have p:ch (aw q 0)=T:=by simpa using f
   have b:=fun w=>C1 p w;have a:pi q=T:=by unfold pi;simp[p]
   rw[a];clear a f p;generalize aw q 0=m at k b;go_in;go_wp2_with (first|(go_at_call 153;refine fc (b _) ?_));go_ret;exact⟨rfl,ai _ _⟩
 ·have C:=Gh h;have a:pi q=T:=by unfold pi;rw[dD h];simp[vB]
  rw[a];clear a;go_in;go_wp2;go_ret;exact⟨rfl,ai _ _⟩
theorem dK{c:Int}{b:Bool}(h:ch c=b)(w:W):V Q 73 #[M A4 c] w fun e d=>e= R (Z b)/\d=w:=(xG c w).mono fun e d a=>⟨by rw[a.1,h],a.2.symm⟩
theorem gD(s:ByteArray)(f:s.size<=1100000)(a:Int)(i:Nat)(d:a=(i:Int))(w:W):V Q 70 #[O s,M N a] w fun e c=>e= R (M A4 (lk s i))/\c=w:=by
 subst d;exact(zG s f i w).mono fun e c b=>⟨b.1,b.2.symm⟩
theorem xc(c:Int)(i:0<=c)(j:c<256)(w:W):V Q 125 #[M A4 c] w fun e h=>e= R (M N (iC c))/\h=w:=by
 unfold iC;by_cases a:ch c=U
 ·have b:=fun w=>dK a w;have d:=iI a;rw[ab d];clear a;go_in;go_wp2_with (first|(go_at_call 73;refine fc (b _) ?_));go_ret;exact⟨rfl,rfl⟩
 ·have f:ch c=T:=by simpa using a
  have b:=fun w=>dK f w;have d:¬(48<=c/\c<=57):=by simpa [ch] using f
  rw[aa d];clear a f d;rcases(show(97<=c/\c<=102)\/¬97<=c\/(97<=c/\¬c<=102) by omega) with⟨g1,g⟩|g1|⟨g1,g⟩
  ·rw[ab ⟨g1,g⟩];go_in;go_wp2_with (first|(go_at_call 73;refine fc (b _) ?_));go_ret;exact⟨by simp;omega,rfl⟩
  ·rw[aa (by omega)];go_in;go_wp2_with (first|(go_at_call 73;refine fc (b _) ?_));go_ret;exact⟨rfl,rfl⟩
  ·rw[aa (by omega)];go_in;go_wp2_with (first|(go_at_call 73;refine fc (b _) ?_));go_ret;exact⟨rfl,rfl⟩
theorem KH(s:ByteArray)(i:Nat):iC (lk s i)=iC (aw s i):=by
 unfold lk;split
 ·rfl
 ·rename_i a;rw[dD a];decide
theorem rf{s:ByteArray}{i:Nat}(h:i<s.size):lk s i=aw s i:=by unfold lk;rw[ab h]
def hxA(s:ByteArray)(p:Nat):Value:=if(na s (p+2)).2=U then A6 #[M N 2,M N p,M N ((na s (p+2)).1:Int),M N 0,M N (wrap64 (tg s (p+2) ((na s (p+2)).1-(p+2)):Int)),O ⟨#[]⟩] else A6 #[M N 2,M N p,M N 0,M N 0,M N 0,O ⟨#[]⟩]
def hxF(s:ByteArray)(p:Nat):Int:=if(na s (p+2)).2=U then -1 else((na s (p+2)).1:Int)
theorem Gj(s:ByteArray)(a8:s.size<=1100000)(p:Nat)(ba:p+2<=s.size)(w:W):V Q 124 #[O s,A6 #[M N 2,M N p,M N 0,M N 0,M N 0,O ⟨#[]⟩]] w fun e bk=>e= R (X #[hxA s p,M N (hxF s p)])/\A0 w.heap.size w bk:=by
 obtain⟨bl,l⟩:=aA (hxA s p);obtain⟨an,hF⟩:=aA (hxF s p);rw[l,hF];unfold hxA at l;unfold hxF at hF;unfold na at l hF;obtain⟨H,t⟩:=aA (KB s (p+2));rw[t]at l hF;unfold KB at t;have x:=aj t;have m:=aj l;have n:=aj hF;clear t l hF;have ak:gK w.heap.size ((w.alloc (A2 #[M N 2,M N p,M N 0,M N 0,M N 0,O ⟨#[]⟩] 88)).alloc (A2 #[M N 0,M N 0,M N 0,M N 0,M N 0,O ⟨#[]⟩] 88)) 2 p 0 0 0 ⟨#[]⟩:=(dt _ _ _ (by simp)).trans (ar w _);have y:gK (w.heap.size+1) ((w.alloc (A2 #[M N 2,M N p,M N 0,M N 0,M N 0,O ⟨#[]⟩] 88)).alloc (A2 #[M N 0,M N 0,M N 0,M N 0,M N 0,O ⟨#[]⟩] 88)) 0 0 0 0 0 ⟨#[]⟩:=by
  have:=ar (w.alloc (A2 #[M N 2,M N p,M N 0,M N 0,M N 0,O ⟨#[]⟩] 88)) (A2 #[M N 0,M N 0,M N 0,M N 0,M N 0,O ⟨#[]⟩] 88);rw[bu]at this;exact this
 have r:A0 w.heap.size w ((w.alloc (A2 #[M N 2,M N p,M N 0,M N 0,M N 0,O ⟨#[]⟩] 88)).alloc (A2 #[M N 0,M N 0,M N 0,M N 0,M N 0,O ⟨#[]⟩] 88)):=(((ai _ w).alloc (ag _) _).alloc (by simp) _);go_in;go_wp2_with fail;generalize (w.alloc (A2 #[M N 2,M N p,M N 0,M N 0,M N 0,O ⟨#[]⟩] 88)).alloc (A2 #[M N 0,M N 0,M N 0,M N 0,M N 0,O ⟨#[]⟩] 88)=ap at ak y r;have bs:w.heap.size+1<ap.heap.size:=au y;obtain⟨bt,bw,bx,bA,bD,bE,b0⟩:=cJ ak;obtain⟨z0,A,B,C,E,F,b1⟩:=cJ y;go_loop [6,7] (fun z bj=>∃(a h:Nat) (d:Int),p+2<=a/\a<=p+18/\a<=s.size/\s.size<a+h/\z= M N a/\bj= M .u64 d/\A5 (iw mj s h a=H)/\A5 (d=(tg s (p+2) (a-(p+2)):Int))) (fun z _=>s.size-(A3 z).toNat)
 case atStart=>exact⟨p+2,s.size+1,0,by omega,by omega,ba,by omega,by simp,rfl,x,by show(0:Int)=_;rw[gH];rfl⟩
 case round=>
  obtain⟨a,h,d,br,bq,bp,bo,rfl,rfl,u,g⟩:=hrel;obtain⟨h,rfl⟩:∃a5,h=a5+1:=⟨h-1,by omega⟩;have j:=u.out;unfold iw at j;have k:=fun w=>gD s a8 (a:Int) a rfl w;have f:=fun w=>xc (lk s a) (Kx s a).1 (Kx s a).2 w;rw[KH]at f;by_cases i:mj (aw s a)=U
  ·have al:a<s.size:=Iw zk i;have bf:=fun w=>eI al w;rw[rf al]at k f;rw[ab i]at j;have a6:=(oD mj zk s h (a+1) (by omega)).1;rw[j]at a6;have ao:=aj j;have bb:0<=iC (aw s a):=by simpa [mj] using i
   have bd:=sL (aw s a);have af:a≠p+18->tg s (p+2) (a-(p+2))<1152921504606846976:=fun J=>acG s (p+2) _ (by omega);have G:A5 (d*16+iC (aw s a)=(tg s (p+2) (a+1-(p+2)):Int)):=by
    show _=_;rw[show a+1-(p+2)=(a-(p+2))+1 by omega,tg,show p+2+(a-(p+2))=a by omega,g.out];omega
   have av:0<=d:=by rw[g.out];omega
   have q:a≠p+18->d<1152921504606846976:=fun J=>by have:=af J;rw[g.out];omega
   generalize iC (aw s a)=I at f bb bd G;generalize aw s a=a2 at k f bf;clear j i af;by_cases K:a=p+18
   ·have b:=m.out;have c:=n.out;simp only[ab (show p+2+16<H by omega)]at b c;simp at b c;subst b;have a7:an=(a:Int):=by omega
    clear c;subst a7;have a3:((a:Int)-(p:Int)==18)=U:=by rw[jH];omega
    clear m n K q;go_wp2_with (first|(go_at_call 70;refine fc (k _) ?_)|(go_at_call 125;refine fc (f _) ?_));refine bB (v:= X #[A6 #[M N 2,M N p,M N 0,M N 0,M N 0,O ⟨#[]⟩],M N (a:Int)]) (by simp[results,Tryz.results124,go_sem,z0,A,B,C,E,F]) rfl ⟨rfl,?_⟩
    iterate 6 refine fI ?_ (by simp) _
    exact r
   ·have a3:((a:Int)-(p:Int)==18)=T:=by rw[aL];omega
    have bn:=q K;clear q;go_wp2_with (first|(go_at_call 70;refine fc (k _) ?_)|(go_at_call 125;refine fc (f _) ?_));go_round
    case rel=>exact⟨a+1,h,d*16+I,by omega,by omega,by omega,by omega,by go_num,by first|rfl|(congr 1;omega),ao,G⟩
    case measure=>simp[A3];omega
  ·have am:iC (aw s a)<0:=by
    have:¬0<=iC (aw s a):=by simpa [mj] using i
    omega
   rw[aa i]at j;subst j;have a9:¬(0:Int)<=iC (aw s a):=by omega
   have av:0<=d:=by rw[g.out];omega
   have q:d<18446744073709551616:=by rw[g.out];have:=Iz s (p+2) (a-(p+2)) (by omega);omega
   generalize iC (aw s a)=I at f a9;generalize lk s a=a2 at k f;have b:=m.out;have c:=n.out;simp only[aa (show ¬p+2+16<a by omega)]at b c;by_cases L:a=p+2
   ·have o:decide (p+2<a)=T:=by rw[qH];omega
    simp only[o]at b c;simp at b c;subst b c;have a4:((a:Int)==(p:Int)+2)=U:=by rw[jH];omega
    clear m n i am L o g u x;go_wp2_with (first|(go_at_call 70;refine fc (k _) ?_)|(go_at_call 125;refine fc (f _) ?_));refine bB (v:= X #[A6 #[M N 2,M N p,M N 0,M N 0,M N 0,O ⟨#[]⟩],M N (a:Int)]) (by simp[results,Tryz.results124,go_sem,z0,A,B,C,E,F]) rfl ⟨rfl,?_⟩
    iterate 6 refine fI ?_ (by simp) _
    exact r
   ·have o:decide (p+2<a)=U:=by rw[pF];omega
    simp only[o]at b c;simp only[pI]at b c;rw[<-g.out]at b;subst b c;have a4:((a:Int)==(p:Int)+2)=T:=by rw[aL];omega
    clear m n i am L o g u x;go_wp2_with (first|(go_at_call 70;refine fc (k _) ?_)|(go_at_call 125;refine fc (f _) ?_));refine bB (v:= X #[A6 #[M N 2,M N p,M N (a:Int),M N 0,M N (wrap64 d),O ⟨#[]⟩],M N (-1)]) (by simp[results,Tryz.results124,go_sem,z0,A,B,C,E,F]) rfl ⟨rfl,?_⟩
    iterate 8 refine fI ?_ (by simp) _
    exact r
