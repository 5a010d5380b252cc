import Derived.Test.YtcbmoiabehpliaaGreatDoorHPk01
import Derived.Test.YtcbmoiabehpliaaGreatDoorHPk04
set_option linter.unusedVariables false
set_option maxRecDepth 100000
set_option maxHeartbeats 25600000
namespace Go.Proofs.YtcbmoiabehpliaaGreatDoor
open Go.RowKit Go.Maps Go.WideMaps
def eE(c:Int):Bool:=decide (0<=bT c)
theorem ig(c:Int):eE c=true↔(48<=c/\c<=57)\/(97<=c/\c<=102):=by
 unfold eE bT;rw[decide_eq_true_iff];split
 ·omega
 ·split<;>omega
theorem nF(c:Int)(w:World):Calls Tryz.prog 203 #[.int .u8 c] w fun e f=>e= .returned (.bool (eE c))/\w=f:=by
 have b:=fun w=>cG c w;by_cases a:aG c=true
 ·rw[show eE c=true by rw[ig];have:=eQ a;omega];rw[a]at b;clear a;go_in;go_wp2_with (first|(go_at_call 117;refine(b _).mono ?_;rintro e f ⟨rfl,rfl⟩));go_ret;exact⟨rfl,rfl⟩
 ·have d:aG c=false:=by simpa using a
  rw[d]at b;have h:¬(48<=c/\c<=57):=by simpa [aG] using d
  rcases(show(97<=c/\c<=102)\/c<97\/(97<=c/\102<c) by omega) with⟨k,i⟩|g|⟨k,i⟩
  ·rw[show eE c=true by rw[ig];omega];clear a d h;go_in;go_wp2_with (first|(go_at_call 117;refine(b _).mono ?_;rintro e f ⟨rfl,rfl⟩));go_ret;exact⟨rfl,rfl⟩
  ·rw[show eE c=false by rw[<-Bool.not_eq_true,ig];omega];have j:¬97<=c:=by omega
   clear a d h;go_in;go_wp2_with (first|(go_at_call 117;refine(b _).mono ?_;rintro e f ⟨rfl,rfl⟩));go_ret;exact⟨rfl,rfl⟩
  ·rw[show eE c=false by rw[<-Bool.not_eq_true,ig];omega];have j:¬c<=102:=by omega
   clear a d h;go_in;go_wp2_with (first|(go_at_call 117;refine(b _).mono ?_;rintro e f ⟨rfl,rfl⟩));go_ret;exact⟨by simp;omega,rfl⟩
def cZ(q:Int->Bool)(s:ByteArray):Nat->Nat->Nat
 |0,p=>p
 |f+1,p=>if q (ae s p)=true then cZ q s f (p+1) else p
theorem vJ{q:Int->Bool}(a:q (-1)=false){s:ByteArray}{p:Nat}(h:q (ae s p)=true):p<s.size:=by
 rcases Nat.lt_or_ge p s.size with h1|h1
 ·exact h1
 ·rw[aX (by omega),a]at h;cases h
theorem fx(q:Int->Bool)(a:q (-1)=false)(s:ByteArray):∀(f p:Nat),p<=s.size->p<=cZ q s f p/\cZ q s f p<=s.size
 |0,p,h=>⟨Nat.le_refl _,h⟩
 |f+1,p,h=>by
  unfold cZ;split
  ·rename_i b;have c:=vJ a b;have:=fx q a s f (p+1) (by omega);omega
  ·exact⟨Nat.le_refl _,h⟩
theorem nH(q:Int->Bool)(s:ByteArray):∀(f p i:Nat),p<=i->i<cZ q s f p->q (ae s i)=true
 |0,p,i,b,a=>by simp[cZ]at a;omega
 |f+1,p,i,b,a=>by
  unfold cZ at a;split at a
  ·rename_i c;rcases Nat.eq_or_lt_of_le b with rfl|h3
   ·exact c
   ·exact nH q s f (p+1) i h3 a
  ·omega
theorem jS:aG (-1)=false:=by decide
theorem mQ:eE (-1)=false:=by decide
def jv(s:ByteArray)(p:Nat):Nat:=cZ aG s (s.size+1) p
def DL(s:ByteArray)(p:Nat):Nat:=cZ eE s (s.size+1) p
theorem jd(s:ByteArray)(y:s.size<=1100000)(p:Nat)(u:p<=s.size)(w:World):Calls Tryz.prog 185 #[.string s,.int .i64 p] w fun e i=>e= .returned (.int .i64 (jv s p))/\i=w:=by
 unfold jv;obtain⟨r,j⟩:=ah (cZ aG s (s.size+1) p);rw[j];have o:=ab j;clear j;go_in;go_wp2_with fail;go_loop [1] (fun k=>∃(b c:Nat),b<=s.size/\s.size<b+c/\k= .int .i64 b/\Hid (cZ aG s c b=r)) (fun k=>s.size-(intOf k).toNat)
 case atStart=>exact⟨p,s.size+1,u,by omega,rfl,o⟩
 case round=>
  obtain⟨b,c,v,z,rfl,n⟩:=hrel;obtain⟨c,rfl⟩:∃q,c=q+1:=⟨c-1,by omega⟩;have a:=n.out;unfold cZ at a;by_cases l:b<s.size
  ·have t:=fun w=>aI l w;generalize ae s b=h at t a;have g:=fun w=>cG h w;by_cases d:aG h=true
   ·rw[if_pos d]at a;have f:=ab a;clear a;rw[d]at g;clear d;go_wp2_with (go_at_call 117;refine(g _).mono ?_;rintro e i ⟨rfl,rfl⟩);go_round
    case rel=>exact⟨b+1,c,by omega,by omega,by go_num,f⟩
    case measure=>simp[intOf];omega
   ·have m:aG h=false:=by simpa using d
    rw[if_neg d]at a;have f:=ab a;rw[m]at g;clear d m a;go_wp2_with (go_at_call 117;refine(g _).mono ?_;rintro e i ⟨rfl,rfl⟩);go_ret;exact⟨by rw[<-f.out];rfl,rfl⟩
  ·rw[if_neg (by rw[aX l];decide)]at a;have f:=ab a;clear a;have x:¬(b:Int)<(s.size:Int):=by omega
   go_wp2;go_ret;exact⟨by rw[<-f.out];rfl,rfl⟩
def eu(s:ByteArray)(q:Nat):Nat×Bool:=if q+16<DL s q then(q+16,false) else(DL s q,decide (q<DL s q))
theorem vK(s:ByteArray)(J:s.size<=1100000)(p:Nat)(E:p<=s.size)(w:World):Calls Tryz.prog 184 #[.string s,.int .i64 p] w fun e i=>e= .returned (.tuple #[.int .i64 ((eu s p).1:Int),.bool (eu s p).2])/\i=w:=by
 unfold eu DL;obtain⟨j,l⟩:=ah (cZ eE s (s.size+1) p);rw[l];have z:=ab l;clear l;obtain⟨r,o,m⟩:∃r o,(if p+16<j then(p+16,false) else(j,decide (p<j)))=(r,o):=⟨_,_,rfl⟩;rw[m];have g:=ab m;clear m;go_in;go_wp2_with fail;go_loop [6] (fun n=>∃(a d:Nat),p<=a/\a<=p+16/\a<=s.size/\s.size<a+d/\n= .int .i64 a/\Hid (cZ eE s d a=j)) (fun n=>s.size-(intOf n).toNat)
 case atStart=>exact⟨p,s.size+1,Nat.le_refl _,by omega,E,by omega,rfl,z⟩
 case round=>
  obtain⟨a,d,G,H,F,K,rfl,v⟩:=hrel;obtain⟨d,rfl⟩:∃A,d=A+1:=⟨d-1,by omega⟩;have c:=v.out;unfold cZ at c;by_cases q:a<s.size
  ·have C:=fun w=>aI q w;generalize ae s a=k at C c;have h:=fun w=>nF k w;by_cases f:eE k=true
   ·rw[if_pos f]at c;have y:=(fx eE mQ s d (a+1) (by omega)).1;rw[c]at y;have B:=ab c;clear c;rw[f]at h;clear f;by_cases t:a=p+16
    ·have b:=g.out;rw[if_pos (by omega),<-t]at b;obtain⟨rfl,rfl⟩:=Prod.mk.inj b;have x:((a:Int)-(p:Int)==16)=true:=by rw[beq_iff_eq];omega
     clear b g t;go_wp2_with (go_at_call 203;refine(h _).mono ?_;rintro e i ⟨rfl,rfl⟩);go_ret2;exact⟨rfl,rfl⟩
    ·have x:((a:Int)-(p:Int)==16)=false:=by rw[beq_eq_false_iff_ne];omega
     go_wp2_with (go_at_call 203;refine(h _).mono ?_;rintro e i ⟨rfl,rfl⟩);go_round
     case rel=>exact⟨a+1,d,by omega,by omega,by omega,by omega,by go_num,B⟩
     case measure=>simp[intOf];omega
   ·have u:eE k=false:=by simpa using f
    rw[if_neg f]at c;subst c;rw[u]at h;clear f u;have b:=g.out;rw[if_neg (by omega)]at b;obtain⟨rfl,rfl⟩:=Prod.mk.inj b;clear b g;go_wp2_with (go_at_call 203;refine(h _).mono ?_;rintro e i ⟨rfl,rfl⟩);go_ret2;exact⟨by simp,rfl⟩
  ·rw[if_neg (by rw[aX q];decide)]at c;subst c;have I:¬(a:Int)<(s.size:Int):=by omega
   have b:=g.out;rw[if_neg (by omega)]at b;obtain⟨rfl,rfl⟩:=Prod.mk.inj b;clear b g;go_wp2;go_ret2;exact⟨by simp,rfl⟩
theorem dL(s:ByteArray)(i:Nat)(b:UInt8):s.data.toList[i]?=some b↔i<s.size/\ae s i=(b.toNat:Int):=by
 unfold ae;by_cases a:i<s.size
 ·rw[dif_pos a];have d:s.data.toList[i]?=some s[i]:=by
   rw[Array.getElem?_toList];exact Array.getElem?_eq_getElem a
  rw[d];constructor
  ·intro c;injection c with c;exact⟨a,by rw[c]⟩
  ·intro ⟨_,c⟩;congr 1;exact UInt8.toNat_inj.1 (by omega)
 ·have d:s.data.toList[i]?=none:=by
   rw[Array.getElem?_toList];exact Array.getElem?_eq_none (Nat.not_lt.1 a)
  rw[d];simp[a]
theorem qT(s:ByteArray)(p:Nat)(x b:UInt8):Lib.hasPrefix (s.extract p s.size).data.toList [x,b]=decide (ae s p=(x.toNat:Int)/\ae s (p+1)=(b.toNat:Int)):=by
 have l:(s.extract p s.size).data.toList=s.data.toList.drop p:=by
  rw[<-ByteArray.toList_eq,Lib.extract_toList,List.take_of_length_le];rw[List.length_drop,Array.length_toList];exact Nat.le_refl _
 rw[l];unfold Lib.hasPrefix;rw[Bool.eq_iff_iff,List.isPrefixOf_iff_prefix,decide_eq_true_iff];constructor
 ·rintro ⟨t,g⟩;have c:(s.data.toList.drop p)[0]?=some x:=by rw[<-g];rfl
  have e:(s.data.toList.drop p)[1]?=some b:=by rw[<-g];rfl
  rw[List.getElem?_drop]at c e;exact⟨((dL s _ x).1 c).2,((dL s _ b).1 e).2⟩
 ·rintro ⟨c,e⟩;have h:∀a (d:UInt8),ae s a=(d.toNat:Int)->s.data.toList[a]?=some d:=fun a d f=>by
   refine(dL s a d).2 ⟨?_,f⟩;rcases Nat.lt_or_ge a s.size with h2|h2
   ·exact h2
   ·rw[aX (by omega)]at f;omega
  have k:=h p x c;have r:=h (p+1) b e;refine⟨s.data.toList.drop (p+2),?_⟩;have o:=List.getElem?_eq_some_iff.1 k;have j:=List.getElem?_eq_some_iff.1 r;obtain⟨i,m⟩:=o;obtain⟨n,q⟩:=j;rw[List.drop_eq_getElem_cons i,List.drop_eq_getElem_cons n,m,q];rfl
def nA0(s:ByteArray)(p:Nat):Nat:=if ae s p=48 then p+1 else jv s (p+1)
def nA1(s:ByteArray)(a:Nat):Nat:=if ae s a=46/\aG (ae s (a+1))=true then jv s (a+1) else a
def nA2(s:ByteArray)(a:Nat):Nat:=if ae s (a+1)=43\/ae s (a+1)=45 then a+1+1 else a+1
def eT(s:ByteArray)(a:Nat):Nat×Bool:=if ae s a=101 then(jv s (nA2 s a),decide (nA2 s a<jv s (nA2 s a))) else(a,true)
def aP(s:ByteArray)(p:Nat):Nat×Bool:=if ae s p=48/\ae s (p+1)=120 then eu s (p+2) else eT s (nA1 s (nA0 s p))
theorem gA(s:ByteArray)(p:Nat)(h:p<=s.size):p<=jv s p/\jv s p<=s.size:=fx aG jS s _ p h
theorem je(s:ByteArray)(f:s.size<=1100000)(a:Int)(p:Nat)(c:a=(p:Int))(d:p<=s.size)(w:World):Calls Tryz.prog 185 #[.string s,.int .i64 a] w fun e b=>e= .returned (.int .i64 (jv s p))/\b=w:=by
 subst c;exact jd s f p d w
theorem jT{s:ByteArray}(a:Int)(i:Nat)(b:a=(i:Int))(h:i<s.size)(w:World):(Instr.index 9 (.string s) (.int .i64 a)).run Tryz.prog w= .ok (.int .u8 (ae s i)) w:=by
 subst b;exact aI h w
theorem aS{s:ByteArray}{i:Nat}{c:Int}(h:ae s i=c)(a:0<=c):i<s.size:=by
 rcases Nat.lt_or_ge i s.size with h2|h2
 ·exact h2
 ·rw[aX (by omega)]at h;omega
theorem fL{s:ByteArray}{i:Nat}(h:aG (ae s i)=true):i<s.size:=vJ jS h
theorem nI(s:ByteArray)(p:Nat)(w:World):Calls Tryz.prog 58 #[.string (s.extract p s.size),.string ⟨#[48,120]⟩] w fun e b=>e= .returned (.bool (decide (ae s p=48/\ae s (p+1)=120)))/\b=w:=by
 have a:=Tryz.strings_HasPrefix (s.extract p s.size) ⟨#[48,120]⟩ w;rw[show(⟨#[48,120]⟩:ByteArray).data.toList=[48,120] from rfl,qT]at a;exact a
theorem pF(s:ByteArray)(h:s.size<=1100000)(p:Nat)(a:ae s p=48)(d:ae s (p+1)=120)(w:World):Calls Tryz.prog 158 #[.string s,.int .i64 p] w fun e b=>e= .returned (.tuple #[.int .i64 ((eu s (p+2)).1:Int),.bool (eu s (p+2)).2])/\b=w:=by
 have l:=aS a (by omega);have i:=aS d (by omega);have f:=fun w=>nI s p w;rw[show decide (ae s p=48/\ae s (p+1)=120)=true by simp[a,d]]at f;have c:∀w,Calls Tryz.prog 184 #[.string s,.int .i64 ((p:Int)+2)] w fun e b=>e= .returned (.tuple #[.int .i64 ((eu s (p+2)).1:Int),.bool (eu s (p+2)).2])/\b=w:=fun w=>vK s h (p+2) (by omega) w;generalize eu s (p+2)=g at c;obtain⟨k,j⟩:=g;simp only at c⊢;clear a d;go_in;go_wp2_with (first|(go_at_call 58;refine bc (f _) ?_)|(go_at_call 184;refine bc (c _) ?_));go_ret2;exact⟨rfl,rfl⟩
abbrev IX(s:ByteArray)(a c:Int):Prop:=∀b,(Instr.index 9 (.string s) (.int .i64 a)).run Tryz.prog b= .ok (.int .u8 c) b
abbrev DE(s:ByteArray)(a:Int)(B:Nat):Prop:=∀b,Calls Tryz.prog 185 #[.string s,.int .i64 a] b fun c d=>c= .returned (.int .i64 (B:Int))/\d=b
abbrev DQ(c:Int)(b:Bool):Prop:=∀a,Calls Tryz.prog 117 #[.int .u8 c] a fun d e=>d= .returned (.bool b)/\e=a
theorem JQ(s:ByteArray)(d:s.size<=1100000)(p:Nat)(f:p<s.size):∃a:Int,a=(nA0 s p:Nat)/\nA0 s p<=s.size/\((ae s p=48/\a=(p:Int)+1)\/((ae s p==48)=false/\DE s ((p:Int)+1) (nA0 s p)/\∃c,nA0 s p=c/\a=(c:Int))):=by
 unfold nA0;split
 ·rename_i b;exact⟨_,rfl,by omega,.inl ⟨b,by omega⟩⟩
 ·rename_i b;exact⟨_,rfl,(gA s (p+1) (by omega)).2,.inr ⟨by simp[b],fun e=>jd s d (p+1) (by omega) e,_,rfl,rfl⟩⟩
theorem JR(s:ByteArray)(m:s.size<=1100000)(c:Nat)(l:c<=s.size)(a:Int)(h:a=(c:Int)):∃b:Int,b=(nA1 s c:Nat)/\nA1 s c<=s.size/\((¬a+1<(s.size:Int)/\b=a/\nA1 s c=c)\/(a+1<(s.size:Int)/\IX s a (ae s c)/\((b=a/\nA1 s c=c/\(ae s c==46)=false)\/(ae s c=46/\IX s (a+1) (ae s (c+1))/\((b=a/\nA1 s c=c/\DQ (ae s (c+1)) false)\/(DQ (ae s (c+1)) true/\DE s (a+1) (nA1 s c)/\∃B,nA1 s c=B/\b=(B:Int))))))):=by
 have i:∀f,DQ f (aG f):=fun f e=>(cG _ e).mono fun p o d=>⟨d.1,d.2.symm⟩;have k:c<s.size->IX s a (ae s c):=fun d e=>jT _ c h d e;have j:c+1<s.size->IX s (a+1) (ae s (c+1)):=fun d e=>jT _ (c+1) (by omega) d e;unfold nA1;split
 ·rename_i d;have h1:=fL d.2;exact⟨_,rfl,(gA s (c+1) (by omega)).2,.inr ⟨by omega,k (by omega),.inr ⟨d.1,j h1,.inr ⟨by rw[<-d.2];exact i _,fun e=>je s m _ (c+1) (by omega) (by omega) e,_,rfl,rfl⟩⟩⟩⟩
 ·rename_i d;refine⟨a,h,l,?_⟩;rcases Nat.lt_or_ge (c+1) s.size with h1|h1
  ·refine .inr ⟨by omega,k (by omega),?_⟩;by_cases g:ae s c=46
   ·refine .inr ⟨g,j h1,.inl ⟨rfl,rfl,?_⟩⟩;have n:aG (ae s (c+1))=false:=by simpa [g] using d
    rw[<-n];exact i _
   ·exact .inl ⟨rfl,rfl,by simp[g]⟩
  ·exact .inl ⟨by omega,rfl,rfl⟩
theorem JS(s:ByteArray)(j:s.size<=1100000)(B:Nat)(m:B<=s.size)(b:Int)(f:b=(B:Int)):((b==(s.size:Int))=true/\((eT s B).1:Int)=b/\(eT s B).2=true)\/((b==(s.size:Int))=false/\IX s b (ae s B)/\(((ae s B==101)=false/\((eT s B).1:Int)=b/\(eT s B).2=true)\/(ae s B=101/\∃d:Int,((¬b+1<(s.size:Int)/\d=b+1)\/(b+1<(s.size:Int)/\IX s (b+1) (ae s (B+1))/\((ae s (B+1)=43/\d=b+1+1)\/(ae s (B+1)=45/\d=b+1+1)\/((ae s (B+1)==43)=false/\(ae s (B+1)==45)=false/\d=b+1))))/\∃C:Nat,DE s d C/\(eT s B).1=C/\(eT s B).2=decide (d<(C:Int))))):=by
 unfold eT;have i:B+1<s.size->IX s (b+1) (ae s (B+1)):=fun h c=>jT _ (B+1) (by omega) h c;by_cases e:ae s B=101
 ·have k:=aS e (by omega);rw[if_pos e];refine .inr ⟨by rw[beq_eq_false_iff_ne];omega,fun c=>jT _ B f k c,.inr ⟨e,(nA2 s B:Nat),?_,_,fun c=>je s j _ (nA2 s B) rfl ?_ c,rfl,by rw[decide_eq_decide];omega⟩⟩
  ·unfold nA2;rcases(show ¬B+1<s.size\/(B+1<s.size/\ae s (B+1)=43)\/(B+1<s.size/\ae s (B+1)=45)\/(B+1<s.size/\ae s (B+1)≠43/\ae s (B+1)≠45) by omega) with h2|⟨h2,a⟩|⟨h2,a⟩|⟨h2,a,l⟩
   ·rw[if_neg (by rw[aX h2];omega)];exact .inl ⟨by omega,by omega⟩
   ·rw[if_pos (.inl a)];exact .inr ⟨by omega,i h2,.inl ⟨a,by omega⟩⟩
   ·rw[if_pos (.inr a)];exact .inr ⟨by omega,i h2,.inr (.inl ⟨a,by omega⟩)⟩
   ·rw[if_neg (by omega)];exact .inr ⟨by omega,i h2,.inr (.inr ⟨by simp[a],by simp[l],by omega⟩)⟩
  ·unfold nA2;split
   ·rename_i h;rcases Nat.lt_or_ge (B+1) s.size with g|g
    ·omega
    ·rw[aX (by omega)]at h;omega
   ·omega
 ·rw[if_neg e];rcases(show B=s.size\/B<s.size by omega) with h2|h2
  ·exact .inl ⟨by rw[beq_iff_eq];omega,f.symm,rfl⟩
  ·exact .inr ⟨by rw[beq_eq_false_iff_ne];omega,fun c=>jT _ B f h2 c,.inl ⟨by simp[e],f.symm,rfl⟩⟩
theorem pG(s:ByteArray)(g:s.size<=1100000)(p:Nat)(j:p<s.size)(n:¬(ae s p=48/\ae s (p+1)=120))(w:World):Calls Tryz.prog 158 #[.string s,.int .i64 p] w fun e A=>e= .returned (.tuple #[.int .i64 ((eT s (nA1 s (nA0 s p))).1:Int),.bool (eT s (nA1 s (nA0 s p))).2])/\A=w:=by
 have i:=fun w=>nI s p w;rw[decide_eq_false n]at i;have I:=fun w=>aI j w;obtain⟨v,c,k,o⟩:=JQ s g p j;obtain⟨u,d,l,f⟩:=JR s g _ k v c;have a:=JS s g _ l u d;generalize eT s (nA1 s (nA0 s p))=y at a⊢;obtain⟨Q,M⟩:=y;simp only at a⊢;clear n;have z:nA0 s p<=1100000:=by omega
 have F:nA1 s (nA0 s p)<=1100000:=by omega
 generalize nA1 s (nA0 s p)=K at d l f a F;generalize nA0 s p=L at c k o f z;rcases o with⟨x,rfl⟩|⟨x,H,N,rfl,rfl⟩;all_goals
  rcases f with⟨B,rfl,rfl⟩|⟨B,V,⟨rfl,rfl,q⟩|⟨q,O,⟨rfl,rfl,h⟩|⟨h,C,T,rfl,rfl⟩⟩⟩;all_goals
   rcases a with⟨r,b,rfl⟩|⟨r,W,⟨t,b,rfl⟩|⟨t,S,⟨G,rfl⟩|⟨G,R,⟨m,rfl⟩|⟨m,rfl⟩|⟨m,J,rfl⟩⟩,U,E,rfl,rfl⟩⟩;all_goals first|omega|skip
   all_goals
    try rw[b]
    try clear b
    clear c d;go_in;go_wp2_with (first|(go_at_call 58;refine bc (i _) ?_)|(go_at_call 117;refine bc (h _) ?_)|(go_at_call 185;first|(with_reducible refine bc (H _) ?_)|(with_reducible refine bc (C _) ?_)|(with_reducible refine bc (E _) ?_)));all_goals
     go_ret2;exact⟨rfl,rfl⟩
theorem jf(s:ByteArray)(b:s.size<=1100000)(p:Nat)(d:p<s.size)(w:World):Calls Tryz.prog 158 #[.string s,.int .i64 p] w fun e c=>e= .returned (.tuple #[.int .i64 ((aP s p).1:Int),.bool (aP s p).2])/\c=w:=by
 unfold aP;by_cases a:ae s p=48/\ae s (p+1)=120
 ·rw[if_pos a];exact pF s b p a.1 a.2 w
 ·rw[if_neg a];exact pG s b p d a w
end Go.Proofs.YtcbmoiabehpliaaGreatDoor
