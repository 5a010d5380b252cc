import Derived.Test.YthjpdjibdnecoaaGreatDoorHQk15
import Derived.Test.YthjpdjibdnecoaaGreatDoorHQk16
import Derived.Test.YthjpdjibdnecoaaGreatDoorHQk30
set_option linter.all false
set_option maxRecDepth 100000
set_option maxHeartbeats 12800000
open Go.Value renaming int->M,string->Q,tuple->A5,agg->A8,ownBlock->B0
open Go.IntKind renaming i64->O
open Go.Lib renaming hasPrefix->T
open Bool renaming true->U,false->Y
open Go renaming Value->X,World->Z,ownsRow_succ->A9,Calls->Bs,TypeId->B1,maxLen->B2
open Go.Obj renaming cells->Ax
open Go.RowKit renaming Below->A0,intOf->A7
open Option renaming some->A1,none->A2
open Go.Proofs.Tryz renaming prog->A3
open Go.Ending renaming returned->A4
open Go.World renaming news_of_block->A6
namespace Go.Proofs.YthjpdjibdnecoaaGreatDoor
open Go.RowKit Go.Maps Go.WideMaps
def pB(a b c:Int)(x:ByteArray):Bool:=decide ((x.size=0\/a=az x 0)/\(x.size<=1\/b=az x 1)/\(x.size<=2\/c=az x 2))
theorem aej(r x:ByteArray)(i:Nat)(b:i<x.size):r.data.toList[i]?=x.data.toList[i]?↔az r i=az x i:=by
 have d:x.data.toList[i]?=A1 x[i]:=by rw[pm];exact Ap b
 rw[d,lh];have c:az x i=(x[i].toNat:Int):=by unfold az;rw[kJ b]
 rw[c];constructor
 ·exact fun a=>a.2
 ·intro a;refine⟨?_,a⟩;rcases co i r.size with h1|h1
  ·exact h1
  ·rw[dE (by omega)]at a;omega
theorem Kh(r x:ByteArray)(h:x.size<=3):T r.data.toList x.data.toList=pB (az r 0) (az r 1) (az r 2) x:=by
 unfold T pB;rw[AC,Ao,jf,List.prefix_iff_getElem?];have i:x.data.toList.length=x.size:=iv;have f:(∀a (b:a<x.data.toList.length),r.data.toList[a]?=A1 x.data.toList[a])↔∀a,a<x.size->az r a=az x a:=by
  constructor
  ·intro g a b;rw[<-aej r x a b,g a (by omega)];exact(bJ (by omega)).symm
  ·intro g a b;rw[(aej r x a (by omega)).2 (g a (by omega))];exact bJ b
 rw[f];constructor
 ·intro g;refine⟨?_,?_,?_⟩
  ·rcases El x.size with h0|h0
   ·exact .inl h0
   ·exact .inr (g 0 h0)
  ·rcases co 1 x.size with h0|h0
   ·exact .inr (g 1 h0)
   ·exact .inl h0
  ·rcases co 2 x.size with h0|h0
   ·exact .inr (g 2 h0)
   ·exact .inl h0
 ·rintro ⟨c,d,e⟩ a b;rcases(show a=0\/a=1\/a=2 by omega) with rfl|rfl|rfl
  ·rcases c with g|g
   ·omega
   ·exact g
  ·rcases d with g|g
   ·omega
   ·exact g
  ·rcases e with g|g
   ·omega
   ·exact g
def Fw(q:ByteArray->Bool)(V:Array X)(base:Int):Nat->Nat->Int×Nat->Int×Nat
 |0,_,a=>a
 |f+1,i,a=>Fw q V base f (i+1) (if a.2<(ci V i).size/\q (ci V i)=U then(base+(i:Int),(ci V i).size) else a)
def skq(a:Int)(q:ByteArray->Bool):Int:=if a=59 then 5 else if a=10 then 7 else(Fw q lC 61 18 0 (Fw q iI 40 11 0 (0,0))).1
def ux(q:ByteArray->Bool):Nat->Nat->Option Nat
 |0,_=>A2
 |f+1,k=>if q (ci iz k)=U then A1 k else ux q f (k+1)
theorem aek(V:Array X)(base:Int)(r:ByteArray):∀(f i:Nat)(a:Int×Nat),DB V base r f i a=Fw (fun x=>T r.data.toList x.data.toList) V base f i a
 |0,i,a=>rfl
 |f+1,i,a=>by rw[DB,Fw];exact aek V base r f (i+1) _
theorem wj(q b:ByteArray->Bool)(V:Array X)(base:Int)(N:Nat)(h:∀i,i<N->q (ci V i)=b (ci V i)):∀(f i:Nat)(a:Int×Nat),i+f<=N->Fw q V base f i a=Fw b V base f i a
 |0,i,a,_=>rfl
 |f+1,i,a,c=>by rw[Fw,Fw,h i (by omega)];exact wj q b V base N h f (i+1) _ (by omega)
theorem Cd(q a:ByteArray->Bool)(h:∀i,i<30->q (ci iz i)=a (ci iz i)):∀(f i:Nat),i+f<=30->ux q f i=ux a f i
 |0,i,_=>rfl
 |f+1,i,b=>by rw[ux,ux,h i (by omega),Cd q a h f (i+1) (by omega)]
def CK(S:List Int)(b:Int):Int:=if b∈S then b else 0
theorem Fx(S:List Int)(d:(0:Int) ∉ S)(b a:Int)(c:a∈S):CK S b=a↔b=a:=by
 unfold CK;split
 ·exact Iff.rfl
 ·rename_i e;constructor
  ·rintro rfl;exact absurd c d
  ·rintro rfl;exact absurd c e
def fb0:List Int:=[46,60,62,61,126,47,40,41,123,125,91,93,44,59,35,43,45,42,37,38,124]
def fb1:List Int:=[46,60,61,62,47]
def fb2:List Int:=[46]
def inB(x:ByteArray):Bool:=decide (x.size<=3/\(x.size=0\/az x 0∈fb0)/\(x.size<=1\/az x 1∈fb1)/\(x.size<=2\/az x 2∈fb2))
theorem ajk:∀i:Fin 11,inB (ci iI i.val)=U:=by decide+kernel
theorem ajl:∀i:Fin 18,inB (ci lC i.val)=U:=by decide+kernel
theorem ael:∀i:Fin 30,inB (ci iz i.val)=U:=by decide+kernel
theorem ajm(a b c:Int)(x:ByteArray)(h:inB x=U):pB a b c x=pB (CK fb0 a) (CK fb1 b) (CK fb2 c) x:=by
 unfold inB at h;rw[jf]at h;obtain⟨_,g,i,j⟩:=h;have d:(x.size=0\/a=az x 0)↔(x.size=0\/CK fb0 a=az x 0):=by
  rcases g with h|h
  ·simp[h]
  ·rw[Fx fb0 (by decide) a _ h]
 have e:(x.size<=1\/b=az x 1)↔(x.size<=1\/CK fb1 b=az x 1):=by
  rcases i with h|h
  ·simp[h]
  ·rw[Fx fb1 (by decide) b _ h]
 have f:(x.size<=2\/c=az x 2)↔(x.size<=2\/CK fb2 c=az x 2):=by
  rcases j with h|h
  ·simp[h]
  ·rw[Fx fb2 (by decide) c _ h]
 unfold pB;rw[En,d,e,f]
def aic(a b c:Int):Bool:=match ux (pB a b c) 30 0 with
 |some d=>decide (skq a (pB a b c)=xo (ci iz d)/\(gc (skq a (pB a b c))).size=(ci iz d).size/\skq a (pB a b c)≠0/\skq a (pB a b c)≠7)
 |none=>decide (skq a (pB a b c)=0)
theorem aem:∀a∈0::fb0,∀b∈0::fb1,∀c∈0::fb2,aic a b c=U:=by decide+kernel
theorem Ki(S:List Int)(b:Int):CK S b∈0::S:=by
 unfold CK;split
 ·exact dC _ (by assumption)
 ·exact bK
def Ce(r:ByteArray):Prop:=match ux (fun b=>T r.data.toList b.data.toList) 30 0 with
 |some a=>se r=xo (ci iz a)/\(gc (se r)).size=(ci iz a).size/\se r≠0/\se r≠7
 |none=>se r=0
theorem Fy(r:ByteArray)(h:az r 0≠10):Ce r:=by
 have g:∀a,inB a=U->T r.data.toList a.data.toList=pB (CK fb0 (az r 0)) (CK fb1 (az r 1)) (CK fb2 (az r 2)) a:=fun a f=>by
  rw[<-ajm _ _ _ a f];unfold inB at f;rw[jf]at f;exact Kh r a f.1
 have l:se r=skq (CK fb0 (az r 0)) (pB (CK fb0 (az r 0)) (CK fb1 (az r 1)) (CK fb2 (az r 2))):=by
  unfold se skq;rw[aek,aek,wj _ _ iI 40 11 (fun d c=>g _ (ajk ⟨d,c⟩)) 11 0 _ (by omega),wj _ _ lC 61 18 (fun d c=>g _ (ajl ⟨d,c⟩)) 18 0 _ (by omega)];have i:=Fx fb0 (by decide) (az r 0) 59 (by decide);have k:CK fb0 (az r 0)≠10:=by
   unfold CK;split
   ·exact h
   ·decide
  rw[aa h,aa k];by_cases e:az r 0=59
  ·rw[ab e,ab (i.2 e)]
  ·rw[aa e,aa (fun j=>e (i.1 j))]
 have b:=aem _ (Ki fb0 (az r 0)) _ (Ki fb1 (az r 1)) _ (Ki fb2 (az r 2));unfold Ce;rw[Cd _ _ (fun d c=>g _ (ael ⟨d,c⟩)) 30 0 (by omega),l];unfold aic at b;cases hf:ux (pB (CK fb0 (az r 0)) (CK fb1 (az r 1)) (CK fb2 (az r 2))) 30 0 with
 |some m=>rw[hf]at b;exact aC b
 |none=>rw[hf]at b;exact aC b
theorem ahs(s x:ByteArray)(p:Nat)(f:p<=s.size):T (s.extract p s.size).data.toList x.data.toList=decide (p+x.size<=s.size/\((s.extract p (p+x.size)).toList==x.toList)=U):=by
 have e:s.data.toList.length=s.size:=iv;have b:x.data.toList.length=x.size:=iv;have c:(s.extract p s.size).data.toList=s.data.toList.drop p:=by
  rw[<-fj,Lib.extract_toList,fs];rw[jx,iv];exact ae _
 have d:(s.extract p (p+x.size)).toList=(s.data.toList.drop p).take x.size:=by
  rw[Lib.extract_toList];congr 1;omega
 rw[c,d,fj x];unfold T;rw[AC,Ao,jf,List.prefix_iff_eq_take,b,ix];constructor
 ·intro a;refine⟨?_,a.symm⟩;have:=congrArg List.length a;rw[jy,jx,e,b]at this;omega
 ·exact fun a=>a.2.symm
theorem abH(s:ByteArray)(f:s.size<=70000)(p:Nat)(b:p<s.size)(a:az s p=10)(w:Z):Bs A3 57 #[Q s,M O p] w fun e d=>e= A4 (A5 #[A8 #[M O 7,M O p,M O ((p:Int)+1),M O 0,M O 0,Q ⟨#[]⟩],M O (-1)])/\A0 w.heap.size w d:=by
 have c:=fun w=>cD b w;rw[a]at c;have g:(p:Int)<(s.size:Int):=by omega
 go_in;go_wp2;refine ba (v:= A5 #[A8 #[M O 7,M O p,M O ((p:Int)+1),M O 0,M O 0,Q ⟨#[]⟩],M O (-1)]) (by simp[results,Tryz.results57,go_sem]) rfl ⟨rfl,?_⟩;exact((ag _ w).alloc (ae _) _).alloc (by simp) _
theorem aen(p:Nat)(R:Bool×Nat×List Int):∃(t:Int) (x:ByteArray),DC p R= A8 #[M O 4,M O p,M O t,M O 0,M O 0,Q x]:=by
 unfold DC;split<;>exact⟨_,_,rfl⟩
theorem Cf(s:ByteArray)(t:s.size<=70000)(p:Nat)(k:p<s.size)(r:az s p=34)(w:Z):Bs A3 57 #[Q s,M O p] w fun e x=>e= A4 (A5 #[DC p (gx s (s.size+1) (p+1) []),M O (Hm (gx s (s.size+1) (p+1) []))])/\A0 w.heap.size w x:=by
 have l:=fun w=>cD k w;have n:=fun w=>iL (c:=34) (b:=Y) (by decide) w;have m:=fun w=>dw (c:=34) (b:=Y) (by decide) w;have a:=fun w=>Fa s t p k w;generalize gx s (s.size+1) (p+1) []=f at a;obtain⟨u,z,h⟩:=aen p f;rw[h]at a⊢;generalize Hm f=o at a;rw[r]at l;clear h;have i:dj w.heap.size ((w.alloc (Ax #[M O 0,M O 0,M O 0,M O 0,M O 0,Q ⟨#[]⟩] 96)).alloc (Ax #[M O 0,M O p,M O 0,M O 0,M O 0,Q ⟨#[]⟩] 96)) 0 0 0 0 0 ⟨#[]⟩:=(bm _ _ _ (by simp)).trans (aj w _);have g:A0 w.heap.size w ((w.alloc (Ax #[M O 0,M O 0,M O 0,M O 0,M O 0,Q ⟨#[]⟩] 96)).alloc (Ax #[M O 0,M O p,M O 0,M O 0,M O 0,Q ⟨#[]⟩] 96)):=(((ag _ w).alloc (ae _) _).alloc (by simp) _);go_in;go_wp2_with (first|(go_at_call 88;refine dK (n _) ?_)|(go_at_call 90;refine dK (m _) ?_));refine aJ (a _) fun y d=>?_;have j:=i.below d (by simp;omega);have q:=g.trans (d.mono (by simp;omega));clear d i g a n m l;obtain⟨z0,A,B,C,E,F,H⟩:=bf j;have G:w.heap.size<y.heap.size:=ah j;go_wp2;refine ba (v:= A5 #[A8 #[M O 4,M O p,M O u,M O 0,M O 0,Q z],M O o]) (by simp[results,Tryz.results57,go_sem,z0,A,B,C,E,F]) rfl ⟨rfl,?_⟩
 iterate 6 refine eH ?_ (by simp) _
 exact q
structure aaq (q:ByteArray->Bool) (f k:Nat) (R:Option Nat):Prop where
 out:ux q f k=R
def alj(p:Nat)(R:Option Nat):X:=match R with
 |some a=> A5 #[A8 #[M O (xo (ci iz a)),M O p,M O ((p:Int)+((ci iz a).size:Int)),M O 0,M O 0,Q ⟨#[]⟩],M O (-1)]
 |none=> A5 #[A8 #[M O 0,M O p,M O 0,M O 0,M O 0,Q ⟨#[]⟩],M O p]
theorem ajn:∀k:Fin 30,(ci iz k.val).size<=3:=by decide
theorem Cg(s:ByteArray)(b2:s.size<=70000)(p:Nat)(a4:p<s.size)(K:¬az s p=10)(ak:cd (az s p)=Y)(ad:cu (az s p)=Y)(L:¬az s p=34)(w:Z):
  Bs A3 57 #[Q s,M O p] w fun e a5=>e= A4 (alj p (ux (fun x=>T (s.extract p s.size).data.toList x.data.toList) 30 0))/\A0 w.heap.size w a5:=by
 have ar:=fun w=>cD a4 w;have I:(az s p==10)=Y:=by rw[aK];exact K
 have J:(az s p==34)=Y:=by rw[aK];exact L
 have G:=fun w=>iL ak w;have F:=fun w=>dw ad w;have b3:(p:Int)<(s.size:Int):=by omega
 generalize az s p=br at ar I J G F;obtain⟨c,B⟩:∃c:ByteArray->Bool,(fun x=>T (s.extract p s.size).data.toList x.data.toList)=c:=⟨_,rfl⟩;have am:∀x,c x=decide (p+x.size<=s.size/\((s.extract p (p+x.size)).toList==x.toList)=U):=fun x=>by rw[<-B];exact ahs s x p (by omega)
 rw[B];obtain⟨m,y⟩:=ay (ux c 30 0);rw[y];have o:aaq c 30 0 m:=⟨y⟩;have av:=aw am;clear y B am K ak ad L;obtain⟨f,i⟩:=ay ((w.alloc (Ax #[M O 0,M O 0,M O 0,M O 0,M O 0,Q ⟨#[]⟩] 96)).alloc (Ax #[M O 0,M O p,M O 0,M O 0,M O 0,Q ⟨#[]⟩] 96));have z:dj w.heap.size f 0 0 0 0 0 ⟨#[]⟩:=by rw[<-i];exact(bm _ _ _ (by simp)).trans (aj w _)
 have q:dj (w.heap.size+1) f 0 p 0 0 0 ⟨#[]⟩:=by
  rw[<-i];have:=aj (w.alloc (Ax #[M O 0,M O 0,M O 0,M O 0,M O 0,Q ⟨#[]⟩] 96)) (Ax #[M O 0,M O p,M O 0,M O 0,M O 0,Q ⟨#[]⟩] 96);rw[aF]at this;exact this
 have t:A0 w.heap.size w f:=by rw[<-i];exact(((ag _ w).alloc (ae _) _).alloc (by simp) _)
 have H:=aw i;clear i;go_in;go_wp2_with (first|(go_at_call 88;refine dK (G _) ?_)|(go_at_call 90;refine dK (F _) ?_));rw[H.out];refine aJ (zg f) fun g k=>?_;have r:dj (w.heap.size+1) g 0 p 0 0 0 ⟨#[]⟩:=by rw[k];exact(bm _ _ _ (ah q)).trans q
 have A:dj w.heap.size g 0 0 0 0 0 ⟨#[]⟩:=by rw[k];exact(bm _ _ _ (ah z)).trans z
 have u:A0 w.heap.size w g:=by rw[k];exact t.alloc t.size _
 have a1:g.heap[f.heap.size]?=A1 (Ax iz 9 (0,0)):=by rw[k];exact aj f _
 clear k q z t G F ar H I J;go_wp2_with fail;obtain⟨b7,b8,b9,ca,cb,cc,ce⟩:=bf r;obtain⟨z0,bh,bk,bl,bn,bo,ch⟩:=bf A;have ao:w.heap.size<g.heap.size:=ah A;have ap:w.heap.size+1<g.heap.size:=ah r;go_loop [45,9] (fun E _=>∃a:Nat,a<=30/\E= M O a/\aaq c (30-a) a m) (fun E _=>30-(A7 E).toNat)
 case atStart=>exact⟨0,by omega,rfl,o⟩
 case round=>
  obtain⟨a,b1,rfl,l⟩:=hrel;by_cases al:a<30
  ·have a2:g.cell? ⟨f.heap.size,a,A2⟩=A1 (Q (ci iz a)):=by rw[aq _ _ _ _ _ _ a1];exact acs ⟨a,al⟩
   have b:=l.out;rw[show 30-a=(30-(a+1))+1 by omega,ux,av.out]at b;have an:=ajn ⟨a,al⟩;simp only at an;obtain⟨x,C⟩:=ay (ci iz a);rw[C]at a2 b an;have a0:=aw C;clear C l o;by_cases af:p+x.size<=s.size
   ·have a3:(x.size:Int)<=(s.size:Int)-(p:Int):=by omega
    have b0:(p:Int)+(x.size:Int)<=(s.size:Int):=by omega
    by_cases n:((s.extract p (p+x.size)).toList==x.toList)=U
    ·rw[ab (bC ⟨af,n⟩)]at b;have d:=aw b;clear b;go_wp2_with (go_at_call 94;refine(vB x _).mono ?_;rintro e cf ⟨rfl,j⟩;obtain⟨bs,bt,bw,bx,bA,bD,bE⟩:=bf (r.below j ap);obtain⟨a6,a7,a8,a9,bb,bd,cg⟩:=bf (A.below j ao);have b5:=eF ao j.size;have b6:=eF ap j.size);refine ba (v:= A5 #[A8 #[M O (xo x),M O p,M O ((p:Int)+(x.size:Int)),M O 0,M O 0,Q ⟨#[]⟩],M O (-1)]) (by simp[results,Tryz.results57,go_sem,a6,a7,a8,a9,bb,bd]) rfl ⟨by rw[<-d.out];have h:=a0.out;subst h;rfl,?_⟩
     iterate 8 refine eH ?_ (by simp) _
     exact u.trans (j.mono u.size)
    ·have b4:((s.extract p (p+x.size)).toList==x.toList)=Y:=by simpa using n
     rw[aa (fun h=>n (aC h).2)]at b;have d:aaq c (30-(a+1)) (a+1) m:=⟨b⟩;clear b n;go_wp2_with fail;go_round
     case rel=>exact⟨a+1,by omega,by go_num,d⟩
     case measure=>simp[A7];omega
   ·have a3:¬(x.size:Int)<=(s.size:Int)-(p:Int):=by omega
    rw[aa (fun h=>af (aC h).1)]at b;have d:aaq c (30-(a+1)) (a+1) m:=⟨b⟩;clear b;go_wp2_with fail;go_round
    case rel=>exact⟨a+1,by omega,by go_num,d⟩
    case measure=>simp[A7];omega
  ·obtain rfl:a=30:=by omega
   have d:=aw l.out;clear l o;go_wp2_with fail;refine ba (v:= A5 #[A8 #[M O 0,M O p,M O 0,M O 0,M O 0,Q ⟨#[]⟩],M O (p:Int)]) (by simp[results,Tryz.results57,go_sem,z0,bh,bk,bl,bn,bo]) rfl ⟨by rw[<-d.out];rfl,?_⟩
   iterate 6 refine eH ?_ (by simp) _
   exact u
structure alk (R:Rd) (k t n:Int) (x:ByteArray) (bad:Int):Prop where
 yes:R.ok=U->bad= -1/\k=R.k/\t=(R.a:Int)/\n=R.n/\x=R.x/\R.d=(if R.k=7 then 1 else 0)
 no:R.ok=Y->bad=(R.a:Int)
theorem alm(s:ByteArray)(p:Nat):(JI s p).1≠7:=by
 unfold JI;split
 ·simp only;omega
 ·simp
theorem aln(s:ByteArray)(p:Nat):(vI s p).1≠7:=by
 unfold vI;split
 ·simp
 ·split<;>simp
theorem Kj(s:ByteArray)(q:s.size<=70000)(p:Nat)(f:p<s.size)(w:Z):
  Bs A3 57 #[Q s,M O p] w fun e c=>∃k t n x r,e= A4 (A5 #[A8 #[M O k,M O p,M O t,M O 0,M O n,Q x],M O r])/\alk (rdI s p) k t n x r/\A0 w.heap.size w c:=by
 unfold rdI;by_cases j:cd (az s p)=U
 ·rw[ab j];refine aJ (zj s (by omega) p f j w) fun c b=>?_;rw[ak5];exact⟨_,_,_,_,_,rfl,⟨fun _=>⟨rfl,rfl,rfl,rfl,rfl,by simp only;rw[aa (alm s p)]⟩,fun a=>by cases a⟩,b⟩
 rw[aa j];by_cases i:cu (az s p)=U
 ·rw[ab i];refine aJ (vH s (by omega) p f i w) fun c b=>?_;cases hok:(dl s p).2 with
  |true=>
   obtain⟨d,o⟩:=ai0 s p hok;rw[d,o,ab rfl];exact⟨_,_,_,_,_,rfl,⟨fun _=>⟨rfl,rfl,rfl,rfl,rfl,by simp only;rw[aa (aln s p)]⟩,fun a=>by cases a⟩,b⟩
  |false=>
   obtain⟨k,t,n,x,d⟩:=LD s p;rw[d,Hj s p hok,aa (by simp)];exact⟨_,_,_,_,_,rfl,⟨fun a=>by(try simp at a),fun a=>rfl⟩,b⟩
 rw[aa i];by_cases h:az s p=34
 ·rw[ab h];refine aJ (Cf s q p f h w) fun c b=>?_;generalize gx s (s.size+1) (p+1) []=m;obtain⟨A,B,C⟩:=m;cases A with
  |true=>exact⟨_,_,_,_,_,rfl,⟨fun _=>⟨rfl,rfl,rfl,rfl,rfl,rfl⟩,fun a=>by cases a⟩,b⟩
  |false=>exact⟨_,_,_,_,_,rfl,⟨fun a=>(by cases a),fun a=>rfl⟩,b⟩
 rw[aa h];have u:az (s.extract p s.size) 0=az s p:=iG s p s.size 0 (ae _) (by omega);by_cases g:az s p=10
 ·have y:se (s.extract p s.size)=7:=by unfold se;rw[u,g];rfl
  rw[y,aa (by decide)];refine aJ (abH s q p f g w) fun c b=>?_;exact⟨_,_,_,_,_,rfl,⟨fun _=>⟨rfl,rfl,rfl,rfl,rfl,rfl⟩,fun a=>by cases a⟩,b⟩
 ·have l:=Fy (s.extract p s.size) (by rw[u];exact g);unfold Ce at l;refine aJ (Cg s q p f g (by simpa using j) (by simpa using i) h w) fun c b=>?_;generalize ux (fun x=>T (s.extract p s.size).data.toList x.data.toList) 30 0=m at l;cases m with
  |none=>
   rw[show se (s.extract p s.size)=0 from l,ab rfl];exact⟨_,_,_,_,_,rfl,⟨fun a=>(by cases a),fun a=>rfl⟩,b⟩
  |some z=>
   obtain⟨d,o,v,E⟩:=(show _/\_/\_/\_ from l);rw[aa v];refine⟨_,_,_,_,_,rfl,⟨fun _=>⟨rfl,d.symm,?_,rfl,rfl,rfl⟩,fun a=>by cases a⟩,b⟩;show(p:Int)+((ci iz z).size:Int)=((p+(gc (se (s.extract p s.size))).size:Nat):Int);rw[o];omega
structure ajo (s:ByteArray) (f k e:Nat):Prop where
 out:iJ nnB s f k=e
structure aar (s:ByteArray) (f k e:Nat):Prop where
 out:blk s f k=e
theorem rD(s:ByteArray)(ar:s.size<=1100000)(p:Nat)(av:p<=s.size)(w:Z):Bs A3 56 #[Q s,M O p] w fun e a1=>e= A4 (M O (blk s (s.size+1) p))/\a1=w:=by
 obtain⟨u,B⟩:=ay (blk s (s.size+1) p);rw[B];have ak:aar s (s.size+1) p u:=⟨B⟩;clear B;go_in;go_wp2_with fail;go_loop [1,5] (fun k a2=>∃(a d:Nat),a<=s.size/\s.size<a+d/\k= M O a/\aar s d a u) (fun k _=>s.size-(A7 k).toNat)
 case atStart=>exact⟨p,s.size+1,av,by omega,rfl,ak⟩
 case round=>
  obtain⟨a,d,I,a3,rfl,q⟩:=hrel;obtain⟨d,rfl⟩:∃g,d=g+1:=⟨d-1,by omega⟩;have b:=q.out;rw[blk]at b;by_cases K:a<s.size
  ·have a7:(a:Int)<(s.size:Int):=by omega
   rw[aa (by omega)]at b;have r:=fun w=>cD K w;have v:=jo K;by_cases i:kK (az s a)=U
   ·rw[ab i]at b;have f:aar s d (a+1) u:=⟨b⟩;have n:az s a=32\/az s a=9\/az s a=13:=aC i;generalize az s a=G at r n v;clear b q i;rcases n with rfl|rfl|rfl;all_goals
     go_wp2_with fail;go_round
     case rel=>exact⟨a+1,d,by omega,by omega,by go_num,f⟩
     case measure=>simp[A7];omega
   ·rw[aa i]at b;have n:¬(az s a=32\/az s a=9\/az s a=13):=fun A=>i (bC A);have x:(az s a==32)=Y:=by rw[aK];omega
    have y:(az s a==9)=Y:=by rw[aK];omega
    have z:(az s a==13)=Y:=by rw[aK];omega
    have t:=fun w=>gg s ar ((a:Int)+1) (a+1) (by omega) w;have o:=sC s (a+1) 45 (by omega);by_cases h:az s a=45/\az s (a+1)=45
    ·rw[ab h]at b;have f:aar s d (nlE s a) u:=⟨b⟩;rw[h.2]at o;have J:lk s (a+1)=45:=by simpa using o
     have ao:=Bd s a h.1;have ap:=BC s a I;rw[h.1]at r;rw[J]at t;have E:ajo s (s.size+1) a (nlE s a):=⟨rfl⟩;generalize nlE s a=F at f ao ap E;clear b q i n x y z o J h v;go_wp2_with (go_at_call 87;refine dK (t _) ?_);go_loop [1] (fun k=>∃(c g:Nat),c<=s.size/\s.size<c+g/\k= M O c/\ajo s g c F) (fun k=>s.size-(A7 k).toNat)
     case atStart=>exact⟨a,s.size+1,I,by omega,rfl,E⟩
     case round=>
      obtain⟨c,g,a5,a4,rfl,C⟩:=hrel;obtain⟨g,rfl⟩:∃a0,g=a0+1:=⟨g-1,by omega⟩;have b:=C.out;rw[iJ]at b;clear r C;by_cases H:c<s.size
      ·have a6:(c:Int)<(s.size:Int):=by omega
       have ad:=fun w=>cD H w;have af:=jo H;by_cases l:az s c=10
       ·rw[aa (by rw[l];decide)]at b;rw[l]at ad;have j:=aw b;clear b l af;go_wp2_with fail;go_round
        case rel=>exact⟨c,d,by omega,by have:=j.out;omega,by go_num,by rw[j.out];exact f⟩
        case measure=>have:=j.out;simp[A7];omega
       ·rw[ab (by unfold nnB;rw[jf];exact⟨l,by omega⟩)]at b;have j:ajo s g (c+1) F:=⟨b⟩;have al:(az s c==10)=Y:=by rw[aK];exact l
        generalize az s c=G at ad al;clear b l af;go_wp2_with fail;go_round
        case rel=>exact⟨c+1,g,by omega,by omega,by go_num,j⟩
        case measure=>simp[A7];omega
      ·obtain rfl:c=s.size:=by omega
       rw[aa (by rw[dE (AI _)];decide)]at b;have j:=aw b;clear b;go_wp2_with fail;go_round
       case rel=>exact⟨s.size,d,by omega,by omega,by go_num,by rw[j.out];exact f⟩
       case measure=>simp[A7];omega
    ·rw[aa h]at b;have f:=aw b;clear b q;by_cases m:az s a=45
     ·have L:az s (a+1)≠45:=fun A=>h ⟨m,A⟩;rw[aB L]at o;rw[m]at r;generalize lk s (a+1)=a8 at t o;clear i n x y z h v L m;go_wp2_with (go_at_call 87;refine dK (t _) ?_);go_ret;exact⟨by rw[<-f.out];rfl,rfl⟩
     ·have am:(az s a==45)=Y:=by rw[aK];exact m
      have an:(az s a !=45)=U:=by rw[ud];exact m
      generalize az s a=G at r x y z am an;clear i n h v m t o;go_wp2_with fail;go_ret;exact⟨by rw[<-f.out];rfl,rfl⟩
  ·obtain rfl:a=s.size:=by omega
   rw[ab (ae _)]at b;have f:=aw b;clear b q;go_wp2_with fail;go_ret;exact⟨by rw[<-f.out];rfl,rfl⟩
def si(s:ByteArray)(p:Nat):Int:=if cu (az s p)=U then(if az s p=48/\az s (p+1)=120 then 2 else 3) else if az s p=34 then 4 else 0
theorem aeo(s:ByteArray)(p:Nat)(h:(dl s p).2=Y):∃(t n:Int) (x:ByteArray),Ab s p= A8 #[M O (if az s p=48/\az s (p+1)=120 then 2 else 3),M O p,M O t,M O 0,M O n,Q x]:=by
 unfold Ab;unfold dl at h;by_cases a:az s p=48/\az s (p+1)=120
 ·rw[ab a]at h;rw[ab a,ab a];unfold hxA;rw[aa (by rw[h];simp)];exact⟨_,_,_,rfl⟩
 ·rw[aa a]at h;rw[aa a,aa a];unfold nmA;rw[aa (by rw[h];simp)];exact⟨_,_,_,rfl⟩
def sj(s:ByteArray)(p:Nat):Int:=if(rdI s p).ok=U then(rdI s p).k else si s p
theorem aep(V:Array X)(s:ByteArray):∀(f k j:Nat),uE V s f k=A1 j->j<k+f
 |0,k,j,h=>by simp[uE]at h
 |f+1,k,j,h=>by
  rw[uE]at h;split at h
  ·obtain rfl:=bu h;omega
  ·have:=aep V s f (k+1) j h;omega
theorem Ij(s:ByteArray)(p:Nat)(h:(rdI s p).ok=U):1<=(rdI s p).k/\(rdI s p).k<=78:=by
 unfold rdI at h⊢;split
 ·simp only;unfold JI;cases hf:uE ez (s.extract p (mo s (s.size+1) p)) 22 0 with
  |none=>simp
  |some k=>have:=aep _ _ _ _ _ hf;simp only;omega
 split
 ·split
  ·simp only;unfold vI;split
   ·simp
   ·split<;>simp
  ·rename_i a b c;rw[aa a,ab b,aa c]at h;cases h
 split
 ·split
  ·simp
  ·rename_i a b c d;rw[aa a,aa b,ab c,aa d]at h;cases h
 split
 ·rename_i a b c d;rw[aa a,aa b,aa c,ab d]at h;cases h
 ·rename_i a b c d;have:=ac3 (s.extract p s.size);simp only;omega
theorem Fz(s:ByteArray)(p:Nat):0<=si s p/\si s p<=4:=by
 unfold si;split
 ·split<;>omega
 ·split<;>omega
theorem Kk(s:ByteArray)(r:s.size<=70000)(p:Nat)(l:p<s.size)(w:Z):
  Bs A3 57 #[Q s,M O p] w fun e j=>∃t n x q,e= A4 (A5 #[A8 #[M O (sj s p),M O p,M O t,M O 0,M O n,Q x],M O q])/\alk (rdI s p) (sj s p) t n x q/\A0 w.heap.size w j:=by
 cases hok0:(rdI s p).ok with
 |true=>
  refine(Kj s r p l w).mono ?_;rintro e j ⟨ad,t,n,x,q,rfl,a,f⟩;obtain⟨_,rfl,_⟩:=a.yes hok0;have e:sj s p=(rdI s p).k:=by unfold sj;rw[ab hok0]
  rw[e];exact⟨_,_,_,_,rfl,a,f⟩
 |false=>
  have C:sj s p=si s p:=by unfold sj;rw[aa (by rw[hok0];simp)]
  rw[C];have b:=hok0;unfold rdI at b;have h:¬cd (az s p)=U:=fun a=>by rw[ab a]at b;cases b
  rw[aa h]at b;by_cases c:cu (az s p)=U
  ·rw[ab c]at b;have u:(dl s p).2=Y:=by
    cases i:(dl s p).2 with
    |true=>rw[ab i]at b;cases b
    |false=>rfl
   refine aJ (vH s (by omega) p l c w) fun j f=>?_;obtain⟨t,n,x,y⟩:=aeo s p u;have g:si s p=(if az s p=48/\az s (p+1)=120 then 2 else 3):=by unfold si;rw[ab c]
   rw[y,g,Hj s p u];refine⟨_,_,_,_,rfl,⟨fun a=>(by rw[hok0]at a;cases a),fun a=>?_⟩,f⟩;unfold rdI;rw[aa h,ab c,aa (by rw[u];simp)]
  ·rw[aa c]at b;by_cases d:az s p=34
   ·have g:si s p=4:=by unfold si;rw[aa c,ab d]
    rw[g];refine aJ (Cf s r p l d w) fun j f=>?_;have m:(rdI s p).ok=(gx s (s.size+1) (p+1) []).1/\(rdI s p).a=(gx s (s.size+1) (p+1) []).2.1:=by
     unfold rdI;rw[aa h,aa c,ab d];cases i:(gx s (s.size+1) (p+1) []).1 with
     |true=>rw[ab rfl];exact⟨rfl,rfl⟩
     |false=>rw[aa (by simp)];exact⟨rfl,rfl⟩
    rw[hok0]at m;generalize K:gx s (s.size+1) (p+1) []=A at m;obtain⟨af,I,J⟩:=A;simp only at m;obtain⟨F,G⟩:=m;subst F;refine⟨_,_,_,_,rfl,⟨fun a=>(by rw[hok0]at a;cases a),fun a=>?_⟩,f⟩;rw[G];rfl
   ·rw[aa d]at b;have g:si s p=0:=by unfold si;rw[aa c,aa d]
    rw[g];have o:se (s.extract p s.size)=0:=by
     by_cases i:se (s.extract p s.size)=0
     ·exact i
     ·rw[aa i]at b;cases b
    have z:az (s.extract p s.size) 0=az s p:=iG s p s.size 0 (ae _) (by omega);have k:¬az s p=10:=fun k=>by
     have H:se (s.extract p s.size)=7:=by unfold se;rw[z,k];rfl
     rw[H]at o;exact absurd o (by decide)
    have v:=Fy (s.extract p s.size) (by rw[z];exact k);unfold Ce at v;refine aJ (Cg s r p l k (by simpa using h) (by simpa using c) d w) fun j f=>?_;generalize ux (fun x=>T (s.extract p s.size).data.toList x.data.toList) 30 0=B at v;cases B with
    |none=>
     refine⟨_,_,_,_,rfl,⟨fun a=>(by rw[hok0]at a;cases a),fun a=>?_⟩,f⟩;unfold rdI;rw[aa h,aa c,aa d,ab o]
    |some L=>
     obtain⟨y,_,E,_⟩:=(show _/\_/\_/\_ from v);exact absurd o E
def Ai(st:List Int)(k:Int):List Int×Bool:=if 0<k then feedL st k else(st,Y)
def uy(s:ByteArray):Nat->List Int->Nat->Int->List Tk->List Tk×List Int×Int
 |0,st,_,_,_=>([],st,0)
 |f+1,st,p,l,b=>
  if s.size<=p then(b++[⟨6,(s.size:Nat),(s.size:Nat),l,0,⟨#[]⟩⟩],st, -1)
  else if sj s p=7 then
   (if(feedL st 5).2=U then uy s f (feedL st 5).1 (blk s (s.size+1) (rdI s p).a) (l+1) (b++[⟨5,(p:Nat),((rdI s p).a:Nat),l,(rdI s p).n,(rdI s p).x⟩]) else uy s f st (blk s (s.size+1) (rdI s p).a) (l+1) b)
  else if(Ai st (sj s p)).2=U then
   (if(rdI s p).ok=U then uy s f (feedL st (sj s p)).1 (blk s (s.size+1) (rdI s p).a) l (b++[⟨sj s p,(p:Nat),((rdI s p).a:Nat),l,(rdI s p).n,(rdI s p).x⟩]) else([],st,((rdI s p).a:Nat)))
  else([],st,(wrongF s p (wh st):Nat))
def jb(s:ByteArray):List Tk×List Int×Int:=uy s (s.size+1) [100,6] (blk s (s.size+1) 0) 1 []
structure am1 (s:ByteArray) (f:Nat) (st:List Int) (p:Nat) (l:Int) (out:List Tk) (R:List Tk×List Int×Int):Prop where
 out:uy s f st p l out=R
theorem Kl(s:ByteArray)(p:Nat):0<=sj s p/\sj s p<=78:=by
 unfold sj;split
 ·rename_i a;have:=Ij s p a;omega
 ·have:=Fz s p;omega
theorem aeq(s:ByteArray)(p:Nat)(h:sj s p=7):(rdI s p).ok=U/\(rdI s p).k=7:=by
 unfold sj at h;split at h
 ·rename_i a;exact⟨a,h⟩
 ·have:=Fz s p;omega
theorem aht:(Tryz.prog.info? 96).map (fun i=>(i.zero,i.size,i.bytes))=A1 (A1 (A8 #[M O 0,M O 0,M O 0,M O 0,M O 0,Q ⟨#[]⟩]),6,56):=by kernel_rfl
theorem Ik{W f:Z}{o:Obj}{base e size n:Nat}{v:X}{m:List X}(j:W.ownsRow base e size v n m)(i:(W.alloc o).grownBy f v.ownBlock){k:Nat}{cs:Array X}{t:B1}{fr:Nat×Nat}(b:W.heap[k]?=A1 (Ax cs t fr))(l:t≠e):f.heap[k]?=A1 (Ax cs t fr):=by
 refine(i.block k (by simp;have:=ah b;omega) (fun g=>?_)).trans ((bm _ _ _ (ah b)).trans b);have a:v.ownBlock=A1 k:=g.symm;rcases j.2 with⟨c,_⟩|⟨h,p,q,c,_,d,_⟩
 ·rw[c]at a;simp[B0]at a
 ·rw[c]at a;obtain rfl:h=k:=by simpa [B0] using a
  rw[b]at d;simp only[dr,gE]at d;exact l d.2.1
theorem td.app{W d:Z}{o:Obj}{base mb:Nat}{C:List (Int×Int)}(h:td W base mb C){f e size n:Nat}{v:X}{w:List X}(c:W.ownsRow f e size v n w)(b:(W.alloc o).grownBy d v.ownBlock)(k:78≠e)(l:131≠e):td d base mb C:=by
 obtain⟨u,r,s,a⟩:=h.ex;refine⟨⟨u,Ik c b r k,s,?_⟩,h.lo⟩;rcases a with a|⟨j,g,i,q,p,m,t⟩
 ·exact .inl a
 ·exact .inr ⟨j,g,i,q,p,Ik c b m l,t⟩
theorem td.other{W:Z}{base mb b:Nat}{C:List (Int×Int)}(h:td W base mb C){cs:Array X}{t:B1}{fr:Nat×Nat}(s:W.heap[b]?=A1 (Ax cs t fr))(q:t≠78)(r:t≠131)(j:Nat)(v:X):td (W.setCell ⟨b,j,A2⟩ v) base mb C:=by
 obtain⟨A,e,y,c⟩:=h.ex;have g:∀{f:Nat}{l:Array X}{i:B1}{o:Nat×Nat},W.heap[f]?=A1 (Ax l i o)->t≠i->f≠b:=fun a w n=>by
  subst n;rw[s]at a;simp only[dr,gE]at a;exact w a.2.1
 refine⟨⟨A,(aD _ _ _ _ (g e q)).trans e,y,?_⟩,h.lo⟩;rcases c with c|⟨p,k,m,x,u,d,z⟩
 ·exact .inl c
 ·exact .inr ⟨p,k,m,x,u,(aD _ _ _ _ (g d r)).trans d,z⟩
theorem Ch{W:Z}{base e size n b:Nat}{v:X}{a:List X}(h:W.ownsRow base e size v n a)(c:∀g,v.ownBlock=A1 g->g<b)(j:Nat)(u:X):(W.setCell ⟨b,j,A2⟩ u).ownsRow base e size v n a:=by
 refine h.kept (row:=A1 b) ⟨rfl,rfl,rfl,by simp[World.setCell],fun i f d=>aD _ _ _ _ (fun e=>d (by rw[e]))⟩ ?_;cases hv:v.ownBlock with
 |none=>exact .inl rfl
 |some g=>exact .inr (fun e=>by have:=c g hv;obtain rfl:=bu e;omega)
structure Il (w:Z) (base mb:Nat) (s:ByteArray) (R:List Tk×List Int×Int) (p:Nat) (st:List Int) (top:Int) (C:List (Int×Int)) (l:Int) (out:List Tk) (f:Nat) (vo:X) (W:Z):Prop where
 m:td W base mb C
 sk:lr C top st
 o:Be st
 bl:A0 base w W
 row:W.ownsRow base 96 6 vo out.length (Aa out)
 eq:uy s f st p l out=R
 cl:2<=C.length/\C.length<=2+20*p
 ol:out.length<=p
 l0:1<=l/\l<=(p:Int)+1
theorem Il.below{w:Z}{base mb:Nat}{s:ByteArray}{R:List Tk×List Int×Int}{p:Nat}{st:List Int}{d:Int}{C:List (Int×Int)}{l:Int}{c:List Tk}{f:Nat}{e:X}{W b:Z}(h:Il w base mb s R p st d C l c f e W)(a:A0 W.heap.size W b)(g:base<=W.heap.size):Il w base mb s R p st d C l c f e b:=
 ⟨h.m.below a,h.sk,h.o,h.bl.trans (a.mono g),aE h.row a,h.eq,h.cl,h.ol,h.l0⟩
def In(w:Z)(base mb:Nat)(s:ByteArray)(R:List Tk×List Int×Int)(e:Ending)(b:Z):Prop:=
 ∃(c:Option Addr) (d:Nat) (f:Int) (a:List (Int×Int)),e= A4 (A5 #[.slice c R.1.length d,M O f,M O R.2.2])/\b.ownsRow base 96 6 (.slice c R.1.length d) R.1.length (Aa R.1)/\td b base mb a/\lr a f R.2.1/\Be R.2.1/\A0 base w b/\2<=a.length/\a.length<=2000000
theorem Km(w:Z)(base mb:Nat)(s:ByteArray)(h:td w base mb [])(d5:s.size<=70000):
  Bs A3 29 #[.pointer (A1 ⟨mb,0,A2⟩),.string s] w (In w base mb s (jb s)):=by
 unfold jb;obtain⟨I,c0⟩:=ay (uy s (s.size+1) [100,6] (blk s (s.size+1) 0) 1 []);rw[c0];have f1:base<=w.heap.size:=by obtain⟨v,fq,_⟩:=h.ex;have:=ah fq;have:=h.lo;omega
 have e8:=abF w base mb h;have c3:=fun w=>rD s (by omega) 0 (aL _) w;have ev:=mJ s (s.size+1) 0 (aL _);obtain⟨es,et⟩:=ay (blk s (s.size+1) 0);rw[et]at c0 c3 ev;rw[show(((0:Nat):Int))=0 from rfl]at c3;have ep:=aw c0;clear c0 h et;go_in;go_wp2_with fail;refine e8.mono ?_;rintro A L ⟨rfl,fa,f5,g⟩;clear e8;have fb:Il w base mb s I es [100,6] 1 [(6, -1),(100,0)] 1 [] (s.size+1) (.slice A2 0 0) L:=by
  refine⟨fa,⟨1,0,rfl,rfl,0, -1,rfl,rfl,rfl⟩,?_,g,bc _ _ _ _,ep.out,⟨by simp,by simp⟩,by simp,⟨by omega,by omega⟩⟩;intro i a7;simp at a7;omega
 have er:=aw fb;clear fb fa f5 g;go_wp2_with (go_at_call 56;refine dK (c3 _) ?_);clear c3;obtain⟨d8,d9,ea,eb,ec⟩:=dt aht;go_loopw [7,8,9,10] (fun gv fd gu el wr=>∃(a:Nat) (f:List Int) (x:Int) (p:List (Int×Int)) (d:Int) (t:List Tk) (r:Nat),el= .int .i64 a/\gu= .int .i64 d/\gv= .int .i64 x/\(∃fg fl,∃f4:Nat,fd= .slice fg f4 fl)/\a<=s.size/\s.size<a+r/\Hid (Il w base mb s I a f x p d t r fd wr)) (fun _ _ _ el _=>s.size+1-(A7 el).toNat)
 case atStart=>exact⟨es,_,1,_,1,[],s.size+1,rfl,rfl,rfl,⟨_,_,_,rfl⟩,ev.2,by omega,er⟩
 case round=>
  obtain⟨a,f,x,p,d,t,r,rfl,rfl,rfl,⟨cF,cI,ch,rfl⟩,hl,hi,z⟩:=hrel;clear er ep;obtain⟨r,rfl⟩:∃bh,r=bh+1:=⟨r-1,by omega⟩;obtain⟨g8,g9,fn⟩:=bz z.out.row;cases fn;have c:=z.out.eq;rw[uy]at c;have e0:base<=wr.heap.size:=bF f1 z.out.bl.size;have e4:=z.out.ol;by_cases b9:a<s.size
  ·rw[aa (by omega)]at c;have fF:(a:Int)<(s.size:Int):=by omega
   have ef:=fun w=>Kk s d5 a b9 w;have dz:=Kl s a;obtain⟨e,ds⟩:=ay (sj s a);rw[ds]at ef c dz;have cz:=aw ds;obtain⟨ch,a5⟩:=ay t.length;have C:=aw a5;rw[a5]at e4⊢;have bt:Hid ((if e=7 then(if(feedL f 5).2=U then uy s r (feedL f 5).1 (blk s (s.size+1) (rdI s a).a) (d+1) (t++[⟨5,(a:Nat),((rdI s a).a:Nat),d,(rdI s a).n,(rdI s a).x⟩]) else uy s r f (blk s (s.size+1) (rdI s a).a) (d+1) t)
    else if(Ai f e).2=U then(if(rdI s a).ok=U then uy s r (feedL f e).1 (blk s (s.size+1) (rdI s a).a) d (t++[⟨e,(a:Nat),((rdI s a).a:Nat),d,(rdI s a).n,(rdI s a).x⟩]) else([],f,((rdI s a).a:Nat)))
    else([],f,(wrongF s a (wh f):Nat)))=I):=c
   clear c ds a5;go_wp2_with fail;refine(ef _).mono ?_;rintro A L ⟨l,k,i,df,rfl,e7,d0⟩;have cB:Hid (Il w base mb s I a f x p d t (r+1) (.slice cF t.length cI) L):=z.out.below d0 e0;have f2:=d0.size;have an:=aw e7;clear ef d0 z e7;obtain⟨g,d1⟩:=ay L.heap.size;go_upto_region 8 with fail
   have a2:dj g (L.alloc (.cells #[.int .i64 e,.int .i64 a,.int .i64 l,.int .i64 d,.int .i64 k,.string i] 96)) e a l d k i:=by rw[<-d1];exact aj L _
   have b:Hid (Il w base mb s I a f x p d t (r+1) (.slice cF t.length cI) (L.alloc (.cells #[.int .i64 e,.int .i64 a,.int .i64 l,.int .i64 d,.int .i64 k,.string i] 96))):=cB.out.below (bg L _) (by omega);have c2:∀bh,(Value.slice cF ch cI).ownBlock=A1 bh->bh<g:=fun bh fA=>by
    have e6:=cB.out.row;rw[C.out]at e6;have:=(e6.lt bh fA).2;omega
   have c1:g≠mb:=by
    obtain⟨em,K,_⟩:=cB.out.m.ex;have:=ah K;omega
   have f0:(L.alloc (.cells #[.int .i64 e,.int .i64 a,.int .i64 l,.int .i64 d,.int .i64 k,.string i] 96)).heap.size=g+1:=by rw[aF,d1]
   generalize L.alloc (.cells #[.int .i64 e,.int .i64 a,.int .i64 l,.int .i64 d,.int .i64 k,.string i] 96)=c7 at a2 b f0⊢;have he:=b.out.cl.2;have hh:=b.out.cl.1;have hd:base<=g:=by omega
   have hj:=b.out.l0;obtain⟨gf,gm,gn,gp,gr,gs,gt⟩:=bf a2;clear cB d1 f2 e0;by_cases dq:e=7
   ·subst dq;obtain⟨d6,fB⟩:=aeq s a cz.out;obtain⟨bn,d4,a6,ca,a7,d3⟩:=an.out.yes d6;clear d4 d3;have ak:=mq s a b9 d6;have c:=bt.out;rw[ab rfl,<-ca,<-a7]at c;obtain⟨B,b0⟩:=ay ((rdI s a).a);rw[b0]at c a6 ak;subst bn;have ar:=fun w=>rD s (by omega) B (by omega) w;have bk:=mJ s (s.size+1) B (by omega);obtain⟨bw,b2⟩:=ay (blk s (s.size+1) B);rw[b2]at c ar bk;rw[<-a6]at ar c;have cc:=xD b.out.o (show(1:Int)<=5 by omega) (by omega);have q:=xH c7 base mb p f x 5 b.out.m b.out.sk b.out.o (by omega) (by omega) (by omega);obtain⟨bx,b4⟩:=ay (feedL f 5);rw[b4]at q c cc;unfold tg at q;obtain⟨ei,cb⟩:=ay bx.2;rw[cb]at q c;have fu:a<B/\B<=s.size:=⟨ak.1,ak.2.1⟩;clear ca a7 b4 cb d6 fB ak b0 b2 cz an bt a6;go_wp2_with fail;refine q.mono ?_;rintro A n ⟨ck,D,rfl,H,a0,a4,m,G⟩;cases ei with
    |false=>
     rw[aa (by simp)]at c;have br:=aw c;have y:dj g n 7 a l d k i:=m.blk a2 (by decide) c1;obtain⟨em,K,_⟩:=b.out.m.ex;have row3:=m.row K b.out.row (by decide) (by decide);have ff:Hid (Il w base mb s I bw f x (p++D) (d+1) t r (.slice cF ch cI) n):=
      ⟨H,b.out.sk.app D,b.out.o,b.out.bl.trans G,by rw[<-C.out]at *;exact row3,br.out,⟨by rw[aH];omega,by rw[aH];omega⟩,by rw[C.out];omega,⟨by omega,by omega⟩⟩
     obtain⟨cn,cq,cr,ct,cw,cx,cy⟩:=bf y;clear q c a2 y row3 K H a0 m G b gf gm gn gp gr gs gt;go_wp2_with (go_at_call 56;refine dK (ar _) ?_);exact⟨⟨bw,f,x,p++D,d+1,t,r,rfl,by go_num,rfl,⟨_,_,_,rfl⟩,bk.2,by omega,ff⟩,by simp[A7];omega⟩
    |true=>
     rw[ab rfl]at c;have br:=aw c;clear c;have y:dj g n 7 a l d k i:=m.blk a2 (by decide) c1;obtain⟨em,K,_⟩:=b.out.m.ex;have row3:=m.row K b.out.row (by decide) (by decide);rw[C.out]at row3;have bD:=b.out.bl.trans G;have f3:=m.size;have F:dj g (n.setCell ⟨g,0,A2⟩ (.int .i64 5)) 5 a l d k i:=y.setKind 5;have cf:=H.other (j:=0) (v:= .int .i64 5) (show n.heap[g]?=A1 (.cells _ _ _) from y) (by decide) (by decide);have bb:=Ch (j:=0) (u:= .int .i64 5) row3 c2;have bE:A0 base w (n.setCell ⟨g,0,A2⟩ (.int .i64 5)):=bD.setCell (by simp;omega) _;have bo:=gK a0 a4;obtain⟨cn,cq,cr,ct,cw,cx,cy⟩:=bf y;clear q y H row3 bD K a0 a4 m G;go_upto_region 24 with fail
     generalize n.setCell ⟨g,0,A2⟩ (.int .i64 5)=a3 at F cf bb bE⊢;obtain⟨g0,g1,g2,g3,g4,g5,g7⟩:=bf F;have E:=aw bb;have c4:=aw F;have d2:g<a3.heap.size:=ah F;clear F bb cn cq cr ct cw cx cy;go_wp2_with (first|(at_builtin;refine ng _ rfl _ _ 42 rfl base 96 d8 _ 6 56 Tryz.underlying42 d9 ea eb ec rfl (by decide) _ _ _ rfl (E.out.alloc _) ⟨a3.heap.size,0,A2⟩ 1 1 [.int .i64 5,.int .i64 a,.int .i64 l,.int .i64 d,.int .i64 k,.string i] rfl rfl (A6 (cs:=#[.int .i64 5,.int .i64 a,.int .i64 l,.int .i64 d,.int .i64 k,.string i]) (fr:=(0,0)) (aj a3 _)) (by intro u ap;simp at ap;rcases ap with rfl|rfl|rfl|rfl|rfl|rfl<;>rfl) (by unfold B2;omega) (by omega) (by simp;omega) ?_;intro fc bd ao J e3;obtain⟨dn,dk,rfl⟩:=A9 ao;have c5:dj g bd 5 a l d k i:=(J.block g (by simp;omega) (fun A=>by have:=c2 g A.symm;omega)).trans ((bm _ _ _ d2).trans c4.out);obtain⟨f6,f7,f8,f9,gb,gd,ge⟩:=bf c5)|(go_at_call 56;refine dK (ar _) ?_));have cg:=cf.app E.out J (by decide) (by decide);have bA:A0 base w bd:=(bE.alloc (by omega) _).grown J (by simp;omega) (fun ce b8=>(E.out.lt ce b8).1);refine⟨⟨bw,bx.1,ck,p++D,d+1,t++[⟨5,(a:Nat),l,d,k,i⟩],r,rfl,by go_num,rfl,⟨_,_,_,rfl⟩,bk.2,by omega,⟨cg,bo.out.1,?_,bA,?_,?_,?_,?_,?_⟩⟩,by simp[A7];omega⟩
     ·exact cc
     ·rw[aH,C.out,sx];exact ao
     ·exact br.out
     ·have:=b.out.cl;have:=bo.out.2;rw[aH];omega
     ·rw[aH,C.out];simp;omega
     ·have:=b.out.l0;omega
   ·have c:=bt.out;rw[aa dq]at c;have ha:(e==7)=Y:=beq_eq_false_iff_ne.2 dq;by_cases fo:e=0
    ·subst fo;rw[show Ai f 0=(f,Y) from rfl,aa (by simp)]at c;have al:=aw c;clear c bt an cz;obtain⟨a1,af⟩:=ay (wh f);have fz:a1.length<=78:=by rw[<-af];exact ut f 78
     have a8:=aak c7 base mb p f x b.out.m b.out.sk b.out.o (by omega) (by omega);rw[af]at a8;have ad:Hid ((([]:List Tk),f,((wrongF s a a1:Nat):Int))=I):=by rw[<-af];exact al.out
     clear af;go_wp2_with fail;refine a8.mono ?_;rintro A en ⟨fk,fm,rfl,ek,eh,ed,c8⟩;have eg:=zr en s a _ a1 (qy ek) (by omega) d5 b9;clear a8;go_wp2_with (go_at_call 58;refine eg.mono ?_;rintro A gz ⟨rfl,b5⟩);go_ret3
     refine⟨A2,0,x,p,?_,?_,eh.below b5,?_,?_,?_,?_,?_⟩
     ·rw[<-ad.out];rfl
     ·rw[<-ad.out];exact bc _ _ _ _
     ·rw[<-ad.out];exact b.out.sk
     ·rw[<-ad.out];exact b.out.o
     ·exact(b.out.bl.trans c8).trans (b5.mono (by have:=ed.size;first|omega|(have:=m.size;omega)))
     ·have:=b.out.cl;omega
     ·have:=b.out.cl;omega
    ·have fv:0<e:=by omega
     have e1:Ai f e=feedL f e:=by unfold Ai;rw[ab fv]
     rw[e1]at c;have cc:=xD b.out.o (show(1:Int)<=e by omega) dz.2;have q:=xH c7 base mb p f x e b.out.m b.out.sk b.out.o (by omega) dz.2 (by omega);obtain⟨bx,b4⟩:=ay (feedL f e);rw[b4]at q c cc;unfold tg at q;obtain⟨ei,cb⟩:=ay bx.2;rw[cb]at q c;clear b4 cb e1 bt cz;cases ei with
     |false=>
      rw[aa (by simp)]at c;have al:=aw c;clear c an;go_wp2_with fail;refine q.mono ?_;rintro A n ⟨ck,D,rfl,H,a0,a4,m,G⟩;have y:dj g n e a l d k i:=m.blk a2 (by decide) c1;obtain⟨cn,cq,cr,ct,cw,cx,cy⟩:=bf y;clear q;obtain⟨a1,af⟩:=ay (wh f);have fz:a1.length<=78:=by rw[<-af];exact ut f 78
      have a8:=aak n base mb (p++D) f x H (b.out.sk.app D) b.out.o (by rw[aH];omega) (by rw[aH];omega);rw[af]at a8;have ad:Hid ((([]:List Tk),f,((wrongF s a a1:Nat):Int))=I):=by rw[<-af];exact al.out
      clear af;go_wp2_with fail;refine a8.mono ?_;rintro A en ⟨fk,fm,rfl,ek,eh,ed,c8⟩;have eg:=zr en s a _ a1 (qy ek) (by omega) d5 b9;clear a8;go_wp2_with (go_at_call 58;refine eg.mono ?_;rintro A gz ⟨rfl,b5⟩);go_ret3
      refine⟨A2,0,x,p++D,?_,?_,eh.below b5,?_,?_,?_,?_,?_⟩
      ·rw[<-ad.out];rfl
      ·rw[<-ad.out];exact bc _ _ _ _
      ·rw[<-ad.out];exact(b.out.sk.app D)
      ·rw[<-ad.out];exact b.out.o
      ·exact((b.out.bl.trans G).trans c8).trans (b5.mono (by have:=ed.size;first|omega|(have:=m.size;omega)))
      ·have:=b.out.cl;rw[aH];omega
      ·have:=b.out.cl;rw[aH];omega
     |true=>
      rw[ab rfl]at c;cases hokI:(rdI s a).ok with
      |false=>
       rw[hokI,aa (by simp)]at c;have bn:=an.out.no hokI;have hb:¬df<0:=by omega
       have al:Hid ((([]:List Tk),f,df)=I):=by rw[bn];exact c
       clear c an bn hokI;go_wp2_with fail;refine q.mono ?_;rintro A n ⟨ck,D,rfl,H,a0,a4,m,G⟩;have hc:(0:Int)<=df:=by omega
       clear q;go_wp2_with fail;go_ret3
       refine⟨A2,0,x,p++D,?_,?_,H,?_,?_,b.out.bl.trans G,?_,?_⟩
       ·rw[<-al.out];rfl
       ·rw[<-al.out];exact bc _ _ _ _
       ·rw[<-al.out];exact b.out.sk.app D
       ·rw[<-al.out];exact b.out.o
       ·rw[aH];omega
       ·rw[aH];omega
      |true=>
       rw[hokI,ab rfl]at c;obtain⟨bn,d4,a6,ca,a7,d3⟩:=an.out.yes hokI;clear d4 d3;have ak:=mq s a b9 hokI;rw[<-ca,<-a7]at c;obtain⟨B,b0⟩:=ay ((rdI s a).a);rw[b0]at c a6 ak;subst bn;have ar:=fun w=>rD s (by omega) B (by omega) w;have bk:=mJ s (s.size+1) B (by omega);obtain⟨bw,b2⟩:=ay (blk s (s.size+1) B);rw[b2]at c ar bk;rw[<-a6]at ar c;have fu:a<B/\B<=s.size:=⟨ak.1,ak.2.1⟩;have br:=aw c;clear c ca a7 ak b0 b2 an a6 hokI;go_wp2_with fail;refine q.mono ?_;rintro A n ⟨ck,D,rfl,H,a0,a4,m,G⟩;have y:dj g n e a l d k i:=m.blk a2 (by decide) c1;obtain⟨em,K,_⟩:=b.out.m.ex;have row3:=m.row K b.out.row (by decide) (by decide);rw[C.out]at row3;have bD:=b.out.bl.trans G;have f3:=m.size;have F:dj g (n.setCell ⟨g,0,A2⟩ (.int .i64 e)) e a l d k i:=y.setKind e;have cf:=H.other (j:=0) (v:= .int .i64 e) (show n.heap[g]?=A1 (.cells _ _ _) from y) (by decide) (by decide);have bb:=Ch (j:=0) (u:= .int .i64 e) row3 c2;have bE:A0 base w (n.setCell ⟨g,0,A2⟩ (.int .i64 e)):=bD.setCell (by simp;omega) _;have bo:=gK a0 a4;obtain⟨cn,cq,cr,ct,cw,cx,cy⟩:=bf y;clear q y H row3 bD K a0 a4 m G;go_upto_region 24 with fail
       generalize n.setCell ⟨g,0,A2⟩ (.int .i64 e)=a3 at F cf bb bE⊢;obtain⟨g0,g1,g2,g3,g4,g5,g7⟩:=bf F;have E:=aw bb;have c4:=aw F;have d2:g<a3.heap.size:=ah F;clear F bb cn cq cr ct cw cx cy;go_wp2_with (first|(at_builtin;refine ng _ rfl _ _ 42 rfl base 96 d8 _ 6 56 Tryz.underlying42 d9 ea eb ec rfl (by decide) _ _ _ rfl (E.out.alloc _) ⟨a3.heap.size,0,A2⟩ 1 1 [.int .i64 e,.int .i64 a,.int .i64 l,.int .i64 d,.int .i64 k,.string i] rfl rfl (A6 (cs:=#[.int .i64 e,.int .i64 a,.int .i64 l,.int .i64 d,.int .i64 k,.string i]) (fr:=(0,0)) (aj a3 _)) (by intro u ap;simp at ap;rcases ap with rfl|rfl|rfl|rfl|rfl|rfl<;>rfl) (by unfold B2;omega) (by omega) (by simp;omega) ?_;intro fc bd ao J e3;obtain⟨dn,dk,rfl⟩:=A9 ao;have c5:dj g bd e a l d k i:=(J.block g (by simp;omega) (fun A=>by have:=c2 g A.symm;omega)).trans ((bm _ _ _ d2).trans c4.out);obtain⟨f6,f7,f8,f9,gb,gd,ge⟩:=bf c5)|(go_at_call 56;refine dK (ar _) ?_));have cg:=cf.app E.out J (by decide) (by decide);have bA:A0 base w bd:=(bE.alloc (by omega) _).grown J (by simp;omega) (fun ce b8=>(E.out.lt ce b8).1);refine⟨⟨bw,bx.1,ck,p++D,d,t++[⟨e,(a:Nat),l,d,k,i⟩],r,rfl,rfl,rfl,⟨_,_,_,rfl⟩,bk.2,by omega,⟨cg,bo.out.1,?_,bA,?_,?_,?_,?_,?_⟩⟩,by simp[A7];omega⟩
       ·exact cc
       ·rw[aH,C.out,sx];exact ao
       ·exact br.out
       ·have:=b.out.cl;have:=bo.out.2;rw[aH];omega
       ·rw[aH,C.out];simp;omega
       ·have:=b.out.l0;omega
  ·rw[ab (by omega)]at c;have e5:a=s.size:=by omega
   obtain⟨ch,a5⟩:=ay t.length;have C:=gK a5 e5;have d7:=z.out.row;rw[a5]at e4 d7⊢;have E:=aw d7;have bs:=aw c;have fF:¬(a:Int)<(s.size:Int):=by omega
   clear c a5 d7 e5;go_wp2_with (at_builtin;refine ng _ rfl _ _ 42 rfl base 96 d8 _ 6 56 Tryz.underlying42 d9 ea eb ec rfl (by decide) _ _ _ rfl (E.out.alloc _) ⟨wr.heap.size,0,A2⟩ 1 1 [.int .i64 6,.int .i64 s.size,.int .i64 s.size,.int .i64 d,.int .i64 0,.string ⟨#[]⟩] rfl rfl (A6 (cs:=#[.int .i64 6,.int .i64 s.size,.int .i64 s.size,.int .i64 d,.int .i64 0,.string ⟨#[]⟩]) (fr:=(0,0)) (aj wr _)) (by intro u ap;simp at ap;rcases ap with rfl|rfl|rfl|rfl|rfl<;>rfl) (by unfold B2;omega) (by omega) (by simp;omega) ?_;intro fc bd ao J e3;obtain⟨dn,dk,rfl⟩:=A9 ao);go_ret3
   have cg:=z.out.m.app E.out J (by decide) (by decide);have bA:A0 base w bd:=(z.out.bl.alloc (by omega) _).grown J (by simp;omega) (fun ce b8=>(E.out.lt ce b8).1);have e2:I.1.length=ch+1:=by rw[<-bs.out,aH,C.out.1];rfl
   refine⟨A1 ⟨dn,0,A2⟩,dk,x,p,?_,?_,cg,?_,?_,bA,z.out.cl.1,?_⟩
   ·rw[e2,<-bs.out];rfl
   ·rw[e2,<-bs.out,sx];exact ao
   ·rw[<-bs.out];exact z.out.sk
   ·rw[<-bs.out];exact z.out.o
   ·have:=z.out.cl.2;omega
