import Derived.Test.YtkdijoogonigpaaGreatDoorHUk14
import Derived.Test.YtkdijoogonigpaaGreatDoorHUk21
import Derived.Test.YtkdijoogonigpaaGreatDoorHUk20
set_option linter.all false
set_option maxRecDepth 100000
set_option maxHeartbeats 12800000
open Go.Value renaming int->M,string->Q,tuple->B2,agg->B5,ownBlock->Ck
open Go.IntKind renaming i64->O
open Go.Lib renaming hasPrefix->T
open Bool renaming true->U,false->Y
open Go renaming Value->X,World->Z,ownsRow_succ->B6,Calls->Ce,TypeId->Cr,maxLen->C0
open Go.Obj renaming cells->Ax
open Go.RowKit renaming Below->A0,intOf->B4
open Option renaming some->A2,none->Br
open Go.Proofs.Tryz renaming prog->B0
open Go.Ending renaming returned->B1
open Go.World renaming news_of_block->B3
namespace Go.Proofs.YtkdijoogonigpaaGreatDoor
open Go.RowKit Go.Maps Go.WideMaps
def I64(z:Int):Prop:= -9223372036854775808<=z/\z<=9223372036854775807
theorem agu(z:Int)(a:0<=z)(b:z<=1000000):I64 z:=⟨by omega,by omega⟩
theorem afv(s:ByteArray)(p:Nat):I64 (bB s p).n:=by
 have a:I64 0:=agu _ (by decide) (by decide);unfold bB;split
 ·exact a
 split
 ·split
  ·show I64 (jp s p).2.1;unfold jp;split
   ·show I64 (wrap64 _);unfold wrap64 I64;omega
   ·split
    ·rename_i c b;split at b
     ·cases b
     ·have:=Dd _ _ _ _ b;exact⟨by show _<=(c:Int);omega,by show(c:Int)<=_;omega⟩
    ·exact a
  ·exact a
 split
 ·split<;>exact a
 split<;>exact a
def pB(a b c:Int)(x:ByteArray):Bool:=decide ((x.size=0\/a=ao x 0)/\(x.size<=1\/b=ao x 1)/\(x.size<=2\/c=ao x 2))
theorem Jh(r x:ByteArray)(i:Nat)(b:i<x.size):r.data.toList[i]?=x.data.toList[i]?↔ao r i=ao x i:=by
 have d:x.data.toList[i]?=A2 x[i]:=by rw[qw];exact oH b
 rw[d,dq];have c:ao x i=(x[i].toNat:Int):=by unfold ao;rw[jK b]
 rw[c];constructor
 ·exact fun a=>a.2
 ·intro a;refine⟨?_,a⟩;rcases be i r.size with h1|h1
  ·exact h1
  ·rw[ci (by omega)]at a;omega
theorem ads(r x:ByteArray)(h:x.size<=3):T r.data.toList x.data.toList=pB (ao r 0) (ao r 1) (ao r 2) x:=by
 unfold T pB;rw[ud,qz,jH,List.prefix_iff_getElem?];have i:x.data.toList.length=x.size:=cJ;have f:(∀a (b:a<x.data.toList.length),r.data.toList[a]?=A2 x.data.toList[a])↔∀a,a<x.size->ao r a=ao x a:=by
  constructor
  ·intro g a b;rw[<-Jh r x a b,g a (by omega)];exact(aF (by omega)).symm
  ·intro g a b;rw[(Jh r x a (by omega)).2 (g a (by omega))];exact aF b
 rw[f];constructor
 ·intro g;refine⟨?_,?_,?_⟩
  ·rcases jk x.size with h0|h0
   ·exact .inl h0
   ·exact .inr (g 0 h0)
  ·rcases be 1 x.size with h0|h0
   ·exact .inr (g 1 h0)
   ·exact .inl h0
  ·rcases be 2 x.size with h0|h0
   ·exact .inr (g 2 h0)
   ·exact .inl h0
 ·rintro ⟨c,d,e⟩ a b;rcases(show a=0\/a=1\/a=2 by omega) with rfl|rfl|rfl
  ·rcases c with g|g
   ·omega
   ·exact g
  ·rcases d with g|g
   ·omega
   ·exact g
  ·rcases e with g|g
   ·omega
   ·exact g
def zK(q:ByteArray->Bool)(V:Array X)(base:Int):Nat->Nat->Int×Nat->Int×Nat
 |0,_,a=>a
 |f+1,i,a=>zK q V base f (i+1) (if a.2<(bi V i).size/\q (bi V i)=U then(base+(i:Int),(bi V i).size) else a)
def skq(a:Int)(q:ByteArray->Bool):Int:=if a=59 then 5 else if a=10 then 7 else(zK q gF 61 18 0 (zK q fl 40 11 0 (0,0))).1
def rB(q:ByteArray->Bool):Nat->Nat->Option Nat
 |0,_=>Br
 |f+1,k=>if q (bi ic k)=U then A2 k else rB q f (k+1)
theorem Ji(V:Array X)(base:Int)(r:ByteArray):∀(f i:Nat)(a:Int×Nat),ro V base r f i a=zK (fun x=>T r.data.toList x.data.toList) V base f i a
 |0,i,a=>rfl
 |f+1,i,a=>by rw[ro,zK];exact Ji V base r f (i+1) _
theorem qo(q b:ByteArray->Bool)(V:Array X)(base:Int)(N:Nat)(c:∀i,i<N->q (bi V i)=b (bi V i)):∀(f i:Nat)(a:Int×Nat),i+f<=N->zK q V base f i a=zK b V base f i a
 |0,i,a,_=>rfl
 |f+1,i,a,d=>by rw[zK,zK,c i (by omega)];exact qo q b V base N c f (i+1) _ (by omega)
theorem vG(q a:ByteArray->Bool)(b:∀i,i<30->q (bi ic i)=a (bi ic i)):∀(f i:Nat),i+f<=30->rB q f i=rB a f i
 |0,i,_=>rfl
 |f+1,i,c=>by rw[rB,rB,b i (by omega),vG q a b f (i+1) (by omega)]
def wH(S:List Int)(b:Int):Int:=if b∈S then b else 0
theorem zL(S:List Int)(d:(0:Int) ∉ S)(b a:Int)(c:a∈S):wH S b=a↔b=a:=by
 unfold wH;split
 ·exact Iff.rfl
 ·rename_i e;constructor
  ·rintro rfl;exact absurd c d
  ·rintro rfl;exact absurd c e
def Hq:List Int:=[46,60,62,61,126,47,40,41,123,125,91,93,44,59,35,43,45,42,37,38,124]
def fb1:List Int:=[46,60,61,62,47]
def fb2:List Int:=[46]
def inB(x:ByteArray):Bool:=decide (x.size<=3/\(x.size=0\/ao x 0∈Hq)/\(x.size<=1\/ao x 1∈fb1)/\(x.size<=2\/ao x 2∈fb2))
theorem adt:∀i:Fin 11,inB (bi fl i.val)=U:=by decide+kernel
theorem adu:∀i:Fin 18,inB (bi gF i.val)=U:=by decide+kernel
theorem adv:∀i:Fin 30,inB (bi ic i.val)=U:=by decide+kernel
theorem adw(a b c:Int)(x:ByteArray)(h:inB x=U):pB a b c x=pB (wH Hq a) (wH fb1 b) (wH fb2 c) x:=by
 unfold inB at h;rw[jH]at h;obtain⟨_,g,i,j⟩:=h;have d:(x.size=0\/a=ao x 0)↔(x.size=0\/wH Hq a=ao x 0):=by
  rcases g with h|h
  ·simp[h]
  ·rw[zL Hq (by decide) a _ h]
 have e:(x.size<=1\/b=ao x 1)↔(x.size<=1\/wH fb1 b=ao x 1):=by
  rcases i with h|h
  ·simp[h]
  ·rw[zL fb1 (by decide) b _ h]
 have f:(x.size<=2\/c=ao x 2)↔(x.size<=2\/wH fb2 c=ao x 2):=by
  rcases j with h|h
  ·simp[h]
  ·rw[zL fb2 (by decide) c _ h]
 unfold pB;rw[zb,d,e,f]
def ack(a b c:Int):Bool:=match rB (pB a b c) 30 0 with
 |some d=>decide (skq a (pB a b c)=rb (bi ic d)/\(dh (skq a (pB a b c))).size=(bi ic d).size/\skq a (pB a b c)≠0/\skq a (pB a b c)≠7)
 |none=>decide (skq a (pB a b c)=0)
theorem Jj:∀a∈0::Hq,∀b∈0::fb1,∀c∈0::fb2,ack a b c=U:=by decide+kernel
theorem Dy(S:List Int)(b:Int):wH S b∈0::S:=by
 unfold wH;split
 ·exact dJ _ (by assumption)
 ·exact dt
def Aa(r:ByteArray):Prop:=match rB (fun b=>T r.data.toList b.data.toList) 30 0 with
 |some a=>jz r=rb (bi ic a)/\(dh (jz r)).size=(bi ic a).size/\jz r≠0/\jz r≠7
 |none=>jz r=0
theorem Fx(r:ByteArray)(h:ao r 0≠10):Aa r:=by
 have g:∀a,inB a=U->T r.data.toList a.data.toList=pB (wH Hq (ao r 0)) (wH fb1 (ao r 1)) (wH fb2 (ao r 2)) a:=fun a f=>by
  rw[<-adw _ _ _ a f];unfold inB at f;rw[jH]at f;exact ads r a f.1
 have l:jz r=skq (wH Hq (ao r 0)) (pB (wH Hq (ao r 0)) (wH fb1 (ao r 1)) (wH fb2 (ao r 2))):=by
  unfold jz skq;rw[Ji,Ji,qo _ _ fl 40 11 (fun d c=>g _ (adt ⟨d,c⟩)) 11 0 _ (by omega),qo _ _ gF 61 18 (fun d c=>g _ (adu ⟨d,c⟩)) 18 0 _ (by omega)];have i:=zL Hq (by decide) (ao r 0) 59 (by decide);have k:wH Hq (ao r 0)≠10:=by
   unfold wH;split
   ·exact h
   ·decide
  rw[aa h,aa k];by_cases e:ao r 0=59
  ·rw[ab e,ab (i.2 e)]
  ·rw[aa e,aa (fun j=>e (i.1 j))]
 have b:=Jj _ (Dy Hq (ao r 0)) _ (Dy fb1 (ao r 1)) _ (Dy fb2 (ao r 2));unfold Aa;rw[vG _ _ (fun d c=>g _ (adv ⟨d,c⟩)) 30 0 (by omega),l];unfold ack at b;cases hf:rB (pB (wH Hq (ao r 0)) (wH fb1 (ao r 1)) (wH fb2 (ao r 2))) 30 0 with
 |some m=>rw[hf]at b;exact aI b
 |none=>rw[hf]at b;exact aI b
theorem aba(s x:ByteArray)(p:Nat)(f:p<=s.size):T (s.extract p s.size).data.toList x.data.toList=decide (p+x.size<=s.size/\((s.extract p (p+x.size)).toList==x.toList)=U):=by
 have e:s.data.toList.length=s.size:=cJ;have b:x.data.toList.length=x.size:=cJ;have c:(s.extract p s.size).data.toList=s.data.toList.drop p:=by
  rw[<-eo,Lib.extract_toList,cC];rw[jg,cJ];exact ag _
 have d:(s.extract p (p+x.size)).toList=(s.data.toList.drop p).take x.size:=by
  rw[Lib.extract_toList];congr 1;omega
 rw[c,d,eo x];unfold T;rw[ud,qz,jH,List.prefix_iff_eq_take,b,jj];constructor
 ·intro a;refine⟨?_,a.symm⟩;have:=congrArg List.length a;rw[jh,jg,e,b]at this;omega
 ·exact fun a=>a.2.symm
theorem GE(s:ByteArray)(f:s.size<=70000)(p:Nat)(b:p<s.size)(a:ao s p=10)(w:Z):Ce B0 16 #[Q s,M O p] w fun e d=>e= B1 (B2 #[B5 #[M O 7,M O p,M O ((p:Int)+1),M O 0,M O 0,Q ⟨#[]⟩],M O (-1)])/\A0 w.heap.size w d:=by
 have c:=fun w=>ch b w;rw[a]at c;have g:(p:Int)<(s.size:Int):=by omega
 go_in;go_wp2;refine bg (v:= B2 #[B5 #[M O 7,M O p,M O ((p:Int)+1),M O 0,M O 0,Q ⟨#[]⟩],M O (-1)]) (by simp[results,Tryz.results16,go_sem]) rfl ⟨rfl,?_⟩;exact((aq _ w).alloc (ag _) _).alloc (by simp) _
theorem Jk(p:Nat)(a:Bool×Nat×List Int):∃(t:Int) (x:ByteArray),ym p a= B5 #[M O 4,M O p,M O t,M O 0,M O 0,Q x]:=by
 unfold ym;split<;>exact⟨_,_,rfl⟩
theorem vH(s:ByteArray)(t:s.size<=70000)(p:Nat)(k:p<s.size)(r:ao s p=34)(w:Z):Ce B0 16 #[Q s,M O p] w fun e x=>e= B1 (B2 #[ym p (bH s (s.size+1) (p+1) []),M O (BJ (bH s (s.size+1) (p+1) []))])/\A0 w.heap.size w x:=by
 have l:=fun w=>ch k w;have n:=fun w=>gj (c:=34) (b:=Y) (by decide) w;have m:=fun w=>cI (c:=34) (b:=Y) (by decide) w;have a:=fun w=>zJ s t p k w;generalize bH s (s.size+1) (p+1) []=f at a;obtain⟨u,z,h⟩:=Jk p f;rw[h]at a⊢;generalize BJ f=o at a;rw[r]at l;clear h;have i:cA w.heap.size ((w.alloc (Ax #[M O 0,M O 0,M O 0,M O 0,M O 0,Q ⟨#[]⟩] 29)).alloc (Ax #[M O 0,M O p,M O 0,M O 0,M O 0,Q ⟨#[]⟩] 29)) 0 0 0 0 0 ⟨#[]⟩:=(cg _ _ _ (by simp)).trans (ax w _);have g:A0 w.heap.size w ((w.alloc (Ax #[M O 0,M O 0,M O 0,M O 0,M O 0,Q ⟨#[]⟩] 29)).alloc (Ax #[M O 0,M O p,M O 0,M O 0,M O 0,Q ⟨#[]⟩] 29)):=(((aq _ w).alloc (ag _) _).alloc (by simp) _);go_in;go_wp2_with (first|(go_at_call 42;refine dz (n _) ?_)|(go_at_call 44;refine dz (m _) ?_));refine lc (a _) fun y d=>?_;have j:=i.below d (by simp;omega);have q:=g.trans (d.mono (by simp;omega));clear d i g a n m l;obtain⟨z0,A,B,C,E,F,H⟩:=aE j;have G:w.heap.size<y.heap.size:=au j;go_wp2;refine bg (v:= B2 #[B5 #[M O 4,M O p,M O u,M O 0,M O 0,Q z],M O o]) (by simp[results,Tryz.results16,go_sem,z0,A,B,C,E,F]) rfl ⟨rfl,?_⟩
 iterate 6 refine dK ?_ (by simp) _
 exact q
structure Fy (q:ByteArray->Bool) (f k:Nat) (R:Option Nat):Prop where
 out:rB q f k=R
def afw(p:Nat)(b:Option Nat):X:=match b with
 |some a=> B2 #[B5 #[M O (rb (bi ic a)),M O p,M O ((p:Int)+((bi ic a).size:Int)),M O 0,M O 0,Q ⟨#[]⟩],M O (-1)]
 |none=> B2 #[B5 #[M O 0,M O p,M O 0,M O 0,M O 0,Q ⟨#[]⟩],M O p]
theorem adx:∀k:Fin 30,(bi ic k.val).size<=3:=by decide
theorem vI(s:ByteArray)(b6:s.size<=70000)(p:Nat)(a7:p<s.size)(K:¬ao s p=10)(al:bc (ao s p)=Y)(af:aL (ao s p)=Y)(L:¬ao s p=34)(w:Z):
  Ce B0 16 #[Q s,M O p] w fun e a8=>e= B1 (afw p (rB (fun x=>T (s.extract p s.size).data.toList x.data.toList) 30 0))/\A0 w.heap.size w a8:=by
 have a1:=fun w=>ch a7 w;have I:(ao s p==10)=Y:=by rw[aC];exact K
 have J:(ao s p==34)=Y:=by rw[aC];exact L
 have G:=fun w=>gj al w;have F:=fun w=>cI af w;have b7:(p:Int)<(s.size:Int):=by omega
 generalize ao s p=bt at a1 I J G F;obtain⟨c,B⟩:∃c:ByteArray->Bool,(fun x=>T (s.extract p s.size).data.toList x.data.toList)=c:=⟨_,rfl⟩;have an:∀x,c x=decide (p+x.size<=s.size/\((s.extract p (p+x.size)).toList==x.toList)=U):=fun x=>by rw[<-B];exact aba s x p (by omega)
 rw[B];obtain⟨m,y⟩:=aD (rB c 30 0);rw[y];have o:Fy c 30 0 m:=⟨y⟩;have a2:=ar an;clear y B an K al af L;obtain⟨f,i⟩:=aD ((w.alloc (Ax #[M O 0,M O 0,M O 0,M O 0,M O 0,Q ⟨#[]⟩] 29)).alloc (Ax #[M O 0,M O p,M O 0,M O 0,M O 0,Q ⟨#[]⟩] 29));have z:cA w.heap.size f 0 0 0 0 0 ⟨#[]⟩:=by rw[<-i];exact(cg _ _ _ (by simp)).trans (ax w _)
 have q:cA (w.heap.size+1) f 0 p 0 0 0 ⟨#[]⟩:=by
  rw[<-i];have:=ax (w.alloc (Ax #[M O 0,M O 0,M O 0,M O 0,M O 0,Q ⟨#[]⟩] 29)) (Ax #[M O 0,M O p,M O 0,M O 0,M O 0,Q ⟨#[]⟩] 29);rw[dI]at this;exact this
 have t:A0 w.heap.size w f:=by rw[<-i];exact(((aq _ w).alloc (ag _) _).alloc (by simp) _)
 have H:=ar i;clear i;go_in;go_wp2_with (first|(go_at_call 42;refine dz (G _) ?_)|(go_at_call 44;refine dz (F _) ?_));rw[H.out];refine lc (ob f) fun g k=>?_;have r:cA (w.heap.size+1) g 0 p 0 0 0 ⟨#[]⟩:=by rw[k];exact(cg _ _ _ (au q)).trans q
 have A:cA w.heap.size g 0 0 0 0 0 ⟨#[]⟩:=by rw[k];exact(cg _ _ _ (au z)).trans z
 have u:A0 w.heap.size w g:=by rw[k];exact t.alloc t.size _
 have a4:g.heap[f.heap.size]?=A2 (Ax ic 9 (0,0)):=by rw[k];exact ax f _
 clear k q z t G F a1 H I J;go_wp2_with fail;obtain⟨cb,cc,ce,cf,ck,cl,cm⟩:=aE r;obtain⟨z0,bn,bo,bp,br,bs,cq⟩:=aE A;have av:w.heap.size<g.heap.size:=au A;have a0:w.heap.size+1<g.heap.size:=au r;go_loop [45,9] (fun E _=>∃a:Nat,a<=30/\E= M O a/\Fy c (30-a) a m) (fun E _=>30-(B4 E).toNat)
 case atStart=>exact⟨0,by omega,rfl,o⟩
 case round=>
  obtain⟨a,b5,rfl,l⟩:=hrel;by_cases am:a<30
  ·have a5:g.cell? ⟨f.heap.size,a,Br⟩=A2 (Q (bi ic a)):=by rw[ay _ _ _ _ _ _ a4];exact CJ ⟨a,am⟩
   have b:=l.out;rw[show 30-a=(30-(a+1))+1 by omega,rB,a2.out]at b;have ap:=adx ⟨a,am⟩;simp only at ap;obtain⟨x,C⟩:=aD (bi ic a);rw[C]at a5 b ap;have a3:=ar C;clear C l o;by_cases ak:p+x.size<=s.size
   ·have a6:(x.size:Int)<=(s.size:Int)-(p:Int):=by omega
    have b4:(p:Int)+(x.size:Int)<=(s.size:Int):=by omega
    by_cases n:((s.extract p (p+x.size)).toList==x.toList)=U
    ·rw[ab (cG ⟨ak,n⟩)]at b;have d:=ar b;clear b;go_wp2_with (go_at_call 47;refine(pK x _).mono ?_;rintro e cn ⟨rfl,j⟩;obtain⟨bw,bx,bE,b0,b1,b2,b3⟩:=aE (r.below j a0);obtain⟨a9,bb,bd,bf,bj,bl,cp⟩:=aE (A.below j av);have b9:=eI av j.size;have ca:=eI a0 j.size);refine bg (v:= B2 #[B5 #[M O (rb x),M O p,M O ((p:Int)+(x.size:Int)),M O 0,M O 0,Q ⟨#[]⟩],M O (-1)]) (by simp[results,Tryz.results16,go_sem,a9,bb,bd,bf,bj,bl]) rfl ⟨by rw[<-d.out];have h:=a3.out;subst h;rfl,?_⟩
     iterate 8 refine dK ?_ (by simp) _
     exact u.trans (j.mono u.size)
    ·have b8:((s.extract p (p+x.size)).toList==x.toList)=Y:=by simpa using n
     rw[aa (fun h=>n (aI h).2)]at b;have d:Fy c (30-(a+1)) (a+1) m:=⟨b⟩;clear b n;go_wp2_with fail;go_round
     case rel=>exact⟨a+1,by omega,by go_num,d⟩
     case measure=>simp[B4];omega
   ·have a6:¬(x.size:Int)<=(s.size:Int)-(p:Int):=by omega
    rw[aa (fun h=>ak (aI h).1)]at b;have d:Fy c (30-(a+1)) (a+1) m:=⟨b⟩;clear b;go_wp2_with fail;go_round
    case rel=>exact⟨a+1,by omega,by go_num,d⟩
    case measure=>simp[B4];omega
  ·obtain rfl:a=30:=by omega
   have d:=ar l.out;clear l o;go_wp2_with fail;refine bg (v:= B2 #[B5 #[M O 0,M O p,M O 0,M O 0,M O 0,Q ⟨#[]⟩],M O (p:Int)]) (by simp[results,Tryz.results16,go_sem,z0,bn,bo,bp,br,bs]) rfl ⟨by rw[<-d.out];rfl,?_⟩
   iterate 6 refine dK ?_ (by simp) _
   exact u
structure ady (R:Rd) (k t n:Int) (x:ByteArray) (bad:Int):Prop where
 yes:R.ok=U->bad= -1/\k=R.k/\t=(R.a:Int)/\n=R.n/\x=R.x/\R.d=(if R.k=7 then 1 else 0)
 no:R.ok=Y->bad=(R.a:Int)
theorem acl(s:ByteArray)(p:Nat):(si s p).1≠7:=by
 unfold si;split
 ·simp only;omega
 ·simp
theorem acm(s:ByteArray)(p:Nat):(jp s p).1≠7:=by
 unfold jp;split
 ·simp
 ·split<;>simp
theorem vJ(s:ByteArray)(q:s.size<=70000)(p:Nat)(f:p<s.size)(w:Z):
  Ce B0 16 #[Q s,M O p] w fun e c=>∃k t n x r,e= B1 (B2 #[B5 #[M O k,M O p,M O t,M O 0,M O n,Q x],M O r])/\ady (bB s p) k t n x r/\A0 w.heap.size w c:=by
 unfold bB;by_cases j:bc (ao s p)=U
 ·rw[ab j];refine lc (tr s (by omega) p f j w) fun c b=>?_;rw[afn];exact⟨_,_,_,_,_,rfl,⟨fun _=>⟨rfl,rfl,rfl,rfl,rfl,by simp only;rw[aa (acl s p)]⟩,fun a=>by cases a⟩,b⟩
 rw[aa j];by_cases i:aL (ao s p)=U
 ·rw[ab i];refine lc (qe s (by omega) p f i w) fun c b=>?_;cases hok:(bD s p).2 with
  |true=>
   obtain⟨d,o⟩:=adc s p hok;rw[d,o,ab rfl];exact⟨_,_,_,_,_,rfl,⟨fun _=>⟨rfl,rfl,rfl,rfl,rfl,by simp only;rw[aa (acm s p)]⟩,fun a=>by cases a⟩,b⟩
  |false=>
   obtain⟨k,t,n,x,d⟩:=E3 s p;rw[d,Bt s p hok,aa (by simp)];exact⟨_,_,_,_,_,rfl,⟨fun a=>by(try simp at a),fun a=>rfl⟩,b⟩
 rw[aa i];by_cases h:ao s p=34
 ·rw[ab h];refine lc (vH s q p f h w) fun c b=>?_;generalize bH s (s.size+1) (p+1) []=m;obtain⟨A,B,C⟩:=m;cases A with
  |true=>exact⟨_,_,_,_,_,rfl,⟨fun _=>⟨rfl,rfl,rfl,rfl,rfl,rfl⟩,fun a=>by cases a⟩,b⟩
  |false=>exact⟨_,_,_,_,_,rfl,⟨fun a=>(by cases a),fun a=>rfl⟩,b⟩
 rw[aa h];have u:ao (s.extract p s.size) 0=ao s p:=gv s p s.size 0 (ag _) (by omega);by_cases g:ao s p=10
 ·have y:jz (s.extract p s.size)=7:=by unfold jz;rw[u,g];rfl
  rw[y,aa (by decide)];refine lc (GE s q p f g w) fun c b=>?_;exact⟨_,_,_,_,_,rfl,⟨fun _=>⟨rfl,rfl,rfl,rfl,rfl,rfl⟩,fun a=>by cases a⟩,b⟩
 ·have l:=Fx (s.extract p s.size) (by rw[u];exact g);unfold Aa at l;refine lc (vI s q p f g (by simpa using j) (by simpa using i) h w) fun c b=>?_;generalize rB (fun x=>T (s.extract p s.size).data.toList x.data.toList) 30 0=m at l;cases m with
  |none=>
   rw[show jz (s.extract p s.size)=0 from l,ab rfl];exact⟨_,_,_,_,_,rfl,⟨fun a=>(by cases a),fun a=>rfl⟩,b⟩
  |some z=>
   obtain⟨d,o,v,E⟩:=(show _/\_/\_/\_ from l);rw[aa v];refine⟨_,_,_,_,_,rfl,⟨fun _=>⟨rfl,d.symm,?_,rfl,rfl,rfl⟩,fun a=>by cases a⟩,b⟩;show(p:Int)+((bi ic z).size:Int)=((p+(dh (jz (s.extract p s.size))).size:Nat):Int);rw[o];omega
structure adz (s:ByteArray) (f k e:Nat):Prop where
 out:eH Gt s f k=e
structure Fz (s:ByteArray) (f k e:Nat):Prop where
 out:blk s f k=e
theorem ix(s:ByteArray)(a1:s.size<=1100000)(p:Nat)(a2:p<=s.size)(w:Z):Ce B0 15 #[Q s,M O p] w fun e a4=>e= B1 (M O (blk s (s.size+1) p))/\a4=w:=by
 obtain⟨u,B⟩:=aD (blk s (s.size+1) p);rw[B];have al:Fz s (s.size+1) p u:=⟨B⟩;clear B;go_in;go_wp2_with fail;go_loop [1,5] (fun k a5=>∃(a d:Nat),a<=s.size/\s.size<a+d/\k= M O a/\Fz s d a u) (fun k _=>s.size-(B4 k).toNat)
 case atStart=>exact⟨p,s.size+1,a2,by omega,rfl,al⟩
 case round=>
  obtain⟨a,d,I,a6,rfl,q⟩:=hrel;obtain⟨d,rfl⟩:∃g,d=g+1:=⟨d-1,by omega⟩;have b:=q.out;rw[blk]at b;by_cases K:a<s.size
  ·have bb:(a:Int)<(s.size:Int):=by omega
   rw[aa (by omega)]at b;have r:=fun w=>ch K w;have v:=fG K;by_cases i:eJ (ao s a)=U
   ·rw[ab i]at b;have f:Fz s d (a+1) u:=⟨b⟩;have n:ao s a=32\/ao s a=9\/ao s a=13:=aI i;generalize ao s a=G at r n v;clear b q i;rcases n with rfl|rfl|rfl;all_goals
     go_wp2_with fail;go_round
     case rel=>exact⟨a+1,d,by omega,by omega,by go_num,f⟩
     case measure=>simp[B4];omega
   ·rw[aa i]at b;have n:¬(ao s a=32\/ao s a=9\/ao s a=13):=fun A=>i (cG A);have x:(ao s a==32)=Y:=by rw[aC];omega
    have y:(ao s a==9)=Y:=by rw[aC];omega
    have z:(ao s a==13)=Y:=by rw[aC];omega
    have t:=fun w=>eC s a1 ((a:Int)+1) (a+1) (by omega) w;have o:=oc s (a+1) 45 (by omega);by_cases h:ao s a=45/\ao s (a+1)=45
    ·rw[ab h]at b;have f:Fz s d (vv s a) u:=⟨b⟩;rw[h.2]at o;have J:lk s (a+1)=45:=by simpa using o
     have av:=rq s a h.1;have a0:=oe s a I;rw[h.1]at r;rw[J]at t;have E:adz s (s.size+1) a (vv s a):=⟨rfl⟩;generalize vv s a=F at f av a0 E;clear b q i n x y z o J h v;go_wp2_with (go_at_call 41;refine dz (t _) ?_);go_loop [1] (fun k=>∃(c g:Nat),c<=s.size/\s.size<c+g/\k= M O c/\adz s g c F) (fun k=>s.size-(B4 k).toNat)
     case atStart=>exact⟨a,s.size+1,I,by omega,rfl,E⟩
     case round=>
      obtain⟨c,g,a8,a7,rfl,C⟩:=hrel;obtain⟨g,rfl⟩:∃a3,g=a3+1:=⟨g-1,by omega⟩;have b:=C.out;rw[eH]at b;clear r C;by_cases H:c<s.size
      ·have a9:(c:Int)<(s.size:Int):=by omega
       have af:=fun w=>ch H w;have ak:=fG H;by_cases l:ao s c=10
       ·rw[aa (by rw[l];decide)]at b;rw[l]at af;have j:=ar b;clear b l ak;go_wp2_with fail;go_round
        case rel=>exact⟨c,d,by omega,by have:=j.out;omega,by go_num,by rw[j.out];exact f⟩
        case measure=>have:=j.out;simp[B4];omega
       ·rw[ab (by unfold Gt;rw[jH];exact⟨l,by omega⟩)]at b;have j:adz s g (c+1) F:=⟨b⟩;have am:(ao s c==10)=Y:=by rw[aC];exact l
        generalize ao s c=G at af am;clear b l ak;go_wp2_with fail;go_round
        case rel=>exact⟨c+1,g,by omega,by omega,by go_num,j⟩
        case measure=>simp[B4];omega
      ·obtain rfl:c=s.size:=by omega
       rw[aa (by rw[ci (Nat.lt_irrefl _)];decide)]at b;have j:=ar b;clear b;go_wp2_with fail;go_round
       case rel=>exact⟨s.size,d,by omega,by omega,by go_num,by rw[j.out];exact f⟩
       case measure=>simp[B4];omega
    ·rw[aa h]at b;have f:=ar b;clear b q;by_cases m:ao s a=45
     ·have L:ao s (a+1)≠45:=fun A=>h ⟨m,A⟩;rw[bk L]at o;rw[m]at r;generalize lk s (a+1)=bd at t o;clear i n x y z h v L m;go_wp2_with (go_at_call 41;refine dz (t _) ?_);go_ret;exact⟨by rw[<-f.out];rfl,rfl⟩
     ·have an:(ao s a==45)=Y:=by rw[aC];exact m
      have ap:(ao s a !=45)=U:=by rw[uf];exact m
      generalize ao s a=G at r x y z an ap;clear i n h v m t o;go_wp2_with fail;go_ret;exact⟨by rw[<-f.out];rfl,rfl⟩
  ·obtain rfl:a=s.size:=by omega
   rw[ab (ag _)]at b;have f:=ar b;clear b q;go_wp2_with fail;go_ret;exact⟨by rw[<-f.out];rfl,rfl⟩
def vK(s:ByteArray)(p:Nat):Int:=if aL (ao s p)=U then(if ao s p=48/\ao s (p+1)=120 then 2 else 3) else if ao s p=34 then 4 else 0
theorem Jl(s:ByteArray)(p:Nat)(b:(bD s p).2=Y):∃(t n:Int) (x:ByteArray),tI s p= B5 #[M O (if ao s p=48/\ao s (p+1)=120 then 2 else 3),M O p,M O t,M O 0,M O n,Q x]:=by
 unfold tI;unfold bD at b;by_cases a:ao s p=48/\ao s (p+1)=120
 ·rw[ab a]at b;rw[ab a,ab a];unfold qF;rw[aa (by rw[b];simp)];exact⟨_,_,_,rfl⟩
 ·rw[aa a]at b;rw[aa a,aa a];unfold nmA;rw[aa (by rw[b];simp)];exact⟨_,_,_,rfl⟩
def vL(s:ByteArray)(p:Nat):Int:=if(bB s p).ok=U then(bB s p).k else vK s p
theorem Jm(V:Array X)(s:ByteArray):∀(f k j:Nat),oa V s f k=A2 j->j<k+f
 |0,k,j,a=>by simp[oa]at a
 |f+1,k,j,a=>by
  rw[oa]at a;split at a
  ·obtain rfl:=dr a;omega
  ·have:=Jm V s f (k+1) j a;omega
theorem acn(s:ByteArray)(p:Nat)(a:(bB s p).ok=U):1<=(bB s p).k/\(bB s p).k<=78:=by
 unfold bB at a⊢;split
 ·simp only;unfold si;cases hf:oa cK (s.extract p (jy s (s.size+1) p)) 22 0 with
  |none=>simp
  |some k=>have:=Jm _ _ _ _ _ hf;simp only;omega
 split
 ·split
  ·simp only;unfold jp;split
   ·simp
   ·split<;>simp
  ·rename_i b c d;rw[aa b,ab c,aa d]at a;cases a
 split
 ·split
  ·simp
  ·rename_i b c d e;rw[aa b,aa c,ab d,aa e]at a;cases a
 split
 ·rename_i b c d e;rw[aa b,aa c,aa d,ab e]at a;cases a
 ·rename_i b c d e;have:=IE (s.extract p s.size);simp only;omega
theorem FA(s:ByteArray)(p:Nat):0<=vK s p/\vK s p<=4:=by
 unfold vK;split
 ·split<;>omega
 ·split<;>omega
theorem Dz(s:ByteArray)(r:s.size<=70000)(p:Nat)(l:p<s.size)(w:Z):
  Ce B0 16 #[Q s,M O p] w fun e j=>∃t n x q,e= B1 (B2 #[B5 #[M O (vL s p),M O p,M O t,M O 0,M O n,Q x],M O q])/\ady (bB s p) (vL s p) t n x q/\A0 w.heap.size w j:=by
 cases hok0:(bB s p).ok with
 |true=>
  refine(vJ s r p l w).mono ?_;rintro e j ⟨af,t,n,x,q,rfl,a,f⟩;obtain⟨_,rfl,_⟩:=a.yes hok0;have e:vL s p=(bB s p).k:=by unfold vL;rw[ab hok0]
  rw[e];exact⟨_,_,_,_,rfl,a,f⟩
 |false=>
  have C:vL s p=vK s p:=by unfold vL;rw[aa (by rw[hok0];simp)]
  rw[C];have b:=hok0;unfold bB at b;have h:¬bc (ao s p)=U:=fun a=>by rw[ab a]at b;cases b
  rw[aa h]at b;by_cases c:aL (ao s p)=U
  ·rw[ab c]at b;have u:(bD s p).2=Y:=by
    cases i:(bD s p).2 with
    |true=>rw[ab i]at b;cases b
    |false=>rfl
   refine lc (qe s (by omega) p l c w) fun j f=>?_;obtain⟨t,n,x,y⟩:=Jl s p u;have g:vK s p=(if ao s p=48/\ao s (p+1)=120 then 2 else 3):=by unfold vK;rw[ab c]
   rw[y,g,Bt s p u];refine⟨_,_,_,_,rfl,⟨fun a=>(by rw[hok0]at a;cases a),fun a=>?_⟩,f⟩;unfold bB;rw[aa h,ab c,aa (by rw[u];simp)]
  ·rw[aa c]at b;by_cases d:ao s p=34
   ·have g:vK s p=4:=by unfold vK;rw[aa c,ab d]
    rw[g];refine lc (vH s r p l d w) fun j f=>?_;have m:(bB s p).ok=(bH s (s.size+1) (p+1) []).1/\(bB s p).a=(bH s (s.size+1) (p+1) []).2.1:=by
     unfold bB;rw[aa h,aa c,ab d];cases i:(bH s (s.size+1) (p+1) []).1 with
     |true=>rw[ab rfl];exact⟨rfl,rfl⟩
     |false=>rw[aa (by simp)];exact⟨rfl,rfl⟩
    rw[hok0]at m;generalize K:bH s (s.size+1) (p+1) []=A at m;obtain⟨ak,I,J⟩:=A;simp only at m;obtain⟨F,G⟩:=m;subst F;refine⟨_,_,_,_,rfl,⟨fun a=>(by rw[hok0]at a;cases a),fun a=>?_⟩,f⟩;rw[G];rfl
   ·rw[aa d]at b;have g:vK s p=0:=by unfold vK;rw[aa c,aa d]
    rw[g];have o:jz (s.extract p s.size)=0:=by
     by_cases i:jz (s.extract p s.size)=0
     ·exact i
     ·rw[aa i]at b;cases b
    have z:ao (s.extract p s.size) 0=ao s p:=gv s p s.size 0 (ag _) (by omega);have k:¬ao s p=10:=fun k=>by
     have H:jz (s.extract p s.size)=7:=by unfold jz;rw[z,k];rfl
     rw[H]at o;exact absurd o (by decide)
    have v:=Fx (s.extract p s.size) (by rw[z];exact k);unfold Aa at v;refine lc (vI s r p l k (by simpa using h) (by simpa using c) d w) fun j f=>?_;generalize rB (fun x=>T (s.extract p s.size).data.toList x.data.toList) 30 0=B at v;cases B with
    |none=>
     refine⟨_,_,_,_,rfl,⟨fun a=>(by rw[hok0]at a;cases a),fun a=>?_⟩,f⟩;unfold bB;rw[aa h,aa c,aa d,ab o]
    |some L=>
     obtain⟨y,_,E,_⟩:=(show _/\_/\_/\_ from v);exact absurd o E
def Jn(st:List Int)(k:Int):List Int×Bool:=if 0<k then eG st k else(st,Y)
def AF(s:ByteArray):Nat->List Int->Nat->Int->List Tk->List Tk×List Int×Int
 |0,st,_,_,_=>([],st,0)
 |f+1,st,p,l,b=>
  if s.size<=p then(b++[⟨6,(s.size:Nat),(s.size:Nat),l,0,⟨#[]⟩⟩],st, -1)
  else if vL s p=7 then
   (if(eG st 5).2=U then AF s f (eG st 5).1 (blk s (s.size+1) (bB s p).a) (l+1) (b++[⟨5,(p:Nat),((bB s p).a:Nat),l,(bB s p).n,(bB s p).x⟩]) else AF s f st (blk s (s.size+1) (bB s p).a) (l+1) b)
  else if(Jn st (vL s p)).2=U then
   (if(bB s p).ok=U then AF s f (eG st (vL s p)).1 (blk s (s.size+1) (bB s p).a) l (b++[⟨vL s p,(p:Nat),((bB s p).a:Nat),l,(bB s p).n,(bB s p).x⟩]) else([],st,((bB s p).a:Nat)))
  else([],st,(wrongF s p (BG st):Nat))
def mE(s:ByteArray):List Tk×List Int×Int:=AF s (s.size+1) [100,6] (blk s (s.size+1) 0) 1 []
theorem adA(s:ByteArray)(p:Nat):0<=vL s p/\vL s p<=78:=by
 unfold vL;split
 ·rename_i a;have:=acn s p a;omega
 ·have:=FA s p;omega
theorem abb(s:ByteArray)(p:Nat)(a:vL s p=7):(bB s p).ok=U/\(bB s p).k=7:=by
 unfold vL at a;split at a
 ·rename_i b;exact⟨b,a⟩
 ·have:=FA s p;omega
theorem abc:(Tryz.prog.info? 29).map (fun i=>(i.zero,i.size,i.bytes))=A2 (A2 (B5 #[M O 0,M O 0,M O 0,M O 0,M O 0,Q ⟨#[]⟩]),6,56):=by kernel_rfl
theorem BL{c g:Z}{o:Obj}{base e size n:Nat}{v:X}{p:List X}(l:c.ownsRow base e size v n p)(j:(c.alloc o).grownBy g v.ownBlock){k:Nat}{cs:Array X}{t:Cr}{fr:Nat×Nat}(b:c.heap[k]?=A2 (Ax cs t fr))(m:t≠e):g.heap[k]?=A2 (Ax cs t fr):=by
 refine(j.block k (by simp;have:=au b;omega) (fun h=>?_)).trans ((cg _ _ _ (au b)).trans b);have a:v.ownBlock=A2 k:=h.symm;rcases l.2 with⟨d,_⟩|⟨i,q,r,d,_,f,_⟩
 ·rw[d]at a;simp[Ck]at a
 ·rw[d]at a;obtain rfl:i=k:=by simpa [Ck] using a
  rw[b]at f;simp only[io,oD]at f;exact m f.2.1
theorem od.app{a g:Z}{s:Obj}{base mb:Nat}{C:List (Int×Int)}(c:od a base mb C){h e size n:Nat}{v:X}{x:List X}(f:a.ownsRow h e size v n x)(d:(a.alloc s).grownBy g v.ownBlock)(l:123≠e)(m:146≠e):od g base mb C:=by
 obtain⟨w,r,t,b⟩:=c.ex;refine⟨⟨w,BL f d r l,t,?_⟩,c.lo⟩;rcases b with b|⟨k,i,j,q,p,o,u⟩
 ·exact .inl b
 ·exact .inr ⟨k,i,j,q,p,BL f d o m,u⟩
theorem od.other{a:Z}{base mb b:Nat}{C:List (Int×Int)}(e:od a base mb C){cs:Array X}{t:Cr}{fr:Nat×Nat}(u:a.heap[b]?=A2 (Ax cs t fr))(r:t≠123)(s:t≠146)(j:Nat)(v:X):od (a.setCell ⟨b,j,Br⟩ v) base mb C:=by
 obtain⟨B,g,z,d⟩:=e.ex;have i:∀{h:Nat}{m:Array X}{k:Cr}{p:Nat×Nat},a.heap[h]?=A2 (Ax m k p)->t≠k->h≠b:=fun c x o=>by
  subst o;rw[u]at c;simp only[io,oD]at c;exact x c.2.1
 refine⟨⟨B,(bC _ _ _ _ (i g r)).trans g,z,?_⟩,e.lo⟩;rcases d with d|⟨q,l,n,y,w,f,A⟩
 ·exact .inl d
 ·exact .inr ⟨q,l,n,y,w,(bC _ _ _ _ (i f s)).trans f,A⟩
theorem we{c:Z}{base e size n b:Nat}{v:X}{d:List X}(f:c.ownsRow base e size v n d)(g:∀a,v.ownBlock=A2 a->a<b)(j:Nat)(u:X):(c.setCell ⟨b,j,Br⟩ u).ownsRow base e size v n d:=by
 refine f.kept (row:=A2 b) ⟨rfl,rfl,rfl,by simp[World.setCell],fun k i h=>bC _ _ _ _ (fun e=>h (by rw[e]))⟩ ?_;cases hv:v.ownBlock with
 |none=>exact .inl rfl
 |some a=>exact .inr (fun e=>by have:=g a hv;obtain rfl:=dr e;omega)
structure B7 (w:Z) (base mb:Nat) (s:ByteArray) (R:List Tk×List Int×Int) (p:Nat) (st:List Int) (top:Int) (C:List (Int×Int)) (l:Int) (out:List Tk) (f:Nat) (vo:X) (W:Z):Prop where
 m:od W base mb C
 sk:iE C top st
 o:Ho st
 bl:A0 base w W
 row:W.ownsRow base 29 6 vo out.length (jB out)
 eq:AF s f st p l out=R
 cl:2<=C.length/\C.length<=2+20*p
 ol:out.length<=p
 l0:1<=l/\l<=(p:Int)+1
theorem B7.below{w:Z}{base mb:Nat}{s:ByteArray}{d:List Tk×List Int×Int}{p:Nat}{st:List Int}{h:Int}{C:List (Int×Int)}{l:Int}{g:List Tk}{f:Nat}{i:X}{b e:Z}(a:B7 w base mb s d p st h C l g f i b)(c:A0 b.heap.size b e)(j:base<=b.heap.size):B7 w base mb s d p st h C l g f i e:=
 ⟨a.m.below c,a.sk,a.o,a.bl.trans (c.mono j),ei a.row c,a.eq,a.cl,a.ol,a.l0⟩
def B9(w:Z)(base mb:Nat)(s:ByteArray)(a:List Tk×List Int×Int)(e:Ending)(c:Z):Prop:=
 ∃(d:Option Addr) (f:Nat) (g:Int) (b:List (Int×Int)),e= B1 (B2 #[.slice d a.1.length f,M O g,M O a.2.2])/\c.ownsRow base 29 6 (.slice d a.1.length f) a.1.length (jB a.1)/\od c base mb b/\iE b g a.2.1/\Ho a.2.1/\A0 base w c/\2<=b.length/\b.length<=2000000
theorem DA(w:Z)(base mb:Nat)(s:ByteArray)(c8:od w base mb [])(ea:s.size<=70000):
  Ce B0 103 #[.pointer (A2 ⟨mb,0,Br⟩),.string s] w (B9 w base mb s (mE s)):=by
 unfold mE;obtain⟨H,da⟩:=aD (AF s (s.size+1) [100,6] (blk s (s.size+1) 0) 1 []);rw[da];have gd:base<=w.heap.size:=by obtain⟨v,f2,_⟩:=c8.ex;have:=au f2;have:=c8.lo;omega
 have fc:=GD w base mb c8;have df:=fun w=>ix s (by omega) 0 (aG _) w;have e2:=gC s (s.size+1) 0 (aG _);obtain⟨e0,e1⟩:=aD (blk s (s.size+1) 0);rw[e1]at da df e2;rw[show(((0:Nat):Int))=0 from rfl]at df;have ew:=ar da;clear da c8 e1;go_in;go_wp2_with fail;refine fc.mono ?_;rintro z w1 ⟨rfl,ff,gs,g⟩;clear fc;have fg:B7 w base mb s H e0 [100,6] 1 [(6, -1),(100,0)] 1 [] (s.size+1) (.slice Br 0 0) w1:=by
  refine⟨ff,⟨1,0,rfl,rfl,0, -1,rfl,rfl,rfl⟩,?_,g,dB _ _ _ _,ew.out,⟨by simp,by simp⟩,by simp,⟨by omega,by omega⟩⟩;intro h bb;simp at bb;omega
 have eF:=ar fg;clear fg ff gs g;go_wp2_with (go_at_call 15;refine dz (df _) ?_);clear df;obtain⟨ee,ef,eg,eh,ej⟩:=fd abc;go_loopw [7,8,9,10] (fun hh fn he es wr=>∃(a:Nat) (f:List Int) (t:Int) (n:List (Int×Int)) (d:Int) (r:List Tk) (q:Nat),es= .int .i64 a/\he= .int .i64 d/\hh= .int .i64 t/\(∃fu fB,∃gr:Nat,fn= .slice fu gr fB)/\a<=s.size/\s.size<a+q/\Hid (B7 w base mb s H a f t n d r q fn wr)) (fun _ _ _ es _=>s.size+1-(B4 es).toNat)
 case atStart=>exact⟨e0,_,1,_,1,[],s.size+1,rfl,rfl,rfl,⟨_,_,_,rfl⟩,e2.2,by omega,eF⟩
 case round=>
  obtain⟨a,f,t,n,d,r,q,rfl,rfl,rfl,⟨c5,c7,cr,rfl⟩,h3,hL,y⟩:=hrel;clear eF ew;obtain⟨q,rfl⟩:∃bn,q=bn+1:=⟨q-1,by omega⟩;obtain⟨hz,hB,f0⟩:=ey y.out.row;cases f0;have c:=y.out.eq;rw[AF]at c;have e3:base<=wr.heap.size:=bA gd y.out.bl.size;have e7:=y.out.ol;by_cases cc:a<s.size
  ·rw[aa (by omega)]at c;have f8:(a:Int)<(s.size:Int):=by omega
   have el:=fun w=>Dz s ea a cc w;have d4:=adA s a;obtain⟨e,d3⟩:=aD (vL s a);rw[d3]at el c d4;have c3:=ar d3;obtain⟨cr,a7⟩:=aD r.length;have B:=ar a7;rw[a7]at e7⊢;have bw:Hid ((if e=7 then(if(eG f 5).2=U then AF s q (eG f 5).1 (blk s (s.size+1) (bB s a).a) (d+1) (r++[⟨5,(a:Nat),((bB s a).a:Nat),d,(bB s a).n,(bB s a).x⟩]) else AF s q f (blk s (s.size+1) (bB s a).a) (d+1) r)
    else if(Jn f e).2=U then(if(bB s a).ok=U then AF s q (eG f e).1 (blk s (s.size+1) (bB s a).a) d (r++[⟨e,(a:Nat),((bB s a).a:Nat),d,(bB s a).n,(bB s a).x⟩]) else([],f,((bB s a).a:Nat)))
    else([],f,(wrongF s a (BG f):Nat)))=H):=c
   clear c d3 a7;go_wp2_with fail;refine(el _).mono ?_;rintro z w1 ⟨k,i,h,dx,rfl,fb,d5⟩;have c4:Hid (B7 w base mb s H a f t n d r (q+1) (.slice c5 r.length c7) w1):=y.out.below d5 e3;have ge:=d5.size;have an:=ar fb;clear el d5 y fb;obtain⟨g,d6⟩:=aD w1.heap.size;go_upto_region 8 with fail
   have a4:cA g (w1.alloc (.cells #[.int .i64 e,.int .i64 a,.int .i64 k,.int .i64 d,.int .i64 i,.string h] 29)) e a k d i h:=by rw[<-d6];exact ax w1 _
   have b:Hid (B7 w base mb s H a f t n d r (q+1) (.slice c5 r.length c7) (w1.alloc (.cells #[.int .i64 e,.int .i64 a,.int .i64 k,.int .i64 d,.int .i64 i,.string h] 29))):=c4.out.below (dF w1 _) (by omega);have dd:∀bn,(Value.slice c5 cr c7).ownBlock=A2 bn->bn<g:=fun bn f6=>by
    have fa:=c4.out.row;rw[B.out]at fa;have:=(fa.lt bn f6).2;omega
   have dc:g≠mb:=by
    obtain⟨et,J,_⟩:=c4.out.m.ex;have:=au J;omega
   have f9:(w1.alloc (.cells #[.int .i64 e,.int .i64 a,.int .i64 k,.int .i64 d,.int .i64 i,.string h] 29)).heap.size=g+1:=by rw[dI,d6]
   generalize w1.alloc (.cells #[.int .i64 e,.int .i64 a,.int .i64 k,.int .i64 d,.int .i64 i,.string h] 29)=dn at a4 b f9⊢;have hI:=b.out.cl.2;have hJ:=b.out.cl.1;have hH:base<=g:=by omega
   have h2:=b.out.l0;obtain⟨g7,g8,g9,ha,hb,hc,hd⟩:=aE a4;clear c4 d6 ge e3;by_cases d2:e=7
   ·subst d2;obtain⟨eb,f7⟩:=abb s a c3.out;obtain⟨bp,d9,a8,ce,bb,d8⟩:=an.out.yes eb;clear d9 d8;have ak:=gb s a cc eb;have c:=bw.out;rw[ab rfl,<-ce,<-bb]at c;obtain⟨A,b5⟩:=aD ((bB s a).a);rw[b5]at c a8 ak;subst bp;have a1:=fun w=>ix s (by omega) A (by omega) w;have bo:=gC s (s.size+1) A (by omega);obtain⟨bx,b8⟩:=aD (blk s (s.size+1) A);rw[b8]at c a1 bo;rw[<-a8]at a1 c;have ck:=uI b.out.o (show(1:Int)<=5 by omega) (by omega);have p:=ry dn base mb n f t 5 b.out.m b.out.sk b.out.o (by omega) (by omega) (by omega);obtain⟨bE,b9⟩:=aD (eG f 5);rw[b9]at p c ck;unfold oq at p;obtain⟨ep,cf⟩:=aD bE.2;rw[cf]at p c;have f3:a<A/\A<=s.size:=⟨ak.1,ak.2.1⟩;clear ce bb b9 cf eb f7 ak b5 b8 c3 an bw a8;go_wp2_with fail;refine p.mono ?_;rintro z m ⟨ct,D,rfl,G,a2,a6,l,F⟩;cases ep with
    |false=>
     rw[aa (by simp)]at c;have bs:=ar c;have x:cA g m 7 a k d i h:=l.blk a4 (by decide) dc;obtain⟨et,J,_⟩:=b.out.m.ex;have K:=l.row J b.out.row (by decide) (by decide);have fq:Hid (B7 w base mb s H bx f t (n++D) (d+1) r q (.slice c5 cr c7) m):=
      ⟨G,b.out.sk.app D,b.out.o,b.out.bl.trans F,by rw[<-B.out]at *;exact K,bs.out,⟨by rw[aH];omega,by rw[aH];omega⟩,by rw[B.out];omega,⟨by omega,by omega⟩⟩
     obtain⟨cu,cy,cz,cF,c0,c1,c2⟩:=aE x;clear p c a4 x K J G a2 l F b g7 g8 g9 ha hb hc hd;go_wp2_with (go_at_call 15;refine dz (a1 _) ?_);exact⟨⟨bx,f,t,n++D,d+1,r,q,rfl,by go_num,rfl,⟨_,_,_,rfl⟩,bo.2,by omega,fq⟩,by simp[B4];omega⟩
    |true=>
     rw[ab rfl]at c;have bs:=ar c;clear c;have x:cA g m 7 a k d i h:=l.blk a4 (by decide) dc;obtain⟨et,J,_⟩:=b.out.m.ex;have K:=l.row J b.out.row (by decide) (by decide);rw[B.out]at K;have b2:=b.out.bl.trans F;have gf:=l.size;have E:cA g (m.setCell ⟨g,0,Br⟩ (.int .i64 5)) 5 a k d i h:=x.setKind 5;have cp:=G.other (j:=0) (v:= .int .i64 5) (show m.heap[g]?=A2 (.cells _ _ _) from x) (by decide) (by decide);have bf:=we (j:=0) (u:= .int .i64 5) K dd;have b4:A0 base w (m.setCell ⟨g,0,Br⟩ (.int .i64 5)):=b2.setCell (by simp;omega) _;have br:=cH a2 a6;obtain⟨cu,cy,cz,cF,c0,c1,c2⟩:=aE x;clear p x G K b2 J a2 a6 l F;go_upto_region 24 with fail
     generalize m.setCell ⟨g,0,Br⟩ (.int .i64 5)=a5 at E cp bf b4⊢;obtain⟨hj,hl,ho,hq,hs,hv,hy⟩:=aE E;have C:=ar bf;have dg:=ar E;have d7:g<a5.heap.size:=au E;clear E bf cu cy cz cF c0 c1 c2;go_wp2_with (first|(at_builtin;refine lE _ rfl _ _ 24 rfl base 29 ee _ 6 56 Tryz.underlying24 ef eg eh ej rfl (by decide) _ _ _ rfl (C.out.alloc _) ⟨a5.heap.size,0,Br⟩ 1 1 [.int .i64 5,.int .i64 a,.int .i64 k,.int .i64 d,.int .i64 i,.string h] rfl rfl (B3 (cs:=#[.int .i64 5,.int .i64 a,.int .i64 k,.int .i64 d,.int .i64 i,.string h]) (fr:=(0,0)) (ax a5 _)) (by intro u a0;simp at a0;rcases a0 with rfl|rfl|rfl|rfl|rfl|rfl<;>rfl) (by unfold C0;omega) (by omega) (by simp;omega) ?_;intro fk bj ap I e6;obtain⟨d1,d0,rfl⟩:=B6 ap;have dk:cA g bj 5 a k d i h:=(I.block g (by simp;omega) (fun z=>by have:=dd g z.symm;omega)).trans ((cg _ _ _ d7).trans dg.out);obtain⟨gt,g0,g1,g2,g3,g4,g5⟩:=aE dk)|(go_at_call 15;refine dz (a1 _) ?_));have cq:=cp.app C.out I (by decide) (by decide);have b0:A0 base w bj:=(b4.alloc (by omega) _).grown I (by simp;omega) (fun cn cb=>(C.out.lt cn cb).1);refine⟨⟨bx,bE.1,ct,n++D,d+1,r++[⟨5,(a:Nat),k,d,i,h⟩],q,rfl,by go_num,rfl,⟨_,_,_,rfl⟩,bo.2,by omega,⟨cq,br.out.1,?_,b0,?_,?_,?_,?_,?_⟩⟩,by simp[B4];omega⟩
     ·exact ck
     ·rw[aH,B.out,mA];exact ap
     ·exact bs.out
     ·have:=b.out.cl;have:=br.out.2;rw[aH];omega
     ·rw[aH,B.out];simp;omega
     ·have:=b.out.l0;omega
   ·have c:=bw.out;rw[aa d2]at c;have hC:(e==7)=Y:=beq_eq_false_iff_ne.2 d2;by_cases f1:e=0
    ·subst f1;rw[show Jn f 0=(f,Y) from rfl,aa (by simp)]at c;have al:=ar c;clear c bw an c3;obtain⟨a3,af⟩:=aD (BG f);have f5:a3.length<=78:=by rw[<-af];exact pm f 78
     have bd:=Fv dn base mb n f t b.out.m b.out.sk b.out.o (by omega) (by omega);rw[af]at bd;have L:Hid ((([]:List Tk),f,((wrongF s a a3:Nat):Int))=H):=by rw[<-af];exact al.out
     clear af;go_wp2_with fail;refine bd.mono ?_;rintro z ev ⟨fA,fF,rfl,er,en,ek,ds⟩;have em:=tD ev s a _ a3 (pj er) (by omega) ea cc;clear bd;go_wp2_with (go_at_call 130;refine em.mono ?_;rintro z hi ⟨rfl,ca⟩);go_ret3
     refine⟨Br,0,t,n,?_,?_,en.below ca,?_,?_,?_,?_,?_⟩
     ·rw[<-L.out];rfl
     ·rw[<-L.out];exact dB _ _ _ _
     ·rw[<-L.out];exact b.out.sk
     ·rw[<-L.out];exact b.out.o
     ·exact(b.out.bl.trans ds).trans (ca.mono (by have:=ek.size;first|omega|(have:=l.size;omega)))
     ·have:=b.out.cl;omega
     ·have:=b.out.cl;omega
    ·have f4:0<e:=by omega
     have e4:Jn f e=eG f e:=by unfold Jn;rw[ab f4]
     rw[e4]at c;have ck:=uI b.out.o (show(1:Int)<=e by omega) d4.2;have p:=ry dn base mb n f t e b.out.m b.out.sk b.out.o (by omega) d4.2 (by omega);obtain⟨bE,b9⟩:=aD (eG f e);rw[b9]at p c ck;unfold oq at p;obtain⟨ep,cf⟩:=aD bE.2;rw[cf]at p c;clear b9 cf e4 bw c3;cases ep with
     |false=>
      rw[aa (by simp)]at c;have al:=ar c;clear c an;go_wp2_with fail;refine p.mono ?_;rintro z m ⟨ct,D,rfl,G,a2,a6,l,F⟩;have x:cA g m e a k d i h:=l.blk a4 (by decide) dc;obtain⟨cu,cy,cz,cF,c0,c1,c2⟩:=aE x;clear p;obtain⟨a3,af⟩:=aD (BG f);have f5:a3.length<=78:=by rw[<-af];exact pm f 78
      have bd:=Fv m base mb (n++D) f t G (b.out.sk.app D) b.out.o (by rw[aH];omega) (by rw[aH];omega);rw[af]at bd;have L:Hid ((([]:List Tk),f,((wrongF s a a3:Nat):Int))=H):=by rw[<-af];exact al.out
      clear af;go_wp2_with fail;refine bd.mono ?_;rintro z ev ⟨fA,fF,rfl,er,en,ek,ds⟩;have em:=tD ev s a _ a3 (pj er) (by omega) ea cc;clear bd;go_wp2_with (go_at_call 130;refine em.mono ?_;rintro z hi ⟨rfl,ca⟩);go_ret3
      refine⟨Br,0,t,n++D,?_,?_,en.below ca,?_,?_,?_,?_,?_⟩
      ·rw[<-L.out];rfl
      ·rw[<-L.out];exact dB _ _ _ _
      ·rw[<-L.out];exact(b.out.sk.app D)
      ·rw[<-L.out];exact b.out.o
      ·exact((b.out.bl.trans F).trans ds).trans (ca.mono (by have:=ek.size;first|omega|(have:=l.size;omega)))
      ·have:=b.out.cl;rw[aH];omega
      ·have:=b.out.cl;rw[aH];omega
     |true=>
      rw[ab rfl]at c;cases hokI:(bB s a).ok with
      |false=>
       rw[hokI,aa (by simp)]at c;have bp:=an.out.no hokI;have hE:¬dx<0:=by omega
       have al:Hid ((([]:List Tk),f,dx)=H):=by rw[bp];exact c
       clear c an bp hokI;go_wp2_with fail;refine p.mono ?_;rintro z m ⟨ct,D,rfl,G,a2,a6,l,F⟩;have hG:(0:Int)<=dx:=by omega
       clear p;go_wp2_with fail;go_ret3
       refine⟨Br,0,t,n++D,?_,?_,G,?_,?_,b.out.bl.trans F,?_,?_⟩
       ·rw[<-al.out];rfl
       ·rw[<-al.out];exact dB _ _ _ _
       ·rw[<-al.out];exact b.out.sk.app D
       ·rw[<-al.out];exact b.out.o
       ·rw[aH];omega
       ·rw[aH];omega
      |true=>
       rw[hokI,ab rfl]at c;obtain⟨bp,d9,a8,ce,bb,d8⟩:=an.out.yes hokI;clear d9 d8;have ak:=gb s a cc hokI;rw[<-ce,<-bb]at c;obtain⟨A,b5⟩:=aD ((bB s a).a);rw[b5]at c a8 ak;subst bp;have a1:=fun w=>ix s (by omega) A (by omega) w;have bo:=gC s (s.size+1) A (by omega);obtain⟨bx,b8⟩:=aD (blk s (s.size+1) A);rw[b8]at c a1 bo;rw[<-a8]at a1 c;have f3:a<A/\A<=s.size:=⟨ak.1,ak.2.1⟩;have bs:=ar c;clear c ce bb ak b5 b8 an a8 hokI;go_wp2_with fail;refine p.mono ?_;rintro z m ⟨ct,D,rfl,G,a2,a6,l,F⟩;have x:cA g m e a k d i h:=l.blk a4 (by decide) dc;obtain⟨et,J,_⟩:=b.out.m.ex;have K:=l.row J b.out.row (by decide) (by decide);rw[B.out]at K;have b2:=b.out.bl.trans F;have gf:=l.size;have E:cA g (m.setCell ⟨g,0,Br⟩ (.int .i64 e)) e a k d i h:=x.setKind e;have cp:=G.other (j:=0) (v:= .int .i64 e) (show m.heap[g]?=A2 (.cells _ _ _) from x) (by decide) (by decide);have bf:=we (j:=0) (u:= .int .i64 e) K dd;have b4:A0 base w (m.setCell ⟨g,0,Br⟩ (.int .i64 e)):=b2.setCell (by simp;omega) _;have br:=cH a2 a6;obtain⟨cu,cy,cz,cF,c0,c1,c2⟩:=aE x;clear p x G K b2 J a2 a6 l F;go_upto_region 24 with fail
       generalize m.setCell ⟨g,0,Br⟩ (.int .i64 e)=a5 at E cp bf b4⊢;obtain⟨hj,hl,ho,hq,hs,hv,hy⟩:=aE E;have C:=ar bf;have dg:=ar E;have d7:g<a5.heap.size:=au E;clear E bf cu cy cz cF c0 c1 c2;go_wp2_with (first|(at_builtin;refine lE _ rfl _ _ 24 rfl base 29 ee _ 6 56 Tryz.underlying24 ef eg eh ej rfl (by decide) _ _ _ rfl (C.out.alloc _) ⟨a5.heap.size,0,Br⟩ 1 1 [.int .i64 e,.int .i64 a,.int .i64 k,.int .i64 d,.int .i64 i,.string h] rfl rfl (B3 (cs:=#[.int .i64 e,.int .i64 a,.int .i64 k,.int .i64 d,.int .i64 i,.string h]) (fr:=(0,0)) (ax a5 _)) (by intro u a0;simp at a0;rcases a0 with rfl|rfl|rfl|rfl|rfl|rfl<;>rfl) (by unfold C0;omega) (by omega) (by simp;omega) ?_;intro fk bj ap I e6;obtain⟨d1,d0,rfl⟩:=B6 ap;have dk:cA g bj e a k d i h:=(I.block g (by simp;omega) (fun z=>by have:=dd g z.symm;omega)).trans ((cg _ _ _ d7).trans dg.out);obtain⟨gt,g0,g1,g2,g3,g4,g5⟩:=aE dk)|(go_at_call 15;refine dz (a1 _) ?_));have cq:=cp.app C.out I (by decide) (by decide);have b0:A0 base w bj:=(b4.alloc (by omega) _).grown I (by simp;omega) (fun cn cb=>(C.out.lt cn cb).1);refine⟨⟨bx,bE.1,ct,n++D,d,r++[⟨e,(a:Nat),k,d,i,h⟩],q,rfl,rfl,rfl,⟨_,_,_,rfl⟩,bo.2,by omega,⟨cq,br.out.1,?_,b0,?_,?_,?_,?_,?_⟩⟩,by simp[B4];omega⟩
       ·exact ck
       ·rw[aH,B.out,mA];exact ap
       ·exact bs.out
       ·have:=b.out.cl;have:=br.out.2;rw[aH];omega
       ·rw[aH,B.out];simp;omega
       ·have:=b.out.l0;omega
  ·rw[ab (by omega)]at c;have e8:a=s.size:=by omega
   obtain⟨cr,a7⟩:=aD r.length;have B:=cH a7 e8;have ec:=y.out.row;rw[a7]at e7 ec⊢;have C:=ar ec;have bt:=ar c;have f8:¬(a:Int)<(s.size:Int):=by omega
   clear c a7 ec e8;go_wp2_with (at_builtin;refine lE _ rfl _ _ 24 rfl base 29 ee _ 6 56 Tryz.underlying24 ef eg eh ej rfl (by decide) _ _ _ rfl (C.out.alloc _) ⟨wr.heap.size,0,Br⟩ 1 1 [.int .i64 6,.int .i64 s.size,.int .i64 s.size,.int .i64 d,.int .i64 0,.string ⟨#[]⟩] rfl rfl (B3 (cs:=#[.int .i64 6,.int .i64 s.size,.int .i64 s.size,.int .i64 d,.int .i64 0,.string ⟨#[]⟩]) (fr:=(0,0)) (ax wr _)) (by intro u a0;simp at a0;rcases a0 with rfl|rfl|rfl|rfl|rfl<;>rfl) (by unfold C0;omega) (by omega) (by simp;omega) ?_;intro fk bj ap I e6;obtain⟨d1,d0,rfl⟩:=B6 ap);go_ret3
   have cq:=y.out.m.app C.out I (by decide) (by decide);have b0:A0 base w bj:=(y.out.bl.alloc (by omega) _).grown I (by simp;omega) (fun cn cb=>(C.out.lt cn cb).1);have e5:H.1.length=cr+1:=by rw[<-bt.out,aH,B.out.1];rfl
   refine⟨A2 ⟨d1,0,Br⟩,d0,t,n,?_,?_,cq,?_,?_,b0,y.out.cl.1,?_⟩
   ·rw[e5,<-bt.out];rfl
   ·rw[e5,<-bt.out,mA];exact ap
   ·rw[<-bt.out];exact y.out.sk
   ·rw[<-bt.out];exact y.out.o
   ·have:=y.out.cl.2;omega
