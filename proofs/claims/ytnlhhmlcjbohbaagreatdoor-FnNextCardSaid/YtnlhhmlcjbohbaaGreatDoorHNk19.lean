import Derived.Test.YtnlhhmlcjbohbaaGreatDoorHNk09
import Derived.Test.YtnlhhmlcjbohbaaGreatDoorHNk17
import Derived.Test.YtnlhhmlcjbohbaaGreatDoorHNk16
set_option linter.all false
set_option maxRecDepth 100000
set_option maxHeartbeats 12800000
open Go.IntKind renaming i64->O
open Go.Value renaming int->U,slice->Ax,string->B0,tuple->B6,pointer->Cr,string->C6,ownBlock->C7,int->E1,agg->E2
open Option renaming some->Y,none->Z
open ByteArray renaming empty->A0
open Go.Proofs.Tryz renaming prog->A2
open Go.Ending renaming returned->A5
open Go renaming World->A9,Value->B1,Calls->Ck,TypeId->C5,ownsRow_succ->Fs,maxLen->F0
open Go.RowKit renaming Below->Br,intOf->C4,Hid->C8
open Go.Lib renaming hasPrefix->B3
open Go.Obj renaming cells->B4
open Bool renaming true->B7,false->Ce
open Go.World renaming news_of_block->C2,setCell->Ft
namespace Go.Proofs.YtnlhhmlcjbohbaaGreatDoor
open Go.RowKit Go.Maps Go.WideMaps
variable{C:List (Int×Int)}{L b base ck e k n:Nat}{N:Nd}{T s:ByteArray}{W w w' w0 w5:World}{ak:Option Addr}{cs:Array Value}{fr:Nat×Nat}{l:List Int}{ns:List Nd}{t:Int}{v vk vn vt:Value}{xs:List Value}
def pB(a b c:Int)(x:ByteArray):Bool:=decide ((x.size=0\/a=aq x 0)/\(x.size<=1\/b=aq x 1)/\(x.size<=2\/c=aq x 2))
theorem ag7(r x:ByteArray)(i:Nat)(b:i<x.size):r.data.toList[i]?=x.data.toList[i]?↔aq r i=aq x i:=by
 have d:x.data.toList[i]?=Y x[i]:=by rw[vC];exact BJ b
 rw[d,fL];have c:aq x i=(x[i].toNat:Int):=by unfold aq;rw[lD b]
 rw[c];constructor
 ·exact fun a=>a.2
 ·intro a;refine⟨?_,a⟩;rcases aH i r.size with h1|h1
  ·exact h1
  ·rw[dl]at a;omega
theorem aa9(r x:ByteArray)(h:x.size<=3):B3 r.data.toList x.data.toList=pB (aq r 0) (aq r 1) (aq r 2) x:=by
 unfold B3 pB;rw[vH,yl,iJ,List.prefix_iff_getElem?];have i:x.data.toList.length=x.size:=eK;have f:(∀a (b:a<x.data.toList.length),r.data.toList[a]?=Y x.data.toList[a])↔∀a,a<x.size->aq r a=aq x a:=by
  constructor
  ·intro g a b;rw[<-ag7 r x a b,g a (by omega)];exact(aE (by omega)).symm
  ·intro g a b;rw[(ag7 r x a (by omega)).2 (g a (by omega))];exact aE b
 rw[f];constructor
 ·intro g;refine⟨?_,?_,?_⟩
  ·rcases qI x.size with h0|h0
   ·exact .inl h0
   ·exact .inr (g 0 h0)
  ·rcases aH 1 x.size with h0|h0
   ·exact .inr (g 1 h0)
   ·exact .inl h0
  ·rcases aH 2 x.size with h0|h0
   ·exact .inr (g 2 h0)
   ·exact .inl h0
 ·rintro ⟨c,d,e⟩ a b;rcases(show a=0\/a=1\/a=2 by omega) with rfl|rfl|rfl
  ·rcases c with g|g
   ·omega
   ·exact g
  ·rcases d with g|g
   ·omega
   ·exact g
  ·rcases e with g|g
   ·omega
   ·exact g
def Il(q:ByteArray->Bool)(V:Array B1)(base:Int):Nat->Nat->Int×Nat->Int×Nat
 |0,_,a=>a
 |f+1,i,a=>Il q V base f (i+1) (if a.2<(bp V i).size/\q (bp V i)=B7 then(base+(i:Int),(bp V i).size) else a)
def skq(a:Int)(q:ByteArray->Bool):Int:=if a=59 then 5 else if a=10 then 7 else(Il q lp 61 18 0 (Il q iG 40 11 0 (0,0))).1
def wE(q:ByteArray->Bool):Nat->Nat->Option Nat
 |0,_=>Z
 |f+1,k=>if q (bp iE k)=B7 then Y k else wE q f (k+1)
theorem ag8(V:Array B1)(base:Int)(r:ByteArray):∀(f i:Nat)(a:Int×Nat),xz V base r f i a=Il (fun x=>B3 r.data.toList x.data.toList) V base f i a
 |0,i,a=>rfl
 |f+1,i,a=>by rw[xz,Il];exact ag8 V base r f (i+1) _
theorem xJ(q b:ByteArray->Bool)(V:Array B1)(base:Int)(N:Nat)(h:∀i,i<N->q (bp V i)=b (bp V i)):∀(f i:Nat)(a:Int×Nat),i+f<=N->Il q V base f i a=Il b V base f i a
 |0,i,a,_=>rfl
 |f+1,i,a,c=>by rw[Il,Il,h i (by omega)];exact xJ q b V base N h f (i+1) _ (by omega)
theorem DF(q a:ByteArray->Bool)(h:∀i,i<30->q (bp iE i)=a (bp iE i)):∀(f i:Nat),i+f<=30->wE q f i=wE a f i
 |0,i,_=>rfl
 |f+1,i,b=>by rw[wE,wE,h i (by omega),DF q a h f (i+1) (by omega)]
def EB(S:List Int)(b:Int):Int:=if b∈S then b else 0
theorem In(S:List Int)(d:(0:Int) ∉ S)(b a:Int)(c:a∈S):EB S b=a↔b=a:=by
 unfold EB;split
 ·exact Iff.rfl
 ·rename_i e;constructor
  ·rintro rfl;exact absurd c d
  ·rintro rfl;exact absurd c e
def fb0:List Int:=[46,60,62,61,126,47,40,41,123,125,91,93,44,59,35,43,45,42,37,38,124]
def fb1:List Int:=[46,60,61,62,47]
def fb2:List Int:=[46]
def inB(x:ByteArray):Bool:=decide (x.size<=3/\(x.size=0\/aq x 0∈fb0)/\(x.size<=1\/aq x 1∈fb1)/\(x.size<=2\/aq x 2∈fb2))
theorem anJ:∀i:Fin 11,inB (bp iG i.val)=B7:=by decide+kernel
theorem anK:∀i:Fin 18,inB (bp lp i.val)=B7:=by decide+kernel
theorem ag9:∀i:Fin 30,inB (bp iE i.val)=B7:=by decide+kernel
theorem anL(a b c:Int)(x:ByteArray)(h:inB x=B7):pB a b c x=pB (EB fb0 a) (EB fb1 b) (EB fb2 c) x:=by
 unfold inB at h;rw[iJ]at h;obtain⟨_,g,i,j⟩:=h;have d:(x.size=0\/a=aq x 0)↔(x.size=0\/EB fb0 a=aq x 0):=by
  rcases g with h|h
  ·simp[h]
  ·rw[In fb0 (by decide) a _ h]
 have e:(x.size<=1\/b=aq x 1)↔(x.size<=1\/EB fb1 b=aq x 1):=by
  rcases i with h|h
  ·simp[h]
  ·rw[In fb1 (by decide) b _ h]
 have f:(x.size<=2\/c=aq x 2)↔(x.size<=2\/EB fb2 c=aq x 2):=by
  rcases j with h|h
  ·simp[h]
  ·rw[In fb2 (by decide) c _ h]
 unfold pB;rw[GC,d,e,f]
def amm(a b c:Int):Bool:=match wE (pB a b c) 30 0 with
 |some d=>decide (skq a (pB a b c)=yB (bp iE d)/\(dB (skq a (pB a b c))).size=(bp iE d).size/\skq a (pB a b c)≠0/\skq a (pB a b c)≠7)
 |none=>decide (skq a (pB a b c)=0)
theorem aha:∀a∈0::fb0,∀b∈0::fb1,∀c∈0::fb2,amm a b c=B7:=by decide+kernel
theorem aba(S:List Int)(b:Int):EB S b∈0::S:=by
 unfold EB;split
 ·exact cL _ (by assumption)
 ·exact bB
def DH(r:ByteArray):Prop:=match wE (fun x=>B3 r.data.toList x.data.toList) 30 0 with
 |some a=>na r=yB (bp iE a)/\(dB (na r)).size=(bp iE a).size/\na r≠0/\na r≠7
 |none=>na r=0
theorem Io(r:ByteArray)(h:aq r 0≠10):DH r:=by
 have g:∀a,inB a=B7->B3 r.data.toList a.data.toList=pB (EB fb0 (aq r 0)) (EB fb1 (aq r 1)) (EB fb2 (aq r 2)) a:=fun a f=>by
  rw[<-anL _ _ _ a f];unfold inB at f;rw[iJ]at f;exact aa9 r a f.1
 have l:na r=skq (EB fb0 (aq r 0)) (pB (EB fb0 (aq r 0)) (EB fb1 (aq r 1)) (EB fb2 (aq r 2))):=by
  unfold na skq;rw[ag8,ag8,xJ _ _ iG 40 11 (fun d c=>g _ (anJ ⟨d,c⟩)) 11 0 _ (by omega),xJ _ _ lp 61 18 (fun d c=>g _ (anK ⟨d,c⟩)) 18 0 _ (by omega)];have i:=In fb0 (by decide) (aq r 0) 59 (by decide);have k:EB fb0 (aq r 0)≠10:=by
   unfold EB;split
   ·exact h
   ·decide
  rw[aa h,aa k];by_cases e:aq r 0=59
  ·rw[ab e,ab (i.2 e)]
  ·rw[aa e,aa (fun j=>e (i.1 j))]
 have b:=aha _ (aba fb0 (aq r 0)) _ (aba fb1 (aq r 1)) _ (aba fb2 (aq r 2));unfold DH;rw[DF _ _ (fun d c=>g _ (ag9 ⟨d,c⟩)) 30 0 (by omega),l];unfold amm at b;cases hf:wE (pB (EB fb0 (aq r 0)) (EB fb1 (aq r 1)) (EB fb2 (aq r 2))) 30 0 with
 |some m=>rw[hf]at b;exact aG b
 |none=>rw[hf]at b;exact aG b
theorem akI(s x:ByteArray)(p:Nat)(f:p<=s.size):B3 (s.extract p s.size).data.toList x.data.toList=decide (p+x.size<=s.size/\((s.extract p (p+x.size)).toList==x.toList)=B7):=by
 have e:s.data.toList.length=s.size:=eK;have b:x.data.toList.length=x.size:=eK;have c:(s.extract p s.size).data.toList=s.data.toList.drop p:=by
  rw[<-fC,Lib.extract_toList,dj];rw[im,eK];exact ae _
 have d:(s.extract p (p+x.size)).toList=(s.data.toList.drop p).take x.size:=by
  rw[Lib.extract_toList];congr 1;omega
 rw[c,d,fC x];unfold B3;rw[vH,yl,iJ,List.prefix_iff_eq_take,b,jk];constructor
 ·intro a;refine⟨?_,a.symm⟩;have:=congrArg List.length a;rw[jx,im,e,b]at this;omega
 ·exact fun a=>a.2.symm
theorem aex(s:ByteArray)(d:s.size<=70000)(p:Nat)(b:p<s.size)(a:aq s p=10)(w:A9):Ck A2 22 #[B0 s,U O p] w fun e w'=>e= A5 (B6 #[E2 #[U O 7,U O p,U O ((p:Int)+1),U O 0,U O 0,B0 ⟨#[]⟩],U O (-1)])/\Br w.heap.size w w':=by
 have c:=fun w=>db b w;rw[a]at c;have f:(p:Int)<(s.size:Int):=by omega
 go_in;go_wp2;refine aI (v:= B6 #[E2 #[U O 7,U O p,U O ((p:Int)+1),U O 0,U O 0,B0 ⟨#[]⟩],U O (-1)]) (by simp[results,Tryz.results22,go_sem]) rfl ⟨rfl,?_⟩;exact((ah _ w).alloc (ae _) _).alloc (by simp) _
theorem ahb(p:Nat)(a:Bool×Nat×List Int):∃(t:Int) (x:ByteArray),F3 p a= E2 #[U O 4,U O p,U O t,U O 0,U O 0,B0 x]:=by
 unfold F3;split<;>exact⟨_,_,rfl⟩
theorem DI(s:ByteArray)(y:s.size<=70000)(p:Nat)(m:p<s.size)(x:aq s p=34)(w:A9):Ck A2 22 #[B0 s,U O p] w fun e w'=>e= A5 (B6 #[F3 p (dI s (s.size+1) (p+1) []),U O (Kw (dI s (s.size+1) (p+1) []))])/\Br w.heap.size w w':=by
 have n:=fun w=>db m w;have q:=fun w=>jF (c:=34) (b:=Ce) (by decide) w;have o:=fun w=>ed (c:=34) (b:=Ce) (by decide) w;have a:=fun w=>Ie s y p m w;generalize dI s (s.size+1) (p+1) []=f at a;obtain⟨A,C,i⟩:=ahb p f;rw[i]at a⊢;generalize Kw f=r at a;rw[x]at n;clear i;go_in;go_wp2_with (first|(go_at_call 52;refine eH (q _) ?_)|(go_at_call 54;refine eH (o _) ?_));generalize j:(w.alloc _).alloc _=t;obtain⟨g, -,h,z⟩:=GI j;have k:dE w.heap.size t 0 0 0 0 0 ⟨#[]⟩:=g;clear j g;refine cJ (a _) fun B d=>?_;have l:=k.below d (by omega);have u:=h.trans (d.mono (by omega));clear d k h z a q o n;obtain⟨z0,E,F,G,H,I,K⟩:=aJ l;have J:w.heap.size<B.heap.size:=ai l;go_wp2;refine aI (v:= B6 #[E2 #[U O 4,U O p,U O A,U O 0,U O 0,B0 C],U O r]) (by simp[results,Tryz.results22,go_sem,z0,E,F,G,H,I]) rfl ⟨rfl,?_⟩
 iterate 6 refine fJ ?_ (by simp) _
 exact u
structure ac2 (q:ByteArray->Bool) (f k:Nat) (R:Option Nat):Prop where
 out:wE q f k=R
def ap9(p:Nat)(b:Option Nat):B1:=match b with
 |some a=> B6 #[E2 #[U O (yB (bp iE a)),U O p,U O ((p:Int)+((bp iE a).size:Int)),U O 0,U O 0,B0 ⟨#[]⟩],U O (-1)]
 |none=> B6 #[E2 #[U O 0,U O p,U O 0,U O 0,U O 0,B0 ⟨#[]⟩],U O p]
theorem an0:∀k:Fin 30,(bp iE k.val).size<=3:=by decide
theorem DJ(s:ByteArray)(bx:s.size<=70000)(p:Nat)(a2:p<s.size)(I:¬aq s p=10)(af:ba (aq s p)=Ce)(L:bc (aq s p)=Ce)(J:¬aq s p=34)(w:A9):
  Ck A2 22 #[B0 s,U O p] w fun e w'=>e= A5 (ap9 p (wE (fun x=>B3 (s.extract p s.size).data.toList x.data.toList) 30 0))/\Br w.heap.size w w':=by
 have ao:=fun w=>db a2 w;have G:(aq s p==10)=Ce:=by rw[bH];exact I
 have H:(aq s p==34)=Ce:=by rw[bH];exact J
 have F:=fun w=>jF af w;have E:=fun w=>ed L w;have bA:(p:Int)<(s.size:Int):=by omega
 generalize aq s p=bh at ao G H F E;obtain⟨c,A⟩:∃c:ByteArray->Bool,(fun x=>B3 (s.extract p s.size).data.toList x.data.toList)=c:=⟨_,rfl⟩;have ak:∀x,c x=decide (p+x.size<=s.size/\((s.extract p (p+x.size)).toList==x.toList)=B7):=fun x=>by rw[<-A];exact akI s x p (by omega)
 rw[A];obtain⟨n,y⟩:=aA (wE c 30 0);rw[y];have q:ac2 c 30 0 n:=⟨y⟩;have ap:=aw ak;clear y A ak I af L J;go_in;go_wp2_with (first|(go_at_call 52;refine eH (F _) ?_)|(go_at_call 54;refine eH (E _) ?_));generalize K:(w.alloc _).alloc _=g;obtain⟨j,i,t, -⟩:=GI K;replace j:dE w.heap.size g 0 0 0 0 0 ⟨#[]⟩:=j;replace i:dE (w.heap.size+1) g 0 p 0 0 0 ⟨#[]⟩:=i;clear K;refine cJ (uy g) fun f l=>?_;have r:dE (w.heap.size+1) f 0 p 0 0 0 ⟨#[]⟩:=by rw[l];exact(cC _ _ _ (ai i)).trans i
 have z:dE w.heap.size f 0 0 0 0 0 ⟨#[]⟩:=by rw[l];exact(cC _ _ _ (ai j)).trans j
 have u:Br w.heap.size w f:=by rw[l];exact t.alloc t.size _
 have av:f.heap[g.heap.size]?=Y (B4 iE 9 (0,0)):=by rw[l];exact ay g _
 clear l i j t F E ao G H;go_wp2_with fail;obtain⟨b1,b2,b3,b4,b5,b6,b7⟩:=aJ r;obtain⟨z0,a9,bb,bd,be,bf,ca⟩:=aJ z;have am:w.heap.size<f.heap.size:=ai z;have an:w.heap.size+1<f.heap.size:=ai r;go_loop [45,9] (fun C _=>∃a:Nat,a<=30/\C= U O a/\ac2 c (30-a) a n) (fun C _=>30-(C4 C).toNat)
 case atStart=>exact⟨0,by omega,rfl,q⟩
 case round=>
  obtain⟨a,bw,rfl,m⟩:=hrel;by_cases ag:a<30
  ·have a0:f.cell? ⟨g.heap.size,a,Z⟩=Y (B0 (bp iE a)):=by rw[au _ _ _ _ _ _ av];exact aaj ⟨a,ag⟩
   have b:=m.out;rw[show 30-a=(30-(a+1))+1 by omega,wE,ap.out]at b;have al:=an0 ⟨a,ag⟩;simp only at al;obtain⟨x,B⟩:=aA (bp iE a);rw[B]at a0 b al;have ar:=aw B;clear B m q;by_cases ad:p+x.size<=s.size
   ·have a1:(x.size:Int)<=(s.size:Int)-(p:Int):=by omega
    have bt:(p:Int)+(x.size:Int)<=(s.size:Int):=by omega
    by_cases o:((s.extract p (p+x.size)).toList==x.toList)=B7
    ·rw[ab (bv ⟨ad,o⟩)]at b;have d:=aw b;clear b;go_wp2_with (go_at_call 57;refine(xn x _).mono ?_;rintro e b8 ⟨rfl,k⟩;obtain⟨bj,bk,bl,bn,bo,br,bs⟩:=aJ (r.below k an);obtain⟨a3,a4,a5,a6,a7,a8,b9⟩:=aJ (z.below k am);have bE:=gh am k.size;have b0:=gh an k.size);refine aI (v:= B6 #[E2 #[U O (yB x),U O p,U O ((p:Int)+(x.size:Int)),U O 0,U O 0,B0 ⟨#[]⟩],U O (-1)]) (by simp[results,Tryz.results22,go_sem,a3,a4,a5,a6,a7,a8]) rfl ⟨by rw[<-d.out];have h:=ar.out;subst h;rfl,?_⟩
     iterate 8 refine fJ ?_ (by simp) _
     exact u.trans (k.mono u.size)
    ·have bD:((s.extract p (p+x.size)).toList==x.toList)=Ce:=by simpa using o
     rw[aa (fun h=>o (aG h).2)]at b;have d:ac2 c (30-(a+1)) (a+1) n:=⟨b⟩;clear b o;go_wp2_with fail;go_round
     case rel=>exact⟨a+1,by omega,by go_num,d⟩
     case measure=>simp[C4];omega
   ·have a1:¬(x.size:Int)<=(s.size:Int)-(p:Int):=by omega
    rw[aa (fun h=>ad (aG h).1)]at b;have d:ac2 c (30-(a+1)) (a+1) n:=⟨b⟩;clear b;go_wp2_with fail;go_round
    case rel=>exact⟨a+1,by omega,by go_num,d⟩
    case measure=>simp[C4];omega
  ·obtain rfl:a=30:=by omega
   have d:=aw m.out;clear m q;go_wp2_with fail;refine aI (v:= B6 #[E2 #[U O 0,U O p,U O 0,U O 0,U O 0,B0 ⟨#[]⟩],U O (p:Int)]) (by simp[results,Tryz.results22,go_sem,z0,a9,bb,bd,be,bf]) rfl ⟨by rw[<-d.out];rfl,?_⟩
   iterate 6 refine fJ ?_ (by simp) _
   exact u
structure an1 (R:Rd) (k t n:Int) (x:ByteArray) (bad:Int):Prop where
 yes:R.ok=B7->bad= -1/\k=R.k/\t=(R.a:Int)/\n=R.n/\x=R.x/\R.d=(if R.k=7 then 1 else 0)
 no:R.ok=Ce->bad=(R.a:Int)
theorem amn(s:ByteArray)(p:Nat):(zH s p).1≠7:=by
 unfold zH;split
 ·simp only;omega
 ·simp
theorem amo(s:ByteArray)(p:Nat):(qz s p).1≠7:=by
 unfold qz;split
 ·simp
 ·split<;>simp
theorem DK(s:ByteArray)(o:s.size<=70000)(p:Nat)(d:p<s.size)(w:A9):
  Ck A2 22 #[B0 s,U O p] w fun e w'=>∃k t n x q,e= A5 (B6 #[E2 #[U O k,U O p,U O t,U O 0,U O n,B0 x],U O q])/\an1 (rdI s p) k t n x q/\Br w.heap.size w w':=by
 unfold rdI;by_cases i:ba (aq s p)=B7
 ·rw[ab i];refine cJ (A6 s (by omega) p d i w) fun w' b=>?_;rw[ap1];exact⟨_,_,_,_,_,rfl,⟨fun _=>⟨rfl,rfl,rfl,rfl,rfl,by simp only;rw[aa (amn s p)]⟩,fun a=>by cases a⟩,b⟩
 rw[aa i];by_cases h:bc (aq s p)=B7
 ·rw[ab h];refine cJ (xr s (by omega) p d h w) fun w' b=>?_;cases hok:(cK s p).2 with
  |true=>
   obtain⟨c,m⟩:=ane s p hok;rw[c,m,ab rfl];exact⟨_,_,_,_,_,rfl,⟨fun _=>⟨rfl,rfl,rfl,rfl,rfl,by simp only;rw[aa (amo s p)]⟩,fun a=>by cases a⟩,b⟩
  |false=>
   obtain⟨k,t,n,x,c⟩:=aci s p;rw[c,J3 s p hok,aa (by simp)];exact⟨_,_,_,_,_,rfl,⟨fun a=>by(try simp at a),fun a=>rfl⟩,b⟩
 rw[aa h];by_cases g:aq s p=34
 ·rw[ab g];refine cJ (DI s o p d g w) fun w' b=>?_;generalize dI s (s.size+1) (p+1) []=l;obtain⟨z,A,B⟩:=l;cases z with
  |true=>exact⟨_,_,_,_,_,rfl,⟨fun _=>⟨rfl,rfl,rfl,rfl,rfl,rfl⟩,fun a=>by cases a⟩,b⟩
  |false=>exact⟨_,_,_,_,_,rfl,⟨fun a=>(by cases a),fun a=>rfl⟩,b⟩
 rw[aa g];have r:aq (s.extract p s.size) 0=aq s p:=fi s p s.size 0 (ae _);by_cases f:aq s p=10
 ·have v:na (s.extract p s.size)=7:=by unfold na;rw[r,f];rfl
  rw[v,aa (by decide)];refine cJ (aex s o p d f w) fun w' b=>?_;exact⟨_,_,_,_,_,rfl,⟨fun _=>⟨rfl,rfl,rfl,rfl,rfl,rfl⟩,fun a=>by cases a⟩,b⟩
 ·have j:=Io (s.extract p s.size) (by rw[r];exact f);unfold DH at j;refine cJ (DJ s o p d f (by simpa using i) (by simpa using h) g w) fun w' b=>?_;generalize wE (fun x=>B3 (s.extract p s.size).data.toList x.data.toList) 30 0=l at j;cases l with
  |none=>
   rw[show na (s.extract p s.size)=0 from j,ab rfl];exact⟨_,_,_,_,_,rfl,⟨fun a=>(by cases a),fun a=>rfl⟩,b⟩
  |some y=>
   obtain⟨c,m,u,C⟩:=(show _/\_/\_/\_ from j);rw[aa u];refine⟨_,_,_,_,_,rfl,⟨fun _=>⟨rfl,c.symm,?_,rfl,rfl,rfl⟩,fun a=>by cases a⟩,b⟩;show(p:Int)+((bp iE y).size:Int)=((p+(dB (na (s.extract p s.size))).size:Nat):Int);rw[m];omega
structure an2 (s:ByteArray) (f k e:Nat):Prop where
 out:ic FA s f k=e
structure ac3 (s:ByteArray) (f k e:Nat):Prop where
 out:blk s f k=e
theorem mF(s:ByteArray)(ap:s.size<=1100000)(p:Nat)(ar:p<=s.size)(w:A9):Ck A2 21 #[B0 s,U O p] w fun e w'=>e= A5 (U O (blk s (s.size+1) p))/\w'=w:=by
 obtain⟨u,B⟩:=aA (blk s (s.size+1) p);rw[B];have ag:ac3 s (s.size+1) p u:=⟨B⟩;clear B;go_in;go_wp2_with fail;go_loop [1,5] (fun k a0=>∃(a d:Nat),a<=s.size/\s.size<a+d/\k= U O a/\ac3 s d a u) (fun k _=>s.size-(C4 k).toNat)
 case atStart=>exact⟨p,s.size+1,ar,by omega,rfl,ag⟩
 case round=>
  obtain⟨a,d,I,a1,rfl,q⟩:=hrel;obtain⟨d,rfl⟩:∃g,d=g+1:=⟨d-1,by omega⟩;have b:=q.out;rw[blk]at b;by_cases K:a<s.size
  ·have a5:(a:Int)<(s.size:Int):=by omega
   rw[aa (by omega)]at b;have r:=fun w=>db K w;have v:=jl K;by_cases i:gG (aq s a)=B7
   ·rw[ab i]at b;have f:ac3 s d (a+1) u:=⟨b⟩;have n:aq s a=32\/aq s a=9\/aq s a=13:=aG i;generalize aq s a=G at r n v;clear b q i;rcases n with rfl|rfl|rfl;all_goals
     go_wp2_with fail;go_round
     case rel=>exact⟨a+1,d,by omega,by omega,by go_num,f⟩
     case measure=>simp[C4];omega
   ·rw[aa i]at b;have n:¬(aq s a=32\/aq s a=9\/aq s a=13):=fun A=>i (bv A);have x:(aq s a==32)=Ce:=by rw[bH];omega
    have y:(aq s a==9)=Ce:=by rw[bH];omega
    have z:(aq s a==13)=Ce:=by rw[bH];omega
    have t:=fun w=>gK s ap ((a:Int)+1) (a+1) (by omega) w;have o:=uz s (a+1) 45;by_cases h:aq s a=45/\aq s (a+1)=45
    ·rw[ab h]at b;have f:ac3 s d (wC s a) u:=⟨b⟩;rw[h.2]at o;have J:lk s (a+1)=45:=by simpa using o
     have an:=rp s a h.1;have ao:=qk s a I;rw[h.1]at r;rw[J]at t;have E:an2 s (s.size+1) a (wC s a):=⟨rfl⟩;generalize wC s a=F at f an ao E;clear b q i n x y z o J h v;go_wp2_with (go_at_call 51;refine eH (t _) ?_);go_loop [1] (fun k=>∃(c g:Nat),c<=s.size/\s.size<c+g/\k= U O c/\an2 s g c F) (fun k=>s.size-(C4 k).toNat)
     case atStart=>exact⟨a,s.size+1,I,by omega,rfl,E⟩
     case round=>
      obtain⟨c,g,a3,a2,rfl,C⟩:=hrel;obtain⟨g,rfl⟩:∃av,g=av+1:=⟨g-1,by omega⟩;have b:=C.out;rw[ic]at b;clear r C;by_cases H:c<s.size
      ·have a4:(c:Int)<(s.size:Int):=by omega
       have ad:=fun w=>db H w;have af:=jl H;by_cases l:aq s c=10
       ·rw[aa (by rw[l];decide)]at b;rw[l]at ad;have j:=aw b;clear b l af;go_wp2_with fail;go_round
        case rel=>exact⟨c,d,by omega,by have:=j.out;omega,by go_num,by rw[j.out];exact f⟩
        case measure=>have:=j.out;simp[C4];omega
       ·rw[ab (by unfold FA;rw[iJ];exact⟨l,by omega⟩)]at b;have j:an2 s g (c+1) F:=⟨b⟩;have ak:(aq s c==10)=Ce:=by rw[bH];exact l
        generalize aq s c=G at ad ak;clear b l af;go_wp2_with fail;go_round
        case rel=>exact⟨c+1,g,by omega,by omega,by go_num,j⟩
        case measure=>simp[C4];omega
      ·obtain rfl:c=s.size:=by omega
       rw[aa (by rw[dl (Gz _)];decide)]at b;have j:=aw b;clear b;go_wp2_with fail;go_round
       case rel=>exact⟨s.size,d,by omega,by omega,by go_num,by rw[j.out];exact f⟩
       case measure=>simp[C4];omega
    ·rw[aa h]at b;have f:=aw b;clear b q;by_cases m:aq s a=45
     ·have L:aq s (a+1)≠45:=fun A=>h ⟨m,A⟩;rw[aD L]at o;rw[m]at r;generalize lk s (a+1)=a6 at t o;clear i n x y z h v L m;go_wp2_with (go_at_call 51;refine eH (t _) ?_);go_ret;exact⟨by rw[<-f.out];rfl,rfl⟩
     ·have al:(aq s a==45)=Ce:=by rw[bH];exact m
      have am:(aq s a !=45)=B7:=by rw[Ci];exact m
      generalize aq s a=G at r x y z al am;clear i n h v m t o;go_wp2_with fail;go_ret;exact⟨by rw[<-f.out];rfl,rfl⟩
  ·obtain rfl:a=s.size:=by omega
   rw[ab (ae _)]at b;have f:=aw b;clear b q;go_wp2_with fail;go_ret;exact⟨by rw[<-f.out];rfl,rfl⟩
def ur(s:ByteArray)(p:Nat):Int:=if bc (aq s p)=B7 then(if aq s p=48/\aq s (p+1)=120 then 2 else 3) else if aq s p=34 then 4 else 0
theorem ahc(s:ByteArray)(p:Nat)(h:(cK s p).2=Ce):∃(t n:Int) (x:ByteArray),BA s p= E2 #[U O (if aq s p=48/\aq s (p+1)=120 then 2 else 3),U O p,U O t,U O 0,U O n,B0 x]:=by
 unfold BA;unfold cK at h;by_cases a:aq s p=48/\aq s (p+1)=120
 ·rw[ab a]at h;rw[ab a,ab a];unfold hxA;rw[aa (by rw[h];simp)];exact⟨_,_,_,rfl⟩
 ·rw[aa a]at h;rw[aa a,aa a];unfold nmA;rw[aa (by rw[h];simp)];exact⟨_,_,_,rfl⟩
def oI(s:ByteArray)(p:Nat):Int:=if(rdI s p).ok=B7 then(rdI s p).k else ur s p
theorem ahd(V:Array B1)(s:ByteArray):∀(f k j:Nat),wg V s f k=Y j->j<k+f
 |0,k,j,h=>by simp[wg]at h
 |f+1,k,j,h=>by
  rw[wg]at h;split at h
  ·obtain rfl:=bu h;omega
  ·have:=ahd V s f (k+1) j h;omega
theorem KD(s:ByteArray)(p:Nat)(h:(rdI s p).ok=B7):1<=(rdI s p).k/\(rdI s p).k<=78:=by
 unfold rdI at h⊢;split
 ·simp only;unfold zH;cases hf:wg eu (s.extract p (mi s (s.size+1) p)) 22 0 with
  |none=>simp
  |some k=>have:=ahd _ _ _ _ _ hf;simp only;omega
 split
 ·split
  ·simp only;unfold qz;split
   ·simp
   ·split<;>simp
  ·rename_i a b c;rw[aa a,ab b,aa c]at h;cases h
 split
 ·split
  ·simp
  ·rename_i a b c d;rw[aa a,aa b,ab c,aa d]at h;cases h
 split
 ·rename_i a b c d;rw[aa a,aa b,aa c,ab d]at h;cases h
 ·rename_i a b c d;have:=af9 (s.extract p s.size);simp only;omega
theorem Ip(s:ByteArray)(p:Nat):0<=ur s p/\ur s p<=4:=by
 unfold ur;split
 ·split<;>omega
 ·split<;>omega
theorem abb(s:ByteArray)(q:s.size<=70000)(p:Nat)(k:p<s.size)(w:A9):
  Ck A2 22 #[B0 s,U O p] w fun e w'=>∃t n x o,e= A5 (B6 #[E2 #[U O (oI s p),U O p,U O t,U O 0,U O n,B0 x],U O o])/\an1 (rdI s p) (oI s p) t n x o/\Br w.heap.size w w':=by
 cases hok0:(rdI s p).ok with
 |true=>
  refine(DK s q p k w).mono ?_;rintro e w' ⟨L,t,n,x,o,rfl,a,f⟩;obtain⟨_,rfl,_⟩:=a.yes hok0;have e:oI s p=(rdI s p).k:=by unfold oI;rw[ab hok0]
  rw[e];exact⟨_,_,_,_,rfl,a,f⟩
 |false=>
  have B:oI s p=ur s p:=by unfold oI;rw[aa (by rw[hok0];simp)]
  rw[B];have b:=hok0;unfold rdI at b;have h:¬ba (aq s p)=B7:=fun a=>by rw[ab a]at b;cases b
  rw[aa h]at b;by_cases c:bc (aq s p)=B7
  ·rw[ab c]at b;have r:(cK s p).2=Ce:=by
    cases i:(cK s p).2 with
    |true=>rw[ab i]at b;cases b
    |false=>rfl
   refine cJ (xr s (by omega) p k c w) fun w' f=>?_;obtain⟨t,n,x,v⟩:=ahc s p r;have g:ur s p=(if aq s p=48/\aq s (p+1)=120 then 2 else 3):=by unfold ur;rw[ab c]
   rw[v,g,J3 s p r];refine⟨_,_,_,_,rfl,⟨fun a=>(by rw[hok0]at a;cases a),fun a=>?_⟩,f⟩;unfold rdI;rw[aa h,ab c,aa (by rw[r];simp)]
  ·rw[aa c]at b;by_cases d:aq s p=34
   ·have g:ur s p=4:=by unfold ur;rw[aa c,ab d]
    rw[g];refine cJ (DI s q p k d w) fun w' f=>?_;have l:(rdI s p).ok=(dI s (s.size+1) (p+1) []).1/\(rdI s p).a=(dI s (s.size+1) (p+1) []).2.1:=by
     unfold rdI;rw[aa h,aa c,ab d];cases i:(dI s (s.size+1) (p+1) []).1 with
     |true=>rw[ab rfl];exact⟨rfl,rfl⟩
     |false=>rw[aa (by simp)];exact⟨rfl,rfl⟩
    rw[hok0]at l;generalize J:dI s (s.size+1) (p+1) []=z at l;obtain⟨ad,H,I⟩:=z;simp only at l;obtain⟨E,F⟩:=l;subst E;refine⟨_,_,_,_,rfl,⟨fun a=>(by rw[hok0]at a;cases a),fun a=>?_⟩,f⟩;rw[F];rfl
   ·rw[aa d]at b;have g:ur s p=0:=by unfold ur;rw[aa c,aa d]
    rw[g];have m:na (s.extract p s.size)=0:=by
     by_cases i:na (s.extract p s.size)=0
     ·exact i
     ·rw[aa i]at b;cases b
    have y:aq (s.extract p s.size) 0=aq s p:=fi s p s.size 0 (ae _);have j:¬aq s p=10:=fun j=>by
     have G:na (s.extract p s.size)=7:=by unfold na;rw[y,j];rfl
     rw[G]at m;exact absurd m (by decide)
    have u:=Io (s.extract p s.size) (by rw[y];exact j);unfold DH at u;refine cJ (DJ s q p k j (by simpa using h) (by simpa using c) d w) fun w' f=>?_;generalize wE (fun x=>B3 (s.extract p s.size).data.toList x.data.toList) 30 0=A at u;cases A with
    |none=>
     refine⟨_,_,_,_,rfl,⟨fun a=>(by rw[hok0]at a;cases a),fun a=>?_⟩,f⟩;unfold rdI;rw[aa h,aa c,aa d,ab m]
    |some K=>
     obtain⟨v,_,C,_⟩:=(show _/\_/\_/\_ from u);exact absurd m C
def wF(st:List Int)(k:Int):List Int×Bool:=if 0<k then feedL st k else(st,Ce)
def ov(s:ByteArray):Nat->List Int->Nat->Int->List Tk->List Tk×List Int×Int
 |0,st,_,_,_=>([],st,0)
 |f+1,st,p,l,b=>
  if s.size<=p then(b++[⟨6,(s.size:Nat),(s.size:Nat),l,0,⟨#[]⟩⟩],st, -1)
  else if oI s p=7 then
   (if(feedL st 5).2=B7 then ov s f (feedL st 5).1 (blk s (s.size+1) (rdI s p).a) (l+1) (b++[⟨5,(p:Nat),((rdI s p).a:Nat),l,(rdI s p).n,(rdI s p).x⟩]) else ov s f st (blk s (s.size+1) (rdI s p).a) (l+1) b)
  else if(wF st (oI s p)).2=B7 then
   (if(rdI s p).ok=B7 then ov s f (feedL st (oI s p)).1 (blk s (s.size+1) (rdI s p).a) l (b++[⟨oI s p,(p:Nat),((rdI s p).a:Nat),l,(rdI s p).n,(rdI s p).x⟩]) else([],st,((rdI s p).a:Nat)))
  else([],st,(wrongF s p (pu st):Nat))
def gL(s:ByteArray):List Tk×List Int×Int:=ov s (s.size+1) [100,6] (blk s (s.size+1) 0) 1 []
structure arC (s:ByteArray) (f:Nat) (st:List Int) (p:Nat) (l:Int) (out:List Tk) (R:List Tk×List Int×Int):Prop where
 out:ov s f st p l out=R
theorem ahe(s:ByteArray)(p:Nat):0<=oI s p/\oI s p<=78:=by
 unfold oI;split
 ·rename_i a;have:=KD s p a;omega
 ·have:=Ip s p;omega
theorem KE(s:ByteArray)(p:Nat)(h:oI s p=7):(rdI s p).ok=B7/\(rdI s p).k=7:=by
 unfold oI at h;split at h
 ·rename_i a;exact⟨a,h⟩
 ·have:=Ip s p;omega
theorem akJ:(Tryz.prog.info? 49).map (fun i=>(i.zero,i.size,i.bytes))=Y (Y (E2 #[U O 0,U O 0,U O 0,U O 0,U O 0,B0 ⟨#[]⟩]),6,56):=by kernel_rfl
theorem KF{o:Obj}{size:Nat}(i:W.ownsRow base e size v n xs)(h:(W.alloc o).grownBy w5 v.ownBlock){t:C5}(b:W.heap[k]?=Y (B4 cs t fr))(j:t≠e):w5.heap[k]?=Y (B4 cs t fr):=by
 refine(h.block k (by simp;have:=ai b;omega) (fun f=>?_)).trans ((cC _ _ _ (ai b)).trans b);have a:v.ownBlock=Y k:=f.symm;rcases i.2 with⟨c,_⟩|⟨g,l,m,c,_,d,_⟩
 ·rw[c]at a;simp[C7]at a
 ·rw[c]at a;obtain rfl:g=k:=by simpa [C7] using a
  rw[b]at d;simp only[eA,jw]at d;exact j d.2.1
theorem uF.app{o:Obj}{mb:Nat}(h:uF W base mb C){d size:Nat}(c:W.ownsRow d e size v n xs)(b:(W.alloc o).grownBy w5 v.ownBlock)(j:60≠e)(k:134≠e):uF w5 base mb C:=by
 obtain⟨t,q,r,a⟩:=h.ex;refine⟨⟨t,KF c b q j,r,?_⟩,h.lo⟩;rcases a with a|⟨i,f,g,p,m,l,s⟩
 ·exact .inl a
 ·exact .inr ⟨i,f,g,p,m,KF c b l k,s⟩
theorem uF.other{mb:Nat}(h:uF W base mb C){t:C5}(s:W.heap[b]?=Y (B4 cs t fr))(q:t≠60)(r:t≠134)(j:Nat)(v:B1):uF (W.setCell ⟨b,j,Z⟩ v) base mb C:=by
 obtain⟨A,e,y,c⟩:=h.ex;have g:∀{f:Nat}{l:Array B1}{i:C5}{o:Nat×Nat},W.heap[f]?=Y (B4 l i o)->t≠i->f≠b:=fun a w n=>by
  subst n;rw[s]at a;simp only[eA,jw]at a;exact w a.2.1
 refine⟨⟨A,(aC _ _ _ _ (g e q)).trans e,y,?_⟩,h.lo⟩;rcases c with c|⟨p,k,m,x,u,d,z⟩
 ·exact .inl c
 ·exact .inr ⟨p,k,m,x,u,(aC _ _ _ _ (g d r)).trans d,z⟩
theorem DL{size:Nat}(h:W.ownsRow base e size v n xs)(a:∀g,v.ownBlock=Y g->g<b)(j:Nat)(u:B1):(W.setCell ⟨b,j,Z⟩ u).ownsRow base e size v n xs:=by
 refine h.kept (row:=Y b) ⟨rfl,rfl,rfl,by simp[Ft],fun f d c=>aC _ _ _ _ (fun e=>c (by rw[e]))⟩ ?_;cases hv:v.ownBlock with
 |none=>exact .inl rfl
 |some g=>exact .inr (fun e=>by have:=a g hv;obtain rfl:=bu e;omega)
structure KG (w:A9) (base mb:Nat) (s:ByteArray) (R:List Tk×List Int×Int) (p:Nat) (st:List Int) (top:Int) (C:List (Int×Int)) (l:Int) (out:List Tk) (f:Nat) (vo:B1) (W:A9):Prop where
 m:uF W base mb C
 sk:mH C top st
 o:Cn st
 bl:Br base w W
 row:W.ownsRow base 49 6 vo out.length (ul out)
 eq:ov s f st p l out=R
 cl:2<=C.length/\C.length<=2+20*p
 ol:out.length<=p
 l0:1<=l/\l<=(p:Int)+1
theorem KG.below{mb:Nat}{b:List Tk×List Int×Int}{p:Nat}{st:List Int}{e:Int}{l:Int}{d:List Tk}{f:Nat}{g:B1}{c:A9}(h:KG w base mb s b p st e C l d f g W)(a:Br W.heap.size W c)(i:base<=W.heap.size):KG w base mb s b p st e C l d f g c:=
 ⟨h.m.below a,h.sk,h.o,h.bl.trans (a.mono i),bJ h.row a,h.eq,h.cl,h.ol,h.l0⟩
def D0(w:A9)(base mb:Nat)(s:ByteArray)(a:List Tk×List Int×Int)(e:Ending)(b:A9):Prop:=
 ∃(c:Option Addr) (d:Nat) (f:Int) (C:List (Int×Int)),e= A5 (B6 #[Ax c a.1.length d,U O f,U O a.2.2])/\b.ownsRow base 49 6 (Ax c a.1.length d) a.1.length (ul a.1)/\uF b base mb C/\mH C f a.2.1/\Cn a.2.1/\Br base w b/\2<=C.length/\C.length<=2000000
theorem D1(w:A9)(base mb:Nat)(s:ByteArray)(h:uF w base mb [])(df:s.size<=70000):
  Ck A2 19 #[.pointer (Y ⟨mb,0,Z⟩),.string s] w (D0 w base mb s (gL s)):=by
 unfold gL;obtain⟨L,ct⟩:=aA (ov s (s.size+1) [100,6] (blk s (s.size+1) 0) 1 []);rw[ct];have fn:base<=w.heap.size:=by obtain⟨v,fa,_⟩:=h.ex;have:=ai fa;have:=h.lo;omega
 have ev:=aeb w base mb h;have cx:=fun w=>mF s (by omega) 0 (aF _) w;have eg:=jm s (s.size+1) 0 (aF _);obtain⟨ec,ef⟩:=aA (blk s (s.size+1) 0);rw[ef]at ct cx eg;rw[show(((0:Nat):Int))=0 from rfl]at cx;have ea:=aw ct;clear ct h ef;go_in;go_wp2_with fail;refine ev.mono ?_;rintro z w1 ⟨rfl,ew,fq,g⟩;clear ev;have eF:KG w base mb s L ec [100,6] 1 [(6, -1),(100,0)] 1 [] (s.size+1) (.slice Z 0 0) w1:=by
  refine⟨ew,⟨1,0,rfl,rfl,0, -1,rfl,rfl,rfl⟩,?_,g,cE _ _ _ _,ea,⟨by simp,by simp⟩,by simp,⟨by omega,by omega⟩⟩;intro i a5;simp at a5;omega
 have eb:=aw eF;clear eF ew fq g;go_wp2_with (go_at_call 21;refine eH (cx _) ?_);clear cx;obtain⟨dn,dq,ds,dx,d0⟩:=dD akJ;go_loopw [7,8,9,10] (fun f8 e1 f7 d7 wr=>∃(a:Nat) (f:List Int) (x:Int) (p:List (Int×Int)) (d:Int) (A:List Tk) (t:Nat),d7= .int .i64 a/\f7= .int .i64 d/\f8= .int .i64 x/\(∃e3 e5,∃fp:Nat,e1= .slice e3 fp e5)/\a<=s.size/\s.size<a+t/\C8 (KG w base mb s L a f x p d A t e1 wr)) (fun _ _ _ d7 _=>s.size+1-(C4 d7).toNat)
 case atStart=>exact⟨ec,_,1,_,1,[],s.size+1,rfl,rfl,rfl,⟨_,_,_,rfl⟩,eg.2,by omega,eb⟩
 case round=>
  obtain⟨a,f,x,p,d,A,t,rfl,rfl,rfl,⟨cF,c1,cb,rfl⟩,g4,g2,y⟩:=hrel;clear eb ea;obtain⟨t,rfl⟩:∃bb,t=bb+1:=⟨t-1,by omega⟩;obtain⟨gr,gs,e7⟩:=cj y.row;cases e7;have c:=y.eq;rw[ov]at c;have eh:=bg fn y.bl.size;have em:=y.ol;by_cases b0:a<s.size
  ·rw[aa (by omega)]at c;have fk:(a:Int)<(s.size:Int):=by omega
   have d2:=fun w=>abb s df a b0 w;have c5:=ahe s a;obtain⟨e,c4⟩:=aA (oI s a);rw[c4]at d2 c c5;have cq:=aw c4;obtain⟨cb,a3⟩:=aA A.length;have C:=aw a3;rw[a3]at em⊢;have bk:C8 ((if e=7 then(if(feedL f 5).2=B7 then ov s t (feedL f 5).1 (blk s (s.size+1) (rdI s a).a) (d+1) (A++[⟨5,(a:Nat),((rdI s a).a:Nat),d,(rdI s a).n,(rdI s a).x⟩]) else ov s t f (blk s (s.size+1) (rdI s a).a) (d+1) A)
    else if(wF f e).2=B7 then(if(rdI s a).ok=B7 then ov s t (feedL f e).1 (blk s (s.size+1) (rdI s a).a) d (A++[⟨e,(a:Nat),((rdI s a).a:Nat),d,(rdI s a).n,(rdI s a).x⟩]) else([],f,((rdI s a).a:Nat)))
    else([],f,(wrongF s a (pu f):Nat)))=L):=c
   clear c c4 a3;go_wp2_with fail;refine(d2 _).mono ?_;rintro z w1 ⟨l,k,i,ee,rfl,et,c7⟩;have cr:=y.below c7 eh;have fo:=c7.size;have ak:=aw et;clear d2 c7 y et;obtain⟨g,c8⟩:=aA w1.heap.size;go_upto_region 8 with fail
   have a0:dE g (w1.alloc (.cells #[.int .i64 e,.int .i64 a,.int .i64 l,.int .i64 d,.int .i64 k,.string i] 49)) e a l d k i:=by rw[<-c8];exact ay w1 _
   have b:C8 (KG w base mb s L a f x p d A (t+1) (.slice cF A.length c1) (w1.alloc (.cells #[.int .i64 e,.int .i64 a,.int .i64 l,.int .i64 d,.int .i64 k,.string i] 49))):=cr.below (bG w1 _) (by omega);have cw:∀bb,(Value.slice cF cb c1).ownBlock=Y bb->bb<g:=fun bb ff=>by
    have es:=cr.row;rw[C.out]at es;have:=(es.lt bb ff).2;omega
   have cu:g≠mb:=by
    obtain⟨d8,J,_⟩:=cr.m.ex;have:=ai J;omega
   have fm:(w1.alloc (.cells #[.int .i64 e,.int .i64 a,.int .i64 l,.int .i64 d,.int .i64 k,.string i] 49)).heap.size=g+1:=by rw[dr,c8]
   generalize w1.alloc (.cells #[.int .i64 e,.int .i64 a,.int .i64 l,.int .i64 d,.int .i64 k,.string i] 49)=cB at a0 b fm⊢;have g0:=b.cl.2;have g1:=b.cl.1;have gz:base<=g:=by omega
   have g3:=b.l0;obtain⟨f0,f1,f2,f3,f4,f5,f6⟩:=aJ a0;clear cr c8 fo eh;by_cases c3:e=7
   ·subst c3;obtain⟨dg,fg⟩:=KE s a cq.out;obtain⟨be,dd,a4,b2,a5,dc⟩:=ak.yes dg;clear dd dc;have af:=iA s a b0 dg;have c:=bk.out;rw[ab rfl,<-b2,<-a5]at c;obtain⟨B,bw⟩:=aA ((rdI s a).a);rw[bw]at c a4 af;subst be;have ao:=fun w=>mF s (by omega) B (by omega) w;have bd:=jm s (s.size+1) B (by omega);obtain⟨bn,bx⟩:=aA (blk s (s.size+1) B);rw[bx]at c ao bd;rw[<-a4]at ao c;have b5:=yG b.o (show(1:Int)<=5 by omega) (by omega);have m:=ze cB base mb p f x 5 b.m b.sk b.o (by omega) (by omega) (by omega);obtain⟨bo,bA⟩:=aA (feedL f 5);rw[bA]at m c b5;unfold uG at m;obtain⟨d5,b4⟩:=aA bo.2;rw[b4]at m c;have fb:a<B/\B<=s.size:=⟨af.1,af.2.1⟩;clear b2 a5 bA b4 dg fg af bw bx cq ak bk a4;go_wp2_with fail;refine m.mono ?_;rintro z n ⟨cc,D,rfl,H,ap,a2,q,G⟩;cases d5 with
    |false=>
     rw[aa (by simp)]at c;have bh:=aw c;have r:=q.blk a0 (by decide) cu;obtain⟨d8,J,_⟩:=b.m.ex;have row3:=q.row J b.row (by decide) (by decide);have e2:C8 (KG w base mb s L bn f x (p++D) (d+1) A t (.slice cF cb c1) n):=
      ⟨H,b.sk.app D,b.o,b.bl.trans G,by rw[<-C.out]at *;exact row3,bh,⟨by rw[aB];omega,by rw[aB];omega⟩,by rw[C.out];omega,⟨by omega,by omega⟩⟩
     obtain⟨ce,cf,cg,ch,ck,cn,cp⟩:=aJ r;clear m c a0 r row3 J H ap q G b f0 f1 f2 f3 f4 f5 f6;go_wp2_with (go_at_call 21;refine eH (ao _) ?_);exact⟨⟨bn,f,x,p++D,d+1,A,t,rfl,by go_num,rfl,⟨_,_,_,rfl⟩,bd.2,by omega,e2⟩,by simp[C4];omega⟩
    |true=>
     rw[ab rfl]at c;have bh:=aw c;clear c;have r:dE g n 7 a l d k i:=q.blk a0 (by decide) cu;obtain⟨d8,J,_⟩:=b.m.ex;have row3:=q.row J b.row (by decide) (by decide);rw[C.out]at row3;have bs:=b.bl.trans G;have F:dE g (n.setCell ⟨g,0,Z⟩ (.int .i64 5)) 5 a l d k i:=r.setKind 5;have b9:=H.other (j:=0) (v:= .int .i64 5) (show n.heap[g]?=Y (.cells _ _ _) from r) (by decide) (by decide);have a7:=DL (j:=0) (u:= .int .i64 5) row3 cw;have bt:Br base w (n.setCell ⟨g,0,Z⟩ (.int .i64 5)):=bs.setCell (by simp;omega) _;have bf:=dC ap a2;obtain⟨ce,cf,cg,ch,ck,cn,cp⟩:=aJ r;clear m r H row3 bs J ap a2 q G;go_upto_region 24 with fail
     generalize n.setCell ⟨g,0,Z⟩ (.int .i64 5)=a1 at F b9 a7 bt⊢;obtain⟨gb,gd,ge,gf,gm,gn,gp⟩:=aJ F;have E:=aw a7;have cy:=aw F;have da:g<a1.heap.size:=ai F;clear F a7 ce cf cg ch ck cn cp;go_wp2_with (first|(at_builtin;refine mw _ rfl _ _ 27 rfl base 49 dn _ 6 56 Tryz.underlying27 dq ds dx d0 rfl (by decide) _ _ _ rfl (E.alloc _) ⟨a1.heap.size,0,Z⟩ 1 1 [.int .i64 5,.int .i64 a,.int .i64 l,.int .i64 d,.int .i64 k,.string i] rfl rfl (C2 (cs:=#[.int .i64 5,.int .i64 a,.int .i64 l,.int .i64 d,.int .i64 k,.string i]) (fr:=(0,0)) (ay a1 _)) (by intro u an;simp at an;rcases an with rfl|rfl|rfl|rfl|rfl|rfl<;>rfl) (by unfold F0;omega) (by omega) (by simp;omega) ?_;intro e0 a8 al I el;obtain⟨c2,c0,rfl⟩:=Fs al;have cz:dE g a8 5 a l d k i:=(I.block g (by simp;omega) (fun z=>by have:=cw g z.symm;omega)).trans ((cC _ _ _ da).trans cy);obtain⟨fs,fu,fv,fz,fA,fB,fF⟩:=aJ cz)|(go_at_call 21;refine eH (ao _) ?_));have ca:=b9.app E I (by decide) (by decide);have br:Br base w a8:=(bt.alloc (by omega) _).grown I (by simp;omega) (fun b8 bE=>(E.out.lt b8 bE).1);refine⟨⟨bn,bo.1,cc,p++D,d+1,A++[⟨5,(a:Nat),l,d,k,i⟩],t,rfl,by go_num,rfl,⟨_,_,_,rfl⟩,bd.2,by omega,⟨ca,bf.1,?_,br,?_,?_,?_,?_,?_⟩⟩,by simp[C4];omega⟩
     ·exact b5
     ·rw[aB,C.out,qh];exact al
     ·exact bh
     ·have:=b.cl;have:=bf.2;rw[aB];omega
     ·rw[aB,C.out];simp;omega
     ·have:=b.l0;omega
   ·have c:=bk.out;rw[aa c3]at c;have gt:(e==7)=Ce:=beq_eq_false_iff_ne.2 c3;by_cases e8:e=0
    ·subst e8;rw[show wF f 0=(f,Ce) from rfl,aa (by simp)]at c;have ag:=aw c;clear c bk ak cq;obtain⟨ar,ad⟩:=aA (pu f);have fd:ar.length<=78:=by rw[<-ad];exact sx f 78
     have a6:=Hu cB base mb p f x b.m b.sk b.o (by omega) (by omega);rw[ad]at a6;have K:C8 ((([]:List Tk),f,((wrongF s a ar:Nat):Int))=L):=by rw[<-ad];exact ag
     clear ad;go_wp2_with fail;refine a6.mono ?_;rintro z d9 ⟨e4,e6,rfl,d6,d4,d1,cI⟩;have d3:=Bj d9 s a _ ar (pE d6) (by omega) df b0;clear a6;go_wp2_with (go_at_call 50;refine d3.mono ?_;rintro z f9 ⟨rfl,bD⟩);go_ret3
     refine⟨Z,0,x,p,?_,?_,d4.below bD,?_,?_,?_,?_,?_⟩
     ·rw[<-K.out];rfl
     ·rw[<-K.out];exact cE _ _ _ _
     ·rw[<-K.out];exact b.sk
     ·rw[<-K.out];exact b.o
     ·exact(b.bl.trans cI).trans (bD.mono (by have:=d1.size;first|omega|(have:=q.size;omega)))
     ·have:=b.cl;omega
     ·have:=b.cl;omega
    ·have fc:0<e:=by omega
     have ei:wF f e=feedL f e:=by unfold wF;rw[ab fc]
     rw[ei]at c;have b5:=yG b.o (show(1:Int)<=e by omega) c5.2;have m:=ze cB base mb p f x e b.m b.sk b.o (by omega) c5.2 (by omega);obtain⟨bo,bA⟩:=aA (feedL f e);rw[bA]at m c b5;unfold uG at m;obtain⟨d5,b4⟩:=aA bo.2;rw[b4]at m c;clear bA b4 ei bk cq;cases d5 with
     |false=>
      rw[aa (by simp)]at c;have ag:=aw c;clear c ak;go_wp2_with fail;refine m.mono ?_;rintro z n ⟨cc,D,rfl,H,ap,a2,q,G⟩;have r:dE g n e a l d k i:=q.blk a0 (by decide) cu;obtain⟨ce,cf,cg,ch,ck,cn,cp⟩:=aJ r;clear m;obtain⟨ar,ad⟩:=aA (pu f);have fd:ar.length<=78:=by rw[<-ad];exact sx f 78
      have a6:=Hu n base mb (p++D) f x H (b.sk.app D) b.o (by rw[aB];omega) (by rw[aB];omega);rw[ad]at a6;have K:C8 ((([]:List Tk),f,((wrongF s a ar:Nat):Int))=L):=by rw[<-ad];exact ag
      clear ad;go_wp2_with fail;refine a6.mono ?_;rintro z d9 ⟨e4,e6,rfl,d6,d4,d1,cI⟩;have d3:=Bj d9 s a _ ar (pE d6) (by omega) df b0;clear a6;go_wp2_with (go_at_call 50;refine d3.mono ?_;rintro z f9 ⟨rfl,bD⟩);go_ret3
      refine⟨Z,0,x,p++D,?_,?_,d4.below bD,?_,?_,?_,?_,?_⟩
      ·rw[<-K.out];rfl
      ·rw[<-K.out];exact cE _ _ _ _
      ·rw[<-K.out];exact(b.sk.app D)
      ·rw[<-K.out];exact b.o
      ·exact((b.bl.trans G).trans cI).trans (bD.mono (by have:=d1.size;first|omega|(have:=q.size;omega)))
      ·have:=b.cl;rw[aB];omega
      ·have:=b.cl;rw[aB];omega
     |true=>
      rw[ab rfl]at c;cases hokI:(rdI s a).ok with
      |false=>
       rw[hokI,aa (by simp)]at c;have be:=ak.no hokI;have gv:¬ee<0:=by omega
       have ag:C8 ((([]:List Tk),f,ee)=L):=by rw[be];exact c
       clear c ak be hokI;go_wp2_with fail;refine m.mono ?_;rintro z n ⟨cc,D,rfl,H,ap,a2,q,G⟩;clear m;go_wp2_with fail;go_ret3
       refine⟨Z,0,x,p++D,?_,?_,H,?_,?_,b.bl.trans G,?_,?_⟩
       ·rw[<-ag.out];rfl
       ·rw[<-ag.out];exact cE _ _ _ _
       ·rw[<-ag.out];exact b.sk.app D
       ·rw[<-ag.out];exact b.o
       ·rw[aB];omega
       ·rw[aB];omega
      |true=>
       rw[hokI,ab rfl]at c;obtain⟨be,dd,a4,b2,a5,dc⟩:=ak.yes hokI;clear dd dc;have af:=iA s a b0 hokI;rw[<-b2,<-a5]at c;obtain⟨B,bw⟩:=aA ((rdI s a).a);rw[bw]at c a4 af;subst be;have ao:=fun w=>mF s (by omega) B (by omega) w;have bd:=jm s (s.size+1) B (by omega);obtain⟨bn,bx⟩:=aA (blk s (s.size+1) B);rw[bx]at c ao bd;rw[<-a4]at ao c;have fb:a<B/\B<=s.size:=⟨af.1,af.2.1⟩;have bh:=aw c;clear c b2 a5 af bw bx ak a4 hokI;go_wp2_with fail;refine m.mono ?_;rintro z n ⟨cc,D,rfl,H,ap,a2,q,G⟩;have r:dE g n e a l d k i:=q.blk a0 (by decide) cu;obtain⟨d8,J,_⟩:=b.m.ex;have row3:=q.row J b.row (by decide) (by decide);rw[C.out]at row3;have bs:=b.bl.trans G;have F:dE g (n.setCell ⟨g,0,Z⟩ (.int .i64 e)) e a l d k i:=r.setKind e;have b9:=H.other (j:=0) (v:= .int .i64 e) (show n.heap[g]?=Y (.cells _ _ _) from r) (by decide) (by decide);have a7:=DL (j:=0) (u:= .int .i64 e) row3 cw;have bt:Br base w (n.setCell ⟨g,0,Z⟩ (.int .i64 e)):=bs.setCell (by simp;omega) _;have bf:=dC ap a2;obtain⟨ce,cf,cg,ch,ck,cn,cp⟩:=aJ r;clear m r H row3 bs J ap a2 q G;go_upto_region 24 with fail
       generalize n.setCell ⟨g,0,Z⟩ (.int .i64 e)=a1 at F b9 a7 bt⊢;obtain⟨gb,gd,ge,gf,gm,gn,gp⟩:=aJ F;have E:=aw a7;have cy:=aw F;have da:g<a1.heap.size:=ai F;clear F a7 ce cf cg ch ck cn cp;go_wp2_with (first|(at_builtin;refine mw _ rfl _ _ 27 rfl base 49 dn _ 6 56 Tryz.underlying27 dq ds dx d0 rfl (by decide) _ _ _ rfl (E.alloc _) ⟨a1.heap.size,0,Z⟩ 1 1 [.int .i64 e,.int .i64 a,.int .i64 l,.int .i64 d,.int .i64 k,.string i] rfl rfl (C2 (cs:=#[.int .i64 e,.int .i64 a,.int .i64 l,.int .i64 d,.int .i64 k,.string i]) (fr:=(0,0)) (ay a1 _)) (by intro u an;simp at an;rcases an with rfl|rfl|rfl|rfl|rfl|rfl<;>rfl) (by unfold F0;omega) (by omega) (by simp;omega) ?_;intro e0 a8 al I el;obtain⟨c2,c0,rfl⟩:=Fs al;have cz:dE g a8 e a l d k i:=(I.block g (by simp;omega) (fun z=>by have:=cw g z.symm;omega)).trans ((cC _ _ _ da).trans cy);obtain⟨fs,fu,fv,fz,fA,fB,fF⟩:=aJ cz)|(go_at_call 21;refine eH (ao _) ?_));have ca:=b9.app E I (by decide) (by decide);have br:Br base w a8:=(bt.alloc (by omega) _).grown I (by simp;omega) (fun b8 bE=>(E.out.lt b8 bE).1);refine⟨⟨bn,bo.1,cc,p++D,d,A++[⟨e,(a:Nat),l,d,k,i⟩],t,rfl,rfl,rfl,⟨_,_,_,rfl⟩,bd.2,by omega,⟨ca,bf.1,?_,br,?_,?_,?_,?_,?_⟩⟩,by simp[C4];omega⟩
       ·exact b5
       ·rw[aB,C.out,qh];exact al
       ·exact bh
       ·have:=b.cl;have:=bf.2;rw[aB];omega
       ·rw[aB,C.out];simp;omega
       ·have:=b.l0;omega
  ·rw[ab (by omega)]at c;have en:a=s.size:=by omega
   obtain⟨cb,a3⟩:=aA A.length;have C:=dC a3 en;have dk:=y.row;rw[a3]at em dk⊢;have E:=aw dk;have bj:=aw c;have fk:¬(a:Int)<(s.size:Int):=by omega
   clear c a3 dk en;go_wp2_with (at_builtin;refine mw _ rfl _ _ 27 rfl base 49 dn _ 6 56 Tryz.underlying27 dq ds dx d0 rfl (by decide) _ _ _ rfl (E.alloc _) ⟨wr.heap.size,0,Z⟩ 1 1 [.int .i64 6,.int .i64 s.size,.int .i64 s.size,.int .i64 d,.int .i64 0,.string ⟨#[]⟩] rfl rfl (C2 (cs:=#[.int .i64 6,.int .i64 s.size,.int .i64 s.size,.int .i64 d,.int .i64 0,.string ⟨#[]⟩]) (fr:=(0,0)) (ay wr _)) (by intro u an;simp at an;rcases an with rfl|rfl|rfl|rfl|rfl<;>rfl) (by unfold F0;omega) (by omega) (by simp;omega) ?_;intro e0 a8 al I el;obtain⟨c2,c0,rfl⟩:=Fs al);go_ret3
   have ca:=y.m.app E I (by decide) (by decide);have br:Br base w a8:=(y.bl.alloc (by omega) _).grown I (by simp;omega) (fun b8 bE=>(E.out.lt b8 bE).1);have ek:L.1.length=cb+1:=by rw[<-bj.out,aB,C.out.1];rfl
   refine⟨Y ⟨c2,0,Z⟩,c0,x,p,?_,?_,ca,?_,?_,br,y.cl.1,?_⟩
   ·rw[ek,<-bj.out];rfl
   ·rw[ek,<-bj.out,qh];exact al
   ·rw[<-bj.out];exact y.sk
   ·rw[<-bj.out];exact y.o
   ·have:=y.cl.2;omega
def ie(s:ByteArray):List Int:=if 65536<s.size then [] else if 0<=(gL s).2.2 then [] else pu (gL s).2.1
theorem aey(s:ByteArray):(ie s).length<=78:=by
 unfold ie;split
 ·simp
 split
 ·simp
 ·exact sx _ 78
theorem Iq(w:A9)(s:ByteArray)(af:s.size<=9223372036854775807):
  Ck A2 7 #[B0 s] w fun e w'=>∃a c,e= A5 (Ax a (ie s).length c)/\w'.ownsRow w.heap.size 3 1 (Ax a (ie s).length c) (ie s).length ((ie s).map (E1 O))/\Br w.heap.size w w':=by
 unfold ie;by_cases r:65536<s.size
 ·rw[ab r];have F:(65536:Int)<(s.size:Int):=by omega
  go_in;go_wp2_with fail;go_ret;exact⟨_,_,rfl,cE _ _ _ _,ah _ _⟩
 ·rw[aa r];have F:¬(65536:Int)<(s.size:Int):=by omega
  have z:uF (w.alloc (B4 #[Ax Z 0 0] 60)) w.heap.size w.heap.size []:=⟨⟨_,ay w _,cE _ _ _ _⟩,ae _⟩;have b:=D1 _ w.heap.size w.heap.size s z (by omega);have p:=bG w (B4 #[Ax Z 0 0] 60);obtain⟨d,u⟩:=aA (gL s);rw[u]at b⊢;have l:=aw p;unfold D0 at b;obtain⟨k,t⟩:=aA d.2.2;rw[t]at b⊢;obtain⟨al,v⟩:=aA d.1.length;rw[v]at b;obtain⟨o,f⟩:∃o,(if 0<=k then([]:List Int) else pu d.2.1)=o:=⟨_,rfl⟩;have n:=aw f;rw[f];clear u z p t v f;go_in;go_wp2_with fail;generalize w.alloc (B4 #[Ax Z 0 0] 60)=I at b l⊢;refine b.mono ?_;rintro e A ⟨a,c,H,B,rfl,x,h,j,i,C,L,ad⟩;have g:Br w.heap.size w A:=l.out.trans (C.mono (ae _));clear b;by_cases q:0<=k
  ·have e:=n.out;rw[ab q]at e;subst e;clear x h j i;go_wp2_with fail;go_ret;exact⟨_,_,rfl,cE _ _ _ _,g⟩
  ·have e:=n.out;rw[aa q]at e;have y:=Hu A w.heap.size w.heap.size B d.2.1 H h j i (by omega) (by omega);rw[e]at y;have m:=aw g;clear e x h j i g;go_wp2_with (go_at_call 20;refine y.mono ?_;rintro e an ⟨J,K,rfl,G,ak,ag,E⟩);go_ret;exact⟨_,_,rfl,mL G m.size,m.out.trans (E.mono (ae _))⟩
structure Bs where
 base:Nat
 cb:Nat
 bb:Nat
 a0:Option Addr
 len:Nat
 cap:Nat
 P:Int
 g:Nat
abbrev bV(a:Bs):B1:= Cr (Y ⟨a.bb,0,Z⟩)
abbrev cV(a:Bs):B1:= Cr (Y ⟨a.cb,0,Z⟩)
structure Kb (w w':A9):Prop where
 size:w.heap.size<=w'.heap.size
 block:∀k,k<w.heap.size->(∀cs t fr,w.heap[k]?=Y (.cells cs t fr)->t≠111/\t≠127/\t≠43)->w'.heap[k]?=w.heap[k]?
theorem Kb.refl(w:A9):Kb w w:=⟨ae _,fun _ _ _=>rfl⟩
theorem Kb.trans{x y z:A9}(h:Kb x y)(k:Kb y z):Kb x z:=
 ⟨bg h.size k.size,fun d c b=>by
  have a:=h.block d c b;exact(k.block d (gh c h.size) (fun e i f g=>b e i f (by rw[<-a];exact g))).trans a⟩
theorem Kb.of_below(h:Br w.heap.size w w'):Kb w w':=⟨h.size,fun b a _=>h.block b a⟩
theorem Kb.blk(h:Kb w w'){t:C5}(a:w.heap[k]?=Y (B4 cs t fr))(c:t≠111/\t≠127/\t≠43):w'.heap[k]?=Y (B4 cs t fr):=
 (h.block k (ai a) (fun d f e b=>by rw[a]at b;cases b;exact c)).trans a
theorem Kb.row(h:Kb w w'){size:Nat}(o:w.ownsRow base e size v n xs)(g:e≠111/\e≠127/\e≠43):w'.ownsRow base e size v n xs:=by
 obtain⟨f,a⟩:=o;refine⟨f,?_⟩;rcases a with a|⟨d,b,c,k,j,i,l⟩
 ·exact .inl a
 ·exact .inr ⟨d,b,c,k,j,h.blk i g,l⟩
theorem Kb.grown{t:C5}(a:w.grownBy w' (Y b))(e:w.heap[b]?=Y (B4 cs t fr))(g:t=111\/t=127\/t=43):Kb w w':=
 ⟨a.size,fun h f d=>a.block h f (fun c=>by cases c;have:=d _ _ _ e;rcases g with rfl|rfl|rfl<;>simp at this)⟩
structure Shr (s:ByteArray):Prop where
 sz:s.size<=16
 cs:Cs s 26
structure Lng (s:ByteArray):Prop where
 lo:20<=s.size
 hi:s.size<=4001
 dg:∀i,i<s.size->bc (aq s i)=B7
 b0:aq s 0=48
 b1:aq s 1=49
def Sml(s:ByteArray):Prop:=s.size<=19/\Cs (ey (cD s)) 106
def Txt(k:Int)(t:ByteArray):Prop:=(k≠25/\t.size<=19/\Cs t 90)\/(k=25/\(Sml t\/(Lng t/\t.size<=4000)))
theorem Txt.size{k:Int}{t:ByteArray}(h:Txt k t):t.size<=4000:=by
 rcases h with⟨_,h,_⟩|⟨_,h|⟨_,h⟩⟩
 ·omega
 ·have:=h.1;omega
 ·exact h
theorem qD{k:Int}(h:k≠25):Txt k ⟨#[]⟩:= .inl ⟨h,by decide,Dw.le (by decide)⟩
theorem ahf{k:Int}(h:k≠25)(a:Shr s):Txt k s:=by
 by_cases b:s.size<=19
 ·exact .inl ⟨h,b,a.cs.le (by decide)⟩
 ·have:=a.sz;omega
structure zI (N:Nd):Prop where
 nm:N.nm.length<=3
 ks:N.ks.length<=64
 x:Txt N.k N.x
 s:∀s∈N.nm,Shr s
 int:amg N
def bgN(N:Nd):Nat:=if 19<N.x.size then 1 else 0
def bigs(a:List Mb):Nat:=(a.map fun y=>bgN y.N).sum
theorem ahg(a:List Mb)(y:Mb):bigs (a++[y])=bigs a+bgN y.N:=by unfold bigs;simp
theorem ahh(h:N.x.size<=19):bgN N=0:=by unfold bgN;rw[aa (by omega)]
abbrev TO(t:C5):Prop:=t≠111/\t≠127/\t≠43
theorem KH:TO 9:=by decide
theorem toI:TO 3:=by decide
structure Rwx where
 t:C5
 v:B1
 xs:List B1
def bR(a:List Rwx):List Nat:=a.flatMap fun r=>r.v.ownBlock.toList
def bL(a:List Mb):List Nat:=a.flatMap fun y=>y.vn.ownBlock.toList++y.vk.ownBlock.toList
structure Bd (E:Bs) (W:A9) (L:List Mb) (l x:Int) (R:List Rwx):Prop where
 lo:E.base<=E.cb/\E.base<=E.bb
 hl:E.len<=1048576/\E.P<=100
 code:Code E.base W E.a0 E.len
 cur:∃p q r,fj E.cb W E.a0 E.len E.cap p q r/\0<=p/\p<=E.P+400*L.length+x/\0<=r/\r<=3/\(bigs L:Int)<=r
 row:∃v,W.heap[E.bb]?=Y (.cells #[cV E,v,.int .i64 l] 127 (0,0))/\W.ownsRow E.base 111 9 v L.length (oF L)
 each:∀y∈L,(W.ownsRow E.base 9 1 y.vn y.N.nm.length (y.N.nm.map C6)/\W.ownsRow E.base 3 1 y.vk y.N.ks.length (y.N.ks.map (E1 .i64)))/\zI y.N
 rows:∀r∈R,TO r.t/\W.ownsRow E.base r.t 1 r.v r.xs.length r.xs
 sep:(bR R++bL L).Nodup
theorem tNo{t:C5}(h:TO t):t≠111/\t≠127/\t≠43:=h
section
variable {E : Bs} {W W' : World} {L : List Mb} {l x y : Int} {R : List Rwx} {r : Rwx}
theorem Bd.lt(h:Bd E W L l x R):E.cb<W.heap.size/\E.bb<W.heap.size/\E.base<=W.heap.size/\E.cb≠E.bb:=by
 obtain⟨j,b,_⟩:=h.row;obtain⟨f,g,i,a,_⟩:=h.cur;have d:=ai b;have e:=a.lt;have:=h.lo;refine⟨e,d,by omega,fun c=>?_⟩;unfold fj at a;rw[c,b]at a;simp only[eA,jw]at a;exact absurd a.2.1 (by decide)
theorem Bd.wide(h:Bd E W L l x R)(i:x<=y:=by omega):Bd E W L l y R:=by
 obtain⟨d,e,f,a,b,g,c⟩:=h.cur;exact⟨h.lo,h.hl,h.code,⟨d,e,f,a,b,by omega,c⟩,h.row,h.each,h.rows,h.sep⟩
theorem Bd.below(h:Bd E W L l x R)(a:Br W.heap.size W W'):Bd E W' L l x R:=by
 have d:=h.lt;obtain⟨n,e,f⟩:=h.row;obtain⟨j,k,m,g,i⟩:=h.cur;exact⟨h.lo,h.hl,h.code.below (a.mono d.2.2.1),⟨j,k,m,g.below a d.1,i⟩,⟨n,(a.block _ d.2.1).trans e,bJ f a⟩,fun c b=>⟨⟨bJ (h.each c b).1.1 a,bJ (h.each c b).1.2 a⟩,(h.each c b).2⟩,fun c b=>⟨(h.rows c b).1,bJ (h.rows c b).2 a⟩,h.sep⟩
theorem Bd.ltR(h:Bd E W L l x R):∀b∈bR R++bL L,b<W.heap.size:=by
 intro b hb;rcases List.mem_append.1 hb with hb|hb
 ·obtain⟨c,a,e⟩:=List.mem_flatMap.1 hb;exact((h.rows c a).2.lt b (Option.mem_toList.1 e)).2
 ·obtain⟨c,a,e⟩:=List.mem_flatMap.1 hb;rcases List.mem_append.1 e with e|e
  ·exact((h.each c a).1.1.lt b (Option.mem_toList.1 e)).2
  ·exact((h.each c a).1.2.lt b (Option.mem_toList.1 e)).2
theorem Bd.went(h:Bd E W L l x R)(d:W.grownBy W' (Y E.cb)){p q r:Int}(v:fj E.cb W' E.a0 E.len E.cap p q r)(j:0<=p/\p<=E.P+400*L.length+y)(z:0<=r/\r<=3/\(bigs L:Int)<=r):Bd E W' L l y R/\Kb W W'/\Br E.base W W':=by
 have f:=h.lt;obtain⟨A,t,u⟩:=h.row;obtain⟨B,C,F,g,_⟩:=h.cur;have i:Br E.base W W':=oB d h.lo.1 f.2.2.1;have e:∀{c n k:Nat}{o:B1}{s:List B1},W.ownsRow E.base c n o k s->c≠43->W'.ownsRow E.base c n o k s:=fun m w=>m.kept d (.inr (ll m g (dz w)));exact⟨⟨h.lo,h.hl,h.code.below i,⟨p,q,r,v,j.1,j.2,z⟩,⟨A,(d.block _ f.2.1 (fun c=>f.2.2.2 (bu c).symm)).trans t,e u (by decide)⟩,fun b a=>⟨⟨e (h.each b a).1.1 (by decide),e (h.each b a).1.2 (by decide)⟩,(h.each b a).2⟩,fun b a=>⟨(h.rows b a).1,e (h.rows b a).2 (tNo (h.rows b a).1).2.2⟩,h.sep⟩,Kb.grown d g (.inr (.inr rfl)),i⟩
theorem Bd.hot{r':Rwx}(h:Bd E W L l x (r::R))(n:W.grownBy W' r.v.ownBlock)(o:TO r'.t)(af:W'.ownsRow E.base r'.t 1 r'.v r'.xs.length r'.xs)(J:∀b,r'.v.ownBlock=Y b->r.v.ownBlock=Y b\/W.heap.size<=b):Bd E W' L l x (r'::R)/\Br E.base W W':=by
 have K:=h.lt;obtain⟨v,G,z⟩:=h.row;obtain⟨ak,q,al,H,I⟩:=h.cur;have i:=h.rows r bB;have s:=tNo i.1;have d:Br E.base W W':=(ah _ W).grown n K.2.2.1 (fun j e=>(i.2.lt j e).1);have A:=h.sep;have w:bR (r::R)=r.v.ownBlock.toList++bR R:=rfl;rw[w,cH,od]at A;obtain⟨av,am,an⟩:=A;have m:∀b∈bR R++bL L,r.v.ownBlock≠Y b:=fun b d a=>an b (Option.mem_toList.2 a) b d rfl;have k:∀{a size p:Nat}{f:B1}{xs:List B1},W.ownsRow E.base a size f p xs->(∀b,f.ownBlock=Y b->r.v.ownBlock≠Y b)->W'.ownsRow E.base a size f p xs:=fun {a size p f xs} ag ad=>by
  refine ag.kept n ?_;cases hu:f.ownBlock with
  |none=>exact .inl rfl
  |some b=>exact .inr (fun a=>ad b hu a.symm)
 have B:∀{j:Nat}{u:Array B1}{t:C5}{y:Nat×Nat},W.heap[j]?=Y (B4 u t y)->t≠r.t->W'.heap[j]?=Y (B4 u t y):=fun e o=>(n.block _ (ai e) (fun a=>ll i.2 e o a.symm)).trans e;refine⟨⟨h.lo,h.hl,h.code.below d,⟨ak,q,al,B H (dz s.2.2),I⟩,⟨v,B G (dz s.2.1),k z (fun b a C=>?_)⟩,fun c hz=>⟨⟨k (h.each c hz).1.1 (fun b a=>m b (List.mem_append.2 (.inr (List.mem_flatMap.2 ⟨c,hz,List.mem_append.2 (.inl (Option.mem_toList.2 a))⟩)))),k (h.each c hz).1.2 (fun b a=>m b (List.mem_append.2 (.inr (List.mem_flatMap.2 ⟨c,hz,List.mem_append.2 (.inr (Option.mem_toList.2 a))⟩))))⟩,(h.each c hz).2⟩,fun c hz=>?_,?_⟩,d⟩
 ·rcases z.2 with⟨q,_⟩|⟨F,ap,ar,q,_,g,_⟩
  ·rw[q]at a;simp[C7]at a
  ·rw[q]at a;obtain rfl:F=b:=by simpa [C7] using a
   exact ll i.2 g (dz s.1) C
 ·rcases List.mem_cons.1 hz with rfl|hz
  ·exact⟨o,af⟩
  ·have:=h.rows c (cL _ hz);exact⟨this.1,k this.2 (fun b a=>m b (List.mem_append.2 (.inl (List.mem_flatMap.2 ⟨c,hz,Option.mem_toList.2 a⟩))))⟩
 ·show(r'.v.ownBlock.toList++bR R++bL L).Nodup;rw[cH,od];refine⟨?_,am,fun b d ao g a=>?_⟩
  ·cases r'.v.ownBlock<;>simp
  ·subst a;rcases J b (Option.mem_toList.1 d) with q|q
   ·exact m b g q
   ·have:=h.ltR b (by rw[w,cH];exact List.mem_append.2 (.inr g));omega
theorem Bd.new(h:Bd E W L l x R){t:C5}(j:TO t)(cs:Array B1)(r':Rwx)(f:r'.t=t)(i:(W.alloc (B4 cs t)).ownsRow E.base t 1 r'.v r'.xs.length r'.xs)(b:r'.v.ownBlock=Y W.heap.size):Bd E (W.alloc (B4 cs t)) L l x (r'::R):=by
 have a:=h.below (bG W (B4 cs t));refine⟨a.lo,a.hl,a.code,a.cur,a.row,a.each,fun k hz=>?_,?_⟩
 ·rcases List.mem_cons.1 hz with rfl|hz
  ·rw[f];exact⟨j,i⟩
  ·exact a.rows k hz
 ·show(r'.v.ownBlock.toList++bR R++bL L).Nodup;rw[cH,od];refine⟨by rw[b];simp,h.sep,fun d c e g m=>?_⟩;rw[b]at c;have:d=W.heap.size:=by simpa using c
  have:=h.ltR e g;omega
theorem Bd.nil(h:Bd E W L l x R){t:C5}(a:TO t):Bd E W L l x (⟨t,Ax Z 0 0,[]⟩::R):=
 ⟨h.lo,h.hl,h.code,h.cur,h.row,h.each,fun b hz=>by
  rcases List.mem_cons.1 hz with rfl|hz
  ·exact⟨a,cE _ _ _ _⟩
  ·exact h.rows b hz,h.sep⟩
theorem Bd.drop(h:Bd E W L l x (r::R)):Bd E W L l x R:=by
 have a:=h.sep;have b:bR (r::R)=r.v.ownBlock.toList++bR R:=rfl;rw[b,cH,od]at a;exact⟨h.lo,h.hl,h.code,h.cur,h.row,h.each,fun d c=>h.rows d (cL _ c),a.2.1⟩
theorem Bd.swap{a:Rwx}(h:Bd E W L l x (r::a::R)):Bd E W L l x (a::r::R):=by
 refine⟨h.lo,h.hl,h.code,h.cur,h.row,h.each,fun e hz=>h.rows e ?_,?_⟩
 ·simp only[pd]at hz⊢;rcases hz with hz|hz|hz<;>simp[hz]
 ·have b:=h.sep;have c:bR (r::a::R)=r.v.ownBlock.toList++(a.v.ownBlock.toList++bR R):=rfl;have d:bR (a::r::R)=a.v.ownBlock.toList++(r.v.ownBlock.toList++bR R):=rfl;rw[c]at b;rw[d];refine List.Perm.nodup_iff ?_ |>.1 b
  rw[<-cH,<-cH (a.v.ownBlock.toList)];exact(List.perm_append_comm.append_right _).append_right _
theorem Bd.c0(h:Bd E W L l x R):W.cell? ⟨E.bb,0,Z⟩=Y (cV E):=by
 obtain⟨c,a,b⟩:=h.row;rw[au _ _ _ _ _ _ a];rfl
theorem Bd.c2(h:Bd E W L l x R):W.cell? ⟨E.bb,2,Z⟩=Y (U O l):=by
 obtain⟨c,a,b⟩:=h.row;rw[au _ _ _ _ _ _ a];rfl
def Bg(a:Bs)(W:A9)(b:List Mb)(n:Nat):Prop:=∀c d r,fj a.cb W a.a0 a.len a.cap c d r->((bigs b+n:Nat):Int)<=r/\0<=r/\r<=3
theorem Bd.bg0(h:Bd E W L l x R):Bg E W L 0:=fun d f i a=>by
 obtain⟨e,g,j,c,_,_,b⟩:=h.cur;unfold fj at c a;rw[c]at a;simp at a;obtain⟨_,_,rfl⟩:=a;exact⟨b.2.2,b.1,b.2.1⟩
theorem Bg.of_heap(h:Bg E W L n)(b:W'.heap[E.cb]?=W.heap[E.cb]?):Bg E W' L n:=fun c d e a=>h c d e (b.symm.trans a)
theorem ru(h:Bd E W L l x R)(k:Int)(f:2<=k)(g:k<=200)(q:L.length<=25000)(r:x<=20000000:=by omega):
  Ck A2 13 #[cV E,U O k] W fun e w'=>∃z:Int,0<=z/\z<k/\e= A5 (U O z)/\Bd E w' L l (x+1) R/\Kb W w'/\Br E.base W w':=by
 obtain⟨j,n,o,a,m,s,i⟩:=h.cur;have:=h.hl;refine(CC k f g E.cb E.base W E.a0 E.len E.cap j n o a h.code m (by omega) this.1).mono ?_;rintro e w' ⟨z,z0,p,c,t,b,d⟩;exact⟨z,z0,p,c,h.went d b (by omega) i⟩
theorem aqa(h:Bd E W L l x R)(m:Bg E W L n)(k:Int)(q:2<=k)(r:k<=200)(w:L.length<=25000)(A:x<=20000000):
  Ck A2 13 #[cV E,U O k] W fun e w'=>∃z:Int,0<=z/\z<k/\e= A5 (U O z)/\Bd E w' L l (x+1) R/\Bg E w' L n/\Br E.base W w':=by
 obtain⟨d,f,g,c,u,B,s⟩:=h.cur;have:=h.hl;have t:=m d f g c;refine(CC k q r E.cb E.base W E.a0 E.len E.cap d f g c h.code u (by omega) this.1).mono ?_;rintro e w' ⟨z,z0,v,o,C,b,p⟩;obtain⟨i,_,j⟩:=h.went (y:=x+1) p b (by omega) s;refine⟨z,z0,v,o,i,fun p2 F G a=>?_,j⟩;unfold fj at b a;rw[b]at a;simp at a;obtain⟨_,_,rfl⟩:=a;exact t
end
section
variable {E : Bs} {W : World} {L : List Mb} {l x : Int} {R : List Rwx}
theorem Bd.less(h:Bd E W L l x R)(c:Int):Bd E (W.setCell ⟨E.bb,2,Z⟩ (U O c)) L c x R/\Br E.base W (W.setCell ⟨E.bb,2,Z⟩ (U O c)):=by
 have s:=h.lt;obtain⟨w,f,o⟩:=h.row;obtain⟨t,u,v,p,q⟩:=h.cur;have g:Br E.base W (W.setCell ⟨E.bb,2,Z⟩ (U O c)):=(ah _ W).setCell h.lo.2 _;have d:∀{e k i:Nat}{m:B1}{n:List B1},W.ownsRow E.base e k m i n->e≠127->(W.setCell ⟨E.bb,2,Z⟩ (U O c)).ownsRow E.base e k m i n:=fun j r=>Hf j (ll j f (dz r)) 2 _;exact⟨⟨h.lo,h.hl,h.code.below g,⟨t,u,v,(aC _ _ _ _ s.2.2.2).trans p,q⟩,⟨w,aL _ E.bb 2 _ _ _ f,d o (by decide)⟩,fun b a=>⟨⟨d (h.each b a).1.1 (by decide),d (h.each b a).1.2 (by decide)⟩,(h.each b a).2⟩,fun b a=>⟨(h.rows b a).1,d (h.rows b a).2 (tNo (h.rows b a).1).2.1⟩,h.sep⟩,g⟩
theorem Bd.push(h:Bd E W L l x (⟨9,vn,N.nm.map C6⟩::⟨3,vk,N.ks.map (E1 O)⟩::R))(C:W.heap[E.bb]?=Y (B4 #[cV E,v,U O l] 127 (0,0))){g r b:Nat}(av:L.length+1=r)(H:w5.ownsRow E.base 111 9 (Ax (Y ⟨g,0,Z⟩) r b) r (oF (L++[⟨N,vn,vk⟩])))(j:W.grownBy w5 v.ownBlock)(m:zI N)(ap:Bg E W L (bgN N)):
  Bd E (w5.setCell ⟨E.bb,1,Z⟩ (Ax (Y ⟨g,0,Z⟩) r b)) (L++[⟨N,vn,vk⟩]) l (x-400) R/\Br E.base W (w5.setCell ⟨E.bb,1,Z⟩ (Ax (Y ⟨g,0,Z⟩) r b))/\w5.heap[E.bb]?=Y (B4 #[cV E,v,U O l] 127 (0,0)):=by
 subst av;obtain⟨a5,k,y⟩:=h.row;obtain rfl:a5=v:=by rw[k]at C;cases C;rfl
 obtain⟨o,d,r,i,an,a7,z⟩:=h.cur;have ao:=ap o d r i;have B:=h.lt;have n:∀{a:Nat}{u:Array B1}{s:C5}{w:Nat×Nat},W.heap[a]?=Y (B4 u s w)->s≠111->w5.heap[a]?=Y (B4 u s w):=fun c a0=>(j.block _ (ai c) (fun e=>ll y c a0 e.symm)).trans c;have p:=n k (by decide);have a4:∀a,a≠E.bb->(w5.setCell ⟨E.bb,1,Z⟩ (Ax (Y ⟨g,0,Z⟩) (L.length+1) b)).heap[a]?=w5.heap[a]?:=fun a c=>aC _ _ _ _ c;have f:∀{base e K G:Nat}{ad:B1}{af:List B1},W.ownsRow base e K ad G af->e≠111->e≠127->(w5.setCell ⟨E.bb,1,Z⟩ (Ax (Y ⟨g,0,Z⟩) (L.length+1) b)).ownsRow base e K ad G af:=fun J am i=>by
  refine Hf ?_ ?_ 1 _
  ·obtain⟨a2,q⟩:=J;refine⟨a2,?_⟩;rcases q with q|⟨g,b,ag,a1,j,ar,a3⟩
   ·exact .inl q
   ·exact .inr ⟨g,b,ag,a1,j,n ar am,a3⟩
  ·exact ll J k (dz i)
 have A:Br E.base W (w5.setCell ⟨E.bb,1,Z⟩ (Ax (Y ⟨g,0,Z⟩) (L.length+1) b)):=((ah _ W).grown j B.2.2.1 (fun a c=>(y.lt a c).1)).setCell h.lo.2 _;have on:=(h.rows _ bB).2;have I:=(h.rows _ (cL _ bB)).2;simp only[cA]at on I;refine⟨⟨h.lo,h.hl,h.code.below A,⟨o,d,r,(a4 _ B.2.2.2).trans (n i (by decide)),an,?_,z.1,z.2.1,by rw[ahg];exact ao.1⟩,⟨_,aL _ E.bb 1 _ _ _ p,?_⟩,fun t hy=>?_,fun a6 m=>?_,?_⟩,A,p⟩
 ·rw[aB];show o<=E.P+400*((L.length+1:Nat):Int)+(x-400);omega
 ·rw[aB];exact Hf H (ll H p (by decide)) 1 _
 ·rcases List.mem_append.1 hy with hy|hy
  ·exact⟨⟨f (h.each t hy).1.1 (by decide) (by decide),f (h.each t hy).1.2 (by decide) (by decide)⟩,(h.each t hy).2⟩
  ·obtain rfl:=List.mem_singleton.1 hy;exact⟨⟨f on (by decide) (by decide),f I (by decide) (by decide)⟩,m⟩
 ·have d:=h.rows a6 (cL _ (cL _ m));exact⟨d.1,f d.2 (tNo d.1).1 (tNo d.1).2.1⟩
 ·have F:=h.sep;have ak:bR (⟨9,vn,N.nm.map C6⟩::⟨3,vk,N.ks.map (E1 O)⟩::R)++bL L=(vn.ownBlock.toList++vk.ownBlock.toList)++(bR R++bL L):=by unfold bR;simp[qH]
  have al:bR R++bL (L++[⟨N,vn,vk⟩])=(bR R++bL L)++(vn.ownBlock.toList++vk.ownBlock.toList):=by unfold bL;simp[vF]
  rw[ak]at F;rw[al];exact List.perm_append_comm.nodup_iff.1 F
theorem aqb{an:Option Addr}{mn cn mk:Nat}(h:Bd E W L l x (⟨9,.slice an mn cn,N.nm.map C6⟩::⟨3,.slice ak mk ck,N.ks.map (E1 .i64)⟩::R))(cg: -100000<=l/\l<=100000)(bE:zI N)(bD:L.length<=25000)(bh:Bg E W L (bgN N)):
  Ck A2 102 #[bV E,.agg (yK N (.slice an mn cn) (.slice ak mk ck))] W fun e w'=>e= .returned (.int .i64 (L.length:Nat))/\Bd E w' (L++[⟨N,.slice an mn cn,.slice ak mk ck⟩]) (l-1) (x-400) R/\Br E.base W w':=by
 obtain⟨c,ar⟩:=aA L.length;rw[ar]at bD⊢;have bk:=h.lt;have ao:=bG W (.cells (yK N (.slice an mn cn) (.slice ak mk ck)) 111);have bt:=(h.below ao).c2;have bx:(W.alloc (.cells (yK N (.slice an mn cn) (.slice ak mk ck)) 111)).frozen? ⟨E.bb,2,Z⟩=Ce:=by
  obtain⟨v,p,H⟩:=(h.below ao).row;exact bI _ _ _ _ _ p
 clear ao;go_in;go_wp21
 obtain⟨af,am⟩:=aA (W.setCell ⟨E.bb,2,Z⟩ (.int .i64 (l-1)));have I:=h.less (l-1);have a0:(W.setCell ⟨E.bb,2,Z⟩ (.int .i64 (l-1))).heap.size=W.heap.size:=by simp[Ft]
 obtain⟨a4,a9,bd⟩:=h.row;have K:(W.setCell ⟨E.bb,2,Z⟩ (.int .i64 (l-1))).heap[E.bb]?=Y (.cells #[cV E,a4,.int .i64 (l-1)] 127 (0,0)):=aL W E.bb 2 _ _ _ a9;have a3:=aC W ⟨E.bb,2,Z⟩ E.cb (.int .i64 (l-1)) bk.2.2.2;rw[am]at I a0 K a3;rw[am];have u:=bG af (.cells (yK N (.slice an mn cn) (.slice ak mk ck)) 111);have j:=ay af (.cells (yK N (.slice an mn cn) (.slice ak mk ck)) 111);have a6:=aw (bh.of_heap ((u.block E.cb (by have:=bk.1;omega)).trans a3));clear bh;obtain⟨a,J⟩:=aA (af.alloc (.cells (yK N (.slice an mn cn) (.slice ak mk ck)) 111));have o:C8 (Bd E a L (l-1) x (⟨9,.slice an mn cn,N.nm.map C6⟩::⟨3,.slice ak mk ck,N.ks.map (E1 .i64)⟩::R)/\Br E.base W a/\a.heap[W.heap.size]?=Y (.cells (yK N (.slice an mn cn) (.slice ak mk ck)) 111 (0,0))/\a.heap.size=W.heap.size+1):=by
  rw[J]at u j;rw[a0]at j;exact⟨I.1.below u,I.2.trans (u.mono (by omega)),j,by rw[<-J];simp[a0]⟩
 have F:=(u.block _ (ai K)).trans K;rw[J]at F a6⊢;clear J am I u j K bt bx a3;have bo:a4.ownBlock≠Y W.heap.size:=fun e=>by have:=(bd.lt _ e).2;omega
 obtain⟨v,p,H⟩:=o.1.row;obtain rfl:a4=v:=by
  rw[p]at F;simp at F;exact F.symm
 obtain⟨y,z,rfl⟩:=cj H;have a8:a.cell? ⟨E.bb,1,Z⟩=Y (.slice y L.length z):=by rw[au _ _ _ _ _ _ p];rfl
 rw[ar]at a8 p H bo;clear a9 bd F;have j:=o.2.2.1;refine wp_region_held_drew (S:=fun ad=>ad.heap[W.heap.size]?=Y (.cells (yK N (.slice an mn cn) (.slice ak mk ck)) 111 (0,0))) (by kernel_rfl) j (fun hS=>?_);simp only[iI,bi,dH,Nat.reduceAdd,iu,kF,kG,ep,eC];refine dh 0 (.pointer (Y ⟨E.bb,0,Z⟩)) rfl rfl (by kernel_rfl) (fun _ _ _=>id) hS (fun w' w=>by go_simp) ?_;simp only[List.set];refine dh 1 (.pointer (Y ⟨E.bb,0,Z⟩)) rfl rfl (by kernel_rfl) (fun _ _ _=>id) hS (fun w' w=>by go_simp) ?_;simp only[List.set];refine dh 2 (.pointer (Y ⟨E.bb,0,Z⟩)) rfl rfl (by kernel_rfl) (fun _ _ _=>id) hS (fun w' w=>by go_simp) ?_;simp only[List.set];refine dh 3 (.pointer (Y ⟨E.bb,1,Z⟩)) rfl rfl (by kernel_rfl) (fun _ _ _=>id) hS (fun w' w=>by go_simp) ?_;simp only[List.set];refine af2 5 17 (.agg #[.int .i64 N.k,.int .i64 N.f,.int .i64 N.t,.int .i64 N.l,.int .i64 N.op,.int .i64 N.n,.string N.x,.slice an mn cn,.slice ak mk ck]) rfl rfl (by kernel_rfl) (by kernel_rfl) (by kernel_rfl) (fun _ _ _ h=>h) (by rfl) hS (fun w' w=>by obtain⟨z0,cp,cq,cr,cs,G,bs,ct,cu,cw⟩:=ci (N:=N) (vn:= .slice an mn cn) (vk:= .slice ak mk ck) w;go_simp) ?_;simp only[Act.put,dv,dw,dy];have bf:=a8;refine wj (S:=fun ad=>ad.cell? ⟨E.bb,1,Z⟩=Y (.slice y c z)) (C:=fun B=>!(B==7||B==8||B==9||B==10)) (i:=4) (v:= .slice y c z) rfl (BL (by kernel_rfl)) (fun _ _ _ h=>h) ?hC _ _ _ _ (B2 rfl (by kernel_rfl)) (List.contains_iff_mem.1 (by kernel_rfl)) (Or.inl ⟨by rfl,fun w' w=>by go_simp⟩) hS bf ?_
 case hC=>
  intro B cl bj d;simp only[Bool.not_eq_false',B5,jk]at d;rcases d with((rfl|rfl)|rfl)|rfl
  ·obtain rfl:=bu bj;exact⟨{on:=4,ground:=Ground.data},by simp,rfl,rfl⟩
  all_goals
   obtain rfl:=bu bj;exact⟨{on:=4,ground:=Ground.phase},by simp,rfl,rfl⟩
 simp only[Act.put,dv,dw,dy];refine eJ (i:=6) (by kernel_rfl) rfl (fun g b=>?_);go_simp;have al:Br a.heap.size a (a.drew.alloc (.cells (yK N (.slice an mn cn) (.slice ak mk ck)) 111)):=(dJ (ah _ _)).alloc (by simp) _;refine b _ _ ((al.block _ (ai j)).trans j) (fun _=>aj al bf) ?_;clear b g;try simp only[dv,dw,dy]
 obtain⟨ag,A⟩:=aA ((a.alloc (.cells (yK N (.slice an mn cn) (.slice ak mk ck)) 111)).drew);have m:Br a.heap.size a ag:=by rw[<-A];exact dJ (bG a _)
 have b2:ag.heap[a.heap.size]?=Y (.cells (yK N (.slice an mn cn) (.slice ak mk ck)) 111 (0,0)):=by rw[<-A];exact ay a _
 simp only[yK]at A;rw[A];clear A al hS;have ca:=o.1.below m;have b9:=(m.block _ (ai p)).trans p;have bA:=bJ H m;have bl:=o.1.lt;have b1:=o.2.2.2;obtain⟨b3,b4,b5,b7,b8⟩:=dD Hg;refine eJ (i:=7) (by kernel_rfl) rfl (fun g b=>?_);refine step_append_lies _ (by rfl) _ _ 32 (by rfl) E.base 111 b3 _ 9 112 Tryz.underlying32 b4 b5 b7 b8 rfl (by decide) (.slice y c z) c _ (by rfl) bA ⟨a.heap.size,0,Z⟩ 1 1 (yK N (.slice an mn cn) (.slice ak mk ck)).toList (by rw[b1];rfl) rfl (C2 b2) (by intro cm bn;simp at bn;rcases bn with rfl|rfl|rfl|rfl|rfl|rfl|rfl|rfl|rfl<;>rfl) (by decide) (by unfold F0;omega) (by omega) (bg bl.2.2.1 m.size) ag.heap.size rfl ?_;intro s r q a1 ap b0 ch;have be:oF L++(yK N (.slice an mn cn) (.slice ak mk ck)).toList=oF (L++[⟨N,.slice an mn cn,.slice ak mk ck⟩]):=by rw[C9];show _=oF L++(cMb _++[]);rw[eo];rfl
 rw[be]at a1;obtain⟨br,a7,a2⟩:=ca.push b9 (by rw[ar]) a1 ap bE (a6.of_heap (m.block _ o.1.lt.1));have G:=(ap.block _ (by have:=m.size;omega) (fun e=>bo e.symm)).trans ((m.block _ (by omega)).trans j);have bs:(q.setCell ⟨E.bb,1,Z⟩ (.slice (Y ⟨s,0,Z⟩) (c+1) r)).heap[W.heap.size]?=Y (.cells (yK N (.slice an mn cn) (.slice ak mk ck)) 111 (0,0)):=(aC _ _ _ _ (by show W.heap.size≠E.bb;omega)).trans G;have ce:q.cell? ⟨E.bb,1,Z⟩=Y (.slice y c z):=by rw[au _ _ _ _ _ _ a2];rfl
 have cf:q.frozen? ⟨E.bb,1,Z⟩=Ce:=bI _ _ _ _ _ a2;have a5:C8 (Bd E (q.setCell ⟨E.bb,1,Z⟩ (.slice (Y ⟨s,0,Z⟩) (c+1) r)) (L++[⟨N,.slice an mn cn,.slice ak mk ck⟩]) (l-1) (x-400) R/\Br E.base W (q.setCell ⟨E.bb,1,Z⟩ (.slice (Y ⟨s,0,Z⟩) (c+1) r))):=
  ⟨br,(o.2.1.trans (m.mono bl.2.2.1)).trans a7⟩
 clear br a7 be a1 ap b0;refine b _ _ G (fun d=>by cases d) ?_;clear b g;simp only[Act.put,dv,dw,dy];refine eJ (i:=8) (by kernel_rfl) rfl (fun g b=>?_);go_simp;refine b _ _ G (fun d=>by cases d) ?_;clear b g;try simp only[dv,dw,dy]
 refine eJ (i:=9) (by kernel_rfl) rfl (fun g b=>?_);go_simp;refine b _ _ G (fun d=>by cases d) ?_;clear b g;try simp only[dv,dw,dy]
 refine eJ (i:=10) (by kernel_rfl) rfl (fun g b=>?_);go_simp;refine b _ _ bs (fun d=>by cases d) ?_;clear b g;refine yJ (by kernel_rfl) ?_ _;have bw:(q.setCell ⟨E.bb,1,Z⟩ (.slice (Y ⟨s,0,Z⟩) (c+1) r)).cell? ⟨E.bb,1,Z⟩=Y (.slice (Y ⟨s,0,Z⟩) (c+1) r):=by rw[au _ _ _ _ _ _ (aL _ E.bb 1 _ _ _ a2)];rfl
 generalize q.setCell ⟨E.bb,1,Z⟩ (.slice (Y ⟨s,0,Z⟩) (c+1) r)=cc at a5 bw⊢;go_wp21
 go_ret;exact⟨by go_num,a5⟩
end
structure Cu (E:Bs) (W:A9) (y:Int):Prop where
 lo:E.base<=E.cb/\E.base<=W.heap.size
 hl:E.len<=1048576
 code:Code E.base W E.a0 E.len
 cur:∃p q r,fj E.cb W E.a0 E.len E.cap p q r/\0<=p/\p<=y/\0<=r/\r<=3/\(E.g:Int)<=r
section
variable {E : Bs} {W W' : World} {y z : Int}
theorem Cu.wide(h:Cu E W y)(i:y<=z:=by omega):Cu E W z:=by
 obtain⟨d,e,f,a,b,g,c⟩:=h.cur;exact⟨h.lo,h.hl,h.code,d,e,f,a,b,by omega,c⟩
theorem Cu.g3(h:Cu E W y):E.g<=3:=by
 obtain⟨a,b,c,_,_,_,d,e,f⟩:=h.cur;omega
theorem Cu.below(h:Cu E W y){B:Nat}(a:Br B W W')(d:E.cb<B):Cu E W' y:=by
 obtain⟨e,f,g,b,c⟩:=h.cur;exact⟨⟨h.lo.1,bg h.lo.2 a.size⟩,h.hl,h.code.below (a.mono (by have:=h.lo.1;omega)),e,f,g,b.below a d,c⟩
theorem Cu.lt(h:Cu E W y):E.cb<W.heap.size:=by
 obtain⟨b,c,d,a,_⟩:=h.cur;exact a.lt
theorem jK(h:Cu E W y)(k:Int)(j:2<=k)(l:k<=200)(r:y<=900000000:=by omega):
  Ck A2 13 #[cV E,U O k] W fun e w'=>∃z:Int,e= A5 (U O z)/\(0<=z/\z<k)/\Cu E w' (y+1)/\Kb W w'/\Br E.base W w':=by
 obtain⟨d,o,f,b,n,s,m⟩:=h.cur;refine(CC k j l E.cb E.base W E.a0 E.len E.cap d o f b h.code n (by omega) h.hl).mono ?_;rintro e w' ⟨z,z0,q,i,p,g,c⟩;have a:=oB c h.lo.1 h.lo.2;exact⟨z,i,⟨z0,q⟩,⟨⟨h.lo.1,bg h.lo.2 a.size⟩,h.hl,h.code.below a,d+1,p,f,g,by omega,by omega,m⟩,Kb.grown c b (.inr (.inr rfl)),a⟩
end
def ndD:Nd:=⟨0,0,0,0,0,0,A0,[],[]⟩
def nodeI(ns:List Nd)(i:Int):Nd:=ns.getD i.toNat ndD
def dG(N:Nd)(j:Nat):Int:=N.ks.getD j 0
def jc(l:List ByteArray):ByteArray:=l.foldl (· ++·) A0
def KI(x:ByteArray):ByteArray:=⟨#[40]⟩++x++⟨#[41]⟩
def uj(ns:List Nd)(a:Int->ByteArray)(k b:Int):ByteArray:=if jH (nodeI ns k).k (nodeI ns k).op<b then KI (a k) else a k
def F7(N:Nd)(a:Int):Int:=if xC N.k N.op=a then a+1 else a
def Ir(ns:List Nd)(a:Int->ByteArray)(N:Nd)(c:ByteArray)(b:Int):ByteArray:=uj ns a (dG N 0) (F7 N b)++c++uj ns a (dG N 1) (xC N.k N.op)
def aqc(N:Nd):Bool:=N.k==30&&N.op==19
def unS(ns:List Nd)(N:Nd):ByteArray:=if N.op=21 then⟨#[110,111,116,32]⟩ else if N.op=22 then⟨#[35]⟩ else if N.op=20 then⟨#[126]⟩ else if aqc (nodeI ns (dG N 0))=B7 then⟨#[45]⟩++⟨#[32]⟩ else⟨#[45]⟩
def unB(ns:List Nd)(a:Int->ByteArray)(N:Nd):ByteArray:=unS ns N++uj ns a (dG N 0) 11
def bsB(ns:List Nd)(a:Int->ByteArray)(k:Int):ByteArray:=if acx (nodeI ns k).k=B7 then a k else KI (a k)
def plB(N:Nd):ByteArray:=
 if N.k=20 then⟨#[110,105,108]⟩ else if N.k=21 then⟨#[116,114,117,101]⟩ else if N.k=22 then⟨#[102,97,108,115,101]⟩ else if N.k=23 then xy N.n
 else if N.k=24\/N.k=26 then N.x else if N.k=25 then ey (cD N.x) else if N.k=27 then⟨#[46,46,46]⟩ else A0
def Az(ns:List Nd)(a:Int->ByteArray)(X:Nd):ByteArray:=
 if X.k=41 then⟨#[91]⟩++a (dG X 0)++⟨#[93,32,61,32]⟩++a (dG X 1) else if X.k=42 then(⟨#[46]⟩++X.x++⟨#[32,61,32]⟩)++a (dG X 0) else a (dG X 0)
def ahi(ns:List Nd)(a:Int->ByteArray)(N:Nd):ByteArray:=⟨#[123]⟩++ft (N.ks.map fun k=>Az ns a (nodeI ns k))++⟨#[125]⟩
def F8(S:Int->Nat->ByteArray)(ks:List Int)(tab:Nat):ByteArray:=
 if ks=[] then⟨#[123,125]⟩ else⟨#[123]⟩++jc (ks.map fun k=>lJ (tab+1)++S k (tab+1))++lJ tab++⟨#[125]⟩
def aez(N:Nd):ByteArray:=⟨#[40]⟩++ft N.nm++(if N.op=1 then(if N.nm=[] then⟨#[46,46,46]⟩ else js++⟨#[46,46,46]⟩) else A0)++⟨#[41,32]⟩
def KJ(ns:List Nd)(S:Int->Nat->ByteArray)(N:Nd)(tab:Nat):ByteArray:=aez N++F8 S (nodeI ns (dG N 0)).ks tab
def prE(ns:List Nd)(a:Int->ByteArray)(S:Int->Nat->ByteArray)(N:Nd)(tab:Nat):ByteArray:=
 if N.k=28 then Ir ns a N ⟨#[32,97,110,100,32]⟩ (jH N.k N.op)
 else if N.k=29 then Ir ns a N ⟨#[32,111,114,32]⟩ (jH N.k N.op)
 else if N.k=31 then Ir ns a N (⟨#[32]⟩++pJ (60+N.op)++⟨#[32]⟩) (jH N.k N.op)
 else if N.k=30 then unB ns a N
 else if N.k=32 then bsB ns a (dG N 0)++⟨#[91]⟩++a (dG N 1)++⟨#[93]⟩
 else if N.k=33 then bsB ns a (dG N 0)++(⟨#[46]⟩++N.x)
 else if N.k=34 then bsB ns a (dG N 0)++⟨#[40]⟩++ft ((N.ks.drop 1).map a)++⟨#[41]⟩
 else if N.k=35 then ahi ns a N
 else if N.k=36 then⟨#[102,110]⟩++KJ ns S N tab
 else if N.k=37 then KI (a (dG N 0))
 else plB N
def D2(ns:List Nd)(b:Int->ByteArray)(S:Int->Nat->ByteArray)(a:Int->ByteArray->ByteArray)(N:Nd)(c:ByteArray)(tab:Nat):ByteArray:=
 c++b (dG N 0)++⟨#[32]⟩++F8 S (nodeI ns (dG N 1)).ks tab++
  (if N.ks.length<3 then A0 else if(nodeI ns (dG N 2)).k=7 then a (dG N 2) ⟨#[32,101,108,105,102,32]⟩ else⟨#[32,101,108,115,101,32]⟩++F8 S (nodeI ns (dG N 2)).ks tab)
def nm0(N:Nd):ByteArray:=N.nm.getD 0 A0
def prS(ns:List Nd)(a:Int->ByteArray)(S:Int->Nat->ByteArray)(b:Int->ByteArray->ByteArray)(N:Nd)(tab:Nat):ByteArray:=
 if N.k=1 then F8 S N.ks tab
 else if N.k=2 then⟨#[108,101,116,32]⟩++ft N.nm++(if N.ks=[] then A0 else⟨#[32,61,32]⟩++ft (N.ks.map a))
 else if N.k=3 then(⟨#[99,111,110,115,116,32]⟩++nm0 N++⟨#[32,61,32]⟩)++a (dG N 0)
 else if N.k=4 then(⟨#[102,110,32]⟩++nm0 N)++KJ ns S (nodeI ns (dG N 0)) tab
 else if N.k=5 then ft ((N.ks.take N.n.toNat).map a)++⟨#[32,61,32]⟩++ft ((N.ks.drop N.n.toNat).map a)
 else if N.k=6 then a (dG N 0)
 else if N.k=7 then b (-1) ⟨#[105,102,32]⟩
 else if N.k=8 then⟨#[119,104,105,108,101,32]⟩++a (dG N 0)++⟨#[32]⟩++F8 S (nodeI ns (dG N 1)).ks tab
 else if N.k=9\/N.k=10 then⟨#[102,111,114,32]⟩++ft N.nm++(if N.k=9 then⟨#[32,61,32]⟩ else⟨#[32,105,110,32]⟩)++ft ((N.ks.take (N.ks.length-1)).map a)++⟨#[32]⟩++F8 S (nodeI ns (dG N (N.ks.length-1))).ks tab
 else if N.k=11 then⟨#[98,114,101,97,107]⟩
 else if N.k=12 then⟨#[110,101,120,116]⟩
 else if N.k=13 then⟨#[114,101,116,117,114,110]⟩++(if N.ks=[] then A0 else⟨#[32]⟩++ft (N.ks.map a))
 else if N.k=14 then⟨#[116,114,121,32]⟩++F8 S (nodeI ns (dG N 0)).ks tab++⟨#[32,99,97,116,99,104,32]⟩++ft N.nm++⟨#[32]⟩++F8 S (nodeI ns (dG N 1)).ks tab
 else if N.k=15 then⟨#[116,104,114,111,119,32]⟩++a (dG N 0)
 else if N.k=16 then⟨#[100,101,102,101,114,32]⟩++a (dG N 0)
 else A0
mutual
def AB(ns:List Nd):Nat->Int->Nat->ByteArray
 |0,_,_=>A0
 |f+1,i,tab=>prE ns (fun k=>AB ns f k tab) (fun k t=>uk ns f k t) (nodeI ns i) tab
def uk(ns:List Nd):Nat->Int->Nat->ByteArray
 |0,_,_=>A0
 |f+1,i,tab=>prS ns (fun k=>AB ns f k tab) (fun k t=>uk ns f k t) (fun _ w=>D2 ns (fun k=>AB ns f k tab) (fun k t=>uk ns f k t) (fun k w=>zm ns f k w tab) (nodeI ns i) w tab) (nodeI ns i) tab
def zm(ns:List Nd):Nat->Int->ByteArray->Nat->ByteArray
 |0,_,_,_=>A0
 |f+1,i,w,tab=>D2 ns (fun k=>AB ns f k tab) (fun k t=>uk ns f k t) (fun k w=>zm ns f k w tab) (nodeI ns i) w tab
end
def nE(ns:List Nd):ByteArray:=jc ((nodeI ns ((ns.length:Int)-1)).ks.map fun k=>uk ns ns.length k 0++⟨#[10]⟩)
def Is(ns:List Nd):ByteArray:=if 65536<(nE ns).size then A0 else nE ns
theorem AC(o:Obj)(h:Kq b (w.alloc o) w'):Kq b w w':=(Kq.of_below ((ah _ w).alloc (ae _) o)).trans h
theorem aeA(g:A9)(j vn vk:B1)(N:Nd)(T:ByteArray)(t:Int)(w:A9)(h:Pr g j T t w)(v:20<=N.k/\N.k<=27)(ag: -9223372036854775808<=N.n)(ak:N.n<=9223372036854775807)(u:N.k=25->N.x.size<=4000)(s:T.size+(plB N).size<=140737488355328):
  Ck A2 164 #[Cr (Y ⟨g.heap.size,0,Z⟩),jo N vn vk] w fun e w'=>e= A5 (B6 #[])/\Pr g j (T++plB N) t w'/\Kq g.heap.size w w':=by
 have F:Br w.heap.size w (w.alloc (B4 #[U O N.k,U O N.f,U O N.t,U O N.l,U O N.op,U O N.n,B0 N.x,vn,vk] 111)):=(ah _ w).alloc (ae _) _;have i:C8 (Pr g j T t (w.alloc (B4 #[U O N.k,U O N.f,U O N.t,U O N.l,U O N.op,U O N.n,B0 N.x,vn,vk] 111))/\Br w.heap.size w (w.alloc (B4 #[U O N.k,U O N.f,U O N.t,U O N.l,U O N.op,U O N.n,B0 N.x,vn,vk] 111))):=⟨h.below F,F⟩;have q:=Aj N.n ag ak;obtain⟨al,a⟩:=aA (plB N);rw[a]at s⊢;unfold plB at a;clear h F;unfold jo;have c:∀z:Int,N.k=z->(N.k==z)=B7:=fun z e=>by simpa using e
 have b:∀z:Int,N.k≠z->(N.k==z)=Ce:=fun z e=>by simpa using e
 by_cases m:N.k=20
 ·have I:=c _ m;rw[ab m]at a;subst a;clear m c b v u q;go_in;go_wp2_with (go_at_call 72;refine(ga g j _ _ _ _ i.1 s).mono ?_;rintro e B ⟨rfl,p2,d⟩);go_end0
  exact⟨rfl,p2,AC _ d⟩
 have I:=b _ m;rw[aa m]at a;by_cases o:N.k=21
 ·have J:=c _ o;rw[ab o]at a;subst a;clear m o c b v u q;go_in;go_wp2_with (go_at_call 72;refine(ga g j _ _ _ _ i.1 s).mono ?_;rintro e B ⟨rfl,p2,d⟩);go_end0
  exact⟨rfl,p2,AC _ d⟩
 have J:=b _ o;rw[aa o]at a;by_cases p:N.k=22
 ·have K:=c _ p;rw[ab p]at a;subst a;clear m o p c b v u q;go_in;go_wp2_with (go_at_call 72;refine(ga g j _ _ _ _ i.1 s).mono ?_;rintro e B ⟨rfl,p2,d⟩);go_end0
  exact⟨rfl,p2,AC _ d⟩
 have K:=b _ p;rw[aa p]at a;by_cases r:N.k=23
 ·have L:=c _ r;rw[ab r]at a;rw[a]at q;clear m o p r c b v u a;go_in;go_wp2_with fail;refine cJ (q _) fun w1 y=>?_;have C:C8 (Pr g j T t w1/\Br w.heap.size w w1):=⟨i.1.below y,i.2.trans (y.mono i.2.size)⟩;clear y q;go_wp2_with fail;refine(ga g j _ _ _ _ C.1 s).mono ?_;rintro e B ⟨rfl,p2,d⟩;go_wp2_with fail;go_end0
  exact⟨rfl,p2,(Kq.of_below C.2).trans d⟩
 have L:=b _ r;rw[aa r]at a;by_cases e4:N.k=24\/N.k=26
 ·rw[ab e4]at a;rcases e4 with e4|e4
  ·have H:=c _ e4;rw[a]at i⊢;clear m o p r e4 c b v u q a;go_in;go_wp2_with (go_at_call 72;refine(ga g j _ _ _ _ i.1 s).mono ?_;rintro e B ⟨rfl,p2,d⟩);go_end0
   exact⟨rfl,p2,AC _ d⟩
  ·have H:(N.k==24)=Ce:=b _ (by omega);have ad:=c _ e4;rw[a]at i⊢;clear m o p r e4 c b v u q a;go_in;go_wp2_with (go_at_call 72;refine(ga g j _ _ _ _ i.1 s).mono ?_;rintro e B ⟨rfl,p2,d⟩);go_end0
   exact⟨rfl,p2,AC _ d⟩
 rw[aa e4]at a;have H:(N.k==24)=Ce:=b _ (by omega);have ad:(N.k==26)=Ce:=b _ (by omega);by_cases A:N.k=25
 ·have af:=c _ A;rw[ab A]at a;have G:=Fx N.x (u A);rw[a]at G;clear m o p r e4 A c b v u a q;go_in;go_wp2_with fail;refine cJ (G _) fun w1 y=>?_;have C:C8 (Pr g j T t w1/\Br w.heap.size w w1):=⟨i.1.below y,i.2.trans (y.mono i.2.size)⟩;clear y G;go_wp2_with fail;refine(ga g j _ _ _ _ C.1 s).mono ?_;rintro e B ⟨rfl,p2,d⟩;go_wp2_with fail;go_end0
  exact⟨rfl,p2,(Kq.of_below C.2).trans d⟩
 have af:=b _ A;rw[aa A]at a;have E:N.k=27:=by omega
 have am:=c _ E;rw[ab E]at a;subst a;clear m o p r e4 A E c b v u q;go_in;go_wp2_with (go_at_call 72;refine(ga g j _ _ _ _ i.1 s).mono ?_;rintro e B ⟨rfl,p2,d⟩);go_end0
 exact⟨rfl,p2,AC _ d⟩
theorem akK(op:Int):3<=(pwF op).1/\(pwF op).1<=10:=by
 unfold pwF
 repeat' split
 all_goals exact⟨by decide,by decide⟩
theorem D3(k op:Int):0<jH k op/\jH k op<=12:=by
 have:=akK op;unfold jH
 repeat' split
 all_goals omega
theorem amp(ns:List Nd)(a:Int->ByteArray)(k:Int):uj ns a k 0=a k:=by
 unfold uj;rw[aa];have:=D3 (nodeI ns k).k (nodeI ns k).op;omega
theorem wz(x:ByteArray):(KI x).size=x.size+2:=by unfold KI;rw[ax,ax];show 1+x.size+1=_;omega
theorem It(h:k<ns.length):ns[k]?=Y (nodeI ns (k:Int)):=by
 unfold nodeI;rw[jz,List.getD,aE h];rfl
def OkE(b:A9)(d:B1)(ns:List Nd)(c:Int->ByteArray)(t:Int)(B:Nat):Prop:=
 ∀(k:Nat)(a:Int)(T:ByteArray)(W:A9),k<B->gF (nodeI ns k).k=B7->0<=a->a<=100->Pr b d T t W->T.size+(uj ns c k a).size<=140737488355328->
  Ck A2 113 #[Cr (Y ⟨b.heap.size,0,Z⟩),U O (k:Int),U O a] W fun e w'=>e= A5 (B6 #[])/\Pr b d (T++uj ns c k a) t w'/\Kq b.heap.size W w'
theorem OkE.zero{a:Int->ByteArray}{B:Nat}(h:OkE w0 vt ns a t B)(k:Nat)(T:ByteArray)(W:A9)(c:k<B)(b:gF (nodeI ns k).k=B7)(f:Pr w0 vt T t W)(d:T.size+(a k).size<=140737488355328):
  Ck A2 113 #[Cr (Y ⟨w0.heap.size,0,Z⟩),U O (k:Int),U O 0] W fun e w'=>e= A5 (B6 #[])/\Pr w0 vt (T++a k) t w'/\Kq w0.heap.size W w':=by
 have:=h k 0 T W c b (by omega) (by omega) f (by rw[amp];exact d);rw[amp]at this;exact this
theorem ahj(a:A9)(i:B1)(ns:List Nd)(d:Int->ByteArray)(t:Int)(B:Nat)(v:OkE a i ns d t B)(l:gw a i ns)(ad:ns.length<=1048576)(k:Nat)(y:k<B)(z:k<ns.length)(x:gF (nodeI ns k).k=B7)
  (T:ByteArray) (w:A9) (h:Pr a i T t w) (m:T.size+(bsB ns d k).size<=140737488355328):
  Ck A2 162 #[Cr (Y ⟨a.heap.size,0,Z⟩),U O (k:Int)] w fun e w'=>e= A5 (B6 #[])/\Pr a i (T++bsB ns d k) t w'/\Kq a.heap.size w w':=by
 have A:=It z;obtain⟨ag,s,rfl⟩:=l.form;obtain⟨F,rfl,an,am,u⟩:=(l.below h.bel).get A;obtain⟨z0,ao,ap⟩:=h.cells;have L:=u.c0;have f:=aaH (nodeI ns k).k;have c:=iF h x v;clear h l u A x v;obtain⟨n,j⟩:=aA ns.length;rw[j]at z0 c ad z;have al:(k:Int)<(n:Int):=by omega
 have ak:(0:Int)<=(k:Int):=by omega
 obtain⟨af,b⟩:=aA (bsB ns d k);rw[b]at m⊢;rw[j];unfold bsB at b;clear j;generalize (nodeI ns k).k=K at L f b;cases hb:acx K with
 |true=>
  rw[hb]at f b;rw[ab rfl]at b;subst b;clear hb;go_in;go_wp2_with (go_at_call 201;refine eH (f _) ?_);refine(c.2.2.zero k T w y c.2.1 c.1 m).mono ?_;rintro e I ⟨rfl,p2,g⟩;go_wp2_with fail;exact aI (ip rfl _ _ _) rfl ⟨rfl,p2,g⟩
 |false=>
  rw[hb]at f b;rw[aa (by simp)]at b;subst b;rw[wz]at m;clear hb;go_in;go_wp2_with (go_at_call 201;refine eH (f _) ?_);refine(ga a _ T _ t w c.1 (by show T.size+1<=_;omega)).mono ?_;rintro e I ⟨rfl,p2,g⟩;have p:=dC p2 g;clear p2 g;go_wp2_with fail;refine(c.2.2.zero k _ I y c.2.1 p.1 (by rw[ax];show T.size+1+_<=_;omega)).mono ?_;rintro e o ⟨rfl,G,C⟩;have q:C8 (Pr a (Ax (Y F) n s) (T++⟨#[40]⟩++d k) t o/\Kq a.heap.size w o):=⟨G,p.2.trans C⟩;clear G C;go_wp2_with fail;refine(ga a _ _ _ t o q.1 (by rw[ax,ax];show T.size+1+_+1<=_;omega)).mono ?_;rintro e J ⟨rfl,H,E⟩;have r:C8 (Pr a (Ax (Y F) n s) (T++KI (d k)) t J/\Kq a.heap.size w J):=⟨by unfold KI;rw[<-fh,<-fh];exact H,q.2.trans E⟩;clear H E;go_wp2_with fail;go_end0
  exact⟨rfl,r.1,r.2⟩
theorem Kq.box(h:Kq b w w')(a:qJ k w 111 N vn vk)(d:k≠b):qJ k w' 111 N vn vk:=by
 refine(h.block k (ai a) d ?_).trans a;intro e f c;unfold qJ at a;rw[a]at c;cases c
theorem ahk{p:Addr}{i:Nat}(h:W.cell? (p.add i)=Y v)(a:i≠0):W.cell? ⟨p.block,p.off+i,Z⟩=Y v:=by
 unfold Addr.add at h;rw[aa a]at h;exact h
def Wr(b:A9)(d:B1)(t:Int)(f:FuncId)(args:Array B1)(c:ByteArray):Prop:=
 ∀(a:ByteArray)(W':A9),Pr b d a t W'->a.size+c.size<=140737488355328->Ck A2 f args W' fun e w'=>e= A5 (B6 #[])/\Pr b d (a++c) t w'/\Kq b.heap.size W' w'
theorem D4(a:ByteArray):Wr w0 vt t 72 #[Cr (Y ⟨w0.heap.size,0,Z⟩),B0 a] a:=fun b c e d=>ga w0 _ b a _ c e d
abbrev pW(a:A9):B1:= Cr (Y ⟨a.heap.size,0,Z⟩)
abbrev aqd(N:Nd)(vn vk:B1):Obj:= B4 #[U O N.k,U O N.f,U O N.t,U O N.l,U O N.op,U O N.n,B0 N.x,vn,vk] 111
structure NdR (w0:A9) (p1:Addr) (i:Nat) (N:Nd) (an:Option Addr) (M cn:Nat) (ak:Option Addr) (L ck:Nat):Prop where
 nm:dA w0 (.slice an M cn) N.nm
 ks:dm w0 (.slice ak L ck) N.ks
 hM:N.nm.length=M
 hL:N.ks.length=L
 cap:L<=ck
 rd:∀W,Br w0.heap.size w0 W->aai W (p1.add (i*9)) N (.slice an M cn) (.slice ak L ck)
def D5(e:A9)(c:Addr)(ns:List Nd):Prop:=
 ∀a N d b,ns[a]?=Y N->e.cell? ⟨(c.add (a*9)).block,(c.add (a*9)).off+8,Z⟩=Y (Ax d N.ks.length b)->N.ks.length<=b
theorem zn{b:Addr}{e:Nat}(g:gw w0 (Ax (Y b) n e) ns)(j:D5 w0 b ns){i:Nat}(k:i<ns.length):∃an d cn ak L ck,NdR w0 b i (nodeI ns i) an d cn ak L ck:=by
 have c:=It k;obtain⟨m,f,p,o,a⟩:=g.get c;cases f;obtain⟨an,cn,rfl⟩:=a.hn.form;obtain⟨ak,ck,rfl⟩:=a.hk.form;exact⟨an,_,cn,ak,_,ck,a.hn,a.hk,rfl,rfl,j i _ ak ck c a.c8,fun l h=>a.below h⟩
abbrev NdC(W:A9)(a:Addr)(N:Nd)(vn vk:B1):Prop:=W.cell? a=Y (U O N.k)/\W.cell? ⟨a.block,a.off+1,Z⟩=Y (U O N.f)/\W.cell? ⟨a.block,a.off+2,Z⟩=Y (U O N.t)/\W.cell? ⟨a.block,a.off+3,Z⟩=Y (U O N.l)/\W.cell? ⟨a.block,a.off+4,Z⟩=Y (U O N.op)/\W.cell? ⟨a.block,a.off+5,Z⟩=Y (U O N.n)/\W.cell? ⟨a.block,a.off+6,Z⟩=Y (B0 N.x)/\W.cell? ⟨a.block,a.off+7,Z⟩=Y vn/\W.cell? ⟨a.block,a.off+8,Z⟩=Y vk
structure Bx (w0:A9) (vt:B1) (t:Int) (w:A9) (N:Nd) (vn vk:B1) (T:ByteArray) (W:A9):Prop where
 pr:Pr w0 vt T t W
 kq:Kq w0.heap.size w W
 bx:qJ w.heap.size W 111 N vn vk
theorem Bx.new(h:Pr w0 vt T t w)(N:Nd)(vn vk:B1):Bx w0 vt t w N vn vk T (w.alloc (aqd N vn vk)):=by
 have a:Br w.heap.size w (w.alloc (aqd N vn vk)):=(ah _ w).alloc (ae _) _;exact⟨h.below a,Kq.of_below a,ay w _⟩
theorem Bx.next{b:ByteArray}{a:A9}(h:Bx w0 vt t w N vn vk T W)(c:w0.heap.size<w.heap.size)(p:Pr w0 vt b t a)(k:Kq w0.heap.size W a):Bx w0 vt t w N vn vk b a:=
 ⟨p,h.kq.trans k,k.box h.bx (by omega)⟩
theorem Bx.below{a:A9}(h:Bx w0 vt t w N vn vk T W)(b:Br W.heap.size W a):Bx w0 vt t w N vn vk T a:=
 ⟨h.pr.below b,h.kq.trans (Kq.of_below b),h.bx.below b⟩
theorem Bx.cells(h:Bx w0 vt t w N vn vk T W):W.cell? ⟨w.heap.size,0,Z⟩=Y (U O N.k)/\W.cell? ⟨w.heap.size,1,Z⟩=Y (U O N.f)/\W.cell? ⟨w.heap.size,2,Z⟩=Y (U O N.t)/\W.cell? ⟨w.heap.size,3,Z⟩=Y (U O N.l)/\W.cell? ⟨w.heap.size,4,Z⟩=Y (U O N.op)/\W.cell? ⟨w.heap.size,5,Z⟩=Y (U O N.n)/\W.cell? ⟨w.heap.size,6,Z⟩=Y (B0 N.x)/\W.cell? ⟨w.heap.size,7,Z⟩=Y vn/\W.cell? ⟨w.heap.size,8,Z⟩=Y vk:=by
 obtain⟨a,b,c,d,e,g,i,j,m,o⟩:=ci h.bx;exact⟨a,b,c,d,e,g,i,j,m⟩
theorem Bx.kid0{a:Addr}(h:Bx w0 vt t w N vn (Ax (Y a) L ck) T W)(c:dm w0 (Ax (Y a) L ck) N.ks){q:Int}(d:N.ks[0]?=Y q):W.cell? a=Y (U O q):=by
 obtain⟨f,b,e⟩:=(c.below h.pr.bel).get d;cases b;simpa [Addr.add] using e
theorem Bx.kid{a:Addr}(h:Bx w0 vt t w N vn (Ax (Y a) L ck) T W)(d:dm w0 (Ax (Y a) L ck) N.ks){j:Nat}{q:Int}(e:N.ks[j]?=Y q)(c:j≠0):W.cell? ⟨a.block,a.off+j,Z⟩=Y (U O q):=by
 obtain⟨g,b,f⟩:=(d.below h.pr.bel).get e;cases b;exact ahk f c
theorem Bx.name0{a:Addr}{b cn:Nat}(h:Bx w0 vt t w N (Ax (Y a) b cn) vk T W)(d:dA w0 (Ax (Y a) b cn) N.nm)(e:N.nm[0]?=Y s):W.cell? a=Y (B0 s):=by
 obtain⟨g,c,f⟩:=(d.below h.pr.bel).get e;cases c;simpa [Addr.add] using f
theorem dm.ptr(h:dm W (Ax ak L ck) l)(b:0<l.length:=by omega):∃d,ak=Y d:=by
 obtain⟨c,a,_⟩:=h.get (aE b);exact⟨c,a⟩
theorem dA.ptr{l:List ByteArray}(h:dA W (Ax ak L ck) l)(b:0<l.length:=by omega):∃d,ak=Y d:=by
 obtain⟨c,a,_⟩:=h.get (aE b);exact⟨c,a⟩
theorem Bx.stp{a:ByteArray}{f:FuncId}{args:Array B1}{Q:Ending->A9->Prop}{V:A9}(B:C8 (Bx w0 vt t w N vn vk T V))(c:Br V.heap.size V W)(S:C8 (Wr w0 vt t f args a))(e:w0.heap.size<w.heap.size)(d:T.size+a.size<=140737488355328)(k:∀W',Bx w0 vt t w N vn vk (T++a) W'->Q (A5 (B6 #[])) W'):Ck A2 f args W Q:=
 (S _ _ (B.below c).pr d).mono fun h g b=>b.1 ▸ k g ((B.below c).next e b.2.1 b.2.2)
theorem Bx.fin{a:ByteArray}(B:C8 (Bx w0 vt t w N vn vk a W))(e:a=T):Ending.returned (B6 #[])= A5 (B6 #[])/\Pr w0 vt T t W/\Kq w0.heap.size w W:=⟨rfl,e ▸ B.pr,B.kq⟩
section
variable (w0 : World) (vt : Value) (t : Nat)
abbrev WE(q:Nat)(a:ByteArray):Prop:=Wr w0 vt t 113 #[pW w0,U O (q:Int),U O 0] a
abbrev WB(q:Nat)(a:ByteArray):Prop:=Wr w0 vt t 110 #[pW w0,U O (q:Int)] a
abbrev WD(q:Nat)(a:ByteArray):Prop:=Wr w0 vt t 114 #[pW w0,U O (q:Int)] a
abbrev WX(l:List Int)(a:ByteArray):Prop:=∀v,dm w0 v l->Wr w0 vt t 112 #[pW w0,v] a
abbrev WA(q:Nat)(a:ByteArray):Prop:=Wr w0 vt t 162 #[pW w0,U O (q:Int)] a
end
theorem add_add(a:Addr)(i j:Nat):(a.add i).add j=a.add (i+j):=by
 unfold Addr.add;by_cases b:i=0
 ·subst b;simp
 ·by_cases c:j=0
  ·subst c;simp[b]
  ·simp[b,c];omega
theorem dm.take{a:Option Addr}{c:Nat}(h:dm W (Ax a n c) l)(k:Nat)(f:k<=l.length):dm W (Ax a k c) (l.take k):=by
 rcases h with⟨rfl,d,g,e⟩|⟨d,g,e,j⟩
 ·have:k=0:=by simpa using f
  subst this;exact .inl ⟨rfl,a,c,rfl⟩
 ·cases e;by_cases i:k=0
  ·subst i;exact .inl ⟨by simp,_,_,rfl⟩
  ·refine .inr ⟨d,c,by rw[jx,yv f],fun m o b=>j m o ?_⟩;rw[mu]at b;split at b
   ·exact b
   ·cases b
theorem dm.drop{a:Addr}{c b:Nat}(h:dm W (Ax (Y a) n c) l)(k m:Nat)(q:k<=l.length)(j:m=l.length-k):dm W (Ax (Y (a.add k)) m b) (l.drop k):=by
 subst j;rcases h with⟨rfl,f,g,d⟩|⟨f,g,d,i⟩
 ·exact .inl ⟨by simp,Y (a.add k),b,by simp⟩
 ·cases d;refine .inr ⟨a.add k,b,by rw[im],fun o p e=>?_⟩;rw[tg]at e;rw[add_add];exact i (k+o) p e
theorem AD(l:List ByteArray)(k:Nat)(x:ByteArray)(c:l[k]?=Y x):jc (l.take (k+1))=jc (l.take k)++x:=by
 obtain⟨a,b⟩:=List.getElem?_eq_some_iff.1 c;unfold jc;rw[List.take_succ_eq_append_getElem a,List.foldl_append,b];rfl
theorem ahl(l:List ByteArray)(k:Nat):(jc (l.take k)).size<=(jc (l.take (k+1))).size:=by
 by_cases a:k<l.length
 ·rw[AD l k _ (aE a),ax];omega
 ·rw[dj (by omega),dj (by omega)];exact ae _
theorem ac4(l:List ByteArray)(k:Nat):(jc (l.take k)).size<=(jc l).size:=by
 have b:∀a,(jc (l.take k)).size<=(jc (l.take (k+a))).size:=by
  intro a
  induction a with
  |zero=>exact ae _
  |succ a c=>exact bg c (ahl l (k+a))
 have:=b l.length
 rwa [dj (show l.length<=k+l.length by omega)]at this
def aqe(b:A9)(c:B1)(ns:List Nd)(S:Int->Nat->ByteArray)(B:Nat):Prop:=
 ∀(k a:Nat)(T:ByteArray)(W:A9),k<B->jJ (nodeI ns k).k=B7->a+B<=500000->Pr b c T a W->T.size+(S k a).size<=140737488355328->
  Ck A2 71 #[Cr (Y ⟨b.heap.size,0,Z⟩),U O (k:Int)] W fun e w'=>e= A5 (B6 #[])/\Pr b c (T++S k a) a w'/\Kq b.heap.size W w'
def aqf(ns:List Nd)(B:Nat)(a:List Int):Prop:=∀z∈a,∃k:Nat,z=(k:Int)/\k<B/\k<ns.length/\jJ (nodeI ns k).k=B7
theorem aeB(a:A9)(F:B1)(ns:List Nd)(S:Int->Nat->ByteArray)(B:Nat)(an:aqe a F ns S B)(am:gw a F ns)(b2:ns.length<=1048576)(i:Nat)(bd:i<ns.length)(ak:aqf ns B (nodeI ns i).ks)(be:(nodeI ns i).ks.length<=1048576)(tab:Nat)(cw:tab+B<500000)
  (T:ByteArray) (w:A9) (h:Pr a F T tab w) (y:T.size+(F8 S (nodeI ns i).ks tab).size<=140737488355328):
  Ck A2 110 #[Cr (Y ⟨a.heap.size,0,Z⟩),U O (i:Int)] w fun e w'=>e= A5 (B6 #[])/\Pr a F (T++F8 S (nodeI ns i).ks tab) tab w'/\Kq a.heap.size w w':=by
 have bh:=It bd;obtain⟨ch,k,rfl⟩:=am.form;obtain⟨m,rfl,cz,cy,af⟩:=am.get bh;obtain⟨z0,cb,cc⟩:=h.cells;have a7:=aj h.bel af.c8;have u:=af.hk;obtain⟨r,bf⟩:=aA ((nodeI ns i).ks);rw[bf]at ak be y u⊢;obtain⟨ck,cl,rfl⟩:=u.form;obtain⟨f,bb⟩:=aA ns.length;obtain⟨j,al⟩:=aA r.length;rw[bb]at z0 h an b2 bd⊢;rw[al]at a7 u be;have g:=Jd h u ak an al;have cu:(i:Int)<(f:Int):=by omega
 have cv:(0:Int)<=(i:Int):=by omega
 obtain⟨a6,l⟩:=aA (F8 S r tab);rw[l]at y⊢;clear h am af bh ak an u bf bb al;unfold F8 at l;by_cases q:r=[]
 ·have bE:j=0:=by have:=g.2.2.2.2;rw[q]at this;simpa using this.symm
  rw[ab q]at l;subst l bE;clear q;go_in;go_wp2_with fail;refine(ga a _ T _ _ _ g.1 y).mono ?_;rintro e G ⟨rfl,v,C⟩;go_wp2_with fail;exact aI (ip rfl _ _ _) rfl ⟨rfl,v,C⟩
 ·rw[aa q]at l;have b0:0<j:=by
   have:=g.2.2.2.2;cases r with
   |nil=>exact absurd rfl q
   |cons cg cx=>simp at this;omega
  have cp:((j:Int)==0)=Ce:=by simp;omega
  obtain⟨c,z⟩:∃c,(r.map fun b=>lJ (tab+1)++S b (tab+1))=c:=⟨_,rfl⟩;rw[z]at l;have ad:C8 (⟨#[123]⟩++jc c++lJ tab++⟨#[125]⟩=a6/\(r.map fun b=>lJ (tab+1)++S b (tab+1))=c/\c.length=j):=⟨l,z,by rw[<-z,cA];exact g.2.2.2.2⟩;have bn:T.size+(1+(jc c).size+(tab+1)+1)<=140737488355328:=by
   have e:a6.size=1+(jc c).size+(tab+1)+1:=by rw[<-l,ax,ax,ax,np];rfl
   omega
  have t:=aw bn;clear l z y q bn b0;go_in;go_wp2_with fail;refine(ga a _ T ⟨#[123]⟩ _ _ g.1 (by have:=t.out;show T.size+1<=_;omega)).mono ?_;rintro e G ⟨rfl,v,C⟩;obtain⟨av,H,x⟩:=v.cells;have a0:=x 2;have br:=v.putTab ((tab:Int)+1);have I:C8 (Pr a (Ax (Y m) f k) (T++⟨#[123]⟩) ((tab+1:Nat):Int) (G.setCell ⟨a.heap.size,2,Z⟩ (U O ((tab:Int)+1)))/\Kq a.heap.size w (G.setCell ⟨a.heap.size,2,Z⟩ (U O ((tab:Int)+1)))):=⟨by rw[show((tab+1:Nat):Int)=(tab:Int)+1 by omega];exact br,C.trans (Kq.putP _ _ _ _)⟩;clear v C br x;go_wp2_with fail;generalize G.setCell ⟨a.heap.size,2,Z⟩ (U O ((tab:Int)+1))=ce at I⊢;clear av H a0 z0 cb cc a7;go_loopw [32] (fun ar wr=>∃b:Nat,b<=j/\ar= U O b/\C8 (Pr a (Ax (Y m) f k) (T++⟨#[123]⟩++jc (c.take b)) ((tab+1:Nat):Int) wr/\Kq a.heap.size w wr)) (fun ar _=>j-(C4 ar).toNat)
  case atStart=>exact⟨0,by omega,rfl,by rw[show T++⟨#[123]⟩++jc (c.take 0)=T++⟨#[123]⟩ from ByteArray.append_empty];exact I.1,I.2⟩
  case round=>
   obtain⟨b,cq,rfl,p⟩:=hrel;by_cases b3:b<j
   ·obtain⟨ca,A⟩:=co g.2.2.2.2 b3;obtain⟨s,rfl,bj,b4,bk⟩:=g.2.2.1 ca (cG A);obtain⟨bA,rfl,bD⟩:=(g.2.1.below p.1.bel).get A;have ct:(b:Int)<(j:Int):=by omega
    have cr:(0:Int)<=(b:Int):=by omega
    have bl:c[b]?=Y (lJ (tab+1)++S s (tab+1)):=by rw[<-ad.out.2.1,bK,A];rfl
    have ag:=AD c b _ bl;have a8:=ac4 c (b+1);have a9:(jc (c.take b)).size+(tab+2+(S s (tab+1)).size)<=(jc c).size:=by rw[ag,ax,ax,np]at a8;omega
    have L:=dC ag a9;have a4:=dC bj bk;have ao:b=0->wr.cell? bA=Y (U O (s:Int)):=fun e=>by subst e;simpa [Addr.add] using bD
    clear ag a8 a9 A bl bj b4 bk;have bt:∀d,Pr a (Ax (Y m) f k) (T++⟨#[123]⟩++jc (c.take b)++lJ (tab+1)) ((tab+1:Nat):Int) d->Kq a.heap.size wr d->Ck A2 71 #[Cr (Y ⟨a.heap.size,0,Z⟩),U O (s:Int)] d fun e w'=>e= A5 (B6 #[])/\C8 (Pr a (Ax (Y m) f k) (T++⟨#[123]⟩++jc (c.take (b+1))) ((tab+1:Nat):Int) w'/\Kq a.heap.size w w'):=by
     intro d o n;refine(g.2.2.2.1 s (tab+1) _ d a4.1 a4.2 (by omega) o (by have:=L.2;have:=t.out;rw[ax,ax,ax,np];show T.size+1+_+_+_<=_;omega)).mono ?_;rintro e bw ⟨rfl,b7,b5⟩;refine⟨rfl,?_,(p.2.trans n).trans b5⟩;rw[L.out.1,<-fh,<-fh];exact b7
    have a5:C8 (∀d,Pr a (Ax (Y m) f k) (T++⟨#[123]⟩++jc (c.take b)++lJ (tab+1)) ((tab+1:Nat):Int) d->Kq a.heap.size wr d->Ck A2 71 #[Cr (Y ⟨a.heap.size,0,Z⟩),U O (s:Int)] d fun e w'=>e= A5 (B6 #[])/\C8 (Pr a (Ax (Y m) f k) (T++⟨#[123]⟩++jc (c.take (b+1))) ((tab+1:Nat):Int) w'/\Kq a.heap.size w w')):=bt;have E:=Ke a (Ax (Y m) f k) (T++⟨#[123]⟩++jc (c.take b)) (tab+1) wr p.1 (by omega) (by have:=L.2;have:=t.out;rw[ax,ax];show T.size+1+_+_<=_;omega);clear bt;by_cases b1:b=0
    ·subst b1;have cm:=ao rfl;clear ao;go_wp2_with fail;refine E.mono ?_;rintro e d ⟨rfl,o,n⟩;have ks:=a5.out d o n;clear o n E;go_wp2_with fail;refine ks.mono ?_;rintro e bw ⟨rfl,J⟩;go_wp2_with fail;exact⟨⟨1,by omega,by go_num,J⟩,by simp[C4];omega⟩
    ·clear ao;go_wp2_with fail;refine E.mono ?_;rintro e d ⟨rfl,o,n⟩;have ks:=a5.out d o n;clear o n E;go_wp2_with fail;refine ks.mono ?_;rintro e bw ⟨rfl,J⟩;go_wp2_with fail;exact⟨⟨b+1,by omega,by go_num,J⟩,by simp[C4];omega⟩
   ·obtain rfl:b=j:=by omega
    obtain⟨av,H,x⟩:=p.1.cells;have b9:wr.cell? ⟨a.heap.size,2,Z⟩=Y (U O ((tab:Int)+1)):=by rw[H];rw[show((tab+1:Nat):Int)=(tab:Int)+1 by omega]
    have a0:=x 2;have ap:=p.1.putTab (tab:Int);rw[dj (by rw[ad.out.2.2];exact ae _)]at ap;have K:C8 (Pr a (Ax (Y m) f k) (T++⟨#[123]⟩++jc c) (tab:Int) (wr.setCell ⟨a.heap.size,2,Z⟩ (U O (tab:Int)))/\Kq a.heap.size w (wr.setCell ⟨a.heap.size,2,Z⟩ (U O (tab:Int)))):=⟨ap,p.2.trans (Kq.putP _ _ _ _)⟩;have cn:(tab:Int)+1-1=(tab:Int):=by omega
    clear ap H x av;go_wp2_with fail;generalize wr.setCell ⟨a.heap.size,2,Z⟩ (U O (tab:Int))=cf at K⊢;refine(Ke a _ _ tab _ K.1 (by omega) (by have:=t.out;rw[ax,ax];show T.size+1+_+_<=_;omega)).mono ?_;rintro e bx ⟨rfl,bs,bo⟩;have a3:C8 (Pr a (Ax (Y m) f k) (T++⟨#[123]⟩++jc c++lJ tab) (tab:Int) bx/\Kq a.heap.size w bx):=⟨bs,K.2.trans bo⟩;clear bs bo b9 a0;go_wp2_with fail;refine(ga a _ _ ⟨#[125]⟩ _ _ a3.1 (by have:=t.out;rw[ax,ax,ax,np];show T.size+1+_+_+1<=_;omega)).mono ?_;rintro e cB ⟨rfl,b8,b6⟩;go_wp2_with fail;go_end0
    refine⟨rfl,?_,a3.2.trans b6⟩;rw[<-ad.out.1,<-fh,<-fh,<-fh];exact b8
