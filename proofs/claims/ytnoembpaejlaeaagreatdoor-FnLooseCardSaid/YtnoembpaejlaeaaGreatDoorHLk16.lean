import Derived.Test.YtnoembpaejlaeaaGreatDoorHLk15
import Derived.Test.YtnoembpaejlaeaaGreatDoorHLk14
import Derived.Test.YtnoembpaejlaeaaGreatDoorHLk12
set_option linter.all false
set_option maxRecDepth 100000
set_option maxHeartbeats 12800000
open Go.Value renaming int->M,string->X,tuple->B1,agg->B4,ownBlock->B6,slice->B7
open Go.IntKind renaming i64->O
open Go renaming World->Q,Value->A2,Calls->B5,ownsRow_succ->Ce
open Go.Lib renaming hasPrefix->U
open Option renaming some->Z,none->A0
open Bool renaming true->Ax,false->A9
open Go.Ending renaming returned->A3
open Go.Proofs.Tryz renaming prog->A5
open Go.Calls renaming quiet_of_same->Br
open Go.RowKit renaming Below->B0,intOf->B3
open Go.Obj renaming cells->B2
namespace Go.Proofs.YtnoembpaejlaeaaGreatDoor
open Go.RowKit Go.Maps Go.WideMaps
variable{C:List (Int×Int)}{W w:World}{base i j n r:Nat}{ns:List ByteArray}{s:ByteArray}{t:TypeId}{ts:List Tk}{v:Value}{xs:List Value}
def pB(a b c:Int)(x:ByteArray):Bool:=decide ((x.size=0\/a=aw x 0)/\(x.size<=1\/b=aw x 1)/\(x.size<=2\/c=aw x 2))
def agw(r x:ByteArray)(i:Nat)(b:i<x.size):r.data.toList[i]?=x.data.toList[i]?↔aw r i=aw x i:=by
 have d:x.data.toList[i]?=Z x[i]:=by rw[uG];exact Bj b
 rw[d,io];have c:aw x i=(x[i].toNat:Int):=by unfold aw;rw[mK b]
 rw[c];constructor
 .exact λa=>a.2
 .intro a;refine⟨?_,a⟩;rcases bC i r.size with h1|h1
  .exact h1
  .rw[dH]at a;omega
def anh(r x:ByteArray)(h:x.size<=3):U r.data.toList x.data.toList=pB (aw r 0) (aw r 1) (aw r 2) x:=by
 unfold U pB;rw[vf,xC,pa,List.prefix_iff_getElem?];have i:x.data.toList.length=x.size:=fD;have f:(∀a (b:a<x.data.toList.length),r.data.toList[a]?=Z x.data.toList[a])↔∀a,a<x.size->aw r a=aw x a:=by
  constructor
  .intro g a b;rw[<-agw r x a b,g a (by omega)];exact(aA (by omega)).symm
  .intro g a b;rw[(agw r x a (by omega)).2 (g a (by omega))];exact aA b
 rw[f];constructor
 .intro g;refine⟨?_,?_,?_⟩
  .rcases pi x.size with h0|h0
   .exact .inl h0
   .exact .inr (g 0 h0)
  .rcases bC 1 x.size with h0|h0
   .exact .inr (g 1 h0)
   .exact .inl h0
  .rcases bC 2 x.size with h0|h0
   .exact .inr (g 2 h0)
   .exact .inl h0
 .rintro ⟨c,d,e⟩ a b;rcases(show a=0\/a=1\/a=2 by omega) with rfl|rfl|rfl
  .rcases c with g|g
   .omega
   .exact g
  .rcases d with g|g
   .omega
   .exact g
  .rcases e with g|g
   .omega
   .exact g
def Ib(q:ByteArray->Bool)(V:Array A2)(base:Int):Nat->Nat->Int×Nat->Int×Nat
 |0,_,a=>a
 |f+1,i,a=>Ib q V base f (i+1) (if a.2<(ci V i).size/\q (ci V i)=Ax then(base+(i:Int),(ci V i).size) else a)
def skq(a:Int)(q:ByteArray->Bool):Int:=if a=59 then 5 else if a=10 then 7 else(Ib q lB 61 18 0 (Ib q je 40 11 0 (0,0))).1
def Ab(q:ByteArray->Bool):Nat->Nat->Option Nat
 |0,_=>A0
 |f+1,k=>if q (ci oF k)=Ax then Z k else Ab q f (k+1)
def agx(V:Array A2)(base:Int)(r:ByteArray):∀(f i:Nat)(a:Int×Nat),xk V base r f i a=Ib (λx=>U r.data.toList x.data.toList) V base f i a
 |0,i,a=>rfl
 |f+1,i,a=>by rw[xk,Ib];exact agx V base r f (i+1) _
def xq(q b:ByteArray->Bool)(V:Array A2)(base:Int)(N:Nat)(h:∀i,i<N->q (ci V i)=b (ci V i)):∀(f i:Nat)(a:Int×Nat),i+f<=N->Ib q V base f i a=Ib b V base f i a
 |0,i,a,_=>rfl
 |f+1,i,a,c=>by rw[Ib,Ib,h i (by omega)];exact xq q b V base N h f (i+1) _ (by omega)
def DH(q a:ByteArray->Bool)(h:∀i,i<30->q (ci oF i)=a (ci oF i)):∀(f i:Nat),i+f<=30->Ab q f i=Ab a f i
 |0,i,_=>rfl
 |f+1,i,b=>by rw[Ab,Ab,h i (by omega),DH q a h f (i+1) (by omega)]
def Ew(S:List Int)(b:Int):Int:=if b∈S then b else 0
def Ic(S:List Int)(d:(0:Int) ∉ S)(b a:Int)(c:a∈S):Ew S b=a↔b=a:=by
 unfold Ew;split
 .exact Iff.rfl
 .rename_i e;constructor
  .rintro rfl;exact absurd c d
  .rintro rfl;exact absurd c e
def fb0:List Int:=[46,60,62,61,126,47,40,41,123,125,91,93,44,59,35,43,45,42,37,38,124]
def fb1:List Int:=[46,60,61,62,47]
def fb2:List Int:=[46]
def inB(x:ByteArray):Bool:=decide (x.size<=3/\(x.size=0\/aw x 0∈fb0)/\(x.size<=1\/aw x 1∈fb1)/\(x.size<=2\/aw x 2∈fb2))
def ani:∀i:Fin 11,inB (ci je i.val)=Ax:=by decide+kernel
def anj:∀i:Fin 18,inB (ci lB i.val)=Ax:=by decide+kernel
def ank:∀i:Fin 30,inB (ci oF i.val)=Ax:=by decide+kernel
def anl(a b c:Int)(x:ByteArray)(h:inB x=Ax):pB a b c x=pB (Ew fb0 a) (Ew fb1 b) (Ew fb2 c) x:=by
 unfold inB at h;rw[pa]at h;obtain⟨_,g,i,j⟩:=h;have d:(x.size=0\/a=aw x 0)↔(x.size=0\/Ew fb0 a=aw x 0):=by
  rcases g with h|h
  .simp[h]
  .rw[Ic fb0 (by decide) a _ h]
 have e:(x.size<=1\/b=aw x 1)↔(x.size<=1\/Ew fb1 b=aw x 1):=by
  rcases i with h|h
  .simp[h]
  .rw[Ic fb1 (by decide) b _ h]
 have f:(x.size<=2\/c=aw x 2)↔(x.size<=2\/Ew fb2 c=aw x 2):=by
  rcases j with h|h
  .simp[h]
  .rw[Ic fb2 (by decide) c _ h]
 unfold pB;rw[Gv,d,e,f]
def alh(a b c:Int):Bool:=match Ab (pB a b c) 30 0 with
 |some j=>decide (skq a (pB a b c)=A1 (ci oF j)/\(eC (skq a (pB a b c))).size=(ci oF j).size/\skq a (pB a b c)≠0/\skq a (pB a b c)≠7)
 |none=>decide (skq a (pB a b c)=0)
def agy:∀a∈0::fb0,∀b∈0::fb1,∀c∈0::fb2,alh a b c=Ax:=by decide+kernel
def aaE(S:List Int)(b:Int):Ew S b∈0::S:=by
 unfold Ew;split
 .exact dm _ (by assumption)
 .exact bg
def aaF(r:ByteArray):Prop:=match Ab (λa=>U r.data.toList a.data.toList) 30 0 with
 |some j=>oH r=A1 (ci oF j)/\(eC (oH r)).size=(ci oF j).size/\oH r≠0/\oH r≠7
 |none=>oH r=0
def ajE(r:ByteArray)(h:aw r 0≠10):aaF r:=by
 have g:∀a,inB a=Ax->U r.data.toList a.data.toList=pB (Ew fb0 (aw r 0)) (Ew fb1 (aw r 1)) (Ew fb2 (aw r 2)) a:=λa f=>by
  rw[<-anl _ _ _ a f];unfold inB at f;rw[pa]at f;exact anh r a f.1
 have l:oH r=skq (Ew fb0 (aw r 0)) (pB (Ew fb0 (aw r 0)) (Ew fb1 (aw r 1)) (Ew fb2 (aw r 2))):=by
  unfold oH skq;rw[agx,agx,xq _ _ je 40 11 (λd c=>g _ (ani ⟨d,c⟩)) 11 0 _ (by omega),xq _ _ lB 61 18 (λd c=>g _ (anj ⟨d,c⟩)) 18 0 _ (by omega)];have i:=Ic fb0 (by decide) (aw r 0) 59 (by decide);have k:Ew fb0 (aw r 0)≠10:=by
   unfold Ew;split
   .exact h
   .decide
  rw[aa h,aa k];by_cases e:aw r 0=59
  .rw[ab e,ab (i.2 e)]
  .rw[aa e,aa (λj=>e (i.1 j))]
 have b:=agy _ (aaE fb0 (aw r 0)) _ (aaE fb1 (aw r 1)) _ (aaE fb2 (aw r 2));unfold aaF;rw[DH _ _ (λd c=>g _ (ank ⟨d,c⟩)) 30 0 (by omega),l];unfold alh at b;cases hf:Ab (pB (Ew fb0 (aw r 0)) (Ew fb1 (aw r 1)) (Ew fb2 (aw r 2))) 30 0 with
 |some m=>rw[hf]at b;exact aE b
 |none=>rw[hf]at b;exact aE b
def ajF(s x:ByteArray)(p:Nat)(f:p<=s.size):U (s.extract p s.size).data.toList x.data.toList=decide (p+x.size<=s.size/\((s.extract p (p+x.size)).toList==x.toList)=Ax):=by
 have e:s.data.toList.length=s.size:=fD;have b:x.data.toList.length=x.size:=fD;have c:(s.extract p s.size).data.toList=s.data.toList.drop p:=by
  rw[<-gy,Lib.extract_toList,db];rw[ig,fD];exact ag _
 have d:(s.extract p (p+x.size)).toList=(s.data.toList.drop p).take x.size:=by
  rw[Lib.extract_toList];congr 1;omega
 rw[c,d,gy x];unfold U;rw[vf,xC,pa,List.prefix_iff_eq_take,b,jB];constructor
 .intro a;refine⟨?_,a.symm⟩;have:=congrArg List.length a;rw[gC,ig,e,b]at this;omega
 .exact λa=>a.2.symm
def ael(s:ByteArray)(f:s.size<=70000)(p:Nat)(b:p<s.size)(a:aw s p=10)(w:Q):B5 A5 74 #[X s,M O p] w λe d=>e= A3 (B1 #[B4 #[M O 7,M O p,M O ((p:Int)+1),M O 0,M O 0,X ⟨#[]⟩],M O (-1)])/\B0 w.heap.size w d:=by
 have c:=λw=>dL b w;rw[a]at c;have g:(p:Int)<(s.size:Int):=by omega
 go_in;go_wp2;refine aH (v:= B1 #[B4 #[M O 7,M O p,M O ((p:Int)+1),M O 0,M O 0,X ⟨#[]⟩],M O (-1)]) (by simp[results,Tryz.results74,go_sem]) rfl ⟨rfl,?_⟩;exact((ai _ w).alloc (ag _) _).alloc (by simp) _
def agz(p:Nat)(R:Bool×Nat×List Int):∃(t:Int) (x:ByteArray),FK p R= B4 #[M O 4,M O p,M O t,M O 0,M O 0,X x]:=by
 unfold FK;split<;>exact⟨_,_,rfl⟩
def aaG(s:ByteArray)(y:s.size<=70000)(p:Nat)(m:p<s.size)(x:aw s p=34)(w:Q):B5 A5 74 #[X s,M O p] w λe B=>e= A3 (B1 #[FK p (gi s (s.size+1) (p+1) []),M O (Kj (gi s (s.size+1) (p+1) []))])/\B0 w.heap.size w B:=by
 have n:=λw=>dL m w;have q:=λw=>xi (c:=34) (b:=A9) (by decide) w;have o:=λw=>fI (c:=34) (b:=A9) (by decide) w;have a:=λw=>H8 s y p m w;generalize gi s (s.size+1) (p+1) []=f at a;obtain⟨A,E,i⟩:=agz p f;rw[i]at a⊢;generalize Kj f=r at a;rw[x]at n;clear i;go_in;go_wp2_with (first|(go_at_call 132;refine ft (q _) ?_)|(go_at_call 134;refine ft (o _) ?_));generalize j:(w.alloc _).alloc _=t;obtain⟨g, -,h,z⟩:=Co j;have k:fe w.heap.size t 0 0 0 0 0 ⟨#[]⟩:=g;clear j g;refine du (a _) λC d=>?_;have l:=k.below d (by omega);have u:=h.trans (d.mono (by omega));clear d k h z a q o n;obtain⟨z0,F,G,H,I,J,L⟩:=bz l;have K:w.heap.size<C.heap.size:=aj l;go_wp2;refine aH (v:= B1 #[B4 #[M O 4,M O p,M O A,M O 0,M O 0,X E],M O r]) (by simp[results,Tryz.results74,go_sem,z0,F,G,H,I,J]) rfl ⟨rfl,?_⟩
 iterate 6 refine fK ?_ (by simp) _
 exact u
structure acq (q:ByteArray->Bool) (f k:Nat) (R:Option Nat):Prop where
 out:Ab q f k=R
def aps(p:Nat)(R:Option Nat):A2:=match R with
 |some j=> B1 #[B4 #[M O (A1 (ci oF j)),M O p,M O ((p:Int)+((ci oF j).size:Int)),M O 0,M O 0,X ⟨#[]⟩],M O (-1)]
 |none=> B1 #[B4 #[M O 0,M O p,M O 0,M O 0,M O 0,X ⟨#[]⟩],M O p]
def anm:∀k:Fin 30,(ci oF k.val).size<=3:=by decide
def aaH(s:ByteArray)(bx:s.size<=70000)(p:Nat)(a2:p<s.size)(I:¬aw s p=10)(af:bK (aw s p)=A9)(L:cD (aw s p)=A9)(J:¬aw s p=34)(w:Q):
  B5 A5 74 #[X s,M O p] w λe a3=>e= A3 (aps p (Ab (λx=>U (s.extract p s.size).data.toList x.data.toList) 30 0))/\B0 w.heap.size w a3:=by
 have ar:=λw=>dL a2 w;have G:(aw s p==10)=A9:=by rw[dv];exact I
 have H:(aw s p==34)=A9:=by rw[dv];exact J
 have F:=λw=>xi af w;have E:=λw=>fI L w;have bA:(p:Int)<(s.size:Int):=by omega
 generalize aw s p=bj at ar G H F E;obtain⟨c,A⟩:∃c:ByteArray->Bool,(λx=>U (s.extract p s.size).data.toList x.data.toList)=c:=⟨_,rfl⟩;have al:∀x,c x=decide (p+x.size<=s.size/\((s.extract p (p+x.size)).toList==x.toList)=Ax):=λx=>by rw[<-A];exact ajF s x p (by omega)
 rw[A];obtain⟨n,y⟩:=aF (Ab c 30 0);rw[y];have q:acq c 30 0 n:=⟨y⟩;have au:=aq al;clear y A al I af L J;go_in;go_wp2_with (first|(go_at_call 132;refine ft (F _) ?_)|(go_at_call 134;refine ft (E _) ?_));generalize K:(w.alloc _).alloc _=g;obtain⟨j,i,t, -⟩:=Co K;replace j:fe w.heap.size g 0 0 0 0 0 ⟨#[]⟩:=j;replace i:fe (w.heap.size+1) g 0 p 0 0 0 ⟨#[]⟩:=i;clear K;refine du (Am g) λf l=>?_;have r:fe (w.heap.size+1) f 0 p 0 0 0 ⟨#[]⟩:=by rw[l];exact(dG _ _ _ (aj i)).trans i
 have z:fe w.heap.size f 0 0 0 0 0 ⟨#[]⟩:=by rw[l];exact(dG _ _ _ (aj j)).trans j
 have u:B0 w.heap.size w f:=by rw[l];exact t.alloc t.size _
 have ax:f.heap[g.heap.size]?=Z (B2 oF 9 (0,0)):=by rw[l];exact aB g _
 clear l i j t F E ar G H;go_wp2_with fail;obtain⟨b1,b2,b3,b4,b5,b6,b7⟩:=bz r;obtain⟨z0,ba,bb,bd,bf,bh,ca⟩:=bz z;have ao:w.heap.size<f.heap.size:=aj z;have ap:w.heap.size+1<f.heap.size:=aj r;go_loop [45,9] (λC _=>∃a:Nat,a<=30/\C= M O a/\acq c (30-a) a n) (λC _=>30-(B3 C).toNat)
 case atStart=>exact⟨0,by omega,rfl,q⟩
 case round=>
  obtain⟨a,bw,rfl,m⟩:=hrel;by_cases ak:a<30
  .have a0:f.cell? ⟨g.heap.size,a,A0⟩=Z (X (ci oF a)):=by rw[am _ _ _ _ _ _ ax];exact ae8 ⟨a,ak⟩
   have b:=m.out;rw[show 30-a=(30-(a+1))+1 by omega,Ab,au.out]at b;have an:=anm ⟨a,ak⟩;simp only at an;obtain⟨x,B⟩:=aF (ci oF a);rw[B]at a0 b an;have av:=aq B;clear B m q;by_cases ad:p+x.size<=s.size
   .have a1:(x.size:Int)<=(s.size:Int)-(p:Int):=by omega
    have bv:(p:Int)+(x.size:Int)<=(s.size:Int):=by omega
    by_cases o:((s.extract p (p+x.size)).toList==x.toList)=Ax
    .rw[ab (bp ⟨ad,o⟩)]at b;have d:=aq b;clear b;go_wp2_with (go_at_call 138;refine(wJ x _).mono ?_;rintro e b8 ⟨rfl,k⟩;obtain⟨bk,bl,bn,bo,br,bs,bt⟩:=bz (r.below k ap);obtain⟨a4,a5,a6,a7,a8,a9,b9⟩:=bz (z.below k ao);have bE:=ip ao k.size;have b0:=ip ap k.size);refine aH (v:= B1 #[B4 #[M O (A1 x),M O p,M O ((p:Int)+(x.size:Int)),M O 0,M O 0,X ⟨#[]⟩],M O (-1)]) (by simp[results,Tryz.results74,go_sem,a4,a5,a6,a7,a8,a9]) rfl ⟨by rw[<-d.out];have h:=av.out;subst h;rfl,?_⟩
     iterate 8 refine fK ?_ (by simp) _
     exact u.trans (k.mono u.size)
    .have bD:((s.extract p (p+x.size)).toList==x.toList)=A9:=by simpa using o
     rw[aa (λh=>o (aE h).2)]at b;have d:acq c (30-(a+1)) (a+1) n:=⟨b⟩;clear b o;go_wp2_with fail;go_round
     case rel=>exact⟨a+1,by omega,by go_num,d⟩
     case measure=>simp[B3];omega
   .have a1:¬(x.size:Int)<=(s.size:Int)-(p:Int):=by omega
    rw[aa (λh=>ad (aE h).1)]at b;have d:acq c (30-(a+1)) (a+1) n:=⟨b⟩;clear b;go_wp2_with fail;go_round
    case rel=>exact⟨a+1,by omega,by go_num,d⟩
    case measure=>simp[B3];omega
  .obtain rfl:a=30:=by omega
   have d:=aq m.out;clear m q;go_wp2_with fail;refine aH (v:= B1 #[B4 #[M O 0,M O p,M O 0,M O 0,M O 0,X ⟨#[]⟩],M O (p:Int)]) (by simp[results,Tryz.results74,go_sem,z0,ba,bb,bd,bf,bh]) rfl ⟨by rw[<-d.out];rfl,?_⟩
   iterate 6 refine fK ?_ (by simp) _
   exact u
structure aq4 (R:Rd) (k t n:Int) (x:ByteArray) (bad:Int):Prop where
 yes:R.ok=Ax->bad= -1/\k=R.k/\t=(R.a:Int)/\n=R.n/\x=R.x/\R.d=(if R.k=7 then 1 else 0)
 no:R.ok=A9->bad=(R.a:Int)
def apt(s:ByteArray)(p:Nat):(BH s p).1≠7:=by
 unfold BH;split
 .simp only;omega
 .simp
def apu(s:ByteArray)(p:Nat):(tB s p).1≠7:=by
 unfold tB;split
 .simp
 .split<;>simp
def aaI(s:ByteArray)(q:s.size<=70000)(p:Nat)(f:p<s.size)(w:Q):
  B5 A5 74 #[X s,M O p] w λe c=>∃k t n x r,e= A3 (B1 #[B4 #[M O k,M O p,M O t,M O 0,M O n,X x],M O r])/\aq4 (dl s p) k t n x r/\B0 w.heap.size w c:=by
 unfold dl;by_cases j:bK (aw s p)=Ax
 .rw[ab j];refine du (Ar s (by omega) p f j w) λc b=>?_;rw[ao9];exact⟨_,_,_,_,_,rfl,⟨λ_=>⟨rfl,rfl,rfl,rfl,rfl,by simp only;rw[aa (apt s p)]⟩,λa=>by cases a⟩,b⟩
 rw[aa j];by_cases i:cD (aw s p)=Ax
 .rw[ab i];refine du (Dg s (by omega) p f i w) λc b=>?_;cases hok:(dJ s p).2 with
  |true=>
   obtain⟨d,o⟩:=amo s p hok;rw[d,o,ab rfl];exact⟨_,_,_,_,_,rfl,⟨λ_=>⟨rfl,rfl,rfl,rfl,rfl,by simp only;rw[aa (apu s p)]⟩,λa=>by cases a⟩,b⟩
  |false=>
   obtain⟨k,t,n,x,d⟩:=ab1 s p;rw[d,af1 s p hok,aa (by simp)];exact⟨_,_,_,_,_,rfl,⟨λa=>by(try simp at a),λa=>rfl⟩,b⟩
 rw[aa i];by_cases h:aw s p=34
 .rw[ab h];refine du (aaG s q p f h w) λc b=>?_;generalize gi s (s.size+1) (p+1) []=m;obtain⟨A,B,C⟩:=m;cases A with
  |true=>exact⟨_,_,_,_,_,rfl,⟨λ_=>⟨rfl,rfl,rfl,rfl,rfl,rfl⟩,λa=>by cases a⟩,b⟩
  |false=>exact⟨_,_,_,_,_,rfl,⟨λa=>(by cases a),λa=>rfl⟩,b⟩
 rw[aa h];have u:aw (s.extract p s.size) 0=aw s p:=ju s p s.size 0 (ag _);by_cases g:aw s p=10
 .have y:oH (s.extract p s.size)=7:=by unfold oH;rw[u,g];rfl
  rw[y,aa (by decide)];refine du (ael s q p f g w) λc b=>?_;exact⟨_,_,_,_,_,rfl,⟨λ_=>⟨rfl,rfl,rfl,rfl,rfl,rfl⟩,λa=>by cases a⟩,b⟩
 .have l:=ajE (s.extract p s.size) (by rw[u];exact g);unfold aaF at l;refine du (aaH s q p f g (by simpa using j) (by simpa using i) h w) λc b=>?_;generalize Ab (λx=>U (s.extract p s.size).data.toList x.data.toList) 30 0=m at l;cases m with
  |none=>
   rw[show oH (s.extract p s.size)=0 from l,ab rfl];exact⟨_,_,_,_,_,rfl,⟨λa=>(by cases a),λa=>rfl⟩,b⟩
  |some z=>
   obtain⟨d,o,v,E⟩:=(show _/\_/\_/\_ from l);rw[aa v];refine⟨_,_,_,_,_,rfl,⟨λ_=>⟨rfl,d.symm,?_,rfl,rfl,rfl⟩,λa=>by cases a⟩,b⟩;show(p:Int)+((ci oF z).size:Int)=((p+(eC (oH (s.extract p s.size))).size:Nat):Int);rw[o];omega
structure ann (s:ByteArray) (f k e:Nat):Prop where
 out:iI nnB s f k=e
structure acr (s:ByteArray) (f k e:Nat):Prop where
 out:blk s f k=e
def yE(s:ByteArray)(au:s.size<=1100000)(p:Nat)(av:p<=s.size)(w:Q):B5 A5 73 #[X s,M O p] w λe a0=>e= A3 (M O (blk s (s.size+1) p))/\a0=w:=by
 obtain⟨u,B⟩:=aF (blk s (s.size+1) p);rw[B];have ak:acr s (s.size+1) p u:=⟨B⟩;clear B;go_in;go_wp2_with fail;go_loop [1,5] (λk a1=>∃(a d:Nat),a<=s.size/\s.size<a+d/\k= M O a/\acr s d a u) (λk _=>s.size-(B3 k).toNat)
 case atStart=>exact⟨p,s.size+1,av,by omega,rfl,ak⟩
 case round=>
  obtain⟨a,d,I,a2,rfl,q⟩:=hrel;obtain⟨d,rfl⟩:∃g,d=g+1:=⟨d-1,by omega⟩;have b:=q.out;rw[blk]at b;by_cases K:a<s.size
  .have a6:(a:Int)<(s.size:Int):=by omega
   rw[aa (by omega)]at b;have r:=λw=>dL K w;have v:=jF K;by_cases i:iK (aw s a)=Ax
   .rw[ab i]at b;have f:acr s d (a+1) u:=⟨b⟩;have n:aw s a=32\/aw s a=9\/aw s a=13:=aE i;generalize aw s a=G at r n v;clear b q i;rcases n with rfl|rfl|rfl;all_goals
     go_wp2_with fail;go_round
     case rel=>exact⟨a+1,d,by omega,by omega,by go_num,f⟩
     case measure=>simp[B3];omega
   .rw[aa i]at b;have n:¬(aw s a=32\/aw s a=9\/aw s a=13):=λA=>i (bp A);have x:(aw s a==32)=A9:=by rw[dv];omega
    have y:(aw s a==9)=A9:=by rw[dv];omega
    have z:(aw s a==13)=A9:=by rw[dv];omega
    have t:=λw=>iC s au ((a:Int)+1) (a+1) (by omega) w;have o:=ul s (a+1) 45;by_cases h:aw s a=45/\aw s (a+1)=45
    .rw[ab h]at b;have f:acr s d (Ly s a) u:=⟨b⟩;rw[h.2]at o;have J:lk s (a+1)=45:=by simpa using o
     have ap:=vF s a h.1;have ar:=Hl s a I;rw[h.1]at r;rw[J]at t;have E:ann s (s.size+1) a (Ly s a):=⟨rfl⟩;generalize Ly s a=F at f ap ar E;clear b q i n x y z o J h v;go_wp2_with (go_at_call 131;refine ft (t _) ?_);go_loop [1] (λk=>∃(c g:Nat),c<=s.size/\s.size<c+g/\k= M O c/\ann s g c F) (λk=>s.size-(B3 k).toNat)
     case atStart=>exact⟨a,s.size+1,I,by omega,rfl,E⟩
     case round=>
      obtain⟨c,g,a4,a3,rfl,C⟩:=hrel;obtain⟨g,rfl⟩:∃ax,g=ax+1:=⟨g-1,by omega⟩;have b:=C.out;rw[iI]at b;clear r C;by_cases H:c<s.size
      .have a5:(c:Int)<(s.size:Int):=by omega
       have ad:=λw=>dL H w;have af:=jF H;by_cases l:aw s c=10
       .rw[aa (by rw[l];decide)]at b;rw[l]at ad;have j:=aq b;clear b l af;go_wp2_with fail;go_round
        case rel=>exact⟨c,d,by omega,by have:=j.out;omega,by go_num,by rw[j.out];exact f⟩
        case measure=>have:=j.out;simp[B3];omega
       .rw[ab (by unfold nnB;rw[pa];exact⟨l,by omega⟩)]at b;have j:ann s g (c+1) F:=⟨b⟩;have al:(aw s c==10)=A9:=by rw[dv];exact l
        generalize aw s c=G at ad al;clear b l af;go_wp2_with fail;go_round
        case rel=>exact⟨c+1,g,by omega,by omega,by go_num,j⟩
        case measure=>simp[B3];omega
      .obtain rfl:c=s.size:=by omega
       rw[aa (by rw[dH (Gu _)];decide)]at b;have j:=aq b;clear b;go_wp2_with fail;go_round
       case rel=>exact⟨s.size,d,by omega,by omega,by go_num,by rw[j.out];exact f⟩
       case measure=>simp[B3];omega
    .rw[aa h]at b;have f:=aq b;clear b q;by_cases m:aw s a=45
     .have L:aw s (a+1)≠45:=λA=>h ⟨m,A⟩;rw[aD L]at o;rw[m]at r;generalize lk s (a+1)=a7 at t o;clear i n x y z h v L m;go_wp2_with (go_at_call 131;refine ft (t _) ?_);go_ret;exact⟨by rw[<-f.out];rfl,rfl⟩
     .have an:(aw s a==45)=A9:=by rw[dv];exact m
      have ao:(aw s a !=45)=Ax:=by rw[BB];exact m
      generalize aw s a=G at r x y z an ao;clear i n h v m t o;go_wp2_with fail;go_ret;exact⟨by rw[<-f.out];rfl,rfl⟩
  .obtain rfl:a=s.size:=by omega
   rw[ab (ag _)]at b;have f:=aq b;clear b q;go_wp2_with fail;go_ret;exact⟨by rw[<-f.out];rfl,rfl⟩
def ajG(s:ByteArray)(p:Nat):Int:=if cD (aw s p)=Ax then(if aw s p=48/\aw s (p+1)=120 then 2 else 3) else if aw s p=34 then 4 else 0
def xA(s:ByteArray)(p:Nat):Int:=if(dl s p).ok=Ax then(dl s p).k else ajG s p
def agA(V:Array A2)(s:ByteArray):∀(f k j:Nat),vz V s f k=Z j->j<k+f
 |0,k,j,h=>by simp[vz]at h
 |f+1,k,j,h=>by
  rw[vz]at h;split at h
  .obtain rfl:=bc h;omega
  .have:=agA V s f (k+1) j h;omega
def acs(s:ByteArray)(p:Nat)(h:(dl s p).ok=Ax):1<=(dl s p).k/\(dl s p).k<=78:=by
 unfold dl at h⊢;split
 .simp only;unfold BH;cases hf:vz fp (s.extract p (qr s (s.size+1) p)) 22 0 with
  |none=>simp
  |some k=>have:=agA _ _ _ _ _ hf;simp only;omega
 split
 .split
  .simp only;unfold tB;split
   .simp
   .split<;>simp
  .rename_i a b c;rw[aa a,ab b,aa c]at h;cases h
 split
 .split
  .simp
  .rename_i a b c d;rw[aa a,aa b,ab c,aa d]at h;cases h
 split
 .rename_i a b c d;rw[aa a,aa b,aa c,ab d]at h;cases h
 .rename_i a b c d;have:=af3 (s.extract p s.size);simp only;omega
def ajH(s:ByteArray)(p:Nat):0<=ajG s p/\ajG s p<=4:=by
 unfold ajG;split
 .split<;>omega
 .split<;>omega
def Kr(st:List Int)(k:Int):List Int×Bool:=if 0<k then dy st k else(st,A9)
def tC(s:ByteArray):Nat->List Int->Nat->Int->List Tk->List Tk×List Int×Int
 |0,st,_,_,_=>([],st,0)
 |f+1,st,p,l,b=>
  if s.size<=p then(b++[⟨6,(s.size:Nat),(s.size:Nat),l,0,⟨#[]⟩⟩],st, -1)
  else if xA s p=7 then
   (if(dy st 5).2=Ax then tC s f (dy st 5).1 (blk s (s.size+1) (dl s p).a) (l+1) (b++[⟨5,(p:Nat),((dl s p).a:Nat),l,(dl s p).n,(dl s p).x⟩]) else tC s f st (blk s (s.size+1) (dl s p).a) (l+1) b)
  else if(Kr st (xA s p)).2=Ax then
   (if(dl s p).ok=Ax then tC s f (dy st (xA s p)).1 (blk s (s.size+1) (dl s p).a) l (b++[⟨xA s p,(p:Nat),((dl s p).a:Nat),l,(dl s p).n,(dl s p).x⟩]) else([],st,((dl s p).a:Nat)))
  else([],st,(amH s p (aqC st):Nat))
def nD(s:ByteArray):List Tk×List Int×Int:=tC s (s.size+1) [100,6] (blk s (s.size+1) 0) 1 []
structure aq5 (s:ByteArray) (f:Nat) (st:List Int) (p:Nat) (l:Int) (out:List Tk) (R:List Tk×List Int×Int):Prop where
 out:tC s f st p l out=R
def ajI(s:ByteArray)(p:Nat)(h:xA s p=7):(dl s p).ok=Ax/\(dl s p).k=7:=by
 unfold xA at h;split at h
 .rename_i a;exact⟨a,h⟩
 .have:=ajH s p;omega
inductive Fd:List Int->List Tk->List Int->Prop where
 |nil {st:List Int}:Fd st [] st
 |cons {st:List Int}{T:Tk}{ts:List Tk}{st':List Int}:1<=T.k->T.k<=78->T.k≠6->(dy st T.k).2=true->Fd (dy st T.k).1 ts st'->Fd st (T::ts) st'
def aaJ(V:Array A2)(base:Int)(r:ByteArray)(b:40<=base):∀(f i:Nat)(a:Int×Nat),a.1≠6->(xk V base r f i a).1≠6
 |0,i,a,h=>h
 |f+1,i,a,h=>by
  unfold xk;refine aaJ V base r b f (i+1) _ ?_;split
  .show base+(i:Int)≠6;omega
  .exact h
def act(s:ByteArray)(p:Nat)(h:(dl s p).ok=Ax):xA s p≠6:=by
 unfold xA;rw[ab h];unfold dl at h⊢;split
 .simp only;unfold BH;cases hf:vz fp (s.extract p (qr s (s.size+1) p)) 22 0 with
  |none=>simp
  |some e=>simp only;omega
 split
 .split
  .simp only;unfold tB;split
   .simp
   .split<;>simp
  .rename_i a b c;rw[aa a,ab b,aa c]at h;cases h
 split
 .split
  .simp
  .rename_i a b c d;rw[aa a,aa b,ab c,aa d]at h;cases h
 split
 .rename_i a b c d;rw[aa a,aa b,aa c,ab d]at h;cases h
 .simp only;unfold oH;split
  .omega
  split
  .omega
  .exact aaJ _ _ _ (by omega) _ _ _ (aaJ _ _ _ (by omega) _ _ _ (by simp))
def Id(s:ByteArray):∀(f:Nat)(st:List Int)(p:Nat)(l:Int)(i:List Tk)(b:List Tk)(c:List Int),tC s f st p l i=(b,c, -1)->∃ts d,b=i++ts++[⟨6,(s.size:Nat),(s.size:Nat),d,0,⟨#[]⟩⟩]/\Fd st ts c
 |0,st,p,l,i,b,c,h=>by simp[tC]at h
 |f+1,st,p,l,i,b,c,h=>by
  rw[tC]at h;split at h
  .simp only[jc]at h;exact⟨[],l,by rw[dr];exact h.1.symm,by rw[<-h.2.1];exact .nil⟩
  split at h
  .split at h
   .rename_i g;obtain⟨ts,d,e,j⟩:=Id s f _ _ _ _ b c h;exact⟨⟨5,(p:Nat),((dl s p).a:Nat),l,(dl s p).n,(dl s p).x⟩::ts,d,by rw[e];simp,.cons (by show(1:Int)<=5;omega) (by show(5:Int)<=78;omega) (by show(5:Int)≠6;omega) g j⟩
   .exact Id s f _ _ _ _ b c h
  split at h
  .rename_i o g;split at h
   .rename_i m;obtain⟨r,t⟩:=acs s p m;have q:xA s p=(dl s p).k:=by unfold xA;rw[ab m]
    rw[show Kr st (xA s p)=dy st (xA s p) by unfold Kr;rw[ab (by omega)]]at g;obtain⟨ts,d,e,j⟩:=Id s f _ _ _ _ b c h;exact⟨⟨xA s p,(p:Nat),((dl s p).a:Nat),l,(dl s p).n,(dl s p).x⟩::ts,d,by rw[e];simp,.cons (by show 1<=xA s p;omega) (by show xA s p<=78;omega) (act s p m) g j⟩
   .simp only[jc]at h;omega
  .simp only[jc]at h;omega
def apv{st e:List Int}(h:Fd st ts e):∀{T:Tk},T∈ts->1<=T.k/\T.k<=78/\T.k≠6:=by
 induction h with
 |nil=>intro T hT;cases hT
 |cons a b c f g d=>
  intro T hT;rcases List.mem_cons.1 hT with rfl|hT
  .exact⟨a,b,c⟩
  .exact d hT
def zTk:Tk:=⟨0,0,0,0,0,⟨#[]⟩⟩
def uy(ts:List Tk)(q:Nat):Tk:=ts.getD q zTk
def xr{q:Nat}{T:Tk}(h:ts[q]?=Z T):uy ts q=T:=by unfold uy;rw[aK,h];rfl
def Fo.all(p:Nd->Prop):Fo->Prop
 | .nil=>True
 | .cons N k r=>p N/\k.all p/\r.all p
def gH(p:Nd->Prop):∀(a b:Fo),(a.app b).all p↔a.all p/\b.all p
 | .nil,b=>by simp[Fo.app,Fo.all]
 | .cons N k r,b=>by simp only[Fo.app,Fo.all,gH p r b,and_assoc]
def cG(p:Nd->Prop)(N:Nd)(k:Fo):(one N k).all p↔p N/\k.all p:=by simp[one,Fo.all]
def Gd(tk:Nat->Tk)(n:Nat)(N:Nd):Prop:=(N.x=z0\/∃a,N.x=(tk a).x)/\N.nm.length<=n/\∀b∈N.nm,∃a,b=(tk a).x
def apw(tk:Nat->Tk)(n:Nat):xz->Prop
 | .more _ _ x=>x.all (Gd tk n)
 | .post _ a=>a.all (Gd tk n)
 |_=>True
section
variable {tk : Nat → Tk} {n : Nat}
def gd0(k:Int)(s:Tk)(e op m:Int):Gd tk n (nd k s e op m z0 []):=⟨.inl rfl,aI _,λb a=>by cases a⟩
def gdx(k:Int)(s:Tk)(e op m:Int)(q:Nat):Gd tk n (nd k s e op m (tk q).x []):=⟨.inr ⟨q,rfl⟩,aI _,λx a=>by cases a⟩
def gd1(h:0<n)(k:Int)(s:Tk)(e op m:Int)(q:Nat):Gd tk n (nd k s e op m z0 [(tk q).x]):=⟨.inl rfl,h,λx a=>⟨q,List.mem_singleton.1 a⟩⟩
def gdb(k:Int)(s:Tk)(e:Int):Gd tk n (ue k s e):=by unfold ue;split;exact gd0 ..;split;exact gd0 ..;exact gd0 ..
def gdh(N:Nd)(ks:Fo)(s:Tk)(e:Int)(h:Gd tk n N)(a:ks.all (Gd tk n)):(lJ N ks s e).all (Gd tk n):=by
 unfold lJ;split
 .rw[cG,cG];exact⟨gd0 ..,h,a⟩
 .rw[cG];exact⟨h,a⟩
def GG.gd(h:GG tk n i ns j):i+2*ns.length<=j/\j<n/\∀x∈ns,∃q,x=(tk q).x:=by
 induction h with
 |stop c a=>exact⟨by simp,a,λx hx=>by cases hx⟩
 |go c a d _ b=>
  refine⟨by simp;omega,b.2.1,λx hx=>?_⟩;rcases List.mem_cons.1 hx with rfl|hx
  .exact⟨_,rfl⟩
  .exact b.2.2 x hx
def Lx.gd{r:Bool}(h:Lx tk n i ns r j):i+ns.length<=j/\j<=n/\∀x∈ns,∃q,x=(tk q).x:=by
 induction h with
 |close a b=>exact⟨by simp,by omega,λx hx=>by cases hx⟩
 |rest a b c=>exact⟨by simp,by omega,λx hx=>by cases hx⟩
 |last a b c=>exact⟨by simp,by omega,λx hx=>⟨_,List.mem_singleton.1 hx⟩⟩
 |go a b c _ d=>
  refine⟨by simp;omega,d.2.1,λx hx=>?_⟩;rcases List.mem_cons.1 hx with rfl|hx
  .exact⟨_,rfl⟩
  .exact d.2.2 x hx
def gdn{q:Nat}(h:GG tk n i ns j)(k:Int)(s:Tk)(e op m:Int):Gd tk n (nd k s e op m z0 ((tk q).x::ns)):=by
 obtain⟨b,c,a⟩:=h.gd;refine⟨.inl rfl,by show ns.length+1<=n;omega,λx hx=>?_⟩;rcases List.mem_cons.1 hx with rfl|hx
 .exact⟨_,rfl⟩
 .exact a x hx
def P.gd{t:xz}{R:Fo}(h:P tk n t i R j):apw tk n t->R.all (Gd tk n):=by
 induction h
 case tlet0 h1 h2 h3 h4 h5=>intro _;rw[cG];exact⟨gdn h4 ..,trivial⟩
 case tlet h1 h2 h3 h4 h5 h6 ih=>intro _;rw[cG];exact⟨gdn h4 ..,ih trivial⟩
 case tfor h1 h2 h3 h4 h5 h6 h7 i1 i2=>intro _;rw[cG,gH];exact⟨gdn h4 ..,i1 trivial,i2 trivial⟩
 case teach h1 h2 h3 h4 h5 h6 h7 h8 h9 i1 i2=>intro _;rw[cG,gH];exact⟨gdn h4 ..,i1 trivial,i2 trivial⟩
 case ttry h1 h2 h3 h4 h5 h6 h7 h8 i1 i2=>intro _;rw[cG,gH];exact⟨gdn h7 ..,i1 trivial,i2 trivial⟩
 case body nm r B h1 h2 h3 h4 ih=>intro _;rw[cG];exact⟨⟨.inl rfl,by have:=h3.gd;show nm.length<=n;omega,h3.gd.2.2⟩,ih trivial⟩
 case bopen h1 h2 h3 h4 h5 h6 i1 i2=>intro _;have:=i1 trivial;rw[cG]at this;exact i2 (gdh _ _ _ _ this.1 this.2)
 case tcon h1 h2 h3 h4 h5 ih=>intro _;rw[cG];exact⟨gd1 (by omega) ..,ih trivial⟩
 case tfn h1 h2 h3 h4 h5 ih=>intro _;rw[cG];exact⟨gd1 (by omega) ..,ih trivial⟩
 all_goals
  intro a
  simp_all only[cG,gH,apw,Fo.all,gdx,gd0,jm,gdb,and_self,true_implies,forall_const]
end
def Fo.nms:Fo->Nat
 | .nil=>0
 | .cons N k r=>N.nm.length+k.nms+r.nms
def qD:∀(a b:Fo),(a.app b).nms=a.nms+b.nms
 | .nil,b=>by simp[Fo.app,Fo.nms]
 | .cons N k r,b=>by simp only[Fo.app,Fo.nms,qD r b];omega
def py(N:Nd)(k:Fo):(one N k).nms=N.nm.length+k.nms:=by simp[one,Fo.nms]
def agB(N:Nd)(ks:Fo)(s:Tk)(e:Int):(lJ N ks s e).nms=(one N ks).nms:=by
 unfold lJ;split
 .rw[py];simp[jm,nd]
 .rfl
def DI(k:Int)(s:Tk)(e op m:Int)(x:ByteArray)(nm:List ByteArray):(nd k s e op m x nm).nm=nm:=rfl
def ano(k:Int)(s:Tk)(e:Int):(ue k s e).nm=[]:=by unfold ue;split;rfl;split<;>rfl
def Ie:xz->Nat
 | .more _ _ x=>x.nms
 | .post _ a=>a.nms
 |_=>0
def P.nms{tk:Nat->Tk}{t:xz}{R:Fo}(h:P tk n t i R j):R.nms+i<=Ie t+j:=by
 induction h
 case tlet0 h1 h2 h3 h4 h5=>have:=h4.gd;simp only[py,qD,Ie,DI,Fo.nms,bm]at *;omega
 case tlet h1 h2 h3 h4 h5 h6 ih=>have:=h4.gd;simp only[py,qD,Ie,DI,Fo.nms,bm]at *;omega
 case tfor h1 h2 h3 h4 h5 h6 h7 i1 i2=>have:=h4.gd;simp only[py,qD,Ie,DI,Fo.nms,bm]at *;omega
 case teach h1 h2 h3 h4 h5 h6 h7 h8 h9 i1 i2=>have:=h4.gd;simp only[py,qD,Ie,DI,Fo.nms,bm]at *;omega
 case ttry h1 h2 h3 h4 h5 h6 h7 h8 i1 i2=>have:=h7.gd;simp only[py,qD,Ie,DI,Fo.nms,bm]at *;omega
 case body h1 h2 h3 h4 ih=>have:=h3.gd;simp only[py,qD,Ie,DI,Fo.nms,bm]at *;omega
 all_goals
  simp only[py,qD,agB,Ie,jm,DI,ano,Fo.nms,bm,ej]at *;omega
def DJ:∀(R:Fo)(a b:Nat),cnt a (R.flat b)+R.len=a+8*R.sz+R.nms
 | .nil,a,b=>by simp[Fo.flat,cnt,Fo.len,Fo.sz,Fo.nms]
 | .cons N k r,a,b=>by
  have d:=DJ k a b;have e:=DJ r (nxt (cnt a (k.flat b)) {N with ks:=k.tops b}) (b+k.sz+1);have f:=k.tops_len b;rw[Fo.flat,afg,cnt];have c:nxt (cnt a (k.flat b)) {N with ks:=k.tops b}=cnt a (k.flat b)+7+N.nm.length+(k.tops b).length:=rfl;simp only[Fo.len,Fo.sz,Fo.nms];omega
def apx(s:ByteArray)(p:Nat)(e:p<s.size):(dl s p).x.size<=s.size:=by
 have c:∀a b,(s.extract a b).size<=s.size:=λa b=>by rw[qu];omega
 unfold dl;split
 .show(BH s p).2.size<=_;unfold BH;split
  .exact aI _
  .exact c _ _
 split
 .split
  .show(tB s p).2.2.size<=_;unfold tB;split
   .exact aI _
   split
   .exact aI _
   .exact c _ _
  .exact aI _
 split
 .split
  .show(fy _).size<=_;have d:=(ya s (s.size+1) (p+1) [] e).2.2;rw[rp];simp at d;omega
  .exact aI _
 split
 .exact aI _
 .exact aI _
def acu(s:ByteArray):∀(f:Nat)(st:List Int)(p:Nat)(l:Int)(a:List Tk),(∀T∈a,T.x.size<=s.size)->∀T∈(tC s f st p l a).1,T.x.size<=s.size
 |0,st,p,l,a,h=>λT hT=>by cases hT
 |f+1,st,p,l,a,h=>by
  have c:∀(b:Tk),b.x.size<=s.size->∀T∈a++[b],T.x.size<=s.size:=λb e T hT=>by
   rcases List.mem_append.1 hT with hT|hT
   .exact h T hT
   .rw[List.mem_singleton.1 hT];exact e
  rw[tC];split
  .exact c _ (aI _)
  .rename_i g;have d:=apx s p (by omega);split
   .split
    .exact acu s f _ _ _ _ (c _ d)
    .exact acu s f _ _ _ _ h
   .split
    .split
     .exact acu s f _ _ _ _ (c _ d)
     .exact λT hT=>by cases hT
    .exact λT hT=>by cases hT
def acv(s:ByteArray):∀(f:Nat)(st:List Int)(p:Nat)(l:Int)(b:List Tk),p<=s.size->(tC s f st p l b).1.length<=b.length+(s.size-p)+1
 |0,st,p,l,b,h=>aI _
 |f+1,st,p,l,b,h=>by
  rw[tC];split
  .simp
  .rename_i j;have d:∀q,q<=s.size->q<=blk s (s.size+1) q/\blk s (s.size+1) q<=s.size:=λq i=>qg s (s.size+1) q i;split
   .rename_i e;have c:=od s p (by omega) (ajI s p e).1;have:=d _ c.2.1;split
    .have:=acv s f (dy st 5).1 (blk s (s.size+1) (dl s p).a) (l+1) (b++[⟨5,(p:Nat),((dl s p).a:Nat),l,(dl s p).n,(dl s p).x⟩]) (by omega);simp only[aJ,Bi]at this;omega
    .have:=acv s f st (blk s (s.size+1) (dl s p).a) (l+1) b (by omega);omega
   .split
    .split
     .rename_i g;have c:=od s p (by omega) g;have:=d _ c.2.1;have:=acv s f (dy st (xA s p)).1 (blk s (s.size+1) (dl s p).a) l (b++[⟨xA s p,(p:Nat),((dl s p).a:Nat),l,(dl s p).n,(dl s p).x⟩]) (by omega);simp only[aJ,Bi]at this;omega
     .exact aI _
    .exact aI _
def Cc(p:Nd->Prop)(c:∀(N:Nd) (ks:List Int),p N->p {N with ks:=ks}):∀(R:Fo)(b:Nat),R.all p->∀N∈R.flat b,p N/\N.ks.length<=R.sz
 | .nil,b,h=>λN hN=>by cases hN
 | .cons e k r,b,h=>λN hN=>by
  have f:=k.len_le;have g:=k.tops_len b;rw[Fo.flat,By,ij]at hN;rcases hN with hN|rfl|hN
  .obtain⟨a,d⟩:=Cc p c k b h.2.1 N hN;exact⟨a,by rw[Fo.sz];omega⟩
  .exact⟨c _ _ h.1,by rw[Fo.sz];show(k.tops b).length<=_;omega⟩
  .obtain⟨a,d⟩:=Cc p c r _ h.2.2 N hN;exact⟨a,by rw[Fo.sz];omega⟩
def wD(s:ByteArray)(R:Fo):List Nd:=(one ⟨1,0,(s.size:Nat),1,0,0,⟨#[]⟩,[],[]⟩ R).flat 0
structure PF (s:ByteArray) (toks:List Tk) (m:Nat) (R:Fo) (lz:Int):Prop where
 len:toks.length=m+1
 le:m<=s.size
 p:P (uy toks) (m+1) .stats 0 R m
 k78:∀q,(uy toks q).k<=78
 k6:∀q,q<m->(uy toks q).k≠6
 end_:uy toks m=⟨6,(s.size:Nat),(s.size:Nat),lz,0,⟨#[]⟩⟩
 sz:R.sz<=200000
 sm:∀N∈wD s R,kH N
 ct:cnt 1 (wD s R)<=2000000
def apy(B:s.size<=65536){a:List Tk}{st:List Int}(h:nD s=(a,st, -1)){m:Nat}{R:Fo}{l:Int}(p:a.length=m+1)(r:uy a m=⟨6,(s.size:Nat),(s.size:Nat),l,0,⟨#[]⟩⟩)(e:P (uy a) (m+1) .stats 0 R m)(t:∀q,q<m->(uy a q).k≠6):PF s a m R l:=by
 obtain⟨J,I,b,x⟩:=Id s _ _ _ _ _ a st h;rw[eu]at b;have G:=qg s (s.size+1) 0 (aI _);have j:=acv s (s.size+1) [100,6] (blk s (s.size+1) 0) 1 [] (by omega);have c:=acu s (s.size+1) [100,6] (blk s (s.size+1) 0) 1 [] (λd w=>by cases w);have C:tC s (s.size+1) [100,6] (blk s (s.size+1) 0) 1 []=(a,st, -1):=h;rw[C]at j c;simp only[ej]at j;have A:=e.pos;simp only[eB,slk,bas]at A;have z:=e.nms;have u:=e.gd trivial;have i:(one ⟨1,0,(s.size:Nat),1,0,0,⟨#[]⟩,[],[]⟩ R:Fo).sz=R.sz+1:=di _ _;have n:∀q,(uy a q).x.size<=65536:=λq=>by
  unfold uy;rw[aK];cases hq:a[q]? with
  |none=>exact aI _
  |some d=>exact bG (c d (dz hq)) B
 have E:∀q,(uy a q).k<=78:=λq=>by
  unfold uy;rw[aK];cases hq:a[q]? with
  |none=>show(0:Int)<=78;decide
  |some d=>
   have:=dz hq;rw[b,By,List.mem_singleton]at this;rcases this with g|g
   .have:=apv x g;show d.k<=78;omega
   .rw[g];show(6:Int)<=78;decide
 refine⟨p,by omega,e,E,t,r,by omega,λf v=>?_,?_⟩
 .obtain⟨g,y⟩:=Cc (Gd (uy a) (m+1)) (λf H h=>h) _ 0 ((cG _ _ R).2 ⟨⟨.inl rfl,aI _,λo c=>by cases c⟩,u⟩) f v;rw[i]at y;refine⟨by have:=g.2.1;omega,by omega,?_,λo c=>?_⟩
  .rcases g.1 with b|⟨q,b⟩
   .rw[b];exact aI _
   .rw[b];have:=n q;omega
  .obtain⟨q,b⟩:=g.2.2 o c;rw[b];have:=n q;omega
 .have:=DJ (one ⟨1,0,(s.size:Nat),1,0,0,⟨#[]⟩,[],[]⟩ R) 1 0;rw[i,py]at this;simp only[Ie]at z;have F:([]:List ByteArray).length=0:=rfl;unfold wD;show cnt 1 (Fo.flat (one ⟨1,0,(s.size:Nat),1,0,0,⟨#[]⟩,[],[]⟩ R) 0)<=_;simp only[ej]at this;omega
def ajJ:(Tryz.prog.info? 46).map (λi=>(i.zero,i.size,i.bytes))=Z (Z (B4 #[M O 0,M O 0,M O 0,M O 0,M O 0,X ⟨#[]⟩]),6,56):=by kernel_rfl
def Ks{w5:Q}{o:Obj}{e size:Nat}(i:W.ownsRow base e size v n xs)(h:(W.alloc o).grownBy w5 v.ownBlock){k:Nat}{cs:Array A2}{fr:Nat×Nat}(b:W.heap[k]?=Z (B2 cs t fr))(ht:t≠e):w5.heap[k]?=Z (B2 cs t fr):=by
 refine(h.block k (by simp;have:=aj b;omega) (λf=>?_)).trans ((dG _ _ _ (aj b)).trans b);have a:v.ownBlock=Z k:=f.symm;rcases i.2 with⟨c,_⟩|⟨g,j,l,c,_,d,_⟩
 .rw[c]at a;simp[B6]at a
 .rw[c]at a;obtain rfl:g=k:=by simpa [B6] using a
  rw[b]at d;simp only[fi,jL]at d;exact ht d.2.1
def BF.app{w5:Q}{o:Obj}{mb:Nat}(h:BF W base mb C){d e size:Nat}(c:W.ownsRow d e size v n xs)(b:(W.alloc o).grownBy w5 v.ownBlock)(j:105≠e)(k:173≠e):BF w5 base mb C:=by
 obtain⟨t,q,r,a⟩:=h.ex;refine⟨⟨t,Ks c b q j,r,?_⟩,h.lo⟩;rcases a with a|⟨i,f,g,p,m,l,s⟩
 .exact .inl a
 .exact .inr ⟨i,f,g,p,m,Ks c b l k,s⟩
def BF.other{mb b:Nat}(h:BF W base mb C){cs:Array A2}{fr:Nat×Nat}(s:W.heap[b]?=Z (B2 cs t fr))(q:t≠105)(r:t≠173)(j:Nat)(v:A2):BF (W.setCell ⟨b,j,A0⟩ v) base mb C:=by
 obtain⟨A,e,y,c⟩:=h.ex;have g:∀{f:Nat}{l:Array A2}{i:TypeId}{o:Nat×Nat},W.heap[f]?=Z (B2 l i o)->t≠i->f≠b:=λa w n=>by
  subst n;rw[s]at a;simp only[fi,jL]at a;exact w a.2.1
 refine⟨⟨A,(aC _ _ _ _ (g e q)).trans e,y,?_⟩,h.lo⟩;rcases c with c|⟨p,k,m,x,u,d,z⟩
 .exact .inl c
 .exact .inr ⟨p,k,m,x,u,(aC _ _ _ _ (g d r)).trans d,z⟩
def aaK{e size b:Nat}(h:W.ownsRow base e size v n xs)(a:∀g,v.ownBlock=Z g->g<b)(j:Nat)(u:A2):(W.setCell ⟨b,j,A0⟩ u).ownsRow base e size v n xs:=by
 refine h.kept (row:=Z b) ⟨rfl,rfl,rfl,by simp[World.setCell],λf d c=>aC _ _ _ _ (λe=>c (by rw[e]))⟩ ?_;cases hv:v.ownBlock with
 |none=>exact .inl rfl
 |some g=>exact .inr (λe=>by have:=a g hv;obtain rfl:=bc e;omega)
structure aaL (w:Q) (base mb:Nat) (s:ByteArray) (R:List Tk×List Int×Int) (p:Nat) (st:List Int) (top:Int) (C:List (Int×Int)) (l:Int) (out:List Tk) (f:Nat) (vo:A2) (W:Q):Prop where
 m:BF W base mb C
 sk:pL C top st
 o:yd st
 bl:B0 base w W
 row:W.ownsRow base 46 6 vo out.length (zm out)
 eq:tC s f st p l out=R
 cl:2<=C.length/\C.length<=2+20*p
 ol:out.length<=p
 l0:1<=l/\l<=(p:Int)+1
def aaL.below{mb:Nat}{R:List Tk×List Int×Int}{p:Nat}{st:List Int}{d:Int}{l:Int}{c:List Tk}{f:Nat}{e:A2}{b:Q}(h:aaL w base mb s R p st d C l c f e W)(a:B0 W.heap.size W b)(g:base<=W.heap.size):aaL w base mb s R p st d C l c f e b:=
 ⟨h.m.below a,h.sk,h.o,h.bl.trans (a.mono g),cJ h.row a,h.eq,h.cl,h.ol,h.l0⟩
def Kt(w:Q)(base mb:Nat)(s:ByteArray)(R:List Tk×List Int×Int)(e:Ending)(a:Q):Prop:=
 ∃(b:Option Addr) (c:Nat) (d:Int) (C:List (Int×Int)),e= A3 (B1 #[B7 b R.1.length c,M O d,M O R.2.2])/\a.ownsRow base 46 6 (B7 b R.1.length c) R.1.length (zm R.1)/\BF a base mb C/\pL C d R.2.1/\yd R.2.1/\B0 base w a/\2<=C.length/\C.length<=2000000
def If:∀(ts:List Tk)(q i:Nat)(T:Tk),ts[q]?=Z T->i<6->(zm ts)[q*6+i]?=(cTk T)[i]?
 |[],q,i,T,h,b=>by simp at h
 |a::r,0,i,T,h,b=>by
  simp at h;subst h;show(cTk a++zm r)[0*6+i]?=_;rw[iq (by show 0*6+i<6;omega),Nat.zero_mul,iG]
 |a::r,q+1,i,T,h,b=>by
  show(cTk a++zm r)[(q+1)*6+i]?=_;rw[gh (by show 6<=_;omega),show(q+1)*6+i-(cTk a).length=q*6+i by show _-6=_;omega];exact If r q i T (by simpa using h) b
def agC{c:Array A2}{tk:Nat->Tk}(h:c.toList.take (n*6)=zm ts)(j:ts.length=n)(g:∀q T,ts[q]?=Z T->{T with l:=(tk q).l}=tk q/\((tk q).k≠6->T.l=(tk q).l)):TkR c tk n:=by
 intro q m;have d:=aA (show q<ts.length by omega);obtain⟨e,f⟩:=g q _ d;generalize ts[q]=T at d e f;have a:∀b,b<6->c[q*6+b]?=(cTk T)[b]?:=λb i=>by rw[<-If ts q b T d i,<-h,mJ,ab (by omega),uG]
 refine⟨T.l,?_,?_,?_,a 3 (by omega),?_,?_,f⟩;all_goals rw[<-e]
 .exact a 0 (by omega)
 .exact a 1 (by omega)
 .exact a 2 (by omega)
 .exact a 4 (by omega)
 .exact a 5 (by omega)
def na(s:ByteArray):List Tk×Int:=if 0<=(nD s).2.2 then([],(nD s).2.2) else if(dy (nD s).2.1 6).2=Ax then((nD s).1, -1) else([],(s.size:Nat))
def TkP(s:ByteArray)(w:Q)(e:Ending)(c:Q):Prop:=∃a b,e= A3 (B1 #[B7 a (na s).1.length b,M O (na s).2])/\c.ownsRow w.heap.size 46 6 (B7 a (na s).1.length b) (na s).1.length (zm (na s).1)/\B0 w.heap.size w c
def row3{a b c:A2}(h:w.heap[r]?=Z (B2 #[a,b,c] t (0,0))):w.cell? ⟨r,0,A0⟩=Z a/\w.cell? ⟨r,1,A0⟩=Z b/\w.cell? ⟨r,2,A0⟩=Z c/\∀j,w.frozen? ⟨r,j,A0⟩=A9:=
 ⟨by rw[am _ _ _ _ _ _ h];rfl,by rw[am _ _ _ _ _ _ h];rfl,by rw[am _ _ _ _ _ _ h];rfl,λj=>ch _ _ _ _ _ h⟩
def set3{d e f:A2}(h:w.heap[r]?=Z (B2 #[d,e,f] t (0,0)))(a b c:A2):(((w.setCell ⟨r,0,A0⟩ a).setCell ⟨r,1,A0⟩ b).setCell ⟨r,2,A0⟩ c).heap[r]?=Z (B2 #[a,b,c] t (0,0)):=
 aL _ r 2 _ _ _ (aL _ r 1 _ _ _ (aL _ r 0 _ _ _ h))
def ali{k:Nat}(h:k≠r)(a b c:A2):(((w.setCell ⟨r,0,A0⟩ a).setCell ⟨r,1,A0⟩ b).setCell ⟨r,2,A0⟩ c).heap[k]?=w.heap[k]?:=
 (aC _ _ _ _ h).trans ((aC _ _ _ _ h).trans (aC _ _ _ _ h))
def agD{a:Q}(h:B0 r a w)(b c f:A2):B0 r a (((w.setCell ⟨r,0,A0⟩ b).setCell ⟨r,1,A0⟩ c).setCell ⟨r,2,A0⟩ f):=by
 have d:B0 r a (w.setCell ⟨r,0,A0⟩ b):=h.setCell (ag _) _;have e:B0 r a ((w.setCell ⟨r,0,A0⟩ b).setCell ⟨r,1,A0⟩ c):=d.setCell (ag _) _;exact e.setCell (ag _) _
def Acc(s:ByteArray):Prop:=(nD s).2.2= -1/\(dy (nD s).2.1 6).2=Ax
def Ku(s:ByteArray)(ns:List Nd):Prop:=∃b d a c,s.size<=65536/\Acc s/\na s=(b, -1)/\PF s b d a c/\dD (wD s a)=(0,0)/\ns=wD s a
def agE(s:ByteArray):Prop:=∀w,B5 A5 20 #[X s] w (TkP s w)
def psV(c a:Int)(v:A2):A2:= B4 #[M O c,M O a,v]
def Nl(w:Q)(v:A2)(ns:List Nd):Prop:=∃a b,a.map Mb.N=ns/\Lw w b v a
def Nl.nds{ns:List Nd}(h:Nl w v ns):eK w v ns:=by
 obtain⟨b,c,rfl,a⟩:=h;exact a.nds
def anp(w:Q):Nl w (B7 A0 0 0) []:=⟨[],0,rfl,eI _ _ _ _,λb a=>by cases a⟩
def PsP(w:Q)(c a:Int)(ns:List Nd)(e:Ending)(b:Q):Prop:=∃v,e= A3 (psV c a v)/\Nl b v ns/\B0 w.heap.size w b
def okC(ns:List Nd):Int:=if(dD ns).1=0 then 0 else 2
def okN(ns:List Nd):List Nd:=if(dD ns).1=0 then ns else []
def acw(s:ByteArray):∀(f:Nat)(st:List Int)(p:Nat)(l:Int)(c:List Tk),p<=s.size->c.Pairwise (λa b=>a.f<b.f)->(∀T∈c,0<=T.f/\T.f<(p:Int))->(tC s f st p l c).1.Pairwise (λa b=>a.f<b.f)/\∀T∈(tC s f st p l c).1,0<=T.f
 |0,st,p,l,c,_,_,_=>⟨.nil,λT hT=>by cases hT⟩
 |f+1,st,p,l,c,z,r,k=>by
  have j:∀(g:Tk)(d:Nat),g.f=(p:Int)->p<d->(c++[g]).Pairwise (λa b=>a.f<b.f)/\∀T∈c++[g],0<=T.f/\T.f<(d:Int):=λg d q m=>by
   refine⟨List.pairwise_append.2 ⟨r,List.pairwise_singleton _ _,λa u b h=>?_⟩,λT hT=>?_⟩
   .rw[List.mem_singleton.1 h,q];exact(k a u).2
   .rcases List.mem_append.1 hT with hT|hT
    .have:=k T hT;omega
    .rw[List.mem_singleton.1 hT,q];omega
  have y:∀d,p<d->∀T∈c,0<=T.f/\T.f<(d:Int):=λd m T hT=>by have:=k T hT;omega
  have h:∀e,e<=s.size->e<=blk s (s.size+1) e/\blk s (s.size+1) e<=s.size:=λe w=>qg s (s.size+1) e w;rw[tC];split
  .rename_i m;have:=j ⟨6,(s.size:Nat),(s.size:Nat),l,0,⟨#[]⟩⟩ (p+1) (by show((s.size:Nat):Int)=_;omega) (by omega);exact⟨this.1,λT hT=>(this.2 T hT).1⟩
  .rename_i m;split
   .rename_i t;have o:=od s p (by omega) (ajI s p t).1;have i:=h _ o.2.1;split
    .have:=j ⟨5,(p:Nat),((dl s p).a:Nat),l,(dl s p).n,(dl s p).x⟩ (blk s (s.size+1) (dl s p).a) rfl (by omega);exact acw s f _ _ _ _ i.2 this.1 this.2
    .exact acw s f _ _ _ _ i.2 r (y _ (by omega))
   .split
    .split
     .rename_i v;have o:=od s p (by omega) v;have i:=h _ o.2.1;have:=j ⟨xA s p,(p:Nat),((dl s p).a:Nat),l,(dl s p).n,(dl s p).x⟩ (blk s (s.size+1) (dl s p).a) rfl (by omega);exact acw s f _ _ _ _ i.2 this.1 this.2
     .exact⟨.nil,λT hT=>by cases hT⟩
    .exact⟨.nil,λT hT=>by cases hT⟩
open Go.Lib (strCells strCells_length)
structure TkO (n:Nat) (ts:List Tk):Prop where
 each:∀T∈ts,0<=T.f/\T.f<=T.t/\T.t<=(n:Int)/\0<=T.l
 next:ts.Pairwise λa b=>a.t<=b.f
def acx(s:ByteArray):∀(f:Nat)(st:List Int)(p:Nat)(l:Int)(a:List Tk),p<=s.size->TkO s.size a->(∀T∈a,T.t<=(p:Int))->0<=l->TkO s.size (tC s f st p l a).1
 |0,st,p,l,a,_,_,_,_=>⟨λT hT=>(by cases hT),.nil⟩
 |f+1,st,p,l,a,H,i,j,g=>by
  have h:∀(c:Tk)(q b:Nat),c.f=(p:Int)->c.t=(q:Int)->p<=q->q<=s.size->q<=b->0<=c.l->TkO s.size (a++[c])/\∀T∈a++[c],T.t<=(b:Int):=λc q b m o C E F G=>by
   refine⟨⟨λT hT=>?_,List.pairwise_append.2 ⟨i.next,List.pairwise_singleton _ _,λu w B d=>?_⟩⟩,λT hT=>?_⟩
   .rcases List.mem_append.1 hT with hT|hT
    .exact i.each T hT
    .rw[List.mem_singleton.1 hT,m,o];omega
   .rw[List.mem_singleton.1 d,m];exact j u w
   .rcases List.mem_append.1 hT with hT|hT
    .have:=j T hT;omega
    .rw[List.mem_singleton.1 hT,o];omega
  have A:∀b,p<=b->∀T∈a,T.t<=(b:Int):=λb r T hT=>by have:=j T hT;omega
  have d:∀q,q<=s.size->q<=blk s (s.size+1) q/\blk s (s.size+1) q<=s.size:=λq z=>qg s (s.size+1) q z;rw[tC];split
  .rename_i r;exact(h ⟨6,(s.size:Nat),(s.size:Nat),l,0,⟨#[]⟩⟩ s.size s.size (by show((s.size:Nat):Int)=_;omega) rfl (by omega) (by omega) (by omega) g).1
  .rename_i r;split
   .rename_i v;have k:=od s p (by omega) (ajI s p v).1;have e:=d _ k.2.1;split
    .have:=h ⟨5,(p:Nat),((dl s p).a:Nat),l,(dl s p).n,(dl s p).x⟩ (dl s p).a (blk s (s.size+1) (dl s p).a) rfl rfl (by omega) (by omega) (by omega) g;exact acx s f _ _ _ _ e.2 this.1 this.2 (by omega)
    .exact acx s f _ _ _ _ e.2 i (A _ (by omega)) (by omega)
   .split
    .split
     .rename_i y;have k:=od s p (by omega) y;have e:=d _ k.2.1;have:=h ⟨xA s p,(p:Nat),((dl s p).a:Nat),l,(dl s p).n,(dl s p).x⟩ (dl s p).a (blk s (s.size+1) (dl s p).a) rfl rfl (by omega) (by omega) (by omega) g;exact acx s f _ _ _ _ e.2 this.1 this.2 g
     .exact⟨λT hT=>(by cases hT),.nil⟩
    .exact⟨λT hT=>(by cases hT),.nil⟩
def Kv(s:ByteArray):TkO s.size (na s).1:=by
 have b:TkO s.size []:=⟨λc a=>(by cases a),.nil⟩;unfold na;split
 .exact b
 split
 .exact acx s _ _ _ _ _ (qg s (s.size+1) 0 (aI _)).2 b (λc a=>(by cases a)) (by decide)
 .exact b
def acy{n:Int}:∀(l:List Tk)(lo:Int),l.Pairwise (λa b=>a.f<b.f)->(∀T∈l,lo<=T.f/\T.f<=n)->lo<=n+1->(l.length:Int)<=n+1-lo
 |[],lo,_,_,h=>by simp;omega
 |T::r,lo,j,e,h=>by
  have k:=e T bg;obtain⟨g,i⟩:=List.pairwise_cons.1 j;have:=acy (n:=n) r (T.f+1) i (λc d=>by have:=g c d;have:=e c (dm _ d);omega) (by omega);rw[bm];simp;omega
def DK(s:ByteArray):(na s).1.length<=s.size+1:=by
 have e:=Kv s;have g:(na s).1.Pairwise λc d=>c.f<d.f:=by
  unfold na;split
  .exact .nil
  split
  .exact(acw s (s.size+1) [100,6] (blk s (s.size+1) 0) 1 [] (qg s (s.size+1) 0 (aI _)).2 .nil (λb a=>by cases a)).1
  .exact .nil
 have:=acy (n:=(s.size:Int)) _ 0 g (λb a=>by have:=e.each b a;omega) (by omega);omega
end Go.Proofs.YtnoembpaejlaeaaGreatDoor
namespace Go.Proofs.YtnoembpaejlaeaaGreatDoor
open Go.RowKit Go.Maps Go.WideMaps
variable{C:List (Int×Int)}{W w:World}{base i j n r:Nat}{ns:List ByteArray}{s:ByteArray}{t:TypeId}{ts:List Tk}{v:Value}{xs:List Value}
def Pln(N:Nd):Prop:=0<=N.f/\N.f<=N.t/\0<=N.l
def apz(tk:Nat->Tk):xz->Nat->Prop
 | .more _ s x,i=>(∃q,q<i/\s=tk q)/\x.all Pln
 | .post s a,i=>(∃q,q<i/\s=tk q)/\a.all Pln
 | .body s,i=>∃q,q<=i/\s=tk q
 |_,_=>True
section
variable {tk : Nat → Tk} {n : Nat}
def gc(c:∀q r,q<=r->r<n->0<=(tk q).f/\(tk q).f<=(tk r).t/\0<=(tk q).l){q:Nat}{k op m:Int}{x:ByteArray}{nm:List ByteArray}(a:q<=r:=by omega)(b:r<n:=by omega):Pln (nd k (tk q) (tk r).t op m x nm):=c q r a b
def ajK(c:∀q r,q<=r->r<n->0<=(tk q).f/\(tk q).f<=(tk r).t/\0<=(tk q).l){q:Nat}{k:Int}(a:q<=r:=by omega)(b:r<n:=by omega):Pln (ue k (tk q) (tk r).t):=by
 unfold ue;split
 .exact c q r a b
 split
 .exact c q r a b
 .exact c q r a b
def P.pl(d:∀q r,q<=r->r<n->0<=(tk q).f/\(tk q).f<=(tk r).t/\0<=(tk q).l){t:xz}{R:Fo}(h:P tk n t i R j):(i+eB t<=j/\j<n)/\(apz tk t i->R.all Pln):=by
 refine⟨⟨h.pos.1,h.pos.2.1⟩,?_⟩
 induction h
 case mgo p s x y R k k1 j h1 h2 h3 h4 h5 e i2=>
  rintro ⟨⟨q,u,rfl⟩,g⟩;have:=h4.pos;simp only[eB]at this;exact i2 ⟨⟨q,by omega,rfl⟩,(cG _ _ _).2 ⟨ajK d,(gH _ _ _).2 ⟨g,e trivial⟩⟩⟩
 case ex p i k j x R h1 h2 h3 h4 e i2=>
  intro _;have:=h3.pos;simp only[eB]at this;exact i2 ⟨⟨i,by omega,rfl⟩,e trivial⟩
 case bname i j R h1 h2 h3 ih=>intro _;exact ih ⟨⟨i,by omega,rfl⟩,(cG _ _ _).2 ⟨gc d,trivial⟩⟩
 case bopen i k j N ks R h1 h2 h3 h4 h5 h6 e i2=>
  intro _;have:=h3.pos;simp only[eB]at this;have e:=e trivial;refine i2 ⟨⟨i,by omega,rfl⟩,?_⟩;unfold lJ;split
  .exact(cG _ _ _).2 ⟨gc d,e⟩
  .exact e
 case pdot s B R k j h1 h2 h3 h4 ih=>
  rintro ⟨⟨q,u,rfl⟩,g⟩;exact ih ⟨⟨q,by omega,rfl⟩,(cG _ _ _).2 ⟨gc d,g⟩⟩
 case psq s B Y R k k1 j h1 h2 h3 h4 h5 h6 e i2=>
  rintro ⟨⟨q,u,rfl⟩,g⟩;have:=h3.pos;simp only[eB]at this;exact i2 ⟨⟨q,by omega,rfl⟩,(cG _ _ _).2 ⟨gc d,(gH _ _ _).2 ⟨g,e trivial⟩⟩⟩
 case pcall0 s B R k j h1 h2 h3 h4 ih=>
  rintro ⟨⟨q,u,rfl⟩,g⟩;exact ih ⟨⟨q,by omega,rfl⟩,(cG _ _ _).2 ⟨gc d,g⟩⟩
 case pcall s B Y R k k1 j h1 h2 h3 h4 h5 h6 h7 e i2=>
  rintro ⟨⟨q,u,rfl⟩,g⟩;have:=h4.pos;simp only[eB]at this;exact i2 ⟨⟨q,by omega,rfl⟩,(cG _ _ _).2 ⟨gc d,(gH _ _ _).2 ⟨g,e trivial⟩⟩⟩
 case body i k j s nm r B h1 h2 h3 h4 ih=>
  rintro ⟨q,u,rfl⟩;have:=h3.pos;have:=h4.pos;simp only[eB]at this;exact(cG _ _ _).2 ⟨gc d,ih trivial⟩
 case ufn i j R h1 h2 h3 ih=>intro _;exact ih ⟨i,by omega,rfl⟩
 case tfn i j B h1 h2 h3 h4 h5 ih=>
  intro _;have:=h5.pos;simp only[eB]at this;exact(cG _ _ _).2 ⟨gc d,ih ⟨i+2,ag _,rfl⟩⟩
 case mstop h1 h2=>exact λh=>h.2
 case pstop h1 h2=>exact λh=>h.2
 case tlet0 i k ns h1 h2 h3 h4 h5=>intro _;have:=h4.pos;exact(cG _ _ _).2 ⟨gc d,trivial⟩
 case tlet i k j ns E h1 h2 h3 h4 h5 h6 ih=>intro _;have:=h4.pos;have:=h6.pos;simp only[eB]at this;exact(cG _ _ _).2 ⟨gc d,ih trivial⟩
 case tfor i k k1 j ns E b h1 h2 h3 h4 h5 h6 h7 e i2=>intro _;have:=h4.pos;have v:=h6.pos;have o:=h7.pos;simp only[eB]at v o;exact(cG _ _ _).2 ⟨gc d,(gH _ _ _).2 ⟨e trivial,i2 trivial⟩⟩
 case teach i k k1 j ns x b h1 h2 h3 h4 h5 h6 h7 h8 h9 e i2=>intro _;have:=h4.pos;have v:=h6.pos;have A:=h9.pos;simp only[eB]at v A;exact(cG _ _ _).2 ⟨gc d,(gH _ _ _).2 ⟨e trivial,i2 trivial⟩⟩
 case ttry i k k1 j ns a b h1 h2 h3 h4 h5 h6 h7 h8 e i2=>intro _;have:=h7.pos;have c:=h3.pos;have w:=h8.pos;simp only[eB]at c w;exact(cG _ _ _).2 ⟨gc d,(gH _ _ _).2 ⟨e trivial,i2 trivial⟩⟩
 case tset i k k1 j x R E h1 h2 h3 h4 h5 h6 h7 e i2 i3=>intro _;have c:=h3.pos;have m:=h4.pos;have o:=h7.pos;simp only[eB]at c m o;exact(cG _ _ _).2 ⟨gc d,(gH _ _ _).2 ⟨(gH _ _ _).2 ⟨e trivial,i2 trivial⟩,i3 trivial⟩⟩
 case belif i k k1 j x b z h1 h2 h3 h4 h5 h6 h7 e i2 i3=>intro _;have c:=h3.pos;have m:=h4.pos;have o:=h7.pos;simp only[eB]at c m o;exact(cG _ _ _).2 ⟨gc d,(gH _ _ _).2 ⟨(gH _ _ _).2 ⟨e trivial,i2 trivial⟩,i3 trivial⟩⟩
 case belse i k k1 j x b z h1 h2 h3 h4 h5 h6 h7 e i2 i3=>intro _;have c:=h3.pos;have m:=h4.pos;have o:=h7.pos;simp only[eB]at c m o;exact(cG _ _ _).2 ⟨gc d,(gH _ _ _).2 ⟨(gH _ _ _).2 ⟨e trivial,i2 trivial⟩,i3 trivial⟩⟩
 case bno i k k1 x b h1 h2 h3 h4 h5 h6 h7 e i2=>intro _;have c:=h3.pos;have m:=h4.pos;simp only[eB]at c m;exact(cG _ _ _).2 ⟨gc d,(gH _ _ _).2 ⟨e trivial,i2 trivial⟩⟩
 case pair i k j x y h1 h2 h3 h4 h5 h6 h7 e i2=>intro _;have c:=h3.pos;have o:=h7.pos;simp only[eB]at c o;exact(cG _ _ _).2 ⟨gc d,(gH _ _ _).2 ⟨e trivial,i2 trivial⟩⟩
 case twhile i k j x b h1 h2 h3 h4 e i2=>intro _;have c:=h3.pos;have m:=h4.pos;simp only[eB]at c m;exact(cG _ _ _).2 ⟨gc d,(gH _ _ _).2 ⟨e trivial,i2 trivial⟩⟩
 case block i k S h1 h2 h3 h4 h5 ih=>intro _;have c:=h3.pos;simp only[eB]at c;exact(cG _ _ _).2 ⟨gc d,ih trivial⟩
 case utab i j E h1 h2 h3 h4 h5 ih=>intro _;have c:=h3.pos;simp only[eB]at c;exact(cG _ _ _).2 ⟨gc d,ih trivial⟩
 case upre i j x h1 h2 h3 ih=>intro _;have c:=h3.pos;simp only[eB]at c;exact(cG _ _ _).2 ⟨gc d,ih trivial⟩
 case item i j x h1 h2 h3 h4 h5 ih=>intro _;have c:=h5.pos;simp only[eB]at c;exact(cG _ _ _).2 ⟨gc d,ih trivial⟩
 case named i j y h1 h2 h3 h4 h5 ih=>intro _;have c:=h5.pos;simp only[eB]at c;exact(cG _ _ _).2 ⟨gc d,ih trivial⟩
 case tcon i j x h1 h2 h3 h4 h5 ih=>intro _;have c:=h5.pos;simp only[eB]at c;exact(cG _ _ _).2 ⟨gc d,ih trivial⟩
 case tret i j E h1 h2 h3 h4 ih=>intro _;have c:=h4.pos;simp only[eB]at c;exact(cG _ _ _).2 ⟨gc d,ih trivial⟩
 case tthrow i j x h1 h2 h3 ih=>intro _;have c:=h3.pos;simp only[eB]at c;exact(cG _ _ _).2 ⟨gc d,ih trivial⟩
 case tdefer i j x h1 h2 h3 ih=>intro _;have c:=h3.pos;simp only[eB]at c;exact(cG _ _ _).2 ⟨gc d,ih trivial⟩
 case tdo i j x h1 h2 h3 h4 h5 h6 ih=>intro _;have c:=h3.pos;simp only[eB]at c;exact(cG _ _ _).2 ⟨gc d,ih trivial⟩
 all_goals first
  |(intro _;exact(cG _ _ _).2 ⟨gc d,trivial⟩)
  |(intro _;simp_all only[cG,gH,apz,Fo.all,and_self,true_implies,forall_const])
end
def agF{f p:Nat}{st:List Int}{l:Int}{j:List Tk}{R:List Tk×List Int×Int}(h:tC s (f+1) st p l j=R)(g:R.2.2= -1)(q:p<s.size):(dl s p).ok=Ax/\((dl s p).k=7/\(dy st 5).2=A9/\tC s f st (blk s (s.size+1) (dl s p).a) (l+1) j=R\/
  ∃b i,((dl s p).k=7/\b=5/\i=l+1\/((dl s p).k==7)=A9/\b=(dl s p).k/\l=i)/\1<=b/\b<=78/\(dy st b).2=Ax/\tC s f (dy st b).1 (blk s (s.size+1) (dl s p).a) i (j++[⟨b,(p:Nat),((dl s p).a:Nat),l,(dl s p).n,(dl s p).x⟩])=R):=by
 rw[tC,aa (by omega)]at h;split at h
 .rename_i c;obtain⟨e,c⟩:=ajI s p c;refine⟨e,?_⟩;split at h
  .exact .inr ⟨5,_,.inl ⟨c,rfl,rfl⟩,by decide,by decide,by assumption,h⟩
  .rename_i d;exact .inl ⟨c,by simpa using d,h⟩
 .rename_i c;split at h
  .rename_i d;split at h
   .rename_i e;have o:xA s p=(dl s p).k:=by unfold xA;rw[ab e]
    rw[o]at c d h;have m:=acs s p e;unfold Kr at d;rw[ab (by omega)]at d;exact⟨e,.inr ⟨_,_,.inr ⟨by simpa using c,rfl,rfl⟩,m.1,m.2,d,h⟩⟩
   .rw[<-h]at g;simp at g
  .rw[<-h]at g;simp at g
def aem(w:Q)(base mb:Nat)(s:ByteArray)(h:BF w base mb [])(ed:s.size<=70000)(a2:(nD s).2.2= -1):
  B5 A5 42 #[.pointer (Z ⟨mb,0,A0⟩),.string s] w (Kt w base mb s (nD s)):=by
 unfold nD at a2⊢;obtain⟨K,a1⟩:=aF (tC s (s.size+1) [100,6] (blk s (s.size+1) 0) 1 []);rw[a1]at a2⊢;have eh:base<=w.heap.size:=by obtain⟨v,ea,_⟩:=h.ex;have:=aj ea;have:=h.lo;omega
 have c7:=adH w base mb h;have m:=λw=>yE s (by omega) 0 (aI _) w;have cw:=qg s (s.size+1) 0 (aI _);obtain⟨cd,cr⟩:=aF (blk s (s.size+1) 0);rw[cr]at a1 m cw;rw[show(((0:Nat):Int))=0 from rfl]at m;have b9:=gE a1 a2;clear a1 h cr a2;go_in;go_wp2_with fail;refine c7.mono ?_;rintro ak w1 ⟨rfl,da,em,c⟩;clear c7;have cb:Hid (aaL w base mb s K cd [100,6] 1 [(6, -1),(100,0)] 1 [] (s.size+1) (.slice A0 0 0) w1):=by
  refine⟨da,⟨1,0,rfl,rfl,0, -1,rfl,rfl,rfl⟩,?_,c,eI _ _ _ _,b9.1,⟨by simp,by simp⟩,by simp,⟨by omega,by omega⟩⟩;intro x ei;simp at ei;omega
 clear da em c;go_wp2_with (go_at_call 73;refine ft (m _) ?_);clear m;obtain⟨c0,c1,c2,c3,c4⟩:=eD ajJ;go_loopw [7,8,9,10] (λeF dg eA b7 wr=>∃(a:Nat) (t:List Int) (n:Int) (l:List (Int×Int)) (f:Int) (r:List Tk) (i:Nat),b7= .int .i64 a/\eA= .int .i64 f/\eF= .int .i64 n/\(∃d7 d8,∃el:Nat,dg= .slice d7 el d8)/\a<=s.size/\s.size<a+i/\Hid (aaL w base mb s K a t n l f r i dg wr)) (λ_ _ _ b7 _=>s.size+1-(B3 b7).toNat)
 case atStart=>exact⟨cd,_,1,_,1,[],s.size+1,rfl,rfl,rfl,⟨_,_,_,rfl⟩,cw.2,by omega,cb⟩
 case round=>
  obtain⟨a,t,n,l,f,r,i,rfl,rfl,rfl,⟨bj,bn,a7,rfl⟩,fd,e8,d⟩:=hrel;clear cb;obtain⟨i,rfl⟩:∃E,i=E+1:=⟨i-1,by omega⟩;obtain⟨eL,e1,d9⟩:=bJ d.row;cases d9;have cx:=bG eh d.bl.size;have ef:=d.ol;obtain⟨a7,an⟩:=aF r.length;have y:=aq an;rw[an]at ef⊢;by_cases bx:a<s.size
  .have eg:(a:Int)<(s.size:Int):=by omega
   obtain⟨bA,p⟩:=agF d.eq b9.2 bx;have c8:=λw=>aaI s ed a bx w;have a5:=od s a bx bA;have ca:=aq bA;clear an bA;go_wp2_with fail;refine(c8 _).mono ?_;rintro ak w1 ⟨cc,G,C,x,e0,rfl,cI,bt⟩;obtain⟨rfl,rfl,bE,rfl,rfl,_⟩:=cI.yes ca;generalize (dl s a).n=C at p⊢;generalize (dl s a).x=x at p⊢;generalize (dl s a).k=cc at p⊢;obtain⟨I,cq⟩:=aF ((dl s a).a);rw[cq]at p bE a5;have au:=d.below bt cx;have ek:=bt.size;have a6:=λw=>yE s (by omega) I (by omega) w;have bs:=qg s (s.size+1) I (by omega);obtain⟨bh,ct⟩:=aF (blk s (s.size+1) I);rw[ct]at p a6 bs;rw[<-bE]at a6 p;have e2:a<I/\I<=s.size:=⟨a5.1,a5.2.1⟩;have bf:=aq p;clear c8 bt d cI ct cq bE a5 p ca;obtain⟨c,bv⟩:=aF w1.heap.size;go_upto_region 8 with fail
   generalize a3:w1.alloc _=L;have ax:fe c L cc a G f C x:=by rw[<-bv,<-a3];exact aB w1 _
   have b:Hid (aaL w base mb s K a t n l f r (i+1) (.slice bj r.length bn) L):=by rw[<-a3];exact au.below (dE w1 _) (by omega)
   have ff:L.heap.size=c+1:=by rw[<-a3,de,bv]
   have cz:∀E,(Value.slice bj a7 bn).ownBlock=Z E->E<c:=λE ec=>by
    have cF:=au.row;rw[y.out]at cF;have:=(cF.lt E ec).2;omega
   have cu:c≠mb:=by
    obtain⟨df,A,_⟩:=au.m.ex;have:=aj A;omega
   have e6:=b.cl.2;have e7:=b.cl.1;have e4:base<=c:=by omega
   have fb:=b.l0;obtain⟨eo,ep,er,es,et,ev,ew⟩:=bz ax;clear au bv ek cx a3;rcases bf.out with⟨rfl,al,k⟩|⟨e,fg,cp,m,b2,al,k⟩
   .have g:=C1 L base mb l t n 5 b.m b.sk b.o (by omega) (by omega) (by omega);unfold yj at g;rw[al]at g;have bd:=aq k;clear k al bf;go_wp2_with fail;refine g.mono ?_;rintro ak H ⟨dd,D,rfl,ar,a8,br,B,af⟩;have q:=B.blk ax (by decide) cu;obtain⟨df,A,_⟩:=b.m.ex;have row3:=B.row A b.row (by decide) (by decide);have d4:Hid (aaL w base mb s K bh t n (l++D) (f+1) r i (.slice bj a7 bn) H):=
     ⟨ar,b.sk.app D,b.o,b.bl.trans af,by rw[<-y.out]at *;exact row3,bd,⟨by rw[aJ];omega,by rw[aJ];omega⟩,by rw[y.out];omega,⟨by omega,by omega⟩⟩
    obtain⟨dn,dq,ds,dx,d0,d1,d2⟩:=bz q;clear g ax q row3 A ar a8 B af b eo ep er es et ev ew;go_wp2_with (go_at_call 73;refine ft (a6 _) ?_);exact⟨⟨bh,t,n,l++D,f+1,r,i,rfl,by go_num,rfl,⟨_,_,_,rfl⟩,bs.2,by omega,d4⟩,by simp[B3];omega⟩
   .have g:=C1 L base mb l t n e b.m b.sk b.o m b2 (by omega);have cB:=ry b.o m b2;unfold yj at g;rw[al]at g;generalize (dy t e).1=en at g cB k;have bd:=aq k;have d3:Hid (1<=e):=m;clear k al bf m b2;rcases cp with⟨rfl,bo,rfl⟩|⟨cp,rfl,rfl⟩;all_goals
     try have b8:Hid (e=5):=bo
     try rw[bo]at g
     try clear bo
     try have e3:0<e:=d3.out
     go_wp2_with fail;refine g.mono ?_;rintro ak H ⟨dd,D,rfl,ar,a8,br,B,af⟩;have q:=B.blk ax (by decide) cu;obtain⟨df,A,_⟩:=b.m.ex;have row3:=B.row A b.row (by decide) (by decide);rw[y.out]at row3;have bb:=kJ a8 br (b.bl.trans af);obtain⟨dn,dq,ds,dx,d0,d1,d2⟩:=bz q;clear g A a8 br B af;go_upto_region 24 with fail
     generalize a4:H.setCell ⟨c,0,A0⟩ _=ad;have a0:fe c ad e a G f C x:=by rw[<-a4];first|exact fe.setKind q _|(rw[b8.out];exact fe.setKind q _)
     have dc:=ar.other (j:=0) (v:= .int .i64 e) (show H.heap[c]?=Z (.cells _ _ _) from q) (by decide) (by decide);have b5:=aaK (j:=0) (u:= .int .i64 e) row3 cz;have ce:B0 base w (H.setCell ⟨c,0,A0⟩ (.int .i64 e)):=bb.2.2.setCell (by simp;omega) _;have ck:H.setCell ⟨c,0,A0⟩ (.int .i64 e)=ad:=by first|exact a4|(rw[b8.out];exact a4)
     rw[ck]at dc b5 ce;obtain⟨fz,fA,fB,fF,f0,f1,f2⟩:=bz a0;have z:=aq b5;have d5:=aq a0;have eb:c<ad.heap.size:=aj a0;clear q a0 ar row3 b5 a4 ck dn dq ds dx d0 d1 d2;go_wp2_with (first|(at_builtin;refine pd _ rfl _ _ 43 rfl base 46 c0 _ 6 56 Tryz.underlying43 c1 c2 c3 c4 rfl (by decide) _ _ _ rfl (z.alloc _) ⟨ad.heap.size,0,A0⟩ 1 1 [.int .i64 e,.int .i64 a,.int .i64 G,.int .i64 f,.int .i64 C,.string x] rfl rfl (World.news_of_block (cs:=#[.int .i64 e,.int .i64 a,.int .i64 G,.int .i64 f,.int .i64 C,.string x]) (fr:=(0,0)) (aB ad _)) (by intro u ap;simp at ap;rcases ap with rfl|rfl|rfl|rfl|rfl|rfl<;>rfl) (by unfold maxLen;omega) (by omega) (by simp;omega) ?_;intro ey ba ao F ee;obtain⟨cn,cf,rfl⟩:=Ce ao;have d6:fe c ba e a G f C x:=(F.block c (by simp;omega) (λak=>by have:=cz c ak.symm;omega)).trans ((dG _ _ _ eb).trans d5);obtain⟨fk,fm,fn,fo,fq,fu,fv⟩:=bz d6)|(go_at_call 73;refine ft (a6 _) ?_));have b4:=dc.app z F (by decide) (by decide);have bk:B0 base w ba:=(ce.alloc (by omega) _).grown F (by simp;omega) (λb0 bw=>(z.out.lt b0 bw).1);refine⟨⟨bh,en,dd,l++D,_,r++[⟨e,(a:Nat),G,f,C,x⟩],i,rfl,by first|rfl|go_num,rfl,⟨_,_,_,rfl⟩,bs.2,by omega,⟨b4,bb.1,cB,bk,?_,bd.out,?_,?_,?_⟩⟩,by simp[B3];omega⟩
     .rw[aJ,y.out,yg];exact ao
     .have:=b.cl;have:=bb.2;rw[aJ];omega
     .rw[aJ,y.out];simp;omega
     .have:=b.l0;omega
  .have k:=d.eq;rw[tC,ab (by omega)]at k;have bD:=d.row;rw[an]at bD;have z:=aq bD;have J:=aq k;have eg:¬(a:Int)<(s.size:Int):=by omega
   clear k an bD;go_wp2_with (at_builtin;refine pd _ rfl _ _ 43 rfl base 46 c0 _ 6 56 Tryz.underlying43 c1 c2 c3 c4 rfl (by decide) _ _ _ rfl (z.alloc _) ⟨wr.heap.size,0,A0⟩ 1 1 [.int .i64 6,.int .i64 s.size,.int .i64 s.size,.int .i64 f,.int .i64 0,.string ⟨#[]⟩] rfl rfl (World.news_of_block (cs:=#[.int .i64 6,.int .i64 s.size,.int .i64 s.size,.int .i64 f,.int .i64 0,.string ⟨#[]⟩]) (fr:=(0,0)) (aB wr _)) (by intro u ap;simp at ap;rcases ap with rfl|rfl|rfl|rfl|rfl<;>rfl) (by unfold maxLen;omega) (by omega) (by simp;omega) ?_;intro ey ba ao F ee;obtain⟨cn,cf,rfl⟩:=Ce ao);go_ret3
   have b4:=d.m.app z F (by decide) (by decide);have bk:B0 base w ba:=(d.bl.alloc (by omega) _).grown F (by simp;omega) (λb0 bw=>(z.out.lt b0 bw).1);have cy:K.1.length=a7+1:=by rw[<-J.out,aJ,y.out];rfl
   refine⟨Z ⟨cn,0,A0⟩,cf,n,l,?_,?_,b4,?_,?_,bk,d.cl.1,?_⟩
   .rw[cy,<-J.out];rfl
   .rw[cy,<-J.out,yg];exact ao
   .rw[<-J.out];exact d.sk
   .rw[<-J.out];exact d.o
   .have:=d.cl.2;omega
attribute [local go_sem] lu
def aen(n l b mb g:Nat)(s:ByteArray)(d2:s.size<=70000)(df:b<g)(af:mb≠b)(L:12<=b)
  (I:Nat->Int->Q->Prop) (au:∀p l W o,I p l W->ScX b W->W.grownBy o (Z b)->I p l o) (bt:∀p q l W,blk s (s.size+1) p=blk s (s.size+1) q->p<=q->q<=s.size->I p l W->I q l W) (dc:∀p l W,I p l W->0<=l/\l<=(p:Int)+1/\p<=s.size)
  (b6:∀p l W,DB s p->I p l W->(dl s p).ok=Ax) (i:Q->Prop) (c9:∀W o,KeepsFrom g W o->i W->i o)
  (b8:∀p c W,DB s p->(dl s p).ok=Ax->Iw b mb g s I W (dl s p).a (c+(dl s p).d) p c->i W->YieldAt Fence.wide (n-1) A5 l #[vTk ⟨(dl s p).k,(p:Int),((dl s p).a:Int),c,(dl s p).n,(dl s p).x⟩] W λe o=>e= A3 (.bool Ax)/\Iw b mb g s I o (dl s p).a (c+(dl s p).d) (dl s p).a (c+(dl s p).d)/\i o)
  (W:Q) (b0:Nat) (bE:Int) (ba:Iw b mb g s I W b0 bE b0 bE) (c7:i W):
  CallsIn Fence.wide n A5 29 #[.pointer (Z ⟨b,0,A0⟩),.func (.yield l) #[] #[]] W λe o=>(∃v,e= A3 v)/\(∃l,Iw b mb g s I o s.size l s.size l)/\i o:=by
 have bk:∀{h b5:Q},h.grownBy b5 (Z b)->i h->i b5:=λds f=>c9 _ _ (KeepsFrom.of_grownBy ds (λbj e=>by cases e;exact df)) f;refine callsIn_wide.2 ?_;go_in;go_wp2;go_step3
 go_wp2;go_step3
 go_wp2;have al:∀{h:Q}{p:Nat}{c:Int}(q:Nat),Iw b mb g s I h p c p c->Iw b mb g s I (h.drewN q) p c p c:=λq f=>f.gr au af L (by omega) (ub (qx _ b) q) f.sc id;have F:∀{h:Q}(q:Nat),i h->i (h.drewN q):=λq f=>bk (ub (qx _ b) q) f;have d5:∀{h:Q}{p:Nat}{c:Int}(ak:Nat),blk s (s.size+1) p=blk s (s.size+1) ak->p<=ak->ak<=s.size->Iw b mb g s I h p c p c->Iw b mb g s I (h.setCell ⟨b,3,A0⟩ (M O (ak:Int))) ak c ak c:=λak dg d0 d4 f=>f.gr au af L (by omega) (pv _ b 3 _) (f.sc.setP _) (bt _ _ _ _ dg d0 d4);have cs:∀{h:Q}(v:A2),i h->i (h.setCell ⟨b,3,A0⟩ v):=λv f=>bk (pv _ b 3 v) f;go_loopw [] (λwr=>∃(p:Nat) (c:Int),Iw b mb g s I wr p c p c/\i wr) (λwr=>s.size-Fg b wr)
 case atStart=>exact⟨b0,bE,ba,c7⟩
 case round=>
  obtain⟨p,c,ar,bs⟩:=hrel;have bw:=BI.pos ar.sc;obtain⟨d1,ec,ck⟩:=dc _ _ _ ar.ii;obtain⟨r,t,u,w,y,z,A,B⟩:=BI.cells ar.sc;by_cases a5:p<s.size
  .have ee:(p:Int)<(s.size:Int):=by omega
   have bD:=λj=>dL a5 j;have bn:=aq bw;clear bw;go_wp2_with fail;go_quiet (fail)
   go_wp2_with fail;have a2:=al nq ar;have a9:=F nq bs;generalize wr.drewN nq=cx at a2 a9⊢;clear r t u w y z A B ar bs;obtain⟨r,t,u,w,y,z,A,B⟩:=BI.cells a2.sc;have av:∀j,B5 A5 54 #[M .u8 (aw s p)] j λe ct=>e= A3 (.bool (iK (aw s p)))/\ct=j:=λj=>(I4 _ j).mono λe ct f=>⟨f.1,f.2.symm⟩;cases hbl:iK (aw s p) with
   |true=>
    have a3:=zE s p a5 hbl;rw[hbl]at av;generalize aw s p=cB at bD av;clear hbl;go_quiet ((go_at_call 54;exact Br (av _)))
    have C:=d5 (p+1) a3 (by omega) (by omega) (al nq a2);have J:=cs (M O ((p+1:Nat):Int)) (F nq a9);rw[show((p+1:Nat):Int)=(p:Int)+1 by omega]at C J;go_wp2_with fail;exact⟨⟨p+1,c,C,J⟩,by rw[BI.pos C.sc,bn.out];omega⟩
   |false=>
    rw[hbl]at av;go_quiet ((go_at_call 54;exact Br (av _)))
    go_wp2_with fail;have C:=al nq a2;have J:=F nq a9;generalize cx.drewN nq=b4 at C J⊢;clear r t u w y z A B a2 a9 av;obtain⟨r,t,u,w,y,z,A,B⟩:=BI.cells C.sc;have ax:=λj=>ags s p j;by_cases ad:aw s p=45/\aw s (p+1)=45
    .rw[bp ad]at ax;have a3:=Dj s p ad.1 ad.2;have ed:=vF s p ad.1;go_quiet ((go_at_call 55;exact Br (ax _)))
     go_wp2_with fail;have K:=al nq C;have a0:=F nq J;generalize b4.drewN nq=cy at K a0⊢;clear r t u w y z A B C J ax bD;go_loopw [] (λwq=>∃(k H:Nat),p<=k/\k<=s.size/\s.size<k+H/\alg nnB s H k (Ly s p)/\Iw b mb g s I wq k c p c/\i wq) (λwq=>s.size-Fg b wq)
     case atStart=>exact⟨p,s.size+1,ag _,ck,by omega,⟨rfl⟩,K,a0⟩
     case round=>
      obtain⟨k,H,d3,dx,ea,bh,G,br⟩:=hrel;obtain⟨H,rfl⟩:∃q,H=q+1:=⟨H-1,by omega⟩;obtain⟨r,t,u,w,y,z,A,B⟩:=BI.cells G.sc;have E:=bh.out;rw[iI]at E;have cf:=BI.pos G.sc;have cu:=aq cf;clear cf;have bo:∀{h:Q}{q:Nat}(bj:Nat),Iw b mb g s I h q c p c->Iw b mb g s I (h.drewN bj) q c p c:=λbj f=>f.gr au af L (by omega) (ub (qx _ b) bj) f.sc id;have dp:∀{h:Q}{q:Nat}(b1:Nat),Iw b mb g s I h q c p c->Iw b mb g s I (h.setCell ⟨b,3,A0⟩ (M O (b1:Int))) b1 c p c:=λb1 f=>f.gr au af L (by omega) (pv _ b 3 _) (f.sc.setP _) id;by_cases cd:k<s.size
      .have eb:(k:Int)<(s.size:Int):=by omega
       have cl:=λj=>dL cd j;go_wp2_with fail;go_quiet (fail)
       go_wp2_with fail;have ap:=bo nq G;have a1:=F nq br;generalize wr.drewN nq=cz at ap a1⊢;clear r t u w y z A B G br;obtain⟨r,t,u,w,y,z,A,B⟩:=BI.cells ap.sc;by_cases an:aw s k=10
       .rw[aa (by rw[an];decide)]at E;rw[an]at cl;have a8:=aq E;clear E bh an;go_quiet (fail)
        go_wp2_with fail;have m:=bo nq ap;have ao:=F nq a1;rw[<-a8.out]at a3;have bb:Iw b mb g s I (cz.drewN nq) k c k c:=⟨m.sc,m.mp,m.ly,bt _ _ _ _ a3 d3 dx m.ii,m.sz⟩;exact⟨⟨k,c,bb,ao⟩,by rw[BI.pos m.sc,bn.out];have:=a8.out;omega⟩
       .have ce:nnB (aw s k)=Ax:=by
         have:=jF cd;unfold nnB;rw[pa];exact⟨an,by omega⟩
        rw[ab ce]at E;have c6:(aw s k==10)=A9:=by rw[dv];exact an
        generalize aw s k=cB at cl c6;clear ce an bh;have cv:alg nnB s H (k+1) (Ly s p):=⟨E⟩;clear E;go_quiet (fail)
        have m:=dp (k+1) (bo nq ap);have ao:=cs (M O ((k+1:Nat):Int)) (F nq a1);rw[show((k+1:Nat):Int)=(k:Int)+1 by omega]at m ao;go_wp2_with fail;exact⟨⟨k+1,H,by omega,by omega,by omega,cv,m,ao⟩,by rw[BI.pos m.sc,cu.out];omega⟩
      .obtain rfl:k=s.size:=by omega
       rw[aa (by rw[dH (Gu _)];decide)]at E;have a8:=aq E;clear E bh;have da:Iw b mb g s I wr s.size c s.size c:=⟨G.sc,G.mp,G.ly,bt _ _ _ _ (by rw[a3,<-a8.out]) ck (ag _) G.ii,G.sz⟩;go_wp2_with fail;go_quiet (fail)
       go_wp2;rw[Bm];refine aH (jd rfl _ _ _) rfl ?_;exact⟨⟨_,rfl⟩,⟨c,al _ da⟩,F _ br⟩
    .have ca:=ad;rw[aD ad]at ax;have b9:¬iK (aw s p)=Ax:=by rw[hbl];simp
     have b3:DB s p:=⟨a5,b9,ca⟩;have bx:=od s p a5;have cn:=λ(j:Q) (ba:Iw b mb g s I j p c p c) (cF:Int) (dn:ix b j s (.map (Z mb)) cF p c A9)=>ad9 s d2 b mb j p c a5 d1 (by omega) af L dn ba.mp ba.ly;have bf:=λW=>b8 p c W b3;have a4:=b6 p c;go_quiet ((go_at_call 55;exact Br (ax _)))
     go_wp2_with fail;have K:=al nq C;have a0:=F nq J;obtain⟨cI,bv⟩:=K.sc;have a6:=cn _ K cI bv;replace a4:=a4 _ b3 K.ii;generalize b4.drewN nq=cy at K a0 a6 bv⊢;clear r t u w y z A B C J ax bD cn hbl b9 ad ca b8 b6 bv;generalize dl s p=cw at a6 bx bf a4;obtain⟨ef,a7,b2,cp,cq,cr⟩:=cw;simp only at a6 bx bf a4;subst a4;refine a6.mono ?_;rintro e bl ⟨rfl,cb,bd⟩;have a1:=bk cb a0;have dd:=aj bd;clear a6;have bw:=bx rfl;have cc:=World.grownBy_alloc bl (B2 #[M O cp,M O p,M O (a7:Int),M O c,M O cq,X cr] 46) (Z b);have ap:Iw b mb g s I bl a7 (c+b2) p c:=K.gr au af L (by omega) cb ⟨_,bd⟩ id;have m:Iw b mb g s I (bl.alloc (B2 #[M O cp,M O p,M O (a7:Int),M O c,M O cq,X cr] 46)) a7 (c+b2) p c:=ap.gr au af L (by omega) cc ⟨_,(dG bl _ b dd).trans bd⟩ id;have ao:=bk cc a1;obtain⟨d9,tmps,d7,d8,bA,b7⟩:=bf _ rfl m ao;unfold vTk at bA;simp only at bA;obtain⟨r,t,u,w,y,z,A,B⟩:=gI bd;clear bf;go_upto_region 8 with fail
     refine(so (n:=n)).1 ?_
     gi_wp2
     refine⟨λf=>by simp[Fence.wide]at f,b7.mono ?_⟩;rintro e d6 ⟨rfl,bb,c8⟩;clear r t u w y z A B bA b7
     gi_wp2
     go_wp2_with fail;exact⟨⟨a7,c+b2,bb,c8⟩,by rw[BI.pos bb.sc,bn.out];omega⟩
  .obtain rfl:p=s.size:=by omega
   go_wp2_with fail;go_quiet (fail)
   go_wp2;try rw[Exit.noGoto_normal]
   go_end0
   exact⟨⟨_,rfl⟩,⟨c,al _ ar⟩,F _ bs⟩
