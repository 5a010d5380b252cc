import Derived.Test.YtbkolnpplhbdmaaGreatDoorHPl20
import Derived.Test.YtbkolnpplhbdmaaGreatDoorHPl15
set_option linter.all false
set_option maxRecDepth 100000
open Bool renaming true->M,false->U
open ByteArray renaming empty->O
open Go.Lib renaming hasPrefix->Q,decDigits->W
open Option renaming some->X
namespace Go.Proofs.YtbkolnpplhbdmaaGreatDoor
open Go.RowKit Go.Maps Go.WideMaps
variable{E:Int->ByteArray}{K:Fo}{N:Nd}{S:Int->Nat->ByteArray}{a i tab:Nat}{b s:ByteArray}{c k:Int}{ns:List Nd}
def ahA(h:(eG ns).1=0):∀(i:Nat) N,ns[i]?=X N->jK ns i N=M:=by
 unfold eG at h;by_cases d:iu ns=M
 .rw[ab d]at h;exact absurd h (by decide)
 rw[aa d]at h;have⟨e,c⟩:=aC (jH (fI ns) ns.length 0);rw[c]at h;cases e with
 |some i=>rw[tf2]at h;exact absurd h (by simp)
 |none=>
  have f:=lB c;intro i N b;have g:i<ns.length:=(List.getElem?_eq_some_iff.1 b).1;have a:=f i (aD _) (by omega);unfold fI at a;rw[aF,b,gy]at a;simpa using a
def aoD{a b d:Bool}(h:bu N a b U d=M):N.x.size<=4000:=by
 unfold bu at h;simp only[bB,ym]at h;have:=aB h.1.2;have c:N.x.toList.length=0:=by rw[this];rfl
 rw[gH]at c;have:N.x.size=0:=by simpa using c
 omega
def ahB(h:lr s=M):s.size<=4000:=by
 have:=(aB h).1;omega
def arb(h:fok s=M):s.size<=4000:=by
 unfold fok at h;rw[bB]at h;have:=aB h.1;omega
def kJ(h:jK ns i N=M):mJ ns N=M/\N.ks.length<=200:=by
 unfold jK at h;rw[bB,bB]at h;exact⟨h.2.2,(aB h.1).2.2.2⟩
def rp(h:mJ ns N=M)(a:17<=N.k:=by omega):jj ns N=M:=by
 unfold mJ at h
 rwa [aa (by unfold iK;rw[decide_eq_true_eq];omega)]at h
def oI(h:mJ ns N=M)(a:1<=N.k/\N.k<=16:=by omega):stB ns N=M:=by
 unfold mJ at h
 rwa [ab (by unfold iK;rw[decide_eq_true_eq];omega)]at h
def ahC(h:mJ ns N=M):(1<=N.k/\N.k<=16)\/(20<=N.k/\N.k<=37)\/(40<=N.k/\N.k<=42):=by
 by_cases a:1<=N.k/\N.k<=16
 .exact .inl a
 .unfold mJ at h;rw[aa (by unfold iK;rw[decide_eq_true_eq];exact a)]at h;by_cases b:(20<=N.k/\N.k<=37)\/(40<=N.k/\N.k<=42)
  .exact .inr b
  .unfold jj at h
   repeat rw[aa (by omega)]at h
   cases h
def I5(h:mJ ns N=M):bu N (decide (N.k=30\/N.k=31\/N.k=36)) (decide (N.k=5\/N.k=23)) (decide (N.k=24\/N.k=25\/N.k=26\/N.k=33\/N.k=42)) (decide (N.k=2\/N.k=3\/N.k=4\/N.k=9\/N.k=10\/N.k=14\/N.k=36))=M:=by
 rcases ahC h with g|g|g
 .have h:=oI h g;unfold stB at h;rcases(show N.k=1\/N.k=2\/N.k=3\/N.k=4\/N.k=5\/N.k=6\/N.k=7\/N.k=8\/N.k=9\/N.k=10\/N.k=11\/N.k=12\/N.k=13\/N.k=14\/N.k=15\/N.k=16 by omega) with e|e|e|e|e|e|e|e|e|e|e|e|e|e|e|e;all_goals (simp[e]at h;simp[e,h])
 .have h:=rp h;unfold jj at h;rcases(show N.k=20\/N.k=21\/N.k=22\/N.k=23\/N.k=24\/N.k=25\/N.k=26\/N.k=27\/N.k=28\/N.k=29\/N.k=30\/N.k=31\/N.k=32\/N.k=33\/N.k=34\/N.k=35\/N.k=36\/N.k=37 by omega) with e|e|e|e|e|e|e|e|e|e|e|e|e|e|e|e|e|e;all_goals (simp[e]at h;simp[e,h])
 .have h:=rp h;unfold jj at h;rcases(show N.k=40\/N.k=41\/N.k=42 by omega) with e|e|e;all_goals (simp[e]at h;simp[e,h])
def abq(h:jK ns i N=M):N.x.size<=4000:=by
 have b:=(kJ h).1;have a:=I5 b;by_cases c:N.k=24\/N.k=25\/N.k=26\/N.k=33\/N.k=42
 .have h:=rp b;unfold jj at h;rcases c with e|e|e|e|e<;>simp[e]at h
  .exact arb h.2
  .omega
  all_goals exact ahB h.2
 .rw[az c]at a;exact aoD a
def adi(ns:List Nd):∀i,iL (ns.take i)=(iL ns).take i:=by
 refine zq (p:=λns=>∀i,iL (ns.take i)=(iL ns).take i) ?_ ?_ ns
 .intro i;simp[iL]
 .intro a d c i;rcases bg i (a++[d]).length with h|h
  .have b:i<=a.length:=by rw[aG]at h;simp at h;omega
   rw[List.take_append_of_le_length b,c,tB,List.take_append_of_le_length (by rw[ma];exact b)]
  .rw[dl h,dl (by rw[ma];exact h)]
def abr(h:ns[i]?=X N):(iL ns).getD i 0=ov ((iL ns).take i) i N.ks:=by
 have e:i<ns.length:=(List.getElem?_eq_some_iff.1 h).1;have b:ns.take (i+1)=ns.take i++[N]:=by rw[iC,h];rfl
 have a:=adi ns (i+1);rw[b,tB,adi,gJ,ma,vH (by omega),iC]at a;have c:(iL ns)[i]?=X ((iL ns).getD i 0):=by
  rw[aF,aw (by rw[ma];exact e)];rfl
 rw[c]at a;have d:=List.append_cancel_left a;simpa using d.symm
def um(S:List Int):List Int->Int
 |[]=>0
 |k::l=>S.getD k.toNat 0+um S l
def ahD(S:List Int)(a b:List Int):um S (a++b)=um S a+um S b:=by
 induction a with
 |nil=>simp[um]
 |cons d e c=>simp only[dJ,um,c];omega
def ahE(S:List Int)(l:List Int):um S l.reverse=um S l:=by
 induction l with
 |nil=>rfl
 |cons b l a=>rw[List.reverse_cons,ahD,a];simp only[um];omega
def adj{S:List Int}:∀(l:List Int)(a b:Int),qD S l a=X b->b=a-um S l
 |[],a,b,h=>by simp[qD]at h;simp[um];omega
 |k::r,a,b,h=>by
  rw[qD]at h;split at h
  .have:=adj r _ _ h;simp only[um];omega
  .cases h
def ahF(S:List Int)(i:Nat)(l:List Int)(h:∀k∈l,0<=k/\k<(i:Int)):um (S.take i) l=um S l:=by
 induction l with
 |nil=>rfl
 |cons k l c=>
  have a:=h k aI;have b:(S.take i).getD k.toNat 0=S.getD k.toNat 0:=by
   rw[aF,aF,List.getElem?_take_of_lt (by omega)]
  simp only[um,b,c λk a=>h k (cG _ a)]
structure arc (ns:List Nd):Prop where
 at_:∀(i:Nat) N,ns[i]?=X N->(iL ns).getD i 0=1+um (iL ns) N.ks
 le:∀i,(iL ns).getD i 0<=3000
def ak5(h:(eG ns).1=0):arc ns:=by
 have i:=su h;unfold eG at h;by_cases k:iu ns=M
 .rw[ab k]at h;exact absurd h (by decide)
 rw[aa k]at h;have⟨l,p⟩:=aC (jH (fI ns) ns.length 0);rw[p]at h;cases l with
 |some a=>rw[tf2]at h;exact absurd h (by simp)
 |none=>
  rw[tf2]at h;have⟨m,j⟩:=aC (jH (iJ (iL ns)) ns.length 0);rw[j]at h;cases m with
  |some a=>rw[tf3]at h;exact absurd h (by simp)
  |none=>
   have q:=lB j;have r:F6 (iL ns):=AH ns (λd c g f=>by
    have⟨a,hi,e⟩:=iq c;exact(i.kid a d (by rw[aw hi,e]) g f).1)
   refine⟨λa d c=>?_,λa=>?_⟩
   .have hi:a<ns.length:=(List.getElem?_eq_some_iff.1 c).1;have b:=q a (aD _) (by omega);unfold iJ at b;rw[abr c]at b⊢;unfold ov at b⊢;cases hw:qD ((iL ns).take a) d.ks.reverse a with
    |none=>rw[hw]at b;simp at b
    |some n=>
     have e:=adj _ _ _ hw;rw[ahE,ahF _ _ _ (λg f=>i.kid a d c g f)]at e;show(a:Int)-n+1=_;omega
   .rcases bg a ns.length with hi|hi
    .have o:(iL ns)[a]?=X ((iL ns).getD a 0):=by
      rw[aF,aw (by rw[ma];exact hi)];rfl
     have:=r a _ o;have:=i.len;omega
    .rw[aF,jC (by rw[ma];exact hi)];decide
def mF(ns:List Nd)(N:Nd)(j:Nat):fl ns N j=(ae ns (dD N j)).k:=rfl
def jy:∀(f j:Nat),lj ns N f j=M->∀q,j<=q->q<j+f->gE (ae ns (dD N q)).k=M
 |0,j,_,q,a,b=>by omega
 |f+1,j,h,q,a,b=>by
  rw[lj,bB]at h;rcases ie a with rfl|h3
  .exact h.1
  .exact jy f (j+1) h.2 q h3 (by omega)
def Lu:∀(f j:Nat),C7 ns N f j=M->∀q,j<=q->q<j+f->iK (ae ns (dD N q)).k=M
 |0,j,_,q,a,b=>by omega
 |f+1,j,h,q,a,b=>by
  rw[C7,bB]at h;rcases ie a with rfl|h3
  .exact h.1
  .exact Lu f (j+1) h.2 q h3 (by omega)
def GL(h:ud k=M):gE k=M:=by
 have:=aB h;exact be (by omega)
def amz:∀(f j:Nat),C8 ns N f j=M->∀q,j<=q->q<j+f->gE (ae ns (dD N q)).k=M
 |0,j,_,q,a,b=>by omega
 |f+1,j,h,q,a,b=>by
  rw[C8,bB]at h;rcases ie a with rfl|h3
  .exact GL h.1
  .exact amz f (j+1) h.2 q h3 (by omega)
def adk:∀(f j:Nat),F4 ns N f j=M->∀q,j<=q->q<j+f->40<=(ae ns (dD N q)).k/\(ae ns (dD N q)).k<=42
 |0,j,_,q,a,b=>by omega
 |f+1,j,h,q,a,b=>by
  rw[F4,bB]at h;rcases ie a with rfl|h3
  .exact aB h.1
  .exact adk f (j+1) h.2 q h3 (by omega)
structure Kid (ns:List Nd) (i:Nat) (N:Nd) (j q:Nat):Prop where
 at_:N.ks[j]?=X (q:Int)
 lt:q<i
 len:q<ns.length
 id:dD N j=(q:Int)
def jv(h:jK ns i N=M)(d:i<ns.length)(j:Nat)(b:j<N.ks.length):∃q,Kid ns i N j q:=by
 unfold jK at h;rw[bB,bB]at h;have c:=zn N.ks i N.ks.length 0 h.2.1 j (by omega) (by omega);have a:N.ks[j]?=X (N.ks.getD j 0):=by rw[aF,aw b];rfl
 refine⟨(N.ks.getD j 0).toNat,?_,by omega,by omega,?_⟩
 .rw[a];congr 1;omega
 .show N.ks.getD j 0=_;omega
def rq{z:Int}(h:z∈N.ks):∃j,j<N.ks.length/\dD N j=z:=by
 have⟨j,a,b⟩:=iq h;exact⟨j,a,by unfold dD;rw[aF,aw a];exact b⟩
def pm(h:mJ ns N=M)(a:N.k=28\/N.k=29\/N.k=31\/N.k=32\/N.k=41:=by omega):N.ks.length=2/\lj ns N 2 0=M/\(N.k=31->1<=N.op/\N.op<=18):=by
 have h:=rp h;unfold jj at h;rcases a with e|e|e|e|e<;>simp[e]at h<;>exact⟨by omega,by simp[h],by omega⟩
def qv(h:mJ ns N=M)(a:N.k=30\/N.k=33\/N.k=37\/N.k=40\/N.k=42:=by omega):N.ks.length=1/\gE (ae ns (dD N 0)).k=M/\(N.k=30->19<=N.op/\N.op<=22):=by
 have h:=rp h;unfold jj at h;rcases a with e|e|e|e|e<;>simp[e,mF]at h
 .exact⟨by omega,jy 1 0 h.1.1.1.2 0 (by omega) (by omega),by omega⟩
 .exact⟨by omega,jy 1 0 h.1.1.1.2 0 (by omega) (by omega),by omega⟩
 .exact⟨by omega,be (by omega),by omega⟩
 .exact⟨by omega,jy 1 0 h.1.2 0 (by omega) (by omega),by omega⟩
 .exact⟨by omega,jy 1 0 h.1.1.2 0 (by omega) (by omega),by omega⟩
def I6(h:mJ ns N=M)(a:N.k=34):1<=N.ks.length/\lj ns N N.ks.length 0=M:=by
 have h:=rp h;unfold jj at h;simp[a,mF]at h;exact⟨by omega,h.1.1.2⟩
def Eu(h:mJ ns N=M)(a:N.k=35):F4 ns N N.ks.length 0=M:=by
 have h:=rp h;unfold jj at h;simp[a]at h;exact h.1
def ve{a b:Int}(h:fy N a b=M)(c:b<=200):a<=(N.nm.length:Int)/\N.nm.length<=200:=by
 unfold fy at h;rw[bB]at h;have:=aB h.1;omega
def ahG(h:mJ ns N=M)(a:N.k=36):N.ks.length=1/\(ae ns (dD N 0)).k=1/\N.nm.length<=200/\(N.op=0\/N.op=1):=by
 have h:=rp h;unfold jj at h;simp[a,mF]at h;exact⟨by omega,h.1.1.1.2,(ve h.1.2 (by omega)).2,h.2⟩
def zr(h:mJ ns N=M)(a:N.k=1):C7 ns N N.ks.length 0=M:=by
 have h:=oI h;unfold stB at h;simp[a]at h;exact h.1
def ahH(h:mJ ns N=M)(a:20<=N.k/\N.k<=27):N.ks.length=0:=by
 have h:=rp h;unfold jj at h;rcases(show N.k=20\/N.k=21\/N.k=22\/N.k=23\/N.k=24\/N.k=25\/N.k=26\/N.k=27 by omega) with e|e|e|e|e|e|e|e<;>simp[e]at h<;>simp[h]
def sN(ns:List Nd)(i:Int):Nat:=((iL ns).getD i.toNat 0).toNat
def sK(ns:List Nd):List Int->Nat
 |[]=>0
 |k::l=>sN ns k+sK ns l
def aoE(ns:List Nd)(a b:List Int):sK ns (a++b)=sK ns a+sK ns b:=by
 induction a with
 |nil=>simp[sK]
 |cons d e c=>simp only[dJ,sK,c];omega
def Ev(ns:List Nd)(l:List Int)(n:Nat):sK ns l=sK ns (l.take n)+sK ns (l.drop n):=by rw[<-aoE,vA]
structure Szd (ns:List Nd):Prop where
 nb:∀i:Nat,i<ns.length->jK ns i (ae ns i)=M
 at_:∀i:Nat,i<ns.length->sN ns i=1+sK ns (ae ns i).ks
 le:∀i:Int,sN ns i<=3000
def ahI(h:(eG ns).1=0):Szd ns:=by
 have g:=ak5 h;have p:=su h;have n:=ahA h;have l:F6 (iL ns):=AH ns (λi j e k=>by
  have⟨a,b,c⟩:=iq j;exact(p.kid a i (by rw[aw b,c]) e k).1)
 have o:∀a:Nat,0<=(iL ns).getD a 0:=by
  intro a;rw[aF];cases c:(iL ns)[a]? with
  |none=>decide
  |some r=>exact(l a r c).1
 have q:∀d:List Int,um (iL ns) d=(sK ns d:Int):=by
  intro d
  induction d with
  |nil=>rfl
  |cons e s m=>
   have:=o e.toNat;simp only[um,sK,m,sN];omega
 have f:∀a:Nat,a<ns.length->ns[a]?=X (ae ns a):=λa b=>by
  unfold ae;rw[iF,List.getD,aw b];rfl
 refine⟨λa b=>n a _ (f a b),λa b=>?_,λa=>?_⟩
 .have c:=g.at_ a _ (f a b);rw[q]at c;show((iL ns).getD (a:Int).toNat 0).toNat=_;rw[iF,c];omega
 .have:=g.le a.toNat;unfold sN;omega
def G1(l:List ByteArray):(eK l).size<=(l.map λx=>x.size+2).sum:=by
 have d:∀a,(eK (l.take a)).size<=((l.take a).map λx=>x.size+2).sum:=by
  intro a
  induction a with
  |zero=>show(O).size<=_;exact aD _
  |succ a b=>
   rcases bg a l.length with h|h
   .rw[se l a _ (aw h),au,List.take_succ_eq_append_getElem h,eJ,List.sum_append];have c:iI.size=2:=rfl;have:(if a=0 then eK (l.take a) else eK (l.take a)++iI).size<=(eK (l.take a)).size+2:=by
     split
     .omega
     .rw[au,c];exact ag _
    simp only[dw,List.map_nil,List.sum_cons,List.sum_nil];omega
   .rw[dl (by omega)];rw[dl (by omega)]at b;exact b
 have:=d l.length
 rwa [dl (ag _)]at this
def abt(ns:List Nd)(b:Int->Nat)(d:Nat)(a:List Int)(h:∀z∈a,b z+10000<=2000000*sN ns z)(j:d<=10000):(a.map λz=>b z+d).sum<=2000000*sK ns a:=by
 induction a with
 |nil=>exact aD _
 |cons z k e=>
  have g:=h z aI;have i:=e λf c=>h f (cG _ c);simp only[dw,List.sum_cons,sK,Nat.mul_add];omega
def tC(ns:List Nd)(E:Int->ByteArray)(a:List Int)(h:∀z∈a,(E z).size+10000<=2000000*sN ns z):(eK (a.map E)).size<=2000000*sK ns a:=by
 refine bG (G1 _) ?_;rw[List.map_map];exact abt ns (λz=>(E z).size) 2 a h (by omega)
def Lx(l:List ByteArray)(h:∀s∈l,s.size<=4000):(eK l).size<=4002*l.length:=by
 refine bG (G1 _) ?_
 induction l with
 |nil=>exact aD _
 |cons c g b=>
  have e:=h c aI;have f:=b λd a=>h d (cG _ a);simp only[dw,List.sum_cons,bc];omega
def G4(l:List ByteArray):(ju l).size=(l.map ByteArray.size).sum:=by
 have c:∀(a:ByteArray),(l.foldl (· ++·) a).size=a.size+(l.map ByteArray.size).sum:=by
  induction l with
  |nil=>intro a;simp
  |cons e d b=>intro a;rw[kG,b,au,dw,List.sum_cons];omega
 have:=c O;rw[show ByteArray.empty.size=0 from rfl]at this;unfold ju;omega
def aoF(ns:List Nd)(S:Int->Nat->ByteArray)(a:List Int)(tab:Nat)(ht:tab<=9000)(h:∀z∈a,(S z (tab+1)).size+10000<=2000000*sN ns z):(Bo S a tab).size+10000<=2000000*(1+sK ns a)-900000:=by
 unfold Bo;by_cases b:a=[]
 .rw[ab b];show 2+10000<=_;omega
 .rw[aa b,au,au,au,G4,og,List.map_map];have c:(a.map (ByteArray.size ∘ λd=>jc (tab+1)++S d (tab+1)))=a.map λz=>(S z (tab+1)).size+(tab+2):=by
   apply List.map_congr_left;intro z e;simp only[Function.comp];rw[au,og];omega
  rw[c];have:=abt ns (λz=>(S z (tab+1)).size) (tab+2) a h (by omega);show 1+_+(tab+1)+1+10000<=_;omega
def zt(h:lj ns N 1 0=M):gE (ae ns (dD N 0)).k=M:=jy 1 0 h 0 (by omega) (by omega)
def abu(h:mJ ns N=M)(a:N.k=2):lj ns N N.ks.length 0=M/\N.nm.length<=200:=by
 have h:=oI h;unfold stB at h;simp only[a]at h;simp at h;exact⟨h.2,(ve h.1.2 (by omega)).2⟩
def Ew(h:mJ ns N=M)(b:N.k=3):N.ks.length=1/\gE (ae ns (dD N 0)).k=M/\N.nm.length=1:=by
 have h:=oI h;unfold stB at h;simp[b]at h;have:=ve h.1.1.2 (by omega);have a:=h.1.1.2;unfold fy at a;rw[bB]at a;have:=aB a.1;exact⟨by omega,zt h.2,by omega⟩
def abv(h:mJ ns N=M)(b:N.k=4):N.ks.length=1/\(ae ns (dD N 0)).k=36/\N.nm.length=1:=by
 have h:=oI h;unfold stB at h;simp[b,mF]at h;have a:=h.1.1.2;unfold fy at a;rw[bB]at a;have:=aB a.1;exact⟨by omega,h.2,by omega⟩
def ahJ(h:mJ ns N=M)(a:N.k=5):1<=N.n/\N.n<(N.ks.length:Int)/\C8 ns N N.n.toNat 0=M/\lj ns N (N.ks.length-N.n.toNat) N.n.toNat=M:=by
 have h:=oI h;unfold stB at h;simp[a]at h;exact⟨h.2.1.1,h.2.1.2,h.2.2.1,h.2.2.2⟩
def G5(h:mJ ns N=M)(a:N.k=6\/N.k=16):N.ks.length=1/\(ae ns (dD N 0)).k=34:=by
 have h:=oI h;unfold stB at h;rcases a with e|e<;>simp[e,mF]at h<;>exact⟨by omega,h.2⟩
def ahK(h:mJ ns N=M)(a:N.k=7):2<=N.ks.length/\N.ks.length<=3/\gE (ae ns (dD N 0)).k=M/\(ae ns (dD N 1)).k=1/\(N.ks.length=2\/(ae ns (dD N 2)).k=1\/(ae ns (dD N 2)).k=7):=by
 have h:=oI h;unfold stB at h;simp[a,mF]at h;exact⟨h.2.1.1,h.2.1.2,zt h.2.2.1,h.2.2.2.1,by omega⟩
def Ey(h:mJ ns N=M)(a:N.k=8):N.ks.length=2/\gE (ae ns (dD N 0)).k=M/\(ae ns (dD N 1)).k=1:=by
 have h:=oI h;unfold stB at h;simp[a,mF]at h;exact⟨by omega,zt h.1.2,h.2⟩
def abw(h:mJ ns N=M)(b:N.k=9):(N.ks.length=3\/N.ks.length=4)/\lj ns N (N.ks.length-1) 0=M/\(ae ns (dD N (N.ks.length-1))).k=1/\N.nm.length=1:=by
 have h:=oI h;unfold stB at h;simp[b,mF]at h;have a:=h.2.1;unfold fy at a;rw[bB]at a;have:=aB a.1;exact⟨by omega,h.2.2.2.1,h.2.2.2.2,by omega⟩
def I7(h:mJ ns N=M)(a:N.k=10):N.ks.length=2/\gE (ae ns (dD N 0)).k=M/\(ae ns (dD N 1)).k=1/\N.nm.length<=200:=by
 have h:=oI h;unfold stB at h;simp[a,mF]at h;exact⟨by omega,zt h.1.2,h.2,(ve h.1.1.1.2 (by omega)).2⟩
def ahL(h:mJ ns N=M)(a:N.k=13):lj ns N N.ks.length 0=M:=by
 have h:=oI h;unfold stB at h;simp[a]at h;exact h.2
def abx(h:mJ ns N=M)(a:N.k=14):N.ks.length=2/\(ae ns (dD N 0)).k=1/\(ae ns (dD N 1)).k=1/\N.nm.length<=200:=by
 have h:=oI h;unfold stB at h;simp[a,mF]at h;exact⟨by omega,h.1.2,h.2,(ve h.1.1.1.2 (by omega)).2⟩
def Ez(h:mJ ns N=M)(a:N.k=15):N.ks.length=1/\gE (ae ns (dD N 0)).k=M:=by
 have h:=oI h;unfold stB at h;simp[a]at h;exact⟨by omega,zt h.2⟩
def adl{l:List ByteArray}:∀(f j:Nat),uA l f j=M->∀q,j<=q->q<j+f->lr (l.getD q O)=M
 |0,j,_,q,a,b=>by omega
 |f+1,j,h,q,a,b=>by
  rw[uA,bB]at h;rcases ie a with rfl|h3
  .exact h.1
  .exact adl f (j+1) h.2 q h3 (by omega)
def mL{a b:Int}(h:fy N a b=M):(∀s∈N.nm,lr s=M)/\a<=(N.nm.length:Int)/\(N.nm.length:Int)<=b:=by
 unfold fy at h;rw[bB]at h;refine⟨λs e=>?_,aB h.1⟩;have⟨f,d,c⟩:=iq e;have:=adl _ 0 h.2 f (by omega) (by omega);rw[aF,aw d]at this;rw[<-c];exact this
def amB(h:mJ ns N=M):∀s∈N.nm,lr s=M:=by
 have a:=I5 h;by_cases c:N.k=2\/N.k=3\/N.k=4\/N.k=9\/N.k=10\/N.k=14\/N.k=36
 .by_cases d:N.k=36
  .have h:=rp h;unfold jj at h;simp[d]at h;exact(mL h.1.2).1
  .have h:=oI h;unfold stB at h;rcases c with e|e|e|e|e|e|e<;>simp[e]at h
   .exact(mL h.1.2).1
   .exact(mL h.1.1.2).1
   .exact(mL h.1.1.2).1
   .exact(mL h.2.1).1
   .exact(mL h.1.1.1.2).1
   .exact(mL h.1.1.1.2).1
 .rw[az c]at a;unfold bu at a;simp at a;intro s b;rw[a.2]at b;cases b
def EA(h:mJ ns N=M):∀s∈N.nm,s.size<=4000:=λs a=>ahB (amB h s a)
def zu{j:Nat}(h:j<N.ks.length):N.ks[j]=dD N j:=by unfold dD;rw[aF,aw h];rfl
def rD(ns:List Nd)(h:N.ks.length=1):sK ns N.ks=sN ns (dD N 0):=by
 unfold dD
 match e:N.ks,h with
 |[a],_=>simp[sK]
def AI(ns:List Nd)(h:N.ks.length=2):sK ns N.ks=sN ns (dD N 0)+sN ns (dD N 1):=by
 unfold dD
 match e:N.ks,h with
 |[a,b],_=>simp[sK]
def ah0(ns:List Nd)(h:N.ks.length=3):sK ns N.ks=sN ns (dD N 0)+sN ns (dD N 1)+sN ns (dD N 2):=by
 unfold dD
 match e:N.ks,h with
 |[a,b,c],_=>simp[sK];omega
def ak6(ns:List Nd)(h:0<N.ks.length):sK ns N.ks=sK ns (N.ks.take (N.ks.length-1))+sN ns (dD N (N.ks.length-1)):=by
 rw[Ev ns N.ks (N.ks.length-1)]
 congr 1
 rw[kL (by omega),zu,lE (by omega)];simp[sK]
def ak7(ns:List Nd)(h:0<N.ks.length):sK ns N.ks=sN ns (dD N 0)+sK ns (N.ks.drop 1):=by
 rw[Ev ns N.ks 1]
 congr 1
 unfold dD
 match e:N.ks,h with
 |a::b,_=>simp[sK]
def afg(n:Int)(b:n<=9223372036854775807):(ze n).size<=30:=by
 unfold ze;split
 .rw[ss];omega
 .rename_i a;have:=Lib.itoa_length_le n (by omega) b;show(W n.toNat).toArray.size<=30;rw[iD];unfold Lib.itoa at this;simp only[a,if_false]at this;omega
def ah1(N:Nd)(b:N.x.size<=4000)(a:N.n<=9223372036854775807):(C3 N).size<=20000:=by
 unfold C3
 repeat' split
 .show 3<=_;omega
 .show 4<=_;omega
 .show 5<=_;omega
 .have:=afg N.n a;omega
 .omega
 .have:=aff N.x;unfold aoC at this;omega
 .show 3<=_;omega
 .show 0<=_;omega
def AJ(ns:List Nd)(E:Int->ByteArray)(k least:Int):(kI ns E k least).size<=(E k).size+2:=by
 unfold kI;split
 .rw[wn];omega
 .omega
def I8(ns:List Nd)(E:Int->ByteArray)(k:Int):(JC ns E k).size<=(E k).size+2:=by
 unfold JC;split
 .omega
 .rw[wn];omega
def ak8(ns:List Nd)(N:Nd):(unS ns N).size<=4:=by
 unfold unS
 repeat' split
 .show 4<=4;omega
 .show 1<=4;omega
 .show 1<=4;omega
 .show 2<=4;omega
 .show 1<=4;omega
def Ly{op:Int}(h:1<=op/\op<=18):(Dk (60+op)).size<=4:=by
 obtain⟨a,b⟩:=h;rcases(show op=1\/op=2\/op=3\/op=4\/op=5\/op=6\/op=7\/op=8\/op=9\/op=10\/op=11\/op=12\/op=13\/op=14\/op=15\/op=16\/op=17\/op=18 by omega) with rfl|rfl|rfl|rfl|rfl|rfl|rfl|rfl|rfl|rfl|rfl|rfl|rfl|rfl|rfl|rfl|rfl|rfl;all_goals decide+kernel
structure SzE (ns:List Nd) (E:Int->ByteArray) (S:Int->Nat->ByteArray) (i:Nat) (tab:Nat):Prop where
 e:∀z:Nat,z<i->(E z).size+10000<=2000000*sN ns z
 s:∀z:Nat,z<i->(S z (tab+1)).size+10000<=2000000*sN ns z
def SzE.kid(h:SzE ns E S i tab)(d:Szd ns){q:Nat}(k:q<=i)(a:q<ns.length):∀z∈(ae ns q).ks,(E z).size+10000<=2000000*sN ns z/\(S z (tab+1)).size+10000<=2000000*sN ns z:=by
 intro z g;obtain⟨j,f,rfl⟩:=rq g;have⟨c,b⟩:=jv (d.nb q a) a j f;rw[b.id];have:=b.lt;exact⟨h.e c (by omega),h.s c (by omega)⟩
def SzE.blk(h:SzE ns E S i tab)(d:Szd ns)(ht:tab<=9000){q:Nat}(b:q<=i)(a:q<ns.length):(Bo S (ae ns q).ks tab).size+910000<=2000000*sN ns q:=by
 have:=aoF ns S (ae ns q).ks tab ht (λe c=>(h.kid d b a e c).2);rw[d.at_ q a];omega
def ah2(h:mJ ns N=M)(b:N.nm.length<=200):(FL N).size<=810000:=by
 unfold FL;have:=Lx N.nm (EA h);simp only[au];have a:(if N.op=1 then(if N.nm=[] then(⟨#[46,46,46]⟩:ByteArray) else iI++⟨#[46,46,46]⟩) else O).size<=5:=by
  repeat' split
  .show 3<=5;omega
  .show 5<=5;omega
  .show 0<=5;omega
 show 1+_+_+2<=_;omega
def SzE.bod(h:SzE ns E S i tab)(d:Szd ns)(ht:tab<=9000){q:Nat}(g:q<=i)(a:q<ns.length)(f:(ae ns q).k=36):(F3 ns S (ae ns q) tab).size+20000<=2000000*sN ns q:=by
 have⟨c,l,e,m⟩:=ahG (kJ (d.nb q a)).1 f;have⟨n,b⟩:=jv (d.nb q a) a 0 (by omega);have j:=h.blk d ht (bG (fG b.lt) g) b.len;unfold F3;rw[au,b.id,d.at_ q a,rD ns c,b.id];have:=ah2 (kJ (d.nb q a)).1 e;omega
def ah3(h:SzE ns E S i tab)(d:Szd ns){q:Nat}(s:q<=i)(b:q<ns.length)(r:40<=(ae ns q).k/\(ae ns q).k<=42):(wC ns E (ae ns q)).size+10000<=2000000*sN ns q:=by
 have m:=(kJ (d.nb q b)).1;have t:=abq (d.nb q b);have g:=λp o=>jv (d.nb q b) b p o;rw[d.at_ q b];unfold wC;by_cases j:(ae ns q).k=41
 .rw[ab j];have⟨f,_,_⟩:=pm m;have⟨c,a⟩:=g 0 (by omega);have⟨n,l⟩:=g 1 (by omega);rw[AI ns f,a.id,l.id];have:=h.e c (by have:=a.lt;omega);have:=h.e n (by have:=l.lt;omega);simp only[au];show 1+_+4+_+_<=_;omega
 .rw[aa j];obtain⟨f,_,_⟩:=qv m (show _ by omega);have⟨c,a⟩:=g 0 (by omega);rw[rD ns f,a.id];have:=h.e c (by have:=a.lt;omega);split
  .simp only[au];show 1+_+3+_+_<=_;omega
  .omega
def ah4(h:SzE ns E S i tab)(d:Szd ns)(ht:tab<=9000)(c:i<ns.length)(J:(ae ns i).n<=9223372036854775807):(prE ns E S (ae ns i) tab).size+10000<=2000000*sN ns i:=by
 have j:=(kJ (d.nb i c)).1;have K:=abq (d.nb i c);have g:=λm s=>jv (d.nb i c) c m s;have v:∀(x:ByteArray)(w:Int),x.size<=100->((ae ns i).k=28\/(ae ns i).k=29\/(ae ns i).k=31\/(ae ns i).k=32\/(ae ns i).k=41)->(FK ns E (ae ns i) x w).size+10000<=2000000*sN ns i:=by
  intro x w ad I;have⟨f,_,_⟩:=pm j I;have⟨b,a⟩:=g 0 (by omega);have⟨l,k⟩:=g 1 (by omega);rw[d.at_ i c,AI ns f,a.id,k.id];unfold FK;rw[a.id,k.id];have:=h.e b a.lt;have:=h.e l k.lt;have:=AJ ns E b (zi (ae ns i) w);have:=AJ ns E l (ui (ae ns i).k (ae ns i).op);simp only[au];omega
 unfold prE;by_cases y:(ae ns i).k=28
 .rw[ab y];exact v _ _ (by show 5<=100;omega) (by omega)
 rw[aa y];by_cases A:(ae ns i).k=29
 .rw[ab A];exact v _ _ (by show 4<=100;omega) (by omega)
 rw[aa A];by_cases o:(ae ns i).k=31
 .rw[ab o];have:=Ly ((pm j).2.2 o);exact v _ _ (by simp only[au];show 1+_+1<=_;omega) (by omega)
 rw[aa o];by_cases B:(ae ns i).k=30
 .rw[ab B];have⟨f,_,_⟩:=qv j;have⟨b,a⟩:=g 0 (by omega);rw[d.at_ i c,rD ns f,a.id];unfold unB;rw[a.id];have:=h.e b a.lt;have:=AJ ns E b 11;have:=ak8 ns (ae ns i);simp only[au];omega
 rw[aa B];by_cases C:(ae ns i).k=32
 .rw[ab C];have⟨f,_,_⟩:=pm j;have⟨b,a⟩:=g 0 (by omega);have⟨l,k⟩:=g 1 (by omega);rw[d.at_ i c,AI ns f,a.id,k.id];have:=h.e b a.lt;have:=h.e l k.lt;have:=I8 ns E b;simp only[au];show _+1+_+1+_<=_;omega
 rw[aa C];by_cases F:(ae ns i).k=33
 .rw[ab F];have⟨f,_,_⟩:=qv j;have⟨b,a⟩:=g 0 (by omega);rw[d.at_ i c,rD ns f,a.id];have:=h.e b a.lt;have:=I8 ns E b;simp only[au];show _+(1+_)+_<=_;omega
 rw[aa F];by_cases p:(ae ns i).k=34
 .rw[ab p];have⟨f,_⟩:=I6 j p;have⟨b,a⟩:=g 0 (by omega);rw[d.at_ i c,ak7 ns (by omega),a.id];have:=h.e b a.lt;have:=I8 ns E b;have:=tC ns E ((ae ns i).ks.drop 1) (λH u=>(h.kid d (ag _) c H (List.mem_of_mem_drop u)).1);simp only[au];show _+1+_+1+_<=_;omega
 rw[aa p];by_cases q:(ae ns i).k=35
 .rw[ab q];unfold ag6;have f:=Eu j q;have:=tC ns (λL=>wC ns E (ae ns L)) (ae ns i).ks (λH u=>by
   obtain⟨m,s,rfl⟩:=rq u;have⟨af,t⟩:=g m s;have G:=adk _ 0 f m (by omega) (by omega);rw[t.id]at G⊢;exact ah3 h d (fG t.lt) t.len G)
  rw[d.at_ i c];simp only[au];show 1+_+1+_<=_;omega
 rw[aa q];by_cases r:(ae ns i).k=36
 .rw[ab r];have:=h.bod d ht (ag _) c r;simp only[au];show 2+_+_<=_;omega
 rw[aa r];by_cases z:(ae ns i).k=37
 .rw[ab z];have⟨f,_,_⟩:=qv j;have⟨b,a⟩:=g 0 (by omega);rw[d.at_ i c,rD ns f,a.id,wn];have:=h.e b a.lt;omega
 rw[aa z];have:=ah1 (ae ns i) K J;rw[d.at_ i c];omega
def fW(N:Nd):Int:=150+8000*(bgN N:Int)
def Wp(ns:List Nd)(j:Int):Int:=((ns.take j.toNat).map fW).sum
def wN(ns:List Nd)(i:Int):Int:=Wp ns (i+1)-Wp ns (i+1-(iL ns).getD i.toNat 0)
def wK(ns:List Nd):List Int->Int
 |[]=>0
 |k::l=>wN ns k+wK ns l
def ah5(ns:List Nd)(a b:List Int):wK ns (a++b)=wK ns a+wK ns b:=by
 induction a with
 |nil=>simp[wK]
 |cons d e c=>simp only[dJ,wK,c];omega
def aoG(ns:List Nd)(l:List Int):wK ns l.reverse=wK ns l:=by
 induction l with
 |nil=>rfl
 |cons b l a=>rw[List.reverse_cons,ah5,a];simp only[wK];omega
def amC(ns:List Nd):∀(l:List Int)(a b:Int),qD (iL ns) l a=X b->wK ns l=Wp ns a-Wp ns b
 |[],a,b,h=>by simp[qD]at h;subst h;simp[wK]
 |k::r,a,b,h=>by
  rw[qD]at h;split at h
  .rename_i c;have:=amC ns r _ _ h;simp only[wK,wN];rw[this,show k+1=a by omega];omega
  .cases h
def EB(S:List Int)(i:Nat):∀(l:List Int)(a:Int),(∀k∈l,0<=k/\k<(i:Int))->qD (S.take i) l a=qD S l a
 |[],a,_=>rfl
 |k::r,a,h=>by
  have e:=h k aI;have b:(S.take i).getD k.toNat 0=S.getD k.toNat 0:=by
   rw[aF,aF,List.getElem?_take_of_lt (by omega)]
  rw[qD,qD,b,EB S i r _ λd c=>h d (cG _ c)]
def ak9(h:ns[i]?=X N):Wp ns ((i:Int)+1)=Wp ns i+fW N:=by
 unfold Wp;rw[show((i:Int)+1).toNat=i+1 by omega,show((i:Int)).toNat=i by omega,iC,h];simp
structure Wzd (ns:List Nd):Prop where
 nb:∀i:Nat,i<ns.length->jK ns i (ae ns i)=M
 at_:∀i:Nat,i<ns.length->wN ns i=fW (ae ns i)+wK ns (ae ns i).ks
 root:wN ns ((ns.length:Int)-1)=Wp ns ns.length
 len:1<=ns.length
def I9(h:(eG ns).1=0):Wzd ns:=by
 have o:=ahI h;have l:=su h;have v:=h;unfold eG at h;by_cases k:iu ns=M
 .rw[ab k]at h;exact absurd h (by decide)
 rw[aa k]at h;have⟨m,p⟩:=aC (jH (fI ns) ns.length 0);rw[p]at h;cases m with
 |some a=>rw[tf2]at h;exact absurd h (by simp)
 |none=>
  rw[tf2]at h;have⟨n,j⟩:=aC (jH (iJ (iL ns)) ns.length 0);rw[j]at h;cases n with
  |some a=>rw[tf3]at h;exact absurd h (by simp)
  |none=>
   have q:=lB j;rw[tf3]at h;have t:(iL ns).getD (ns.length-1) 0=(ns.length:Int):=by
    by_cases i:(iL ns).getD (ns.length-1) 0=(ns.length:Int)
    .exact i
    .rw[ab i]at h;exact absurd h (by simp)
   refine⟨o.nb,λa r=>?_,?_,l.len.1⟩
   .have d:ns[a]?=X (ae ns a):=by
     unfold ae;rw[iF,List.getD,aw r];rfl
    generalize ae ns a=e at d;have c:=q a (aD _) (by omega);unfold iJ at c;have b:=abr d;rw[b]at c;unfold ov at c b;cases hw:qD ((iL ns).take a) e.ks.reverse a with
    |none=>rw[hw]at c;simp at c
    |some f=>
     rw[hw]at b;simp only at b;rw[EB (iL ns) a _ _ (λu s=>l.kid a e d u (by simpa using s))]at hw;have g:=amC ns _ _ _ hw;rw[aoG]at g;unfold wN;rw[show((a:Int)).toNat=a by omega,b,ak9 d,g,show(a:Int)+1-((a:Int)-f+1)=f by omega];omega
   .unfold wN;rw[show((ns.length:Int)-1).toNat=ns.length-1 by omega,t,show(ns.length:Int)-1+1=ns.length by omega,Int.sub_self];have:Wp ns 0=0:=by unfold Wp;simp
    omega
def ah6(L:List Nd):Wp L L.length=150*(L.length:Int)+8000*(bigs L:Int):=by
 unfold Wp bigs;rw[show((L.length:Nat):Int).toNat=L.length by omega,dl (ag _)]
 induction L with
 |nil=>rfl
 |cons b L a=>
  simp only[dw,List.sum_cons,bc]at a⊢;rw[a];unfold fW;omega
def xe(N:Nd):150<=fW N:=by unfold fW;omega
def vf:List Int:=[-1,32,9,13,10,41,93,125,44,59]
structure Ag (T:ByteArray) (p:Nat) (x:ByteArray):Prop where
 at_:∀i,i<x.size->aq T (p+i)=aq x i
 le:p+x.size<=T.size
 bl:aq T (p+x.size)∈vf
section
variable {T x : ByteArray} {p : Nat}
def Lz(T:ByteArray)(q i:Nat):aq (T.extract q T.size) i=aq T (q+i):=by
 rcases bg (q+i) T.size with g|g
 .exact ga T q T.size i (ag _)
 .rw[dy (i:=q+i) (by omega),dy (by rw[jd T q T.size (ag _)];omega)]
def Ag.q(h:Ag T p x)(q:Int->Bool)(a:∀c∈vf,q c=U)(b:q (-1)=U)(d:i<=x.size):q (aq T (p+i))=q (aq x i):=by
 rcases bg i x.size with g|g
 .rw[h.at_ i g]
 .obtain rfl:i=x.size:=by omega
  rw[a _ h.bl,dy,b]
def Ag.eq(h:Ag T p x)(d:c ∉ vf)(g:c≠ -1)(e:i<=x.size):aq T (p+i)=c↔aq x i=c:=by
 have:=h.q (λa=>decide (a=c)) (λa f=>az λb=>d (b ▸ f)) (by simp;omega) e;simpa using this
def aoH{a:ByteArray}(f:a.size=b.size)(h:∀i,i<a.size->aq a i=aq b i):a=b:=by
 apply kD;refine Array.ext f (λi d e=>?_);have c:=h i d;unfold aq at c;rw[ni (show i<a.size from d),ni (show i<b.size from e)]at c;exact UInt8.toNat_inj.1 (Int.ofNat_inj.1 c)
def Ag.ext(h:Ag T p x){b:Nat}(c:b<=x.size):T.extract (p+a) (p+b)=x.extract a b:=by
 have i:=h.le;have e:=jd T (p+a) (p+b) (by omega);have f:=jd x a b c;refine aoH (by omega) (λd g=>?_);rw[ga T _ _ d (by omega),ga x a b d c,fi,h.at_ _ (by omega)]
def tD(q:Int->Bool)(s:ByteArray):∀(n f p:Nat),(∀i,i<n->q (aq s (p+i))=M)->q (aq s (p+n))=U->n<f->ix q s f p=p+n
 |n,0,p,_,_,h=>by omega
 |0,f+1,p,b,a,_=>by rw[ix,aa (by rw[fL]at a;rw[a];simp)];rfl
 |n+1,f+1,p,b,a,h=>by
  rw[ix,ab (by have:=b 0 (by omega);rwa [fL]at this)];rw[tD q s n f (p+1) (λi c=>by rw[show p+1+i=p+(i+1) by omega];exact b (i+1) (by omega)) (by rw[show p+1+n=p+(n+1) by omega];exact a) (by omega)];omega
def Ag.run(h:Ag T p x)(q:Int->Bool)(i:∀c∈vf,q c=U)(d:q (-1)=U)(j:a<=x.size):ix q T (T.size+1) (p+a)=p+ix q x (x.size+1) a:=by
 have f:=pH q d x (x.size+1) a j;have e:=ql q x (x.size+1) a;have g:=J7 q d x (x.size+1) a (by omega);have m:=h.le;obtain⟨b,k⟩:∃b,ix q x (x.size+1) a=b:=⟨_,rfl⟩;rw[k]at f e g⊢;rw[tD q T (b-a) (T.size+1) (p+a) (λn l=>by rw[fi,h.q q i d (by omega)];exact e _ (by omega) (by omega)) (by rw[fi,show a+(b-a)=b by omega,h.q q i d f.2];exact g) (by omega)];omega
def zv(s:ByteArray):∀f p,qC s f p=ix (λc=>bI c||cm c) s f p
 |0,p=>rfl
 |f+1,p=>by
  rw[qC,ix,zv s f (p+1)];by_cases h:bI (aq s p)=M\/cm (aq s p)=M
  .rw[ab h,ab (by simpa using h)]
  .rw[aa h,aa (by simpa using h)]
def Ag.nm(h:Ag T p x)(c:a<=x.size):qC T (T.size+1) (p+a)=p+qC x (x.size+1) a:=by
 rw[zv,zv];exact h.run (λb=>bI b||cm b) (by decide) (by decide) c
def Ag.dig(h:Ag T p x)(b:a<=x.size):rL T (p+a)=p+rL x a:=h.run cm (by decide) (by decide) b
def Ag.hx(h:Ag T p x)(b:a<=x.size):hxE T (p+a)=p+hxE x a:=h.run nA (by decide) (by decide) b
def Ag.a0(h:Ag T p x)(f:a<x.size):nA0 T (p+a)=p+nA0 x a:=by
 unfold nA0;have d:=h.eq (c:=48) (by decide) (by decide) (fG f);by_cases b:aq x a=48
 .rw[ab (d.2 b),ab b,fi]
 .rw[aa (λe=>b (d.1 e)),aa b,fi,h.dig (by omega)]
def Ag.a1(h:Ag T p x)(j:a<=x.size):nA1 T (p+a)=p+nA1 x a:=by
 unfold nA1;have g:=h.eq (c:=46) (by decide) (by decide) j;by_cases d:aq x a=46
 .have i:a+1<=x.size:=aH d;have f:=h.q cm (by decide) (by decide) i;rw[<-fi]at f;by_cases e:cm (aq x (a+1))=M
  .rw[ab ⟨g.2 d,by rw[f];exact e⟩,ab ⟨d,e⟩,fi,h.dig i]
  .rw[aa (λb=>e (by rw[<-f];exact b.2)),aa (λb=>e b.2)]
 .rw[aa (λb=>d (g.1 b.1)),aa (λb=>d b.1)]
def Ag.ex(h:Ag T p x)(k:a<=x.size):oe T (p+a)=(p+(oe x a).1,(oe x a).2):=by
 unfold oe;have f:=h.eq (c:=101) (by decide) (by decide) k;by_cases b:aq x a=101
 .have j:a+1<=x.size:=aH b;have d:=h.eq (c:=43) (by decide) (by decide) j;have e:=h.eq (c:=45) (by decide) (by decide) j;rw[<-fi]at d e;have i:nA2 T (p+a)=p+nA2 x a/\nA2 x a<=x.size:=by
   unfold nA2;by_cases g:aq x (a+1)=43\/aq x (a+1)=45
   .have:a+1<x.size:=by rcases g with g|g<;>exact aH g
    rw[ab g,ab (by rw[d,e];exact g)];omega
   .rw[aa g,aa (by rw[d,e];exact g)];omega
  rw[ab (f.2 b),ab b,i.1,h.dig i.2];simp
 .rw[aa (λg=>b (f.1 g)),aa b]
def Ag.x2(h:Ag T p x)(b:a<x.size):(aq T (p+a)=48/\aq T (p+a+1)=120)↔(aq x a=48/\aq x (a+1)=120):=by
 rw[h.eq (c:=48) (by decide) (by decide) (fG b),fi,h.eq (c:=120) (by decide) (by decide) (show a+1<=x.size from b)]
def Ag.num(h:Ag T p x)(d:a<x.size):dF T (p+a)=(p+(dF x a).1,(dF x a).2):=by
 unfold dF;by_cases b:aq x a=48/\aq x (a+1)=120
 .rw[ab b,ab ((h.x2 d).2 b)];unfold nB;have:=aH b.2;have f:=h.hx (show a+2<=x.size by omega);rw[<-fi]at f;rw[f];by_cases c:a+2+16<hxE x (a+2)
  .rw[ab c,ab (by omega)];simp;omega
  .rw[aa c,aa (by omega)];simp;omega
 .rw[aa b,aa (λc=>b ((h.x2 d).1 c)),h.a0 d];have e:=Ds x a d;have g:=Dt x (nA0 x a) e.2;rw[h.a1 e.2,h.ex g.2]
def Ag.kd(h:Ag T p x)(e:a<x.size):DC T (p+a)=DC x a:=by
 unfold DC;have b:=Ds x a e;have g:=Dt x (nA0 x a) b.2;rw[h.a0 e,h.a1 b.2];have i:=h.eq (c:=46) (by decide) (by decide) b.2;have j:=h.eq (c:=101) (by decide) (by decide) g.2;refine decide_eq_decide.2 ?_;rw[i,j];by_cases f:aq x (nA0 x a)=46
 .have d:=h.q cm (by decide) (by decide) (show nA0 x a+1<=x.size from aH f);rw[<-fi]at d;rw[d]
 .simp[f]
def Ag.dc(h:Ag T p x)(a:Nat):∀n,a+n<=x.size->qL T (p+a) n=qL x a n
 |0,_=>rfl
 |n+1,b=>by rw[qL,qL,h.dc a n (by omega),fi,h.at_ (a+n) (by omega)]
def Ag.hv(h:Ag T p x)(a:Nat):∀n,a+n<=x.size->tg T (p+a) n=tg x a n
 |0,_=>rfl
 |n+1,b=>by rw[tg,tg,h.hv a n (by omega),fi,h.at_ (a+n) (by omega)]
def Ag.nu(h:Ag T p x)(c:a<x.size):ue T (p+a)=ue x a:=by
 unfold ue;have e:=wd x a c;rw[h.num c,h.kd c];obtain⟨b,f⟩:∃b,(dF x a).1=b:=⟨_,rfl⟩;simp only[f]at e⊢;by_cases d:aq x a=48/\aq x (a+1)=120
 .rw[ab d,ab ((h.x2 c).2 d),show p+b-(p+a+2)=b-(a+2) by omega,fi];rcases bg (a+2) b with g|g
  .rw[h.hv (a+2) _ (by omega)]
  .rw[show b-(a+2)=0 by omega];rfl
 .rw[aa d,aa (λg=>d ((h.x2 c).1 g)),show p+b-(p+a)=b-a by omega,h.dc a _ (by omega),h.ext e.2]
def adm(h:¬ic (aq s i)<0):i<s.size:=by
 rcases bg i s.size with g|g
 .exact g
 .rw[dy]at h;exact absurd (by decide) h
def Ag.hexI(h:Ag T p x)(b:(hexI x a).2.2=M):hexI T (p+a)=((hexI x a).1,p+(hexI x a).2.1,M):=by
 unfold Go.Proofs.YtbkolnpplhbdmaaGreatDoor.hexI at b⊢;by_cases c:ic (aq x a)<0
 .rw[ab c]at b;cases b
 rw[aa c]at b;by_cases d:ic (aq x (a+1))<0
 .rw[ab d]at b;cases b
 rw[h.at_ a (adm c),aa c,fi,h.at_ (a+1) (adm d),aa d,aa c,aa d];rfl
def Ag.esc(h:Ag T p x)(b:(iG x a).2.2=M):iG T (p+a)=((iG x a).1,p+(iG x a).2.1,M):=by
 have i:a<x.size:=by
  rcases bg a x.size with g|g
  .exact g
  .unfold iG at b;rw[dy]at b;revert b;simp
 unfold iG at b⊢;rw[h.at_ a i];by_cases c:aq x a=110
 .rw[ab c,ab c];rfl
 rw[aa c]at b;rw[aa c,aa c];by_cases d:aq x a=116
 .rw[ab d,ab d];rfl
 rw[aa d]at b;rw[aa d,aa d];by_cases e:aq x a=34\/aq x a=92
 .rw[ab e,ab e];rfl
 rw[aa e]at b;rw[aa e,aa e];by_cases f:aq x a=120
 .rw[ab f]at b;rw[ab f,ab f,fi,h.hexI b]
 rw[aa f]at b;cases b
def Ag.str(h:Ag T p x):∀(f g a:Nat)(c:List Int),f<=g->(gc x f a c).1=M->gc T g (p+a) c=(M,p+(gc x f a c).2.1,(gc x f a c).2.2)
 |0,g,a,c,_,b=>by rw[gc]at b;cases b
 |f+1,0,a,c,l,b=>by omega
 |f+1,g+1,a,c,l,b=>by
  have m:=h.le;rw[gc]at b⊢;rw[gc];by_cases k:x.size<=a
  .rw[ab k]at b;cases b
  rw[aa k]at b;rw[aa k,aa (by omega),h.at_ a (by omega)];by_cases e:aq x a=34
  .rw[ab e,ab e];rfl
  rw[aa e]at b;rw[aa e,aa e];by_cases i:aq x a=10
  .rw[ab i]at b;cases b
  rw[aa i]at b;rw[aa i,aa i];by_cases d:aq x a=92
  .rw[ab d]at b;rw[ab d,ab d];by_cases j:(iG x (a+1)).2.2=M
   .rw[ab j]at b;rw[ab j,fi,h.esc j,ab rfl];exact h.str f g _ _ (by omega) b
   .rw[aa j]at b;cases b
  rw[aa d]at b;rw[aa d,aa d,fi];exact h.str f g _ _ (by omega) b
end
def zw(r a:ByteArray):Q r.data.toList a.data.toList=M↔∀i,i<a.size->aq r i=aq a i:=by
 unfold Q;rw[yd,List.prefix_iff_getElem?];constructor
 .intro c i b;have d:a.data.toList[i]?=X (a.data.toList[i]'(by rw[fK];exact b)):=aw _;rw[((iz _ _ _).1 d).2,((iz _ _ _).1 (c i (by rw[fK];exact b))).2]
 .intro c i b;have f:i<a.size:=by rw[fK]at b;exact b
  have d:a.data.toList[i]?=X a.data.toList[i]:=aw _;have e:=((iz _ _ _).1 d).2;refine(iz _ _ _).2 ⟨?_,by rw[c i f,e]⟩;rw[<-c i f]at e;exact aH e
def nbS(V:Array Value)(N:Nat):Prop:=∀k:Fin N,∀i:Fin 4,0<i.val->i.val<(ch V k.val).size->aq (ch V k.val) i.val ∉ vf
def aoI:nbS jr 11:=by unfold nbS;decide+kernel
def aoJ:nbS lH 18:=by unfold nbS;decide+kernel
section
variable {T x : ByteArray} {p : Nat}
def Ag.pre(h:Ag T p x)(k:a<x.size){c:ByteArray}(m:c.size<=3)(j:∀i:Fin 4,0<i.val->i.val<c.size->aq c i.val ∉ vf):Q (T.extract (p+a) T.size).data.toList c.data.toList=Q (x.extract a x.size).data.toList c.data.toList:=by
 have l:=h.le;rw[vE,zw,zw];have e:∀i,a+i<=x.size->aq (T.extract (p+a) T.size) i=aq T (p+(a+i)):=λi b=>by rw[Lz,fi]
 have f:∀i,a+i<x.size->aq (x.extract a x.size) i=aq x (a+i):=λi b=>ga x a _ i (ag _) b;constructor
 .intro d i b;rcases bg (a+i) x.size with q|q
  .rw[f i q,<-h.at_ _ q,<-e i (by omega)];exact d i b
  .have:=d (x.size-a) (by omega);rw[e _ (by omega),show a+(x.size-a)=x.size by omega]at this;exact absurd (this ▸ h.bl) (j ⟨x.size-a,by omega⟩ (by show 0<x.size-a;omega) (by show x.size-a<c.size;omega))
 .intro d i b;have g:a+i<x.size:=by
   have:=aH (d i b) (jF b).1;rw[jd x a _ (ag _)]at this;omega
  rw[e i (by omega),h.at_ _ g,<-f i g];exact d i b
def sw(V:Array Value)(base:Int)(r r':ByteArray)(N:Nat)(b:∀k,k<N->Q r.data.toList (ch V k).data.toList=Q r'.data.toList (ch V k).data.toList):∀(f i:Nat)(a:Int×Nat),i+f<=N->xA V base r f i a=xA V base r' f i a
 |0,i,a,_=>rfl
 |f+1,i,a,h=>by rw[xA,xA,b i (by omega),sw V base r r' N b f (i+1) _ (by omega)]
def Ag.sk(h:Ag T p x)(d:a<x.size):pc (T.extract (p+a) T.size)=pc (x.extract a x.size):=by
 have f:=h.le;have e:aq (T.extract (p+a) T.size) 0=aq (x.extract a x.size) 0:=by rw[ga T _ _ 0 (ag _),ga x a _ 0 (ag _) d,fL,fL,h.at_ _ d]
 unfold pc;rw[e,sw jr 40 _ (x.extract a x.size) 11 (λc b=>h.pre d (osz ⟨c,b⟩) (aoI ⟨c,b⟩)) 11 0 _ (by omega),
  sw lH 61 _ (x.extract a x.size) 18 (λc b=>h.pre d (bsz ⟨c,b⟩) (aoJ ⟨c,b⟩)) 18 0 _ (by omega)]
def Ag.rdA(h:Ag T p x)(e:a<x.size)(b:(db x a).ok=M):db T (p+a)=⟨M,p+(db x a).a,(db x a).d,(db x a).k,(db x a).n,(db x a).x⟩:=by
 have l:=h.at_ a e;have o:=h.le;unfold db at b⊢;rw[l];by_cases i:bI (aq x a)=M
 .simp only[ab i];have g:=h.nm (fG e);have m:C0 T (p+a)=C0 x a:=by unfold C0;rw[g,h.ext (xm x _ a (fG e)).2]
  rw[g,m]
 simp only[aa i]at b⊢;by_cases j:cm (aq x a)=M
 .simp only[ab j]at b⊢;by_cases f:(dF x a).2=M
  .rw[h.num e,h.nu e];simp only[ab f]
  .rw[aa f]at b;cases b
 simp only[aa j]at b⊢;by_cases f:aq x a=34
 .simp only[ab f]at b⊢;by_cases c:(gc x (x.size+1) (a+1) []).1=M
  .rw[fi,h.str (x.size+1) (T.size+1) (a+1) [] (by omega) c];simp only[ab c,kF]
  .rw[aa c]at b;cases b
 simp only[aa f,h.sk e]at b⊢;by_cases c:pc (x.extract a x.size)=0
 .rw[ab c]at b;cases b
 .simp only[aa c,fi]
def Ag.rd(h:Ag T p x)(b:0<x.size)(e:(db x 0).ok=M)(c:(db x 0).a=x.size):db T p=⟨M,p+x.size,(db x 0).d,(db x 0).k,(db x 0).n,(db x 0).x⟩:=by
 have:=h.rdA b e
 rwa [c,fL]at this
end
structure Alo (x:ByteArray) (k n:Int) (y:ByteArray):Prop where
 pos:0<x.size
 ok:(db x 0).ok=M
 en:(db x 0).a=x.size
 ki:(db x 0).k=k
 nu:(db x 0).n=n
 tx:(db x 0).x=y
 bl:ja (aq x 0)=U
 da:aq x 0=45->x.size=1
def aoK:∀k:Fin 79,(dK (k.val:Int)).size≠0->(db (dK (k.val:Int)) 0).ok=M/\(db (dK (k.val:Int)) 0).a=(dK (k.val:Int)).size/\(db (dK (k.val:Int)) 0).k=(k.val:Int)/\(db (dK (k.val:Int)) 0).n=0/\(db (dK (k.val:Int)) 0).x.size=0/\ja (aq (dK (k.val:Int)) 0)=U/\(aq (dK (k.val:Int)) 0=45->(dK (k.val:Int)).size=1):=by decide+kernel
def aoL{x:ByteArray}(h:x.size=0):x=⟨#[]⟩:=by
 apply kD;exact Array.eq_empty_of_size_eq_zero h
def adn(h:k<0\/78<k):dK k=aar:=by
 unfold dK;rw[aa (by omega),aa (by omega),aa (by omega),aa (by omega),aa (by omega)]
def ala(h:(dK k).size≠0):Alo (dK k) k 0 ⟨#[]⟩:=by
 have m:0<=k/\k<=78:=by
  rcases Int.lt_or_le k 0 with g|g
  .rw[adn (.inl g)]at h;exact absurd rfl h
  rcases Int.lt_or_le 78 k with g2|g2
  .rw[adn (.inr g2)]at h;exact absurd rfl h
  .exact⟨g,g2⟩
 have b:((k.toNat:Nat):Int)=k:=by omega
 have a:=aoK ⟨k.toNat,by omega⟩;simp only[b]at a;have⟨c,d,e,f,i,j,l⟩:=a h;exact⟨by omega,c,d,e,f,aoL i,j,l⟩
def ah7{x:ByteArray}(h:lr x=M):Alo x 1 0 x:=by
 unfold lr at h;have⟨i,c,d,b⟩:=aB h;have j:=od c;have f:0<x.size:=aH rfl;have e:C0 x 0=(1,x):=by
  unfold C0;rw[d,jJ];unfold sL at b;cases a:vK fD x 22 0 with
  |none=>rfl
  |some k=>rw[a]at b;cases b
 have a:db x 0=⟨M,x.size,0,1,0,x⟩:=by
  unfold db;rw[ab c,d,e]
 exact⟨f,by rw[a],by rw[a],by rw[a],by rw[a],by rw[a],by simp[ja];omega,λg=>by omega⟩
def alb{x:ByteArray}(h:fok x=M):Alo x 3 0 x:=by
 unfold fok qm at h;rw[bB]at h;have⟨b,c,d,j⟩:=aB h.2;have n:=jG b;have i:0<x.size:=aH rfl;have m:bI (aq x 0)=U:=by simp[bI];omega
 have k:oe x (nA1 x (nA0 x 0))=(x.size,M):=by rw[<-c];unfold dF;rw[aa d]
 have l:=(Ie x b k).1 j;have f:ue x 0=(3,0,x):=by
  unfold ue;rw[aa d,c];simp only[vG,jJ];rcases l with g|g
  .rw[ab g]
  .by_cases e:DC x 0=M
   .rw[ab e]
   .rw[aa e,g]
 have a:db x 0=⟨M,x.size,0,3,0,x⟩:=by
  unfold db;rw[aa (by rw[m];simp),ab b,c,ab rfl,f]
 exact⟨i,by rw[a],by rw[a],by rw[a],by rw[a],by rw[a],by simp[ja];omega,λg=>by omega⟩
def alc(a:ByteArray):Alo (fH (ej a)) 4 0 a:=by
 have d:=age a a.size 0 ((fH (ej a)).size+1) (by omega) (by rw[ack];show _<1+_;omega);rw[ack,Cj]at d;have c:=Kj a;have f:0<(fH (ej a)).size:=aH c;have b:db (fH (ej a)) 0=⟨M,(fH (ej a)).size,0,4,0,a⟩:=by
  unfold db;rw[c,aa (by decide),aa (by decide),ab rfl];show(if(gc (fH (ej a)) ((fH (ej a)).size+1) 1 []).1=M then _ else _)=_;have g:gc (fH (ej a)) ((fH (ej a)).size+1) 1 []=(M,(fH (ej a)).size,pi a):=d;rw[g,ab rfl,aaE]
 exact⟨f,by rw[b],by rw[b],by rw[b],by rw[b],by rw[b],by rw[c];decide,λe=>by rw[c]at e;omega⟩
def po(u:Nat):ByteArray:=⟨(W u).toArray⟩
def afh(u:Nat):(po u).size=Lib.nDigits u:=by
 unfold po;show(W u).toArray.size=_;rw[iD,Lib.decDigits_length]
def aby{u:Nat}(h:u<10):po u=⟨#[UInt8.ofNat (48+u)]⟩:=by unfold po;rw[W,ni h]
def ah8{u:Nat}(h:¬u<10):po u=po (u / 10)++⟨#[UInt8.ofNat (48+u%10)]⟩:=by
 unfold po;rw[W,dif_neg h];apply kD;rw[lg];apply Array.toList_inj.1;simp
def ado(u:Nat)(h:u<10):aq ⟨#[UInt8.ofNat (48+u)]⟩ 0=48+(u:Int):=by
 iterate 10 (obtain _|u:=u;· decide)
 omega
def adp{t:ByteArray}{p:Nat}:∀n,(∀i,i<n->aq s (p+i)=aq t (p+i))->qL s p n=qL t p n
 |0,_=>rfl
 |n+1,h=>by rw[qL,qL,adp n (λi a=>h i (by omega)),h n (by omega)]
def EC(u:Nat):0<(po u).size/\(∀i,i<(po u).size->cm (aq (po u) i)=M)/\(u≠0->aq (po u) 0≠48)/\(u<10->(po u).size=1)/\(u<=9223372036854775807->qL (po u) 0 (po u).size=X u):=by
 induction u using Nat.strongRecOn with
 |_ u o=>
  by_cases d:u<10
  .have c:=aby d;have e:(po u).size=1:=by rw[c];rfl
   have b:aq (po u) 0=48+(u:Int):=by rw[c];exact ado u d
   refine⟨by omega,λi f=>?_,λp=>by rw[b];omega,λ_=>e,λ_=>?_⟩
   .obtain rfl:i=0:=by omega
    rw[b];simp[cm];omega
   .rw[e,qL,qL];simp only[dv,b];rw[show(48+(u:Int)-48).toNat=u by omega,ab (by omega)];simp
  .have c:=ah8 d;have⟨k,l,n,_,m⟩:=o (u / 10) (by omega);obtain⟨a,h⟩:∃a,(po (u / 10)).size=a:=⟨_,rfl⟩;have e:(po u).size=a+1:=by rw[c,au,h];rfl
   have b:∀i,aq (po u) i=if i<a then aq (po (u / 10)) i else aq ⟨#[UInt8.ofNat (48+u%10)]⟩ (i-a):=λi=>by rw[c,oB,h]
   have j:aq (po u) a=48+((u%10:Nat):Int):=by rw[b,aa (by omega),fx];exact ado _ (by omega)
   rw[h]at k l m;refine⟨by omega,λi f=>?_,λ_=>?_,λg=>absurd g d,λq=>?_⟩
   .rcases bg i a with g|g
    .rw[b,ab g];exact l i g
    .obtain rfl:i=a:=by omega
     rw[j];simp[cm];omega
   .rw[b,ab k];exact n (by omega)
   .rw[e,qL,adp (t:=po (u / 10)) a (λi f=>by rw[dv,b,ab f]),m (by omega)];simp only[dv,j];rw[show(48+((u%10:Nat):Int)-48).toNat=u%10 by omega,ab (by omega)]
    congr 1
    omega
def ald(u:Nat)(t:u<=9223372036854775807):Alo (po u) 2 (u:Int) ⟨#[]⟩:=by
 have⟨h,e,m,n,f⟩:=EC u;have f:=f t;obtain⟨a,v⟩:∃a,po u=a:=⟨_,rfl⟩;rw[v]at h e m n f⊢;have k:=e 0 h;have z:=jG k;have s:bI (aq a 0)=U:=by simp[bI];omega
 have o:¬(aq a 0=48/\aq a (0+1)=120):=λc=>by
  have:=e 1 (aH c.2);rw[show(1:Nat)=0+1 from rfl,c.2]at this;exact absurd this (by decide)
 have p:∀b,b<=a.size->rL a b=a.size:=λb x=>by
  unfold rL;rw[tD cm a (a.size-b) (a.size+1) b (λA y=>e _ (by omega)) (by rw[show b+(a.size-b)=a.size by omega,dy];decide) (by omega)];omega
 have i:nA0 a 0=a.size:=by
  unfold nA0;by_cases c:aq a 0=48
  .rw[ab c];have:u=0:=by
    rcases oz u with q|q
    .exact q
    .exact absurd c (m (by omega))
   rw[n (by omega)]
  .rw[aa c];exact p _ (by omega)
 have g:aq a a.size= -1:=dy;have j:nA1 a a.size=a.size:=by unfold nA1;rw[g,aa (by simp)]
 have l:dF a 0=(a.size,M):=by
  unfold dF;rw[aa o,i,j];unfold oe;rw[g,aa (by decide)]
 have w:DC a 0=U:=by unfold DC;rw[i,j,g];simp
 have r:ue a 0=(2,(u:Int),⟨#[]⟩):=by
  unfold ue;rw[aa o,l,w];simp only[vG];rw[aa (by simp),f]
 have d:db a 0=⟨M,a.size,0,2,(u:Int),⟨#[]⟩⟩:=by
  unfold db;rw[aa (by rw[s];simp),ab k,l,ab rfl,r]
 exact⟨h,by rw[d],by rw[d],by rw[d],by rw[d],by rw[d],by simp[ja];omega,λc=>by omega⟩
def Da(u:Nat):∀r,aq (hxO u r) 0=48/\aq (hxO u r) 1=120/\∀j,j<r->aq (hxO u r) (2+j)=hxd u (15-j)
 |0=>⟨rfl,rfl,λj f=>by omega⟩
 |r+1=>by
  have⟨c,d,e⟩:=Da u r;have h:=ss u r;have b:∀a,aq (hxO u (r+1)) a=if a<r+2 then aq (hxO u r) a else aq (fH [hxd u (15-r)]) (a-(r+2)):=λa=>by show aq (hxO u r++_) a=_;rw[oB,h]
  refine⟨by rw[b,ab (by omega)];exact c,by rw[b,ab (by omega)];exact d,λj f=>?_⟩;rcases bg j r with g|g
  .rw[b,ab (by omega)];exact e j g
  .obtain rfl:j=r:=by omega
   rw[b,aa (by omega),show 2+j-(j+2)=0 by omega,yE _ (λk i=>by
    rw[List.mem_singleton.1 i];unfold hxd;have:=Hx ((u / 16 ^ (15-j)%16:Nat):Int) (by omega) (by omega);omega)]
   rfl
def amD(u j:Nat):ic (hxd u j)=((u / 16 ^ j%16:Nat):Int):=xq _ (by omega) (by omega)
def amE(u:Nat)(a:u<16 ^ 16):∀m,m<=16->tg (hxO u 16) 2 m=u / 16 ^ (16-m)
 |0,_=>by rw[tg];exact(Nat.div_eq_of_lt (by simpa using a)).symm
 |m+1,h=>by
  rw[tg,amE u a m (by omega),(Da u 16).2.2 m (by omega),amD];have e:16-m=(15-m)+1:=by omega
  rw[e,show 16-(m+1)=15-m by omega,Nat.pow_succ,<-Nat.div_div_eq_div_mul];simp only[iF];omega
def ale(n:Int)(s: -9223372036854775808<=n)(t:n<0):Alo (hxO (n+18446744073709551616).toNat 16) 2 n ⟨#[]⟩:=by
 obtain⟨b,p⟩:∃b,(n+18446744073709551616).toNat=b:=⟨_,rfl⟩;rw[p];have⟨c,g,h⟩:=Da b 16;have e:=ss b 16;have f:=amE b (by show b<18446744073709551616;omega) 16 (by omega);rw[show 16-16=0 from rfl,Nat.pow_zero,Nat.div_one]at f;obtain⟨a,q⟩:∃a,hxO b 16=a:=⟨_,rfl⟩;rw[q]at c g h e f⊢;have m:hxE a 2=18:=by
  unfold hxE;rw[tD nA a 16 (a.size+1) 2 (λr o=>by rw[h r o];unfold nA;rw[amD];exact be (by omega)) (by rw[dy];decide) (by omega)]
 have j:aq a 0=48/\aq a (0+1)=120:=⟨c,g⟩;have i:dF a 0=(a.size,M):=by
  unfold dF;rw[ab j];unfold nB;rw[dv,m,aa (by omega),e];rfl
 have k:ue a 0=(2,n,⟨#[]⟩):=by
  unfold ue;rw[ab j,i];simp only[dv];rw[e,show 16+2-2=16 by rfl,f];have:wrap64 (b:Int)=n:=by unfold wrap64;omega
  rw[this]
 have d:db a 0=⟨M,a.size,0,2,n,⟨#[]⟩⟩:=by
  unfold db;rw[c,aa (by decide),ab (by decide),i,ab rfl,k]
 exact⟨by omega,by rw[d],by rw[d],by rw[d],by rw[d],by rw[d],by rw[c];decide,λl=>by rw[c]at l;omega⟩
def alf(n:Int)(b: -9223372036854775808<=n)(c:n<=9223372036854775807):Alo (ze n) 2 n ⟨#[]⟩:=by
 unfold ze;split
 .rename_i a;exact ale n b a
 .rename_i a;have:=ald n.toNat (by omega);rw[show((n.toNat:Nat):Int)=n by omega]at this;exact this
def Ja(V:Array Value)(base:Int)(r:ByteArray):∀(f i:Nat)(a:Int×Nat),(xA V base r f i a).1=a.1\/(base+i<=(xA V base r f i a).1/\(xA V base r f i a).1<base+i+f)
 |0,i,a=> .inl rfl
 |f+1,i,a=>by
  rw[xA];rcases Ja V base r f (i+1) (if a.2<(ch V i).size/\Q r.data.toList (ch V i).data.toList=M then(base+(i:Int),(ch V i).size) else a) with h|h
  .split at h
   .rename_i g;rw[ab g]at *;right;omega
   .rename_i g;rw[aa g]at *;left;exact h
  .right;omega
def ED(r:ByteArray)(l:0<r.size)(g:pc r≠0):(pc r=5\/pc r=7\/(40<=pc r/\pc r<=78))/\∀i,i<(dK (pc r)).size->aq r i=aq (dK (pc r)) i:=by
 by_cases b:aq r 0=59
 .have a:pc r=5:=by unfold pc;rw[ab b]
  rw[a];exact⟨.inl rfl,λi e=>by
   have:i<1:=e;obtain rfl:i=0:=by omega
   rw[b];decide⟩
 by_cases d:aq r 0=10
 .have a:pc r=7:=by unfold pc;rw[aa b,ab d]
  rw[a];exact⟨.inr (.inl rfl),λi e=>by
   have:i<1:=e;obtain rfl:i=0:=by omega
   rw[d];decide⟩
 have a:pc r=(xA lH 61 r 18 0 (xA jr 40 r 11 0 (0,0))).1:=by unfold pc;rw[aa b,aa d]
 have h:=Ja jr 40 r 11 0 (0,0);have j:=Ja lH 61 r 18 0 (xA jr 40 r 11 0 (0,0));have k:=zg jr 40 r 11 (by omega) acL 11 0 (0,0) (by omega) (.inl ⟨rfl,rfl⟩);have f:=zg lH 61 r 18 (by omega) ac0 18 0 _ (by omega) k;rw[<-a]at j f;refine⟨.inr (.inr ?_),?_⟩
 .simp only at h;omega
 .rcases f with⟨c,_⟩|⟨_,_,c,_⟩
  .exact absurd c g
  .exact(zw r _).1 c
def JE(T:ByteArray)(p:Nat)(x:ByteArray):Prop:=p+x.size<=T.size/\∀i,i<x.size->aq T (p+i)=aq x i
section
variable {T x y w : ByteArray} {p : Nat} {k n : Int}
def JE.app(h:JE T p (x++y)):JE T p x/\JE T (p+x.size) y:=by
 obtain⟨d,b⟩:=h;rw[au]at d b;refine⟨⟨by omega,λa c=>?_⟩,by omega,λa c=>?_⟩
 .rw[b a (by omega),oB,ab c]
 .rw[fi,b (x.size+a) (by omega),oB,aa (by omega),show x.size+a-x.size=a by omega]
def JE.ext(h:JE T p x):T.extract p (p+x.size)=x:=by
 have c:=h.1;apply kD;apply Array.toList_inj.1;apply List.ext_getElem?;intro a;rcases bg a x.size with g|g
 .have b:x.data.toList[a]?=X (x.data.toList[a]'(by rw[fK];exact g)):=aw _;rw[b];refine(iz _ _ _).2 ⟨by rw[qE];omega,?_⟩;rw[ga T p (p+x.size) a (by omega),h.2 a g];exact((iz _ _ _).1 b).2
 .rw[jC (by rw[fK];show(T.extract p (p+x.size)).size<=a;rw[qE];omega),jC (by rw[fK];exact g)]
def nxS(k c:Int):Bool:=if k=40\/k=41\/k=42\/k=43\/k=44\/k=45\/k=46\/k=50 then M else if k=62 then M else if k=69 then decide (c≠61) else if k=48 then decide (c≠46) else decide (c∈vf)
def wD(w:ByteArray)(k c:Int):Bool:=if bI (aq w 0)=M then !(alB c) else if cm (aq w 0)=M\/aq w 0=34 then decide (c∈vf) else nxS k c&&decide (aq w 0≠45\/c≠45)
def ah9(V:Array Value)(N:Nat):Prop:=∀k:Fin 79,∀y:Fin N,40<=k.val->(dK (k.val:Int)).size≠0->(dK (k.val:Int)).size<(ch V y.val).size->(∀i:Fin 3,i.val<(dK (k.val:Int)).size->aq (ch V y.val) i.val=aq (dK (k.val:Int)) i.val)->nxS (k.val:Int) (aq (ch V y.val) (dK (k.val:Int)).size)=U
def ard:ah9 jr 11:=by unfold ah9;decide+kernel
def are:ah9 lH 18:=by unfold ah9;decide+kernel
def aia(g:JE T p x)(u:0<x.size)(n:∀i,i<x.size->aq x i=aq (dK k) i)(t:(dK k).size=x.size)(v:40<=k/\k<=78)(r:nxS k (aq T (p+x.size))=M){V:Array Value}{N j:Nat}(m:ah9 V N)(o:j<N)(s:(ch V j).size<=3):
  Q (T.extract p T.size).data.toList (ch V j).data.toList=Q x.data.toList (ch V j).data.toList:=by
 obtain⟨w,g⟩:=g;obtain⟨h,l⟩:∃h,ch V j=h:=⟨_,rfl⟩;have f:=m ⟨k.toNat,by omega⟩ ⟨j,o⟩;simp only[show((k.toNat:Nat):Int)=k by omega]at f;rw[l]at f s⊢;have z:=jd T p T.size (ag _);rw[vE,zw,zw];have c:∀i,i<x.size->aq (T.extract p T.size) i=aq x i:=λi a=>by rw[ga T p T.size i (ag _),g i a]
 constructor
 .intro b i a;rcases bg x.size h.size with q|q
  .exfalso;have d:=b x.size q;have e:=jF q;have y:x.size<(T.extract p T.size).size:=aH d e.1;rw[ga T p T.size x.size (ag _)]at d;have:=f (by omega) (by omega) (by omega) (λi a=>by rw[<-n i.val (by omega),<-c i.val (by omega)];exact(b i.val (by omega)).symm);rw[t,<-d,r]at this;cases this
  .rw[<-c i (by omega)];exact b i a
 .intro b i a;have e:=jF a;have:=aH (b i a) e.1;rw[c i this];exact b i a
def arf(I:Alo w k n y)(j:JE T p w)(ar:k≠7)(ap:k≠5)(f:wD w k (aq T (p+w.size))=M):
  (db T p).ok=M/\(db T p).a=p+w.size/\(db T p).k=k/\(db T p).n=n/\(db T p).x=y/\blk T (T.size+1) p=p:=by
 have g:aq T p=aq w 0:=by have:=j.2 0 I.pos;rwa [fL]at this
 obtain⟨u,o,b,d,h,i,L,ad⟩:=I;have A:¬(aq T p=45/\aq T (p+1)=45)->blk T (T.size+1) p=p:=Iz T p (by rw[g,L];simp);unfold wD at f;by_cases c:bI (aq w 0)=M
 .have aK:=od c;rw[ab c]at f;have l:qC T (T.size+1) p=p+w.size:=by
   unfold db at b;rw[ab c]at b;simp only at b;rw[zv]at b⊢;have E:=ql (λF=>bI F||cm F) w (w.size+1) 0;rw[b]at E;have av:=j.1;exact tD _ T w.size (T.size+1) p (λm B=>by rw[j.2 m B];exact E m (aD _) B) (by simpa [alB] using f) (by omega)
  have G:C0 T p=C0 w 0:=by
   unfold db at b;rw[ab c]at b;simp only at b;unfold C0;rw[l,j.ext,b,jJ]
  refine⟨?_,?_,?_,?_,?_,A (by omega)⟩;all_goals (unfold db at o b d h i⊢;rw[ab c]at o b d h i;rw[g,ab c])
  .exact l
  .simp only[G];exact d
  .exact h
  .simp only[G];exact i
 rw[aa c]at f;by_cases e:cm (aq w 0)=M\/aq w 0=34
 .rw[ab e]at f;have an:Ag T p w:=⟨j.2,j.1,aB f⟩;have l:=an.rd u o b;refine⟨by rw[l],by rw[l],by rw[l];exact d,by rw[l];exact h,by rw[l];exact i,A ?_⟩;rcases e with q|q
  .have:=jG q;omega
  .omega
 rw[aa e]at f;have⟨e,r⟩:=not_or.1 e;have⟨f,v⟩:=Bool.and_eq_true_iff.1 f;have v:=aB v;have ao:w.extract 0 w.size=w:=jJ w;unfold db at o b d h i;rw[aa c,aa e,aa r,ao]at o b d h i;by_cases z:pc w=0
 .rw[ab z]at o;cases o
 rw[aa z]at b d h i;simp only at b d h i;rw[d]at b;rw[dv]at b;have⟨ak,H⟩:=ED w u z;rw[d]at ak H;have K:40<=k/\k<=78:=by omega
 have J:∀m,m<w.size->aq w m=aq (dK k) m:=λm B=>H m (by omega);have af:aq (T.extract p T.size) 0=aq w 0:=by have:=j.1;rw[ga T p T.size 0 (ag _),fL,g]
 have s:pc (T.extract p T.size)=k:=by
  rw[<-d];unfold pc;rw[af,sw jr 40 (T.extract p T.size) w 11 (λC t=>aia j u J b K f ard t (osz ⟨C,t⟩)) 11 0 _ (by omega),
   sw lH 61 (T.extract p T.size) w 18 (λC t=>aia j u J b K f are t (bsz ⟨C,t⟩)) 18 0 _ (by omega)]
 refine⟨?_,?_,?_,?_,?_,A λq=>?_⟩
 .unfold db;rw[g,aa c,aa e,aa r,s,aa (by omega)]
 .unfold db;rw[g,aa c,aa e,aa r,s,aa (by omega)];simp only;rw[b]
 .unfold db;rw[g,aa c,aa e,aa r,s,aa (by omega)]
 .unfold db;rw[g,aa c,aa e,aa r,s,aa (by omega)];exact h
 .unfold db;rw[g,aa c,aa e,aa r,s,aa (by omega)];exact i
 .have w1:=ad (by rw[<-g];exact q.1);rw[w1]at v;rw[<-g]at v;omega
def amF(h:aq T p=c)(d:c=10\/c=59):(db T p).ok=M/\(db T p).a=p+1/\(db T p).k=(if c=10 then 7 else 5)/\blk T (T.size+1) p=p:=by
 have i:p<T.size:=aH h;have b:bI c=U/\cm c=U/\ja c=U:=by rcases d with rfl|rfl<;>decide
 have f:aq (T.extract p T.size) 0=c:=by rw[ga T p T.size 0 (ag _),fL,h]
 have g:pc (T.extract p T.size)=if c=10 then 7 else 5:=by unfold pc;rw[f];rcases d with rfl|rfl<;>rfl
 have e:blk T (T.size+1) p=p:=Iz T p (by rw[h,b.2.2];simp) (by rw[h];omega);unfold db;rw[h,aa (by rw[b.1];simp),aa (by rw[b.2.1];simp),aa (by omega),g];rcases d with rfl|rfl
 .exact⟨rfl,rfl,rfl,e⟩
 .exact⟨rfl,rfl,rfl,e⟩
end
inductive LA (T:ByteArray) (o:Bool):Nat->Nat->Prop where
 |nil {p:Nat}:LA T o p p
 |bl {p q:Nat}:ja (aq T p)=true->LA T o (p+1) q->LA T o p q
 |rem {p q:Nat}:aq T p=45->aq T (p+1)=45->LA T o (xL T p) q->LA T o p q
 |nl {p q:Nat}:o=true->aq T p=10->LA T o (p+1) q->LA T o p q
inductive Rz (T:ByteArray):Nat->List Wt->Nat->Prop where
 |nil {p:Nat}:Rz T p [] p
 |bl {p q:Nat}{l:List Wt}:ja (aq T p)=true->Rz T (p+1) l q->Rz T p l q
 |rem {p q:Nat}{l:List Wt}:aq T p=45->aq T (p+1)=45->Rz T (xL T p) l q->Rz T p l q
 |tok {p r q:Nat}{t:Wt}{l:List Wt}:t.k≠7->t.k≠5->Alo t.w t.k t.n t.x->JE T p t.w->wD t.w t.k (aq T (p+t.w.size))=true->LA T (opn t.k) (p+t.w.size) r->Rz T r l q->Rz T p (t::l) q
 |sep {p q:Nat}{l:List Wt}{c:Int}:aq T p=c->c=10\/c=59->Rz T (p+1) l q->Rz T p (nlW::l) q
def Rz.app{T:ByteArray}{p q r:Nat}{l m:List Wt}(h:Rz T p l q)(g:Rz T q m r):Rz T p (l++m) r:=by
 induction h with
 |nil=>exact g
 |bl a c b=>exact .bl a (b g)
 |rem a c d b=>exact .rem a c (b g)
 |tok a c d e f i j b=>exact .tok a c d e f i (b g)
 |sep a c d b=>exact .sep a c (b g)
def wt(t:Wt):Nat:=if t.k<5 then t.w.size+5 else 11
def cst:List Wt->Nat
 |[]=>0
 |t::l=>wt t+cst l
def ci:∀(a b:List Wt),cst (a++b)=cst a+cst b
 |[],b=>(dv _).symm
 |t::a,b=>by rw[dJ,cst,cst,ci a b,fi]
def jk(f:Int->Bool)(x:ByteArray)(l:List Wt):Prop:=∀T p,JE T p x->f (aq T (p+x.size))=M->Rz T p l (p+x.size)
def pL(c:Int):Bool:=M
def nD(c:Int):Bool:=decide (c∈vf)
def zy(c:Int):Bool:=!(alB c)
section
variable {f g : Int → Bool} {x y : ByteArray} {l m : List Wt}
def jk.app(h:jk f x l)(e:jk g y m)(k:0<y.size:=by decide)(i:f (aq y 0)=M:=by decide):jk g (x++y) (l++m):=λa n j c=>by
 have⟨d,b⟩:=j.app;rw[au,<-fi]at c⊢;exact(h a n d (by have:=b.2 0 k;rw[fL]at this;rw[this];exact i)).app (e a _ b c)
def jk.mono(h:jk f x l)(d:∀c,g c=M->f c=M):jk g x l:=λa i e b=>h a i e (d _ b)
def jk.tt(h:jk pL x l):jk g x l:=h.mono λ_ _=>rfl
def jk.as{k:List Wt}(h:jk f x l)(e:l=k:=by simp):jk f x k:=e ▸ h
def abz:jk f O []:=λa d c b=> .nil
def zA:jk pL ⟨#[32]⟩ []:=λb d a c=> .bl (by have:=a.2 0 (by decide);rw[fL]at this;rw[this];decide) .nil
def adq:jk pL ⟨#[10]⟩ [nlW]:=λb e a d=> .sep (c:=10) (by have:=a.2 0 (by decide);rw[fL]at this;rw[this];rfl) (.inl rfl) .nil
def aib:∀t,jk pL (FA t) []
 |0=>abz
 |t+1=>by
  have a:jk pL ⟨#[9]⟩ []:=λc e b d=> .bl (by have:=b.2 0 (by decide);rw[fL]at this;rw[this];decide) .nil;exact(aib t).app a
def adr(t:Nat):jk pL (jc t) [nlW]:=by
 cases t with
 |zero=>
  intro c e b a;have d:jc 0=⟨#[10]⟩:=by decide
  rw[d]at b a⊢;exact adq c e b a
 |succ t=>exact adq.app (aib (t+1)) (by rw[wg];omega) rfl
def EE{t:Wt}(b:t.k≠7)(a:t.k≠5)(c:Alo t.w t.k t.n t.x):jk (wD t.w t.k) t.w [t]:=λf g e d=> .tok b a c e d .nil .nil
def oC(h:lr x=M):jk zy x [mi x]:=(EE (t:=mi x) (by simp[mi]) (by simp[mi]) (ah7 h)).mono λa b=>by
 have:bI (aq x 0)=M:=by unfold lr at h;exact(aB h).2.1
 show wD x 1 a=M;unfold wD;rw[ab this];exact b
def aic(c:k≠7)(b:k≠5)(a:(dK k).size≠0):jk (wD (dK k) k) (dK k) [sgF k]:=EE (t:=sgF k) c b (ala a)
def itT:List Int->ByteArray
 |[]=>O
 |k::r=>(if k=0 then⟨#[32]⟩ else dK k)++itT r
def itL:List Int->List Wt
 |[]=>[]
 |k::r=>if k=0 then itL r else sgF k::itL r
def itF:List Int->Int->Bool
 |[]=>pL
 |[k]=>if k=0 then pL else wD (dK k) k
 |_::r=>itF r
def itC:List Int->Bool
 |[]=>M
 |k::r=>(k==0||(k !=7&&k !=5&&(dK k).size !=0&&(r==[]||((itT r).size !=0&&wD (dK k) k (aq (itT r) 0)))))&&itC r
def aid:∀r,itC r=M->jk (itF r) (itT r) (itL r)
 |[],_=>abz
 |[k],h=>by
  simp only[itC,Bool.and_true]at h;unfold itF itT itL itT itL;by_cases e:k=0
  .rw[ab e,ab e,ab e];intro T p d c;have f:(⟨#[32]⟩:ByteArray)++O=⟨#[32]⟩:=by decide
   rw[f]at d c⊢;exact zA T p d c
  .rw[aa e,aa e,aa e];simp[e]at h;have f:dK k++O=dK k:=by apply kD;simp[lg]
   rw[f];exact aic h.1.1 h.1.2 (λg=>h.2 (by simpa using g))
 |k::b::r,h=>by
  have j:=aid (b::r);simp only[itC]at h j;rw[bB]at h;have i:=j h.2;show jk (itF (b::r)) ((if k=0 then⟨#[32]⟩ else dK k)++itT (b::r)) (if k=0 then itL (b::r) else sgF k::itL (b::r));by_cases e:k=0
  .rw[ab e,ab e];intro T p d c;have⟨l,m⟩:=d.app;rw[au,<-fi]at c⊢;exact(zA T p l rfl).app (i T _ m c)
  .rw[aa e,aa e];have a:=h.1;simp[e]at a;exact(aic a.1.1.1 a.1.1.2 (λg=>a.1.2 (by simpa using g))).app i (by have:=a.2.1;rcases oz (itT (b::r)).size with g|g;exact absurd (by simpa using g) this;exact g) a.2.2
def lit(r:List Int)(h:x=itT r:=by decide+kernel)(a:itC r=M:=by decide+kernel):jk (itF r) x (itL r):=by rw[h];exact aid r a
end
def qw(g:Int->Fo):List Int->Fo
 |[]=> .nil
 |k::r=>(g k).app (qw g r)
def shT(ns:List Nd):Nat->Int->Fo
 |0,_=> .nil
 |f+1,i=>one (ae ns i).bare (qw (shT ns f) (ae ns i).ks)
def Sh(ns:List Nd)(i:Int):Fo:=shT ns (i.toNat+1) i
def AK{g h:Int->Fo}:∀(l:List Int),(∀z∈l,g z=h z)->qw g l=qw h l
 |[],_=>rfl
 |k::r,e=>by rw[qw,qw,e k aI,AK r λz a=>e z (cG _ a)]
def Jb(g:Int->Fo):∀(a b:List Int),qw g (a++b)=(qw g a).app (qw g b)
 |[],b=>rfl
 |k::r,b=>by rw[dJ,qw,qw,Jb g r b,Fo.app_app]
def tE(d:Wzd ns)(c:i<ns.length){z:Int}(f:z∈(ae ns i).ks):∃y:Nat,z=(y:Int)/\y<i/\y<ns.length/\∃j,j<(ae ns i).ks.length/\dD (ae ns i) j=z:=by
 have⟨j,e,b⟩:=rq f;have⟨y,a⟩:=jv (d.nb i c) c j e;exact⟨y,by rw[<-b,a.id],a.lt,a.len,j,e,b⟩
def alg(d:Wzd ns):∀(i:Nat),i<ns.length->∀f,i<f->shT ns f i=Sh ns i:=by
 intro i
 induction i using Nat.strongRecOn with
 |_ i c=>
  intro h f k;obtain⟨f,rfl⟩:∃g,f=g+1:=⟨f-1,by omega⟩;unfold Sh;rw[shT,show((i:Int)).toNat+1=i+1 by omega,shT]
  congr 1
  refine AK _ λl j=>?_;obtain⟨e,rfl,a,b,_⟩:=tE d h j;rw[c e a b f (by omega),c e a b i a]
def uf(d:Wzd ns)(c:i<ns.length):Sh ns i=one (ae ns i).bare (qw (Sh ns) (ae ns i).ks):=by
 have:Sh ns i=shT ns (i+1) i:=by unfold Sh;rw[show((i:Int)).toNat=i by omega]
 rw[this,shT]
 congr 1
 refine AK _ λg e=>?_;obtain⟨f,rfl,a,b,_⟩:=tE d c e;exact alg d f b i a
def tF(h:N.ks.length=2):N.ks=[dD N 0,dD N 1]:=by
 unfold dD
 match e:N.ks,h with
 |[a,b],_=>rfl
def mo(h:N.ks.length=1):N.ks=[dD N 0]:=by
 unfold dD
 match e:N.ks,h with
 |[a],_=>rfl
def EF(h:N.ks.length=3):N.ks=[dD N 0,dD N 1,dD N 2]:=by
 unfold dD
 match e:N.ks,h with
 |[a,b,c],_=>rfl
def alh(h:N.ks.length=4):N.ks=[dD N 0,dD N 1,dD N 2,dD N 3]:=by
 unfold dD
 match e:N.ks,h with
 |[a,b,c,d],_=>rfl
def li(g:Int->Fo)(a:Int):qw g [a]=g a:=Fo.app_nil _
def mG(g:Int->Fo)(a b:Int):qw g [a,b]=(g a).app (g b):=by rw[qw,li]
section
variable {ns : List Nd} {N : Nd}
def ali{a b c e:Bool}(h:bu N a b c e=M):N.bare=bN N.k (if a=M then N.op else 0) (if b=M then N.n else 0) (if c=M then N.x else z0) (if e=M then N.nm else []):=by
 unfold bu xr at h;simp only[bB,sI,decide_eq_true_eq,jD]at h;obtain⟨⟨⟨f,i⟩,j⟩,l⟩:=h;unfold Nd.bare
 congr 1
 .rcases f with g|g
  .rw[ab g]
  .rw[g];split<;>rfl
 .rcases i with g|g
  .rw[ab g]
  .rw[g];split<;>rfl
 .rcases j with g|g
  .rw[ab g]
  .have d:N.x=z0:=by
    rw[gH]at g;apply kD;apply Array.toList_inj.1;exact g
   rw[d];split<;>rfl
 .rcases l with g|g
  .rw[ab g]
  .rw[lD g];split<;>rfl
def zB(h:mJ ns N=M):N.bare=bN N.k (if N.k=30\/N.k=31\/N.k=36 then N.op else 0) (if N.k=5\/N.k=23 then N.n else 0) (if N.k=24\/N.k=25\/N.k=26\/N.k=33\/N.k=42 then N.x else z0) (if N.k=2\/N.k=3\/N.k=4\/N.k=9\/N.k=10\/N.k=14\/N.k=36 then N.nm else []):=by
 have:=ali (I5 h);simpa only[decide_eq_true_eq] using this
def EG(h:mJ ns N=M)(i:N.k=2\/N.k=3\/N.k=4\/N.k=9\/N.k=10\/N.k=14):∃x r,N.nm=x::r/\(∀s∈x::r,lr s=M)/\(N.k=3\/N.k=4\/N.k=9->r=[])/\(N.k=14->r.length<=1):=by
 have h:=oI h;unfold stB at h;have a:∀{c b:Int},fy N c b=M->1<=c->(N.k=3\/N.k=4\/N.k=9->b=1)->(N.k=14->b<=2)->∃x r,N.nm=x::r/\(∀s∈x::r,lr s=M)/\(N.k=3\/N.k=4\/N.k=9->r=[])/\(N.k=14->r.length<=1):=λ{c b} j n l m=>by
  have⟨d,f,g⟩:=mL j;cases e:N.nm with
  |nil=>rw[e]at f;simp at f;omega
  |cons x r=>
   rw[e]at d g;simp at g;refine⟨x,r,rfl,d,λk=>lD (by have:=l k;omega),λk=>by have:=m k;omega⟩
 rcases i with e|e|e|e|e|e;all_goals (simp[e]at h)
 .exact a h.1.2 (by decide) (by omega) (by omega)
 .exact a h.1.1.2 (by decide) (by omega) (by omega)
 .exact a h.1.1.2 (by decide) (by omega) (by omega)
 .exact a h.2.1 (by decide) (by omega) (by omega)
 .exact a h.1.1.1.2 (by decide) (by omega) (by omega)
 .exact a h.1.1.1.2 (by decide) (by omega) (by omega)
def Jc(h:mJ ns N=M):(N.k=26\/N.k=33\/N.k=42->lr N.x=M)/\(N.k=24->fok N.x=M):=by
 refine⟨λa=>?_,λa=>?_⟩
 .have h:=rp h;unfold jj at h;rcases a with e|e|e<;>simp[e]at h<;>simp[h]
 .have h:=rp h;unfold jj at h;simp[a]at h;simp[h]
def EH(h:mJ ns N=M)(a:N.k=32\/N.k=33\/N.k=34):(ae ns (dD N 0)).k≠27:=by
 have h:=rp h;unfold jj at h;rcases a with e|e|e<;>simp[e,mF]at h<;>simp[h]
def alj(h:mJ ns N=M)(a:N.k=37):(ae ns (dD N 0)).k=34\/(ae ns (dD N 0)).k=27:=by
 have h:=rp h;unfold jj at h;simp[a,mF]at h;exact h.1.2
def arh:∀(f j:Nat),C8 ns N f j=M->∀q,j<=q->q<j+f->ud (ae ns (dD N q)).k=M
 |0,j,_,q,a,b=>by omega
 |f+1,j,h,q,a,b=>by
  rw[C8,bB]at h;rcases ie a with rfl|h3
  .exact h.1
  .exact arh f (j+1) h.2 q h3 (by omega)
end
def mBs:List ByteArray->ByteArray
 |[]=>O
 |y::r=>iI++(y++mBs r)
def nE(a:ByteArray):a++O=a:=by apply kD;simp[lg]
def EI(a:ByteArray):O++a=a:=by apply kD;simp[lg]
def LB:∀(r:List ByteArray)(a:ByteArray),(r.foldl aaH (M,a)).2=a++mBs r
 |[],a=>(nE a).symm
 |y::r,a=>by
  rw[kG,mBs,<-de,<-de];exact LB r ((a++iI)++y)
def vh(x:ByteArray)(r:List ByteArray):eK (x::r)=x++mBs r:=by
 unfold eK aeo;rw[kG];have:aaH (U,O) x=(M,x):=by unfold aaH;simp[EI]
 rw[this];exact LB r x
def ru(x:ByteArray):eK [x]=x:=by rw[vh,mBs,nE]
def qa(x a:ByteArray)(r:List ByteArray):eK (x::a::r)=x++(iI++eK (a::r)):=by rw[vh,mBs,vh]
def EJ(x:ByteArray)(r:List ByteArray):ju (x::r)=x++ju r:=by
 have d:∀(r:List ByteArray)(a:ByteArray),r.foldl (· ++·) a=a++r.foldl (· ++·) O:=by
  intro r
  induction r with
  |nil=>intro a;exact(nE a).symm
  |cons c r b=>intro a;rw[kG,kG,b (a++c),b (O++c),EI,de]
 unfold ju;rw[kG,d,EI]
def eC{a:ByteArray}(h:0<a.size):aq (a++b) 0=aq a 0:=by rw[oB,ab h]
def ax{a:ByteArray}(h:0<a.size:=by decide):0<(a++b).size:=by rw[au];omega
def B9{f:Int->Bool}{a:ByteArray}(h:0<a.size:=by decide)(c:f (aq a 0)=M:=by decide):f (aq (a++b) 0)=M:=by rw[eC h];exact c
def csE:(cst []=0/\(∀t l,cst (t::l)=wt t+cst l)/\∀a b,cst (a++b)=cst a+cst b)/\(∀k,wt (sgF k)=if k<5 then(dK k).size+5 else 11)/\(∀x,wt (mi x)=x.size+5)/\wt nlW=11:=⟨⟨rfl,λ_ _=>rfl,ci⟩,λ_=>rfl,λ_=>rfl,rfl⟩
def Db(h:nD c=M):zy c=M:=by
 have:∀c∈vf,zy c=M:=by decide
 exact this c (aB h)
def ads(b:k=40\/k=41\/k=42\/k=43\/k=44\/k=45\/k=46\/k=50)(c:Int):wD (dK k) k c=M:=by
 have d:nxS k c=M:=by unfold nxS;rw[ab b]
 have a:bI (aq (dK k) 0)=U/\cm (aq (dK k) 0)=U/\aq (dK k) 0≠34/\aq (dK k) 0≠45:=by rcases b with rfl|rfl|rfl|rfl|rfl|rfl|rfl|rfl<;>decide+kernel
 unfold wD;rw[aa (by rw[a.1];simp),aa (by rw[a.2.1];simp[a.2.2.1]),d];simp[a.2.2.2]
def lit1{x:ByteArray}(a:k=40\/k=41\/k=42\/k=43\/k=44\/k=45\/k=46\/k=50:=by decide)(h:x=dK k:=by decide+kernel):jk pL x [sgF k]:=by
 rw[h];exact(aic (by omega) (by omega) (by rcases a with rfl|rfl|rfl|rfl|rfl|rfl|rfl|rfl<;>decide+kernel)).mono λb _=>ads a b
def Dc:jk pL ⟨#[40]⟩ [sgF 40]:=lit1
def Jd:jk pL ⟨#[41]⟩ [sgF 41]:=lit1
def my:jk pL iI [sgF 46]:=lit [46,0]
def aie{x:ByteArray}{l:List Wt}(h:jk nD x l)(a:0<x.size):jk pL (Az x) (sgF 40::(l++[sgF 41])):=by
 have:=(Dc.app h a rfl).app Jd;simpa only[Az,dJ,dI] using this
def Dd(x:ByteArray):0<(Az x).size/\aq (Az x) 0=40:=by
 unfold Az;have a:0<(⟨#[40]⟩++x:ByteArray).size:=ax;exact⟨ax a,by rw[eC a,eC (by decide)];rfl⟩
def kdK(k:Int):Nat:=if k=26 then 0 else if k=34 then 2 else if k=37 then 3 else 1
structure EL (ns:List Nd) (z:Nat) (x:ByteArray) (l:List Wt):Prop where
 pos:0<x.size
 fb:11<=iA (ae ns z).k (ae ns z).op->aq x 0≠61/\(aq x 0=45->D9 (ae ns z)=M)
 rd:jk nD x l
 ba:qo (ae ns z).k=M->jk zy x l/\xy l (Sh ns z) (kdK (ae ns z).k)
 un:11<=iA (ae ns z).k (ae ns z).op->Ar l (Sh ns z)
 ex:nH l (Sh ns z) (iA (ae ns z).k (ae ns z).op)
 sh:∃K,Sh ns z=one (ae ns z).bare K
 cs:(cst l:Int)+32<=wN ns z
def Fq(ns:List Nd)(z:Nat)(x:ByteArray):Prop:=∃l,EL ns z x l
def aif(op:Int):3<=(Af op).1/\(Af op).1<=(Af op).2/\(Af op).2<=11:=by
 unfold Af
 repeat' split
 all_goals decide
def pq(k op:Int):1<=iA k op/\(iA k op<11->k=28\/k=29\/k=31)/\(iA k op=11->k=30\/k=31):=by
 have:=aif op;unfold iA
 repeat' split
 all_goals omega
def aig{op:Int}(h:qo k=M):iA k op=12:=by
 unfold qo at h;simp at h;unfold iA;rw[aa (by omega),aa (by omega),aa (by omega),aa (by omega)]
def aih(h:qo N.k=M):D9 N=U:=by
 unfold qo at h;simp at h;unfold D9;have:(N.k==30)=U:=by rw[du];omega
 rw[this];rfl
section
variable {ns : List Nd} {E : Int → ByteArray} {S : Int → Nat → ByteArray} {z : Nat} {x : ByteArray} {l : List Wt}
def EL.par(h:EL ns z x l)(a:(ae ns z).k≠34)(b:(ae ns z).k≠27):jk pL (Az x) (sgF 40::(l++[sgF 41]))/\xy (sgF 40::(l++[sgF 41])) (Sh ns z) 3/\(cst (sgF 40::(l++[sgF 41])):Int)+10<=wN ns z:=by
 refine⟨aie h.rd h.pos,?_,by have:=h.cs;simp only[cst,ci,wt,sgF,Int.reduceLT,reduceIte];omega⟩;have⟨d,c⟩:=h.sh;have:=h.ex.le (r:=0) (by have:=pq (ae ns z).k (ae ns z).op;omega);rw[c]at this⊢;exact this.par a b
def adt{least:Int}(h:Fq ns z (E z))(e:least<=11):∃l,0<(kI ns E z least).size/\jk nD (kI ns E z least) l/\nH l (Sh ns z) least/\(cst l:Int)+10<=wN ns z:=by
 obtain⟨l,h⟩:=h;have f:=pq (ae ns z).k (ae ns z).op;unfold kI;split
 .rename_i d;have⟨a,b,c⟩:=h.par (by omega) (by omega);exact⟨_,(Dd _).1,a.tt,b.un.ex _,c⟩
 .rename_i d;exact⟨l,h.pos,h.rd,h.ex.le (by omega),by have:=h.cs;omega⟩
def alk(h:Fq ns z (E z)):∃l,0<(kI ns E z 11).size/\jk nD (kI ns E z 11) l/\Ar l (Sh ns z)/\aq (kI ns E z 11) 0≠61/\(aq (kI ns E z 11) 0=45->D9 (ae ns z)=M)/\(cst l:Int)+10<=wN ns z:=by
 obtain⟨l,h⟩:=h;have e:=pq (ae ns z).k (ae ns z).op;unfold kI;split
 .rename_i a;have⟨b,c,d⟩:=h.par (by omega) (by omega);have:=Dd (E z);exact⟨_,this.1,b.tt,c.un,by rw[this.2];decide,λa=>(by rw[this.2]at a;cases a),d⟩
 .rename_i a;have:=h.fb (by omega);exact⟨l,h.pos,h.rd,h.un (by omega),this.1,this.2,by have:=h.cs;omega⟩
def aii(h:Fq ns z (E z))(i:(ae ns z).k≠27):∃l e,e<4/\(0<(JC ns E z).size/\aq (JC ns E z) 0≠61/\aq (JC ns E z) 0≠45)/\jk zy (JC ns E z) l/\xy l (Sh ns z) e/\(cst l:Int)+10<=wN ns z:=by
 obtain⟨l,h⟩:=h;unfold JC;split
 .rename_i a;have d:=h.fb (by rw[aig a];decide);have⟨b,c⟩:=h.ba a;refine⟨l,_,?_,⟨h.pos,d.1,λm=>?_⟩,b,c,by have:=h.cs;omega⟩
  .unfold kdK;(repeat' split);all_goals omega
  .have:=d.2 m;rw[aih a]at this;cases this
 .rename_i a;have j:(ae ns z).k≠34:=λg=>a (by rw[g];decide);have⟨b,c,f⟩:=h.par j i;have:=Dd (E z);exact⟨_,3,by decide,⟨this.1,by rw[this.2];decide,by rw[this.2];decide⟩,b.tt,c,f⟩
def EL.of_ba(j:qo (ae ns z).k=M)(d:0<x.size)(f:aq x 0≠61)(e:aq x 0≠45)(b:jk zy x l)(a:xy l (Sh ns z) (kdK (ae ns z).k))(h:Sh ns z=one (ae ns z).bare K)(g:(cst l:Int)+32<=wN ns z):Fq ns z x:=
 ⟨l,d,λ_=>⟨f,λc=>absurd c e⟩,b.mono λi=>Db,λ_=>⟨b,a⟩,λ_=>a.un,a.un.ex _,⟨K,h⟩,g⟩
def EL.of_un(g:qo (ae ns z).k=U)(c:0<x.size)(e:aq x 0≠61)(d:aq x 0=45->D9 (ae ns z)=M)(h:jk nD x l)(b:Ar l (Sh ns z))(i:Sh ns z=one (ae ns z).bare K)(f:(cst l:Int)+32<=wN ns z):Fq ns z x:=
 ⟨l,c,λ_=>⟨e,d⟩,h,λa=>(by rw[g]at a;cases a),λ_=>b,b.ex _,⟨K,i⟩,f⟩
def EL.of_ex(e:qo (ae ns z).k=U)(b:0<x.size)(h:iA (ae ns z).k (ae ns z).op<11)(f:jk nD x l)(c:nH l (Sh ns z) (iA (ae ns z).k (ae ns z).op))(g:Sh ns z=one (ae ns z).bare K)(d:(cst l:Int)+32<=wN ns z):Fq ns z x:=
 ⟨l,b,λa=>by omega,f,λa=>(by rw[e]at a;cases a),λa=>by omega,c,⟨K,g⟩,d⟩
def KE(ns:List Nd)(E:Int->ByteArray)(z:Int):Prop:=∃y:Nat,z=(y:Int)/\Fq ns y (E y)
def wo:∀(r:List Int)(z:Int),(∀y∈z::r,KE ns E y)->∃l,0<(eK ((z::r).map E)).size/\jk nD (eK ((z::r).map E)) l/\ESc l (qw (Sh ns) (z::r))/\(cst l:Int)+21<=wK ns (z::r)
 |[],z,h=>by
  obtain⟨y,rfl,l,a⟩:=h z aI;refine⟨l,?_⟩;rw[dw,List.map_nil,ru,li];exact⟨a.pos,a.rd,(a.ex.le (by have:=pq (ae ns y).k (ae ns y).op;omega)).es,by have:=a.cs;simp only[wK];omega⟩
 |z2::r,z,h=>by
  obtain⟨y,rfl,l,a⟩:=h z aI;obtain⟨d,e,f,g,i⟩:=wo r z2 λy c=>h y (cG _ c);refine⟨l++(sgF 46::d),?_⟩;rw[dw,dw,qa,<-dw,qw];have b:0<(iI++eK ((z2::r).map E)).size:=ax;refine⟨ax a.pos,?_,ESc.cons (a.ex.le (by have:=pq (ae ns y).k (ae ns y).op;omega)) g,by have:=a.cs;simp only[ci,cst,wt,sgF,Int.reduceLT,reduceIte];rw[wK];omega⟩;have:=a.rd.app (my.app f e rfl) b B9;exact this
def aij{b:Nat}{t L R:Int}{sign:ByteArray}(f:Fq ns a (E a))(g:Fq ns b (E b))(h:jk pL sign [sgF t])(s0:0<sign.size)(u:aq sign 0=32)(d:L=lkw t)(e:R=Ky t)(ht:gG t=M)(i:t<100)(j:t≠7)(k:yJ t=U):
  ∃l,0<(kI ns E a L++sign++kI ns E b R).size/\jk nD (kI ns E a L++sign++kI ns E b R) l/\nH l (one (aeI t) ((Sh ns a).app (Sh ns b))) (Bj t)/\(cst l:Int)<=wN ns a+wN ns b:=by
 subst d e;obtain⟨l,m,n,o,w⟩:=adt (least:=lkw t) f (by have:=Io t;omega);obtain⟨p,q,r,s,x⟩:=adt (least:=Ky t) g (acD t).2;refine⟨l++(sgF t::p),ax (ax m),?_,nH.bin o s ht i j k,by have c:wt (sgF t)=11:=aa (show ¬t<5 from λv=>by unfold gG at ht;have:=aB ht;omega);simp only[ci,cst,c];omega⟩;have:=(n.app h s0 (by rw[u];decide)).app r q rfl;exact this.as
def alm:∀op:Fin 19,1<=op.val->Bj (60+(op.val:Int))=(Af op.val).1/\Ky (60+(op.val:Int))=(Af op.val).2/\lkw (60+(op.val:Int))=(if(Af op.val).2=(Af op.val).1 then(Af op.val).1+1 else(Af op.val).1)/\gG (60+(op.val:Int))=M/\yJ (60+(op.val:Int))=U/\Dk (60+(op.val:Int))=dK (60+(op.val:Int))/\itC [0,60+(op.val:Int),0]=M:=by decide+kernel
end
