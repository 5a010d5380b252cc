import Derived.Test.YtnoembpaejlaeaaGreatDoorHLk15
import Derived.Test.YtnoembpaejlaeaaGreatDoorHLk14
import Derived.Test.YtnoembpaejlaeaaGreatDoorHLk12
set_option linter.all false
set_option maxRecDepth 100000
set_option maxHeartbeats 12800000
open Bool renaming true->M,false->Ax
open Option renaming some->O,none->Q
open ByteArray renaming empty->U
open Go.Proofs.Tryz renaming prog->X
open Go renaming Value->Y,World->A9,Calls->B6,TypeId->E1
open Go.RowKit renaming Below->Z,Hid->E2
open Go.Lib renaming repeatL->A0,hasPrefix->A3,asciiSpaceTab->A5,decDigits->B5,TabIs->Ck
open Go.Ending renaming returned->A2
open Go.Value renaming slice->Br,ownBlock->B0,int->B1,pointer->B4,bool->B7,slice->Ce,string->C2,tuple->Ex,iface->Fs,nilIface->F0
open Go.IntKind renaming i64->B2
open Go.Obj renaming cells->B3
namespace Go.Proofs.YtnoembpaejlaeaaGreatDoor
open Go.RowKit Go.Maps Go.WideMaps
variable{E:Int->ByteArray}{K:Fo}{N:Nd}{S:Int->Nat->ByteArray}{W W' w0:World}{a b bn i j lb mb p tab:Nat}{c k:Int}{kv vk vn vs:Value}{ns:List Nd}{s:ByteArray}
def agG(h:(dD ns).1=0):∀(i:Nat) N,ns[i]?=O N->jx ns i N=M:=by
 unfold dD at h;by_cases d:iA ns=M
 .rw[ab d]at h;exact absurd h (by decide)
 rw[aa d]at h;obtain⟨e,c⟩:=aF (ic (fl ns) ns.length 0);rw[c]at h;cases e with
 |some i=>rw[tf2]at h;exact absurd h (by simp)
 |none=>
  have f:=oC c;intro i N b;have g:i<ns.length:=(List.getElem?_eq_some_iff.1 b).1;have a:=f i (aI _) (by omega);unfold fl at a;rw[aK,b,iu]at a;simpa using a
def anq{a b d:Bool}(h:bF N a b Ax d=M):N.x.size<=4000:=by
 unfold bF at h;simp only[bI,xH]at h;have:=aE h.1.2;have c:N.x.toList.length=0:=by rw[this];rfl
 rw[gy]at c;have:N.x.size=0:=by simpa using c
 omega
def agH(h:lh s=M):s.size<=4000:=by
 have:=(aE h).1;omega
def apA(h:fok s=M):s.size<=4000:=by
 unfold fok at h;rw[bI]at h;have:=aE h.1;omega
def jJ(h:jx ns i N=M):nC ns N=M/\N.ks.length<=200:=by
 unfold jx at h;rw[bI,bI]at h;exact⟨h.2.2,(aE h.1).2.2.2⟩
def qE(h:nC ns N=M)(a:17<=N.k:=by omega):jg ns N=M:=by
 unfold nC at h
 rwa [aa (by unfold jz;rw[decide_eq_true_eq];omega)]at h
def oD(h:nC ns N=M)(a:1<=N.k/\N.k<=16:=by omega):stB ns N=M:=by
 unfold nC at h
 rwa [ab (by unfold jz;rw[decide_eq_true_eq];omega)]at h
def agI(h:nC ns N=M):(1<=N.k/\N.k<=16)\/(20<=N.k/\N.k<=37)\/(40<=N.k/\N.k<=42):=by
 by_cases a:1<=N.k/\N.k<=16
 .exact .inl a
 .unfold nC at h;rw[aa (by unfold jz;rw[decide_eq_true_eq];exact a)]at h;by_cases b:(20<=N.k/\N.k<=37)\/(40<=N.k/\N.k<=42)
  .exact .inr b
  .unfold jg at h
   repeat rw[aa (by omega)]at h
   cases h
def Ig(h:nC ns N=M):bF N (decide (N.k=30\/N.k=31\/N.k=36)) (decide (N.k=5\/N.k=23)) (decide (N.k=24\/N.k=25\/N.k=26\/N.k=33\/N.k=42)) (decide (N.k=2\/N.k=3\/N.k=4\/N.k=9\/N.k=10\/N.k=14\/N.k=36))=M:=by
 rcases agI h with g|g|g
 .have h:=oD h g;unfold stB at h;rcases(show N.k=1\/N.k=2\/N.k=3\/N.k=4\/N.k=5\/N.k=6\/N.k=7\/N.k=8\/N.k=9\/N.k=10\/N.k=11\/N.k=12\/N.k=13\/N.k=14\/N.k=15\/N.k=16 by omega) with e|e|e|e|e|e|e|e|e|e|e|e|e|e|e|e;all_goals (simp[e]at h;simp[e,h])
 .have h:=qE h;unfold jg at h;rcases(show N.k=20\/N.k=21\/N.k=22\/N.k=23\/N.k=24\/N.k=25\/N.k=26\/N.k=27\/N.k=28\/N.k=29\/N.k=30\/N.k=31\/N.k=32\/N.k=33\/N.k=34\/N.k=35\/N.k=36\/N.k=37 by omega) with e|e|e|e|e|e|e|e|e|e|e|e|e|e|e|e|e|e;all_goals (simp[e]at h;simp[e,h])
 .have h:=qE h;unfold jg at h;rcases(show N.k=40\/N.k=41\/N.k=42 by omega) with e|e|e;all_goals (simp[e]at h;simp[e,h])
def aa0(h:jx ns i N=M):N.x.size<=4000:=by
 have b:=(jJ h).1;have a:=Ig b;by_cases c:N.k=24\/N.k=25\/N.k=26\/N.k=33\/N.k=42
 .have h:=qE b;unfold jg at h;rcases c with e|e|e|e|e<;>simp[e]at h
  .exact apA h.2
  .omega
  all_goals exact agH h.2
 .rw[aD c]at a;exact anq a
def acz(ns:List Nd):∀i,il (ns.take i)=(il ns).take i:=by
 refine yk (p:=λns=>∀i,il (ns.take i)=(il ns).take i) ?_ ?_ ns
 .intro i;simp[il]
 .intro a d c i;rcases bC i (a++[d]).length with h|h
  .have b:i<=a.length:=by rw[aJ]at h;simp at h;omega
   rw[List.take_append_of_le_length b,c,sw,List.take_append_of_le_length (by rw[kG];exact b)]
  .rw[db h,db (by rw[kG];exact h)]
def aa1(h:ns[i]?=O N):(il ns).getD i 0=qa ((il ns).take i) i N.ks:=by
 have e:i<ns.length:=(List.getElem?_eq_some_iff.1 h).1;have b:ns.take (i+1)=ns.take i++[N]:=by rw[ie,h];rfl
 have a:=acz ns (i+1);rw[b,sw,acz,gC,kG,vv (by omega),ie]at a;have c:(il ns)[i]?=O ((il ns).getD i 0):=by
  rw[aK,aA (by rw[kG];exact e)];rfl
 rw[c]at a;have d:=List.append_cancel_left a;simpa using d.symm
def tL(S:List Int):List Int->Int
 |[]=>0
 |k::l=>S.getD k.toNat 0+tL S l
def agJ(S:List Int)(a b:List Int):tL S (a++b)=tL S a+tL S b:=by
 induction a with
 |nil=>simp[tL]
 |cons d e c=>simp only[ez,tL,c];omega
def agK(S:List Int)(l:List Int):tL S l.reverse=tL S l:=by
 induction l with
 |nil=>rfl
 |cons b l a=>rw[List.reverse_cons,agJ,a];simp only[tL];omega
def acA{S:List Int}:∀(l:List Int)(a b:Int),ua S l a=O b->b=a-tL S l
 |[],a,b,h=>by simp[ua]at h;simp[tL];omega
 |k::r,a,b,h=>by
  rw[ua]at h;split at h
  .have:=acA r _ _ h;simp only[tL];omega
  .cases h
def agL(S:List Int)(i:Nat)(l:List Int)(h:∀k∈l,0<=k/\k<(i:Int)):tL (S.take i) l=tL S l:=by
 induction l with
 |nil=>rfl
 |cons k l c=>
  have a:=h k bg;have b:(S.take i).getD k.toNat 0=S.getD k.toNat 0:=by
   rw[aK,aK,List.getElem?_take_of_lt (by omega)]
  simp only[tL,b,c λk a=>h k (dm _ a)]
structure apB (ns:List Nd):Prop where
 at_:∀(i:Nat) N,ns[i]?=O N->(il ns).getD i 0=1+tL (il ns) N.ks
 le:∀i,(il ns).getD i 0<=3000
def ajL(h:(dD ns).1=0):apB ns:=by
 have i:=uw h;unfold dD at h;by_cases k:iA ns=M
 .rw[ab k]at h;exact absurd h (by decide)
 rw[aa k]at h;obtain⟨l,p⟩:=aF (ic (fl ns) ns.length 0);rw[p]at h;cases l with
 |some a=>rw[tf2]at h;exact absurd h (by simp)
 |none=>
  rw[tf2]at h;obtain⟨m,j⟩:=aF (ic (fL (il ns)) ns.length 0);rw[j]at h;cases m with
  |some a=>rw[tf3]at h;exact absurd h (by simp)
  |none=>
   have q:=oC j;have r:A4 (il ns):=xe ns (λd c g f=>by
    obtain⟨a,hi,e⟩:=gG c;exact(i.kid a d (by rw[aA hi,e]) g f).1)
   refine⟨λa d c=>?_,λa=>?_⟩
   .have hi:a<ns.length:=(List.getElem?_eq_some_iff.1 c).1;have b:=q a (aI _) (by omega);unfold fL at b;rw[aa1 c]at b⊢;unfold qa at b⊢;cases hw:ua ((il ns).take a) d.ks.reverse a with
    |none=>rw[hw]at b;simp at b
    |some n=>
     have e:=acA _ _ _ hw;rw[agK,agL _ _ _ (λg f=>i.kid a d c g f)]at e;show(a:Int)-n+1=_;omega
   .rcases bC a ns.length with hi|hi
    .have o:(il ns)[a]?=O ((il ns).getD a 0):=by
      rw[aK,aA (by rw[kG];exact hi)];rfl
     have:=r a _ o;have:=i.len;omega
    .rw[aK,jr (by rw[kG];exact hi)];decide
def my(ns:List Nd)(N:Nd)(j:Nat):fH ns N j=(ae ns (dC N j)).k:=rfl
def jn:∀(f j:Nat),lE ns N f j=M->∀q,j<=q->q<j+f->gw (ae ns (dC N q)).k=M
 |0,j,_,q,a,b=>by omega
 |f+1,j,h,q,a,b=>by
  rw[lE,bI]at h;rcases js a with rfl|h3
  .exact h.1
  .exact jn f (j+1) h.2 q h3 (by omega)
def Kw:∀(f j:Nat),Kk ns N f j=M->∀q,j<=q->q<j+f->jz (ae ns (dC N q)).k=M
 |0,j,_,q,a,b=>by omega
 |f+1,j,h,q,a,b=>by
  rw[Kk,bI]at h;rcases js a with rfl|h3
  .exact h.1
  .exact Kw f (j+1) h.2 q h3 (by omega)
def F4(h:tr k=M):gw k=M:=by
 have:=aE h;exact bp (by omega)
def alj:∀(f j:Nat),F3 ns N f j=M->∀q,j<=q->q<j+f->gw (ae ns (dC N q)).k=M
 |0,j,_,q,a,b=>by omega
 |f+1,j,h,q,a,b=>by
  rw[F3,bI]at h;rcases js a with rfl|h3
  .exact F4 h.1
  .exact alj f (j+1) h.2 q h3 (by omega)
def acB:∀(f j:Nat),Kd ns N f j=M->∀q,j<=q->q<j+f->40<=(ae ns (dC N q)).k/\(ae ns (dC N q)).k<=42
 |0,j,_,q,a,b=>by omega
 |f+1,j,h,q,a,b=>by
  rw[Kd,bI]at h;rcases js a with rfl|h3
  .exact aE h.1
  .exact acB f (j+1) h.2 q h3 (by omega)
structure Kid (ns:List Nd) (i:Nat) (N:Nd) (j q:Nat):Prop where
 at_:N.ks[j]?=O (q:Int)
 lt:q<i
 len:q<ns.length
 id:dC N j=(q:Int)
def jj(h:jx ns i N=M)(d:i<ns.length)(j:Nat)(b:j<N.ks.length):∃q,Kid ns i N j q:=by
 unfold jx at h;rw[bI,bI]at h;have c:=yC N.ks i N.ks.length 0 h.2.1 j (by omega) (by omega);have a:N.ks[j]?=O (N.ks.getD j 0):=by rw[aK,aA b];rfl
 refine⟨(N.ks.getD j 0).toNat,?_,by omega,by omega,?_⟩
 .rw[a];congr 1;omega
 .show N.ks.getD j 0=_;omega
def qF{z:Int}(h:z∈N.ks):∃j,j<N.ks.length/\dC N j=z:=by
 obtain⟨j,a,b⟩:=gG h;exact⟨j,a,by unfold dC;rw[aK,aA a];exact b⟩
def oI(h:nC ns N=M)(a:N.k=28\/N.k=29\/N.k=31\/N.k=32\/N.k=41:=by omega):N.ks.length=2/\lE ns N 2 0=M/\(N.k=31->1<=N.op/\N.op<=18):=by
 have h:=qE h;unfold jg at h;rcases a with e|e|e|e|e<;>simp[e]at h<;>exact⟨by omega,by simp[h],by omega⟩
def qk(h:nC ns N=M)(a:N.k=30\/N.k=33\/N.k=37\/N.k=40\/N.k=42:=by omega):N.ks.length=1/\gw (ae ns (dC N 0)).k=M/\(N.k=30->19<=N.op/\N.op<=22):=by
 have h:=qE h;unfold jg at h;rcases a with e|e|e|e|e<;>simp[e,my]at h
 .exact⟨by omega,jn 1 0 h.1.1.1.2 0 (by omega) (by omega),by omega⟩
 .exact⟨by omega,jn 1 0 h.1.1.1.2 0 (by omega) (by omega),by omega⟩
 .exact⟨by omega,bp (by omega),by omega⟩
 .exact⟨by omega,jn 1 0 h.1.2 0 (by omega) (by omega),by omega⟩
 .exact⟨by omega,jn 1 0 h.1.1.2 0 (by omega) (by omega),by omega⟩
def Ih(h:nC ns N=M)(a:N.k=34):1<=N.ks.length/\lE ns N N.ks.length 0=M:=by
 have h:=qE h;unfold jg at h;simp[a,my]at h;exact⟨by omega,h.1.1.2⟩
def DL(h:nC ns N=M)(a:N.k=35):Kd ns N N.ks.length 0=M:=by
 have h:=qE h;unfold jg at h;simp[a]at h;exact h.1
def uz{a b:Int}(h:fE N a b=M)(c:b<=200):a<=(N.nm.length:Int)/\N.nm.length<=200:=by
 unfold fE at h;rw[bI]at h;have:=aE h.1;omega
def ag0(h:nC ns N=M)(a:N.k=36):N.ks.length=1/\(ae ns (dC N 0)).k=1/\N.nm.length<=200/\(N.op=0\/N.op=1):=by
 have h:=qE h;unfold jg at h;simp[a,my]at h;exact⟨by omega,h.1.1.1.2,(uz h.1.2 (by omega)).2,h.2⟩
def yF(h:nC ns N=M)(a:N.k=1):Kk ns N N.ks.length 0=M:=by
 have h:=oD h;unfold stB at h;simp[a]at h;exact h.1
def ag1(h:nC ns N=M)(a:20<=N.k/\N.k<=27):N.ks.length=0:=by
 have h:=qE h;unfold jg at h;rcases(show N.k=20\/N.k=21\/N.k=22\/N.k=23\/N.k=24\/N.k=25\/N.k=26\/N.k=27 by omega) with e|e|e|e|e|e|e|e<;>simp[e]at h<;>simp[h]
def sN(ns:List Nd)(i:Int):Nat:=((il ns).getD i.toNat 0).toNat
def sK(ns:List Nd):List Int->Nat
 |[]=>0
 |k::l=>sN ns k+sK ns l
def anr(ns:List Nd)(a b:List Int):sK ns (a++b)=sK ns a+sK ns b:=by
 induction a with
 |nil=>simp[sK]
 |cons d e c=>simp only[ez,sK,c];omega
def D0(ns:List Nd)(l:List Int)(n:Nat):sK ns l=sK ns (l.take n)+sK ns (l.drop n):=by rw[<-anr,uH]
structure Szd (ns:List Nd):Prop where
 nb:∀i:Nat,i<ns.length->jx ns i (ae ns i)=M
 at_:∀i:Nat,i<ns.length->sN ns i=1+sK ns (ae ns i).ks
 le:∀i:Int,sN ns i<=3000
def ag2(h:(dD ns).1=0):Szd ns:=by
 have g:=ajL h;have p:=uw h;have n:=agG h;have l:A4 (il ns):=xe ns (λi j e k=>by
  obtain⟨a,b,c⟩:=gG j;exact(p.kid a i (by rw[aA b,c]) e k).1)
 have o:∀a:Nat,0<=(il ns).getD a 0:=by
  intro a;rw[aK];cases c:(il ns)[a]? with
  |none=>decide
  |some r=>exact(l a r c).1
 have q:∀d:List Int,tL (il ns) d=(sK ns d:Int):=by
  intro d
  induction d with
  |nil=>rfl
  |cons e s m=>
   have:=o e.toNat;simp only[tL,sK,m,sN];omega
 have f:∀a:Nat,a<ns.length->ns[a]?=O (ae ns a):=λa b=>by
  unfold ae;rw[lA,List.getD,aA b];rfl
 refine⟨λa b=>n a _ (f a b),λa b=>?_,λa=>?_⟩
 .have c:=g.at_ a _ (f a b);rw[q]at c;show((il ns).getD (a:Int).toNat 0).toNat=_;rw[lA,c];omega
 .have:=g.le a.toNat;unfold sN;omega
def F5(l:List ByteArray):(fc l).size<=(l.map λx=>x.size+2).sum:=by
 have d:∀a,(fc (l.take a)).size<=((l.take a).map λx=>x.size+2).sum:=by
  intro a
  induction a with
  |zero=>show(U).size<=_;exact aI _
  |succ a b=>
   rcases bC a l.length with h|h
   .rw[rC l a _ (aA h),ay,List.take_succ_eq_append_getElem h,dK,List.sum_append];have c:iz.size=2:=rfl;have:(if a=0 then fc (l.take a) else fc (l.take a)++iz).size<=(fc (l.take a)).size+2:=by
     split
     .omega
     .rw[ay,c];exact ag _
    simp only[dw,List.map_nil,List.sum_cons,List.sum_nil];omega
   .rw[db (by omega)];rw[db (by omega)]at b;exact b
 have:=d l.length
 rwa [db (ag _)]at this
def aa2(ns:List Nd)(b:Int->Nat)(d:Nat)(a:List Int)(h:∀z∈a,b z+10000<=2000000*sN ns z)(j:d<=10000):(a.map λz=>b z+d).sum<=2000000*sK ns a:=by
 induction a with
 |nil=>exact aI _
 |cons z k e=>
  have g:=h z bg;have i:=e λf c=>h f (dm _ c);simp only[dw,List.sum_cons,sK,Nat.mul_add];omega
def sL(ns:List Nd)(E:Int->ByteArray)(a:List Int)(h:∀z∈a,(E z).size+10000<=2000000*sN ns z):(fc (a.map E)).size<=2000000*sK ns a:=by
 refine bG (F5 _) ?_;rw[List.map_map];exact aa2 ns (λz=>(E z).size) 2 a h (by omega)
def Kx(l:List ByteArray)(h:∀s∈l,s.size<=4000):(fc l).size<=4002*l.length:=by
 refine bG (F5 _) ?_
 induction l with
 |nil=>exact aI _
 |cons c g b=>
  have e:=h c bg;have f:=b λd a=>h d (dm _ a);simp only[dw,List.sum_cons,bm];omega
def F6(l:List ByteArray):(jh l).size=(l.map ByteArray.size).sum:=by
 have c:∀(a:ByteArray),(l.foldl (· ++·) a).size=a.size+(l.map ByteArray.size).sum:=by
  induction l with
  |nil=>intro a;simp
  |cons e d b=>intro a;rw[kF,b,ay,dw,List.sum_cons];omega
 have:=c U;rw[show ByteArray.empty.size=0 from rfl]at this;unfold jh;omega
def ant(ns:List Nd)(S:Int->Nat->ByteArray)(a:List Int)(tab:Nat)(ht:tab<=9000)(h:∀z∈a,(S z (tab+1)).size+10000<=2000000*sN ns z):(Az S a tab).size+10000<=2000000*(1+sK ns a)-900000:=by
 unfold Az;by_cases b:a=[]
 .rw[ab b];show 2+10000<=_;omega
 .rw[aa b,ay,ay,ay,F6,nG,List.map_map];have c:(a.map (ByteArray.size ∘ λd=>iB (tab+1)++S d (tab+1)))=a.map λz=>(S z (tab+1)).size+(tab+2):=by
   apply List.map_congr_left;intro z e;simp only[Function.comp];rw[ay,nG];omega
  rw[c];have:=aa2 ns (λz=>(S z (tab+1)).size) (tab+2) a h (by omega);show 1+_+(tab+1)+1+10000<=_;omega
def yG(h:lE ns N 1 0=M):gw (ae ns (dC N 0)).k=M:=jn 1 0 h 0 (by omega) (by omega)
def aa3(h:nC ns N=M)(a:N.k=2):lE ns N N.ks.length 0=M/\N.nm.length<=200:=by
 have h:=oD h;unfold stB at h;simp only[a]at h;simp at h;exact⟨h.2,(uz h.1.2 (by omega)).2⟩
def D1(h:nC ns N=M)(b:N.k=3):N.ks.length=1/\gw (ae ns (dC N 0)).k=M/\N.nm.length=1:=by
 have h:=oD h;unfold stB at h;simp[b]at h;have:=uz h.1.1.2 (by omega);have a:=h.1.1.2;unfold fE at a;rw[bI]at a;have:=aE a.1;exact⟨by omega,yG h.2,by omega⟩
def aa4(h:nC ns N=M)(b:N.k=4):N.ks.length=1/\(ae ns (dC N 0)).k=36/\N.nm.length=1:=by
 have h:=oD h;unfold stB at h;simp[b,my]at h;have a:=h.1.1.2;unfold fE at a;rw[bI]at a;have:=aE a.1;exact⟨by omega,h.2,by omega⟩
def ag3(h:nC ns N=M)(a:N.k=5):1<=N.n/\N.n<(N.ks.length:Int)/\F3 ns N N.n.toNat 0=M/\lE ns N (N.ks.length-N.n.toNat) N.n.toNat=M:=by
 have h:=oD h;unfold stB at h;simp[a]at h;exact⟨h.2.1.1,h.2.1.2,h.2.2.1,h.2.2.2⟩
def F7(h:nC ns N=M)(a:N.k=6\/N.k=16):N.ks.length=1/\(ae ns (dC N 0)).k=34:=by
 have h:=oD h;unfold stB at h;rcases a with e|e<;>simp[e,my]at h<;>exact⟨by omega,h.2⟩
def ag4(h:nC ns N=M)(a:N.k=7):2<=N.ks.length/\N.ks.length<=3/\gw (ae ns (dC N 0)).k=M/\(ae ns (dC N 1)).k=1/\(N.ks.length=2\/(ae ns (dC N 2)).k=1\/(ae ns (dC N 2)).k=7):=by
 have h:=oD h;unfold stB at h;simp[a,my]at h;exact⟨h.2.1.1,h.2.1.2,yG h.2.2.1,h.2.2.2.1,by omega⟩
def D2(h:nC ns N=M)(a:N.k=8):N.ks.length=2/\gw (ae ns (dC N 0)).k=M/\(ae ns (dC N 1)).k=1:=by
 have h:=oD h;unfold stB at h;simp[a,my]at h;exact⟨by omega,yG h.1.2,h.2⟩
def aa5(h:nC ns N=M)(b:N.k=9):(N.ks.length=3\/N.ks.length=4)/\lE ns N (N.ks.length-1) 0=M/\(ae ns (dC N (N.ks.length-1))).k=1/\N.nm.length=1:=by
 have h:=oD h;unfold stB at h;simp[b,my]at h;have a:=h.2.1;unfold fE at a;rw[bI]at a;have:=aE a.1;exact⟨by omega,h.2.2.2.1,h.2.2.2.2,by omega⟩
def Ii(h:nC ns N=M)(a:N.k=10):N.ks.length=2/\gw (ae ns (dC N 0)).k=M/\(ae ns (dC N 1)).k=1/\N.nm.length<=200:=by
 have h:=oD h;unfold stB at h;simp[a,my]at h;exact⟨by omega,yG h.1.2,h.2,(uz h.1.1.1.2 (by omega)).2⟩
def ag5(h:nC ns N=M)(a:N.k=13):lE ns N N.ks.length 0=M:=by
 have h:=oD h;unfold stB at h;simp[a]at h;exact h.2
def aa6(h:nC ns N=M)(a:N.k=14):N.ks.length=2/\(ae ns (dC N 0)).k=1/\(ae ns (dC N 1)).k=1/\N.nm.length<=200:=by
 have h:=oD h;unfold stB at h;simp[a,my]at h;exact⟨by omega,h.1.2,h.2,(uz h.1.1.1.2 (by omega)).2⟩
def D3(h:nC ns N=M)(a:N.k=15):N.ks.length=1/\gw (ae ns (dC N 0)).k=M:=by
 have h:=oD h;unfold stB at h;simp[a]at h;exact⟨by omega,yG h.2⟩
def acC{l:List ByteArray}:∀(f j:Nat),ug l f j=M->∀q,j<=q->q<j+f->lh (l.getD q U)=M
 |0,j,_,q,a,b=>by omega
 |f+1,j,h,q,a,b=>by
  rw[ug,bI]at h;rcases js a with rfl|h3
  .exact h.1
  .exact acC f (j+1) h.2 q h3 (by omega)
def mF{a b:Int}(h:fE N a b=M):(∀s∈N.nm,lh s=M)/\a<=(N.nm.length:Int)/\(N.nm.length:Int)<=b:=by
 unfold fE at h;rw[bI]at h;refine⟨λs e=>?_,aE h.1⟩;obtain⟨f,d,c⟩:=gG e;have:=acC _ 0 h.2 f (by omega) (by omega);rw[aK,aA d]at this;rw[<-c];exact this
def alk(h:nC ns N=M):∀s∈N.nm,lh s=M:=by
 have a:=Ig h;by_cases c:N.k=2\/N.k=3\/N.k=4\/N.k=9\/N.k=10\/N.k=14\/N.k=36
 .by_cases d:N.k=36
  .have h:=qE h;unfold jg at h;simp[d]at h;exact(mF h.1.2).1
  .have h:=oD h;unfold stB at h;rcases c with e|e|e|e|e|e|e<;>simp[e]at h
   .exact(mF h.1.2).1
   .exact(mF h.1.1.2).1
   .exact(mF h.1.1.2).1
   .exact(mF h.2.1).1
   .exact(mF h.1.1.1.2).1
   .exact(mF h.1.1.1.2).1
 .rw[aD c]at a;unfold bF at a;simp at a;intro s b;rw[a.2]at b;cases b
def D4(h:nC ns N=M):∀s∈N.nm,s.size<=4000:=λs a=>agH (alk h s a)
def yH(h:j<N.ks.length):N.ks[j]=dC N j:=by unfold dC;rw[aK,aA h];rfl
def rh(ns:List Nd)(h:N.ks.length=1):sK ns N.ks=sN ns (dC N 0):=by
 unfold dC
 match e:N.ks,h with
 |[a],_=>simp[sK]
def Ad(ns:List Nd)(h:N.ks.length=2):sK ns N.ks=sN ns (dC N 0)+sN ns (dC N 1):=by
 unfold dC
 match e:N.ks,h with
 |[a,b],_=>simp[sK]
def ag6(ns:List Nd)(h:N.ks.length=3):sK ns N.ks=sN ns (dC N 0)+sN ns (dC N 1)+sN ns (dC N 2):=by
 unfold dC
 match e:N.ks,h with
 |[a,b,c],_=>simp[sK];omega
def aj0(ns:List Nd)(h:0<N.ks.length):sK ns N.ks=sK ns (N.ks.take (N.ks.length-1))+sN ns (dC N (N.ks.length-1)):=by
 rw[D0 ns N.ks (N.ks.length-1)]
 congr 1
 rw[lp (by omega),yH,lr (by omega)];simp[sK]
def aj1(ns:List Nd)(h:0<N.ks.length):sK ns N.ks=sN ns (dC N 0)+sK ns (N.ks.drop 1):=by
 rw[D0 ns N.ks 1]
 congr 1
 unfold dC
 match e:N.ks,h with
 |a::b,_=>simp[sK]
def aeo(n:Int)(b:n<=9223372036854775807):(yr n).size<=30:=by
 unfold yr;split
 .rw[rG];omega
 .rename_i a;have:=Lib.itoa_length_le n (by omega) b;show(B5 n.toNat).toArray.size<=30;rw[ir];unfold Lib.itoa at this;simp only[a,if_false]at this;omega
def ag7(N:Nd)(b:N.x.size<=4000)(a:N.n<=9223372036854775807):(BJ N).size<=20000:=by
 unfold BJ
 repeat' split
 .show 3<=_;omega
 .show 4<=_;omega
 .show 5<=_;omega
 .have:=aeo N.n a;omega
 .omega
 .have:=aek N.x;unfold anf at this;omega
 .show 3<=_;omega
 .show 0<=_;omega
def Ae(ns:List Nd)(E:Int->ByteArray)(k least:Int):(jH ns E k least).size<=(E k).size+2:=by
 unfold jH;split
 .rw[vG];omega
 .omega
def Ij(ns:List Nd)(E:Int->ByteArray)(k:Int):(IL ns E k).size<=(E k).size+2:=by
 unfold IL;split
 .omega
 .rw[vG];omega
def aj2(ns:List Nd)(N:Nd):(unS ns N).size<=4:=by
 unfold unS
 repeat' split
 .show 4<=4;omega
 .show 1<=4;omega
 .show 1<=4;omega
 .show 2<=4;omega
 .show 1<=4;omega
def Ky{op:Int}(h:1<=op/\op<=18):(Cx (60+op)).size<=4:=by
 obtain⟨a,b⟩:=h;rcases(show op=1\/op=2\/op=3\/op=4\/op=5\/op=6\/op=7\/op=8\/op=9\/op=10\/op=11\/op=12\/op=13\/op=14\/op=15\/op=16\/op=17\/op=18 by omega) with rfl|rfl|rfl|rfl|rfl|rfl|rfl|rfl|rfl|rfl|rfl|rfl|rfl|rfl|rfl|rfl|rfl|rfl;all_goals decide+kernel
structure SzE (ns:List Nd) (E:Int->ByteArray) (S:Int->Nat->ByteArray) (i:Nat) (tab:Nat):Prop where
 e:∀z:Nat,z<i->(E z).size+10000<=2000000*sN ns z
 s:∀z:Nat,z<i->(S z (tab+1)).size+10000<=2000000*sN ns z
def SzE.kid(h:SzE ns E S i tab)(d:Szd ns){q:Nat}(k:q<=i)(a:q<ns.length):∀z∈(ae ns q).ks,(E z).size+10000<=2000000*sN ns z/\(S z (tab+1)).size+10000<=2000000*sN ns z:=by
 intro z g;obtain⟨j,f,rfl⟩:=qF g;obtain⟨c,b⟩:=jj (d.nb q a) a j f;rw[b.id];have:=b.lt;exact⟨h.e c (by omega),h.s c (by omega)⟩
def SzE.blk(h:SzE ns E S i tab)(d:Szd ns)(ht:tab<=9000){q:Nat}(b:q<=i)(a:q<ns.length):(Az S (ae ns q).ks tab).size+910000<=2000000*sN ns q:=by
 have:=ant ns S (ae ns q).ks tab ht (λe c=>(h.kid d b a e c).2);rw[d.at_ q a];omega
def ag8(h:nC ns N=M)(b:N.nm.length<=200):(EK N).size<=810000:=by
 unfold EK;have:=Kx N.nm (D4 h);simp only[ay];have a:(if N.op=1 then(if N.nm=[] then(⟨#[46,46,46]⟩:ByteArray) else iz++⟨#[46,46,46]⟩) else U).size<=5:=by
  repeat' split
  .show 3<=5;omega
  .show 5<=5;omega
  .show 0<=5;omega
 show 1+_+_+2<=_;omega
def SzE.bod(h:SzE ns E S i tab)(d:Szd ns)(ht:tab<=9000){q:Nat}(g:q<=i)(a:q<ns.length)(f:(ae ns q).k=36):(E0 ns S (ae ns q) tab).size+20000<=2000000*sN ns q:=by
 obtain⟨c,l,e,m⟩:=ag0 (jJ (d.nb q a)).1 f;obtain⟨n,b⟩:=jj (d.nb q a) a 0 (by omega);have j:=h.blk d ht (bG (fx b.lt) g) b.len;unfold E0;rw[ay,b.id,d.at_ q a,rh ns c,b.id];have:=ag8 (jJ (d.nb q a)).1 e;omega
def ag9(h:SzE ns E S i tab)(d:Szd ns){q:Nat}(s:q<=i)(b:q<ns.length)(r:40<=(ae ns q).k/\(ae ns q).k<=42):(we ns E (ae ns q)).size+10000<=2000000*sN ns q:=by
 have m:=(jJ (d.nb q b)).1;have t:=aa0 (d.nb q b);have g:=λp o=>jj (d.nb q b) b p o;rw[d.at_ q b];unfold we;by_cases j:(ae ns q).k=41
 .rw[ab j];obtain⟨f,_,_⟩:=oI m;obtain⟨c,a⟩:=g 0 (by omega);obtain⟨n,l⟩:=g 1 (by omega);rw[Ad ns f,a.id,l.id];have:=h.e c (by have:=a.lt;omega);have:=h.e n (by have:=l.lt;omega);simp only[ay];show 1+_+4+_+_<=_;omega
 .rw[aa j];obtain⟨f,_,_⟩:=qk m (show _ by omega);obtain⟨c,a⟩:=g 0 (by omega);rw[rh ns f,a.id];have:=h.e c (by have:=a.lt;omega);split
  .simp only[ay];show 1+_+3+_+_<=_;omega
  .omega
def aha(h:SzE ns E S i tab)(d:Szd ns)(ht:tab<=9000)(c:i<ns.length)(J:(ae ns i).n<=9223372036854775807):(prE ns E S (ae ns i) tab).size+10000<=2000000*sN ns i:=by
 have j:=(jJ (d.nb i c)).1;have K:=aa0 (d.nb i c);have g:=λm s=>jj (d.nb i c) c m s;have v:∀(x:ByteArray)(w:Int),x.size<=100->((ae ns i).k=28\/(ae ns i).k=29\/(ae ns i).k=31\/(ae ns i).k=32\/(ae ns i).k=41)->(EJ ns E (ae ns i) x w).size+10000<=2000000*sN ns i:=by
  intro x w ad I;obtain⟨f,_,_⟩:=oI j I;obtain⟨b,a⟩:=g 0 (by omega);obtain⟨l,k⟩:=g 1 (by omega);rw[d.at_ i c,Ad ns f,a.id,k.id];unfold EJ;rw[a.id,k.id];have:=h.e b a.lt;have:=h.e l k.lt;have:=Ae ns E b (yw (ae ns i) w);have:=Ae ns E l (tF (ae ns i).k (ae ns i).op);simp only[ay];omega
 unfold prE;by_cases y:(ae ns i).k=28
 .rw[ab y];exact v _ _ (by show 5<=100;omega) (by omega)
 rw[aa y];by_cases A:(ae ns i).k=29
 .rw[ab A];exact v _ _ (by show 4<=100;omega) (by omega)
 rw[aa A];by_cases o:(ae ns i).k=31
 .rw[ab o];have:=Ky ((oI j).2.2 o);exact v _ _ (by simp only[ay];show 1+_+1<=_;omega) (by omega)
 rw[aa o];by_cases B:(ae ns i).k=30
 .rw[ab B];obtain⟨f,_,_⟩:=qk j;obtain⟨b,a⟩:=g 0 (by omega);rw[d.at_ i c,rh ns f,a.id];unfold unB;rw[a.id];have:=h.e b a.lt;have:=Ae ns E b 11;have:=aj2 ns (ae ns i);simp only[ay];omega
 rw[aa B];by_cases C:(ae ns i).k=32
 .rw[ab C];obtain⟨f,_,_⟩:=oI j;obtain⟨b,a⟩:=g 0 (by omega);obtain⟨l,k⟩:=g 1 (by omega);rw[d.at_ i c,Ad ns f,a.id,k.id];have:=h.e b a.lt;have:=h.e l k.lt;have:=Ij ns E b;simp only[ay];show _+1+_+1+_<=_;omega
 rw[aa C];by_cases F:(ae ns i).k=33
 .rw[ab F];obtain⟨f,_,_⟩:=qk j;obtain⟨b,a⟩:=g 0 (by omega);rw[d.at_ i c,rh ns f,a.id];have:=h.e b a.lt;have:=Ij ns E b;simp only[ay];show _+(1+_)+_<=_;omega
 rw[aa F];by_cases p:(ae ns i).k=34
 .rw[ab p];obtain⟨f,_⟩:=Ih j p;obtain⟨b,a⟩:=g 0 (by omega);rw[d.at_ i c,aj1 ns (by omega),a.id];have:=h.e b a.lt;have:=Ij ns E b;have:=sL ns E ((ae ns i).ks.drop 1) (λH u=>(h.kid d (ag _) c H (List.mem_of_mem_drop u)).1);simp only[ay];show _+1+_+1+_<=_;omega
 rw[aa p];by_cases q:(ae ns i).k=35
 .rw[ab q];unfold af6;have f:=DL j q;have:=sL ns (λL=>we ns E (ae ns L)) (ae ns i).ks (λH u=>by
   obtain⟨m,s,rfl⟩:=qF u;obtain⟨af,t⟩:=g m s;have G:=acB _ 0 f m (by omega) (by omega);rw[t.id]at G⊢;exact ag9 h d (fx t.lt) t.len G)
  rw[d.at_ i c];simp only[ay];show 1+_+1+_<=_;omega
 rw[aa q];by_cases r:(ae ns i).k=36
 .rw[ab r];have:=h.bod d ht (ag _) c r;simp only[ay];show 2+_+_<=_;omega
 rw[aa r];by_cases z:(ae ns i).k=37
 .rw[ab z];obtain⟨f,_,_⟩:=qk j;obtain⟨b,a⟩:=g 0 (by omega);rw[d.at_ i c,rh ns f,a.id,vG];have:=h.e b a.lt;omega
 rw[aa z];have:=ag7 (ae ns i) K J;rw[d.at_ i c];omega
def fW(N:Nd):Int:=150+8000*(bgN N:Int)
def Wp(ns:List Nd)(j:Int):Int:=((ns.take j.toNat).map fW).sum
def wN(ns:List Nd)(i:Int):Int:=Wp ns (i+1)-Wp ns (i+1-(il ns).getD i.toNat 0)
def wK(ns:List Nd):List Int->Int
 |[]=>0
 |k::l=>wN ns k+wK ns l
def ahb(ns:List Nd)(a b:List Int):wK ns (a++b)=wK ns a+wK ns b:=by
 induction a with
 |nil=>simp[wK]
 |cons d e c=>simp only[ez,wK,c];omega
def anu(ns:List Nd)(l:List Int):wK ns l.reverse=wK ns l:=by
 induction l with
 |nil=>rfl
 |cons b l a=>rw[List.reverse_cons,ahb,a];simp only[wK];omega
def alm(ns:List Nd):∀(l:List Int)(a b:Int),ua (il ns) l a=O b->wK ns l=Wp ns a-Wp ns b
 |[],a,b,h=>by simp[ua]at h;subst h;simp[wK]
 |k::r,a,b,h=>by
  rw[ua]at h;split at h
  .rename_i c;have:=alm ns r _ _ h;simp only[wK,wN];rw[this,show k+1=a by omega];omega
  .cases h
def D5(S:List Int)(i:Nat):∀(l:List Int)(a:Int),(∀k∈l,0<=k/\k<(i:Int))->ua (S.take i) l a=ua S l a
 |[],a,_=>rfl
 |k::r,a,h=>by
  have e:=h k bg;have b:(S.take i).getD k.toNat 0=S.getD k.toNat 0:=by
   rw[aK,aK,List.getElem?_take_of_lt (by omega)]
  rw[ua,ua,b,D5 S i r _ λd c=>h d (dm _ c)]
def aj3(h:ns[i]?=O N):Wp ns ((i:Int)+1)=Wp ns i+fW N:=by
 unfold Wp;rw[show((i:Int)+1).toNat=i+1 by omega,show((i:Int)).toNat=i by omega,ie,h];simp
structure Wzd (ns:List Nd):Prop where
 nb:∀i:Nat,i<ns.length->jx ns i (ae ns i)=M
 at_:∀i:Nat,i<ns.length->wN ns i=fW (ae ns i)+wK ns (ae ns i).ks
 root:wN ns ((ns.length:Int)-1)=Wp ns ns.length
 len:1<=ns.length
def Ik(h:(dD ns).1=0):Wzd ns:=by
 have o:=ag2 h;have l:=uw h;have v:=h;unfold dD at h;by_cases k:iA ns=M
 .rw[ab k]at h;exact absurd h (by decide)
 rw[aa k]at h;obtain⟨m,p⟩:=aF (ic (fl ns) ns.length 0);rw[p]at h;cases m with
 |some a=>rw[tf2]at h;exact absurd h (by simp)
 |none=>
  rw[tf2]at h;obtain⟨n,j⟩:=aF (ic (fL (il ns)) ns.length 0);rw[j]at h;cases n with
  |some a=>rw[tf3]at h;exact absurd h (by simp)
  |none=>
   have q:=oC j;rw[tf3]at h;have t:(il ns).getD (ns.length-1) 0=(ns.length:Int):=by
    by_cases i:(il ns).getD (ns.length-1) 0=(ns.length:Int)
    .exact i
    .rw[ab i]at h;exact absurd h (by simp)
   refine⟨o.nb,λa r=>?_,?_,l.len.1⟩
   .have d:ns[a]?=O (ae ns a):=by
     unfold ae;rw[lA,List.getD,aA r];rfl
    generalize ae ns a=e at d;have c:=q a (aI _) (by omega);unfold fL at c;have b:=aa1 d;rw[b]at c;unfold qa at c b;cases hw:ua ((il ns).take a) e.ks.reverse a with
    |none=>rw[hw]at c;simp at c
    |some f=>
     rw[hw]at b;simp only at b;rw[D5 (il ns) a _ _ (λu s=>l.kid a e d u (by simpa using s))]at hw;have g:=alm ns _ _ _ hw;rw[anu]at g;unfold wN;rw[show((a:Int)).toNat=a by omega,b,aj3 d,g,show(a:Int)+1-((a:Int)-f+1)=f by omega];omega
   .unfold wN;rw[show((ns.length:Int)-1).toNat=ns.length-1 by omega,t,show(ns.length:Int)-1+1=ns.length by omega,Int.sub_self];have:Wp ns 0=0:=by unfold Wp;simp
    omega
def ahc(L:List Nd):Wp L L.length=150*(L.length:Int)+8000*(bigs L:Int):=by
 unfold Wp bigs;rw[show((L.length:Nat):Int).toNat=L.length by omega,db (ag _)]
 induction L with
 |nil=>rfl
 |cons b L a=>
  simp only[dw,List.sum_cons,bm]at a⊢;rw[a];unfold fW;omega
def wE(N:Nd):150<=fW N:=by unfold fW;omega
def uA:List Int:=[32,9,13,10,41,93,125,44,59]
structure Ag (T:ByteArray) (p:Nat) (x:ByteArray):Prop where
 at_:∀i,i<x.size->aw T (p+i)=aw x i
 bl:aw T (p+x.size)∈uA
section
variable {T x : ByteArray} {p : Nat}
def Ag.lt(h:Ag T p x):p+x.size<T.size:=by
 rcases bC (p+x.size) T.size with g|g
 .exact g
 .have:=h.bl;rw[dH]at this;exact absurd this (by decide)
def Ag.q(h:Ag T p x)(q:Int->Bool)(a:∀c∈uA,q c=Ax)(b:q (-1)=Ax)(d:i<=x.size):q (aw T (p+i))=q (aw x i):=by
 rcases bC i x.size with g|g
 .rw[h.at_ i g]
 .obtain rfl:i=x.size:=by omega
  rw[a _ h.bl,dH,b]
def Ag.eq(h:Ag T p x)(d:c ∉ uA)(g:c≠ -1)(e:i<=x.size):aw T (p+i)=c↔aw x i=c:=by
 have:=h.q (λa=>decide (a=c)) (λa f=>aD λb=>d (b ▸ f)) (by simp;omega) e;simpa using this
def anv{a b:ByteArray}(f:a.size=b.size)(h:∀i,i<a.size->aw a i=aw b i):a=b:=by
 apply jD;refine Array.ext f (λi d e=>?_);have c:=h i d;unfold aw at c;rw[mK (show i<a.size from d),mK (show i<b.size from e)]at c;exact UInt8.toNat_inj.1 (Int.ofNat_inj.1 c)
def Ag.ext(h:Ag T p x)(c:b<=x.size):T.extract (p+a) (p+b)=x.extract a b:=by
 have i:=h.lt;have e:=oz T (p+a) (p+b) (by omega);have f:=oz x a b c;refine anv (by omega) (λd g=>?_);rw[ju T _ _ d (by omega),ju x a b d c,fj,h.at_ _ (by omega)]
def vK(q:Int->Bool)(s:ByteArray):∀(n f p:Nat),(∀i,i<n->q (aw s (p+i))=M)->q (aw s (p+n))=Ax->n<f->iI q s f p=p+n
 |n,0,p,_,_,h=>by omega
 |0,f+1,p,b,a,_=>by rw[iI,aa (by rw[gD]at a;rw[a];simp)];rfl
 |n+1,f+1,p,b,a,h=>by
  rw[iI,ab (by have:=b 0 (by omega);rwa [gD]at this)];rw[vK q s n f (p+1) (λi c=>by rw[show p+1+i=p+(i+1) by omega];exact b (i+1) (by omega)) (by rw[show p+1+n=p+(n+1) by omega];exact a) (by omega)];omega
def Ag.run(h:Ag T p x)(q:Int->Bool)(i:∀c∈uA,q c=Ax)(d:q (-1)=Ax)(j:a<=x.size):iI q T (T.size+1) (p+a)=p+iI q x (x.size+1) a:=by
 have f:=pq q d x (x.size+1) a j;have e:=ui q x (x.size+1) a;have g:=Jq q d x (x.size+1) a (by omega);have m:=h.lt;obtain⟨b,k⟩:∃b,iI q x (x.size+1) a=b:=⟨_,rfl⟩;rw[k]at f e g⊢;rw[vK q T (b-a) (T.size+1) (p+a) (λn l=>by rw[fj,h.q q i d (by omega)];exact e _ (by omega) (by omega)) (by rw[fj,show a+(b-a)=b by omega,h.q q i d f.2];exact g) (by omega)];omega
def Cf(s:ByteArray):∀f p,qr s f p=iI (λc=>bK c||cD c) s f p
 |0,p=>rfl
 |f+1,p=>by
  rw[qr,iI,Cf s f (p+1)];by_cases h:bK (aw s p)=M\/cD (aw s p)=M
  .rw[ab h,ab (by simpa using h)]
  .rw[aa h,aa (by simpa using h)]
def Ag.nm(h:Ag T p x)(c:a<=x.size):qr T (T.size+1) (p+a)=p+qr x (x.size+1) a:=by
 rw[Cf,Cf];exact h.run (λb=>bK b||cD b) (by decide) (by decide) c
def Ag.dig(h:Ag T p x)(b:a<=x.size):sx T (p+a)=p+sx x a:=h.run cD (by decide) (by decide) b
def Ag.hx(h:Ag T p x)(b:a<=x.size):hxE T (p+a)=p+hxE x a:=h.run ny (by decide) (by decide) b
def Ag.a0(h:Ag T p x)(f:a<x.size):nA0 T (p+a)=p+nA0 x a:=by
 unfold nA0;have d:=h.eq (c:=48) (by decide) (by decide) (fx f);by_cases b:aw x a=48
 .rw[ab (d.2 b),ab b,fj]
 .rw[aa (λe=>b (d.1 e)),aa b,fj,h.dig (by omega)]
def Ag.a1(h:Ag T p x)(j:a<=x.size):nA1 T (p+a)=p+nA1 x a:=by
 unfold nA1;have g:=h.eq (c:=46) (by decide) (by decide) j;by_cases d:aw x a=46
 .have i:a+1<=x.size:=bq d;have f:=h.q cD (by decide) (by decide) i;rw[<-fj]at f;by_cases e:cD (aw x (a+1))=M
  .rw[ab ⟨g.2 d,by rw[f];exact e⟩,ab ⟨d,e⟩,fj,h.dig i]
  .rw[aa (λb=>e (by rw[<-f];exact b.2)),aa (λb=>e b.2)]
 .rw[aa (λb=>d (g.1 b.1)),aa (λb=>d b.1)]
def Ag.ex(h:Ag T p x)(k:a<=x.size):oq T (p+a)=(p+(oq x a).1,(oq x a).2):=by
 unfold oq;have f:=h.eq (c:=101) (by decide) (by decide) k;by_cases b:aw x a=101
 .have j:a+1<=x.size:=bq b;have d:=h.eq (c:=43) (by decide) (by decide) j;have e:=h.eq (c:=45) (by decide) (by decide) j;rw[<-fj]at d e;have i:nA2 T (p+a)=p+nA2 x a/\nA2 x a<=x.size:=by
   unfold nA2;by_cases g:aw x (a+1)=43\/aw x (a+1)=45
   .have:a+1<x.size:=by rcases g with g|g<;>exact bq g
    rw[ab g,ab (by rw[d,e];exact g)];omega
   .rw[aa g,aa (by rw[d,e];exact g)];omega
  rw[ab (f.2 b),ab b,i.1,h.dig i.2];simp
 .rw[aa (λg=>b (f.1 g)),aa b]
def Ag.x2(h:Ag T p x)(b:a<x.size):(aw T (p+a)=48/\aw T (p+a+1)=120)↔(aw x a=48/\aw x (a+1)=120):=by
 rw[h.eq (c:=48) (by decide) (by decide) (fx b),fj,h.eq (c:=120) (by decide) (by decide) (show a+1<=x.size from b)]
def Ag.num(h:Ag T p x)(d:a<x.size):dJ T (p+a)=(p+(dJ x a).1,(dJ x a).2):=by
 unfold dJ;by_cases b:aw x a=48/\aw x (a+1)=120
 .rw[ab b,ab ((h.x2 d).2 b)];unfold nA;have:=bq b.2;have f:=h.hx (show a+2<=x.size by omega);rw[<-fj]at f;rw[f];by_cases c:a+2+16<hxE x (a+2)
  .rw[ab c,ab (by omega)];simp;omega
  .rw[aa c,aa (by omega)];simp;omega
 .rw[aa b,aa (λc=>b ((h.x2 d).1 c)),h.a0 d];have e:=C5 x a d;have g:=C6 x (nA0 x a) e.2;rw[h.a1 e.2,h.ex g.2]
def Ag.kd(h:Ag T p x)(e:a<x.size):Df T (p+a)=Df x a:=by
 unfold Df;have b:=C5 x a e;have g:=C6 x (nA0 x a) b.2;rw[h.a0 e,h.a1 b.2];have i:=h.eq (c:=46) (by decide) (by decide) b.2;have j:=h.eq (c:=101) (by decide) (by decide) g.2;refine decide_eq_decide.2 ?_;rw[i,j];by_cases f:aw x (nA0 x a)=46
 .have d:=h.q cD (by decide) (by decide) (show nA0 x a+1<=x.size from bq f);rw[<-fj]at d;rw[d]
 .simp[f]
def Ag.dc(h:Ag T p x)(a:Nat):∀n,a+n<=x.size->qA T (p+a) n=qA x a n
 |0,_=>rfl
 |n+1,b=>by rw[qA,qA,h.dc a n (by omega),fj,h.at_ (a+n) (by omega)]
def Ag.hv(h:Ag T p x)(a:Nat):∀n,a+n<=x.size->sA T (p+a) n=sA x a n
 |0,_=>rfl
 |n+1,b=>by rw[sA,sA,h.hv a n (by omega),fj,h.at_ (a+n) (by omega)]
def Ag.nu(h:Ag T p x)(c:a<x.size):tB T (p+a)=tB x a:=by
 unfold tB;have e:=vD x a c;rw[h.num c,h.kd c];obtain⟨b,f⟩:∃b,(dJ x a).1=b:=⟨_,rfl⟩;simp only[f]at e⊢;by_cases d:aw x a=48/\aw x (a+1)=120
 .rw[ab d,ab ((h.x2 c).2 d),show p+b-(p+a+2)=b-(a+2) by omega,fj];rcases bC (a+2) b with g|g
  .rw[h.hv (a+2) _ (by omega)]
  .rw[show b-(a+2)=0 by omega];rfl
 .rw[aa d,aa (λg=>d ((h.x2 c).1 g)),show p+b-(p+a)=b-a by omega,h.dc a _ (by omega),h.ext e.2]
def acD(h:¬gF (aw s i)<0):i<s.size:=by
 rcases bC i s.size with g|g
 .exact g
 .rw[dH]at h;exact absurd (by decide) h
def Ag.hexI(h:Ag T p x)(b:(hexI x a).2.2=M):hexI T (p+a)=((hexI x a).1,p+(hexI x a).2.1,M):=by
 unfold Go.Proofs.YtnoembpaejlaeaaGreatDoor.hexI at b⊢;by_cases c:gF (aw x a)<0
 .rw[ab c]at b;cases b
 rw[aa c]at b;by_cases d:gF (aw x (a+1))<0
 .rw[ab d]at b;cases b
 rw[h.at_ a (acD c),aa c,fj,h.at_ (a+1) (acD d),aa d,aa c,aa d];rfl
def Ag.esc(h:Ag T p x)(b:(iH x a).2.2=M):iH T (p+a)=((iH x a).1,p+(iH x a).2.1,M):=by
 have i:a<x.size:=by
  rcases bC a x.size with g|g
  .exact g
  .unfold iH at b;rw[dH]at b;revert b;simp
 unfold iH at b⊢;rw[h.at_ a i];by_cases c:aw x a=110
 .rw[ab c,ab c];rfl
 rw[aa c]at b;rw[aa c,aa c];by_cases d:aw x a=116
 .rw[ab d,ab d];rfl
 rw[aa d]at b;rw[aa d,aa d];by_cases e:aw x a=34\/aw x a=92
 .rw[ab e,ab e];rfl
 rw[aa e]at b;rw[aa e,aa e];by_cases f:aw x a=120
 .rw[ab f]at b;rw[ab f,ab f,fj,h.hexI b]
 rw[aa f]at b;cases b
def Ag.str(h:Ag T p x):∀(f g a:Nat)(c:List Int),f<=g->(gi x f a c).1=M->gi T g (p+a) c=(M,p+(gi x f a c).2.1,(gi x f a c).2.2)
 |0,g,a,c,_,b=>by rw[gi]at b;cases b
 |f+1,0,a,c,l,b=>by omega
 |f+1,g+1,a,c,l,b=>by
  have m:=h.lt;rw[gi]at b⊢;rw[gi];by_cases k:x.size<=a
  .rw[ab k]at b;cases b
  rw[aa k]at b;rw[aa k,aa (by omega),h.at_ a (by omega)];by_cases e:aw x a=34
  .rw[ab e,ab e];rfl
  rw[aa e]at b;rw[aa e,aa e];by_cases i:aw x a=10
  .rw[ab i]at b;cases b
  rw[aa i]at b;rw[aa i,aa i];by_cases d:aw x a=92
  .rw[ab d]at b;rw[ab d,ab d];by_cases j:(iH x (a+1)).2.2=M
   .rw[ab j]at b;rw[ab j,fj,h.esc j,ab rfl];exact h.str f g _ _ (by omega) b
   .rw[aa j]at b;cases b
  rw[aa d]at b;rw[aa d,aa d,fj];exact h.str f g _ _ (by omega) b
end
def yI(r a:ByteArray):A3 r.data.toList a.data.toList=M↔∀i,i<a.size->aw r i=aw a i:=by
 unfold A3;rw[xC,List.prefix_iff_getElem?];constructor
 .intro c i b;have d:a.data.toList[i]?=O (a.data.toList[i]'(by rw[fD];exact b)):=aA _;rw[((io _ _ _).1 d).2,((io _ _ _).1 (c i (by rw[fD];exact b))).2]
 .intro c i b;have f:i<a.size:=by rw[fD]at b;exact b
  have d:a.data.toList[i]?=O a.data.toList[i]:=aA _;have e:=((io _ _ _).1 d).2;refine(io _ _ _).2 ⟨?_,by rw[c i f,e]⟩;rw[<-c i f]at e;exact bq e
def nbS(V:Array Y)(N:Nat):Prop:=∀k:Fin N,∀i:Fin 4,0<i.val->aw (ci V k.val) i.val ∉ uA
def anw:nbS je 11:=by unfold nbS;decide+kernel
def anx:nbS lB 18:=by unfold nbS;decide+kernel
section
variable {T x : ByteArray} {p : Nat}
def Ag.pre(h:Ag T p x)(k:a<x.size){d:ByteArray}(m:d.size<=3)(j:∀i:Fin 4,0<i.val->aw d i.val ∉ uA):A3 (T.extract (p+a) T.size).data.toList d.data.toList=A3 (x.extract a x.size).data.toList d.data.toList:=by
 have l:=h.lt;rw[vf,yI,yI];have e:∀i,a+i<=x.size->aw (T.extract (p+a) T.size) i=aw T (p+(a+i)):=λi b=>by rw[ju T _ _ i (ag _),fj]
 have f:∀i,a+i<x.size->aw (x.extract a x.size) i=aw x (a+i):=λi b=>ju x a _ i (ag _) b;constructor
 .intro c i b;rcases bC (a+i) x.size with q|q
  .rw[f i q,<-h.at_ _ q,<-e i (by omega)];exact c i b
  .have:=c (x.size-a) (by omega);rw[e _ (by omega),show a+(x.size-a)=x.size by omega]at this;exact absurd (this ▸ h.bl) (j ⟨x.size-a,by omega⟩ (by show 0<x.size-a;omega))
 .intro c i b;have g:a+i<x.size:=by
   have:=bq (c i b) (jF b).1;rw[oz x a _ (ag _)]at this;omega
  rw[e i (by omega),h.at_ _ g,<-f i g];exact c i b
def rK(V:Array Y)(base:Int)(r r':ByteArray)(N:Nat)(b:∀k,k<N->A3 r.data.toList (ci V k).data.toList=A3 r'.data.toList (ci V k).data.toList):∀(f i:Nat)(a:Int×Nat),i+f<=N->xk V base r f i a=xk V base r' f i a
 |0,i,a,_=>rfl
 |f+1,i,a,h=>by rw[xk,xk,b i (by omega),rK V base r r' N b f (i+1) _ (by omega)]
def Ag.sk(h:Ag T p x)(d:a<x.size):oH (T.extract (p+a) T.size)=oH (x.extract a x.size):=by
 have f:=h.lt;have e:aw (T.extract (p+a) T.size) 0=aw (x.extract a x.size) 0:=by rw[ju T _ _ 0 (ag _),ju x a _ 0 (ag _) d,gD,gD,h.at_ _ d]
 unfold oH;rw[e,rK je 40 _ (x.extract a x.size) 11 (λc b=>h.pre d (osz ⟨c,b⟩) (anw ⟨c,b⟩)) 11 0 _ (by omega),
  rK lB 61 _ (x.extract a x.size) 18 (λc b=>h.pre d (bsz ⟨c,b⟩) (anx ⟨c,b⟩)) 18 0 _ (by omega)]
def Ag.rdA(h:Ag T p x)(e:a<x.size)(b:(dl x a).ok=M):dl T (p+a)=⟨M,p+(dl x a).a,(dl x a).d,(dl x a).k,(dl x a).n,(dl x a).x⟩:=by
 have l:=h.at_ a e;have o:=h.lt;unfold dl at b⊢;rw[l];by_cases i:bK (aw x a)=M
 .simp only[ab i];have g:=h.nm (fx e);have m:BH T (p+a)=BH x a:=by unfold BH;rw[g,h.ext (wL x _ a (fx e)).2]
  rw[g,m]
 simp only[aa i]at b⊢;by_cases j:cD (aw x a)=M
 .simp only[ab j]at b⊢;by_cases f:(dJ x a).2=M
  .rw[h.num e,h.nu e];simp only[ab f]
  .rw[aa f]at b;cases b
 simp only[aa j]at b⊢;by_cases f:aw x a=34
 .simp only[ab f]at b⊢;by_cases c:(gi x (x.size+1) (a+1) []).1=M
  .rw[fj,h.str (x.size+1) (T.size+1) (a+1) [] (by omega) c];simp only[ab c,jE]
  .rw[aa c]at b;cases b
 simp only[aa f,h.sk e]at b⊢;by_cases c:oH (x.extract a x.size)=0
 .rw[ab c]at b;cases b
 .simp only[aa c,fj]
def Ag.rd(h:Ag T p x)(b:0<x.size)(e:(dl x 0).ok=M)(c:(dl x 0).a=x.size):dl T p=⟨M,p+x.size,(dl x 0).d,(dl x 0).k,(dl x 0).n,(dl x 0).x⟩:=by
 have:=h.rdA b e
 rwa [c,gD]at this
end
structure Alo (x:ByteArray) (k n:Int) (y:ByteArray):Prop where
 pos:0<x.size
 ok:(dl x 0).ok=M
 en:(dl x 0).a=x.size
 ki:(dl x 0).k=k
 nu:(dl x 0).n=n
 tx:(dl x 0).x=y
 bl:iK (aw x 0)=Ax
 da:aw x 0=45->x.size=1
def anz:∀k:Fin 79,(eC (k.val:Int)).size≠0->(dl (eC (k.val:Int)) 0).ok=M/\(dl (eC (k.val:Int)) 0).a=(eC (k.val:Int)).size/\(dl (eC (k.val:Int)) 0).k=(k.val:Int)/\(dl (eC (k.val:Int)) 0).n=0/\(dl (eC (k.val:Int)) 0).x.size=0/\iK (aw (eC (k.val:Int)) 0)=Ax/\(aw (eC (k.val:Int)) 0=45->(eC (k.val:Int)).size=1):=by decide+kernel
def anA{x:ByteArray}(h:x.size=0):x=⟨#[]⟩:=by
 apply jD;exact Array.eq_empty_of_size_eq_zero h
def acE(h:k<0\/78<k):eC k=LF:=by
 unfold eC;rw[aa (by omega),aa (by omega),aa (by omega),aa (by omega),aa (by omega)]
def aj4(h:(eC k).size≠0):Alo (eC k) k 0 ⟨#[]⟩:=by
 have m:0<=k/\k<=78:=by
  rcases Int.lt_or_le k 0 with g|g
  .rw[acE (.inl g)]at h;exact absurd rfl h
  rcases Int.lt_or_le 78 k with g2|g2
  .rw[acE (.inr g2)]at h;exact absurd rfl h
  .exact⟨g,g2⟩
 have b:((k.toNat:Nat):Int)=k:=by omega
 have a:=anz ⟨k.toNat,by omega⟩;simp only[b]at a;obtain⟨c,d,e,f,i,j,l⟩:=a h;exact⟨by omega,c,d,e,f,anA i,j,l⟩
def ahd{x:ByteArray}(h:lh x=M):Alo x 1 0 x:=by
 unfold lh at h;obtain⟨i,c,d,b⟩:=aE h;have j:=nF c;have f:0<x.size:=bq rfl;have e:BH x 0=(1,x):=by
  unfold BH;rw[d,jy];unfold sr at b;cases a:vz fp x 22 0 with
  |none=>rfl
  |some k=>rw[a]at b;cases b
 have a:dl x 0=⟨M,x.size,0,1,0,x⟩:=by
  unfold dl;rw[ab c,d,e]
 exact⟨f,by rw[a],by rw[a],by rw[a],by rw[a],by rw[a],by simp[iK];omega,λg=>by omega⟩
def aj5{x:ByteArray}(h:fok x=M):Alo x 3 0 x:=by
 unfold fok qd at h;rw[bI]at h;obtain⟨b,c,d,j⟩:=aE h.2;have n:=jw b;have i:0<x.size:=bq rfl;have m:bK (aw x 0)=Ax:=by simp[bK];omega
 have k:oq x (nA1 x (nA0 x 0))=(x.size,M):=by rw[<-c];unfold dJ;rw[aa d]
 have l:=(Hg x b k).1 j;have f:tB x 0=(3,0,x):=by
  unfold tB;rw[aa d,c];simp only[vq,jy];rcases l with g|g
  .rw[ab g]
  .by_cases e:Df x 0=M
   .rw[ab e]
   .rw[aa e,g]
 have a:dl x 0=⟨M,x.size,0,3,0,x⟩:=by
  unfold dl;rw[aa (by rw[m];simp),ab b,c,ab rfl,f]
 exact⟨i,by rw[a],by rw[a],by rw[a],by rw[a],by rw[a],by simp[iK];omega,λg=>by omega⟩
def aj6(a:ByteArray):Alo (fy (eE a)) 4 0 a:=by
 have d:=afD a a.size 0 ((fy (eE a)).size+1) (by omega) (by rw[abz];show _<1+_;omega);rw[abz,Bk]at d;have c:=JF a;have f:0<(fy (eE a)).size:=bq c;have b:dl (fy (eE a)) 0=⟨M,(fy (eE a)).size,0,4,0,a⟩:=by
  unfold dl;rw[c,aa (by decide),aa (by decide),ab rfl];show(if(gi (fy (eE a)) ((fy (eE a)).size+1) 1 []).1=M then _ else _)=_;have g:gi (fy (eE a)) ((fy (eE a)).size+1) 1 []=(M,(fy (eE a)).size,oG a):=d;rw[g,ab rfl,aap]
 exact⟨f,by rw[b],by rw[b],by rw[b],by rw[b],by rw[b],by rw[c];decide,λe=>by rw[c]at e;omega⟩
def oJ(u:Nat):ByteArray:=⟨(B5 u).toArray⟩
def aep(u:Nat):(oJ u).size=Lib.nDigits u:=by
 unfold oJ;show(B5 u).toArray.size=_;rw[ir,Lib.decDigits_length]
def aa7{u:Nat}(h:u<10):oJ u=⟨#[UInt8.ofNat (48+u)]⟩:=by unfold oJ;rw[B5,mK h]
def ahe{u:Nat}(h:¬u<10):oJ u=oJ (u / 10)++⟨#[UInt8.ofNat (48+u%10)]⟩:=by
 unfold oJ;rw[B5,dif_neg h];apply jD;rw[kC];apply Array.toList_inj.1;simp
def acF(u:Nat)(h:u<10):aw ⟨#[UInt8.ofNat (48+u)]⟩ 0=48+(u:Int):=by
 rcases(show u=0\/u=1\/u=2\/u=3\/u=4\/u=5\/u=6\/u=7\/u=8\/u=9 by omega) with rfl|rfl|rfl|rfl|rfl|rfl|rfl|rfl|rfl|rfl;all_goals decide
def acG{t:ByteArray}:∀n,(∀i,i<n->aw s (p+i)=aw t (p+i))->qA s p n=qA t p n
 |0,_=>rfl
 |n+1,h=>by rw[qA,qA,acG n (λi a=>h i (by omega)),h n (by omega)]
def D6(u:Nat):0<(oJ u).size/\(∀i,i<(oJ u).size->cD (aw (oJ u) i)=M)/\(u≠0->aw (oJ u) 0≠48)/\(u<10->(oJ u).size=1)/\(u<=9223372036854775807->qA (oJ u) 0 (oJ u).size=O u):=by
 induction u using Nat.strongRecOn with
 |_ u o=>
  by_cases d:u<10
  .have c:=aa7 d;have e:(oJ u).size=1:=by rw[c];rfl
   have b:aw (oJ u) 0=48+(u:Int):=by rw[c];exact acF u d
   refine⟨by omega,λi f=>?_,λp=>by rw[b];omega,λ_=>e,λ_=>?_⟩
   .obtain rfl:i=0:=by omega
    rw[b];simp[cD];omega
   .rw[e,qA,qA];simp only[iG,b];rw[show(48+(u:Int)-48).toNat=u by omega,ab (by omega)];simp
  .have c:=ahe d;obtain⟨k,l,n,_,m⟩:=o (u / 10) (by omega);obtain⟨a,h⟩:∃a,(oJ (u / 10)).size=a:=⟨_,rfl⟩;have e:(oJ u).size=a+1:=by rw[c,ay,h];rfl
   have b:∀i,aw (oJ u) i=if i<a then aw (oJ (u / 10)) i else aw ⟨#[UInt8.ofNat (48+u%10)]⟩ (i-a):=λi=>by rw[c,oe,h]
   have j:aw (oJ u) a=48+((u%10:Nat):Int):=by rw[b,aa (by omega),fG];exact acF _ (by omega)
   rw[h]at k l m;refine⟨by omega,λi f=>?_,λ_=>?_,λg=>absurd g d,λq=>?_⟩
   .rcases bC i a with g|g
    .rw[b,ab g];exact l i g
    .obtain rfl:i=a:=by omega
     rw[j];simp[cD];omega
   .rw[b,ab k];exact n (by omega)
   .rw[e,qA,acG (t:=oJ (u / 10)) a (λi f=>by rw[iG,b,ab f]),m (by omega)];simp only[iG,j];rw[show(48+((u%10:Nat):Int)-48).toNat=u%10 by omega,ab (by omega)]
    congr 1
    omega
def aj7(u:Nat)(t:u<=9223372036854775807):Alo (oJ u) 2 (u:Int) ⟨#[]⟩:=by
 obtain⟨h,e,m,n,f⟩:=D6 u;have f:=f t;obtain⟨a,v⟩:∃a,oJ u=a:=⟨_,rfl⟩;rw[v]at h e m n f⊢;have k:=e 0 h;have z:=jw k;have s:bK (aw a 0)=Ax:=by simp[bK];omega
 have o:¬(aw a 0=48/\aw a (0+1)=120):=λc=>by
  have:=e 1 (bq c.2);rw[show(1:Nat)=0+1 from rfl,c.2]at this;exact absurd this (by decide)
 have p:∀b,b<=a.size->sx a b=a.size:=λb x=>by
  unfold sx;rw[vK cD a (a.size-b) (a.size+1) b (λA y=>e _ (by omega)) (by rw[show b+(a.size-b)=a.size by omega,dH];decide) (by omega)];omega
 have i:nA0 a 0=a.size:=by
  unfold nA0;by_cases c:aw a 0=48
  .rw[ab c];have:u=0:=by
    rcases pi u with q|q
    .exact q
    .exact absurd c (m (by omega))
   rw[n (by omega)]
  .rw[aa c];exact p _ (by omega)
 have g:aw a a.size= -1:=dH;have j:nA1 a a.size=a.size:=by unfold nA1;rw[g,aa (by simp)]
 have l:dJ a 0=(a.size,M):=by
  unfold dJ;rw[aa o,i,j];unfold oq;rw[g,aa (by decide)]
 have w:Df a 0=Ax:=by unfold Df;rw[i,j,g];simp
 have r:tB a 0=(2,(u:Int),⟨#[]⟩):=by
  unfold tB;rw[aa o,l,w];simp only[vq];rw[aa (by simp),f]
 have d:dl a 0=⟨M,a.size,0,2,(u:Int),⟨#[]⟩⟩:=by
  unfold dl;rw[aa (by rw[s];simp),ab k,l,ab rfl,r]
 exact⟨h,by rw[d],by rw[d],by rw[d],by rw[d],by rw[d],by simp[iK];omega,λc=>by omega⟩
def Cg(u:Nat):∀r,aw (hxO u r) 0=48/\aw (hxO u r) 1=120/\∀j,j<r->aw (hxO u r) (2+j)=hxd u (15-j)
 |0=>⟨rfl,rfl,λj f=>by omega⟩
 |r+1=>by
  obtain⟨c,d,e⟩:=Cg u r;have h:=rG u r;have b:∀a,aw (hxO u (r+1)) a=if a<r+2 then aw (hxO u r) a else aw (fy [hxd u (15-r)]) (a-(r+2)):=λa=>by show aw (hxO u r++_) a=_;rw[oe,h]
  refine⟨by rw[b,ab (by omega)];exact c,by rw[b,ab (by omega)];exact d,λj f=>?_⟩;rcases bC j r with g|g
  .rw[b,ab (by omega)];exact e j g
  .obtain rfl:j=r:=by omega
   rw[b,aa (by omega),show 2+j-(j+2)=0 by omega,yp _ (λk i=>by
    rw[List.mem_singleton.1 i];unfold hxd;have:=G8 ((u / 16 ^ (15-j)%16:Nat):Int) (by omega) (by omega);omega)]
   rfl
def aln(u j:Nat):gF (hxd u j)=((u / 16 ^ j%16:Nat):Int):=xh _ (by omega) (by omega)
def alo(u:Nat)(a:u<16 ^ 16):∀m,m<=16->sA (hxO u 16) 2 m=u / 16 ^ (16-m)
 |0,_=>by rw[sA];exact(Nat.div_eq_of_lt (by simpa using a)).symm
 |m+1,h=>by
  rw[sA,alo u a m (by omega),(Cg u 16).2.2 m (by omega),aln];have e:16-m=(15-m)+1:=by omega
  rw[e,show 16-(m+1)=15-m by omega,Nat.pow_succ,<-Nat.div_div_eq_div_mul];simp only[lA];omega
def aj8(n:Int)(s: -9223372036854775808<=n)(t:n<0):Alo (hxO (n+18446744073709551616).toNat 16) 2 n ⟨#[]⟩:=by
 obtain⟨b,p⟩:∃b,(n+18446744073709551616).toNat=b:=⟨_,rfl⟩;rw[p];obtain⟨c,g,h⟩:=Cg b 16;have e:=rG b 16;have f:=alo b (by show b<18446744073709551616;omega) 16 (by omega);rw[show 16-16=0 from rfl,Nat.pow_zero,Nat.div_one]at f;obtain⟨a,q⟩:∃a,hxO b 16=a:=⟨_,rfl⟩;rw[q]at c g h e f⊢;have m:hxE a 2=18:=by
  unfold hxE;rw[vK ny a 16 (a.size+1) 2 (λr o=>by rw[h r o];unfold ny;rw[aln];exact bp (by omega)) (by rw[dH];decide) (by omega)]
 have j:aw a 0=48/\aw a (0+1)=120:=⟨c,g⟩;have i:dJ a 0=(a.size,M):=by
  unfold dJ;rw[ab j];unfold nA;rw[iG,m,aa (by omega),e];rfl
 have k:tB a 0=(2,n,⟨#[]⟩):=by
  unfold tB;rw[ab j,i];simp only[iG];rw[e,show 16+2-2=16 by rfl,f];have:wrap64 (b:Int)=n:=by unfold wrap64;omega
  rw[this]
 have d:dl a 0=⟨M,a.size,0,2,n,⟨#[]⟩⟩:=by
  unfold dl;rw[c,aa (by decide),ab (by decide),i,ab rfl,k]
 exact⟨by omega,by rw[d],by rw[d],by rw[d],by rw[d],by rw[d],by rw[c];decide,λl=>by rw[c]at l;omega⟩
def aj9(n:Int)(b: -9223372036854775808<=n)(c:n<=9223372036854775807):Alo (yr n) 2 n ⟨#[]⟩:=by
 unfold yr;split
 .rename_i a;exact aj8 n b a
 .rename_i a;have:=aj7 n.toNat (by omega);rw[show((n.toNat:Nat):Int)=n by omega]at this;exact this
def Il(V:Array Y)(base:Int)(r:ByteArray):∀(f i:Nat)(a:Int×Nat),(xk V base r f i a).1=a.1\/(base+i<=(xk V base r f i a).1/\(xk V base r f i a).1<base+i+f)
 |0,i,a=> .inl rfl
 |f+1,i,a=>by
  rw[xk];rcases Il V base r f (i+1) (if a.2<(ci V i).size/\A3 r.data.toList (ci V i).data.toList=M then(base+(i:Int),(ci V i).size) else a) with h|h
  .split at h
   .rename_i g;rw[ab g]at *;right;omega
   .rename_i g;rw[aa g]at *;left;exact h
  .right;omega
def Kz(r:ByteArray)(l:0<r.size)(g:oH r≠0):(oH r=5\/oH r=7\/(40<=oH r/\oH r<=78))/\∀i,i<(eC (oH r)).size->aw r i=aw (eC (oH r)) i:=by
 by_cases b:aw r 0=59
 .have a:oH r=5:=by unfold oH;rw[ab b]
  rw[a];exact⟨.inl rfl,λi e=>by
   have:i<1:=e;obtain rfl:i=0:=by omega
   rw[b];decide⟩
 by_cases d:aw r 0=10
 .have a:oH r=7:=by unfold oH;rw[aa b,ab d]
  rw[a];exact⟨.inr (.inl rfl),λi e=>by
   have:i<1:=e;obtain rfl:i=0:=by omega
   rw[d];decide⟩
 have a:oH r=(xk lB 61 r 18 0 (xk je 40 r 11 0 (0,0))).1:=by unfold oH;rw[aa b,aa d]
 have h:=Il je 40 r 11 0 (0,0);have j:=Il lB 61 r 18 0 (xk je 40 r 11 0 (0,0));have k:=yu je 40 r 11 (by omega) ab6 11 0 (0,0) (by omega) (.inl ⟨rfl,rfl⟩);have f:=yu lB 61 r 18 (by omega) ab7 18 0 _ (by omega) k;rw[<-a]at j f;refine⟨.inr (.inr ?_),?_⟩
 .simp only at h;omega
 .rcases f with⟨c,_⟩|⟨_,_,c,_⟩
  .exact absurd c g
  .exact(yI r _).1 c
def Stn(T:ByteArray)(p:Nat)(x:ByteArray):Prop:=p+x.size<=T.size/\∀i,i<x.size->aw T (p+i)=aw x i
section
variable {T x y w : ByteArray} {p : Nat} {k n : Int}
def Stn.app(h:Stn T p (x++y)):Stn T p x/\Stn T (p+x.size) y:=by
 obtain⟨d,b⟩:=h;rw[ay]at d b;refine⟨⟨by omega,λa c=>?_⟩,by omega,λa c=>?_⟩
 .rw[b a (by omega),oe,ab c]
 .rw[fj,b (x.size+a) (by omega),oe,aa (by omega),show x.size+a-x.size=a by omega]
def Stn.ext(h:Stn T p x):T.extract p (p+x.size)=x:=by
 have c:=h.1;apply jD;apply Array.toList_inj.1;apply List.ext_getElem?;intro a;rcases bC a x.size with g|g
 .have b:x.data.toList[a]?=O (x.data.toList[a]'(by rw[fD];exact g)):=aA _;rw[b];refine(io _ _ _).2 ⟨by rw[qu];omega,?_⟩;rw[ju T p (p+x.size) a (by omega),h.2 a g];exact((io _ _ _).1 b).2
 .rw[jr (by rw[fD];show(T.extract p (p+x.size)).size<=a;rw[qu];omega),jr (by rw[fD];exact g)]
def nxS(k c:Int):Bool:=if k=40\/k=41\/k=42\/k=43\/k=44\/k=45\/k=46\/k=50 then M else if k=62 then M else if k=69 then decide (c≠61) else if k=48 then decide (c≠46) else decide (c∈uA)
def yJ(w:ByteArray)(k c:Int):Bool:=if bK (aw w 0)=M then !(alB c) else if cD (aw w 0)=M\/aw w 0=34 then decide (c∈uA) else nxS k c&&decide (aw w 0≠45\/c≠45)
def ahf(V:Array Y)(N:Nat):Prop:=∀k:Fin 79,∀y:Fin N,40<=k.val->(eC (k.val:Int)).size≠0->(eC (k.val:Int)).size<(ci V y.val).size->(∀i:Fin 3,i.val<(eC (k.val:Int)).size->aw (ci V y.val) i.val=aw (eC (k.val:Int)) i.val)->nxS (k.val:Int) (aw (ci V y.val) (eC (k.val:Int)).size)=Ax
def apD:ahf je 11:=by unfold ahf;decide+kernel
def apE:ahf lB 18:=by unfold ahf;decide+kernel
def ahg(g:Stn T p x)(u:0<x.size)(n:∀i,i<x.size->aw x i=aw (eC k) i)(t:(eC k).size=x.size)(v:40<=k/\k<=78)(r:nxS k (aw T (p+x.size))=M){V:Array Y}{N:Nat}(m:ahf V N)(o:j<N)(s:(ci V j).size<=3):
  A3 (T.extract p T.size).data.toList (ci V j).data.toList=A3 x.data.toList (ci V j).data.toList:=by
 obtain⟨w,g⟩:=g;obtain⟨h,l⟩:∃h,ci V j=h:=⟨_,rfl⟩;have f:=m ⟨k.toNat,by omega⟩ ⟨j,o⟩;simp only[show((k.toNat:Nat):Int)=k by omega]at f;rw[l]at f s⊢;have z:=oz T p T.size (ag _);rw[vf,yI,yI];have c:∀i,i<x.size->aw (T.extract p T.size) i=aw x i:=λi a=>by rw[ju T p T.size i (ag _),g i a]
 constructor
 .intro b i a;rcases bC x.size h.size with q|q
  .exfalso;have d:=b x.size q;have e:=jF q;have y:x.size<(T.extract p T.size).size:=bq d e.1;rw[ju T p T.size x.size (ag _)]at d;have:=f (by omega) (by omega) (by omega) (λi a=>by rw[<-n i.val (by omega),<-c i.val (by omega)];exact(b i.val (by omega)).symm);rw[t,<-d,r]at this;cases this
  .rw[<-c i (by omega)];exact b i a
 .intro b i a;have e:=jF a;have:=bq (b i a) e.1;rw[c i this];exact b i a
def apF(I:Alo w k n y)(l:Stn T p w)(ar:k≠7)(ap:k≠5)(f:yJ w k (aw T (p+w.size))=M):
  (dl T p).ok=M/\(dl T p).a=p+w.size/\(dl T p).k=k/\(dl T p).n=n/\(dl T p).x=y/\blk T (T.size+1) p=p:=by
 have g:aw T p=aw w 0:=by have:=l.2 0 I.pos;rwa [gD]at this
 obtain⟨u,o,b,d,h,i,L,ad⟩:=I;have A:¬(aw T p=45/\aw T (p+1)=45)->blk T (T.size+1) p=p:=Hm T p (by rw[g,L];simp);unfold yJ at f;by_cases c:bK (aw w 0)=M
 .have av:=nF c;rw[ab c]at f;have j:qr T (T.size+1) p=p+w.size:=by
   unfold dl at b;rw[ab c]at b;simp only at b;rw[Cf]at b⊢;have E:=ui (λF=>bK F||cD F) w (w.size+1) 0;rw[b]at E;have au:=l.1;exact vK _ T w.size (T.size+1) p (λm B=>by rw[l.2 m B];exact E m (aI _) B) (by simpa [alB] using f) (by omega)
  have G:BH T p=BH w 0:=by
   unfold dl at b;rw[ab c]at b;simp only at b;unfold BH;rw[j,l.ext,b,jy]
  refine⟨?_,?_,?_,?_,?_,A (by omega)⟩;all_goals (unfold dl at o b d h i⊢;rw[ab c]at o b d h i;rw[g,ab c])
  .exact j
  .simp only[G];exact d
  .exact h
  .simp only[G];exact i
 rw[aa c]at f;by_cases e:cD (aw w 0)=M\/aw w 0=34
 .rw[ab e]at f;have an:Ag T p w:=⟨l.2,aE f⟩;have j:=an.rd u o b;refine⟨by rw[j],by rw[j],by rw[j];exact d,by rw[j];exact h,by rw[j];exact i,A ?_⟩;rcases e with q|q
  .have:=jw q;omega
  .omega
 rw[aa e]at f;obtain⟨e,r⟩:=not_or.1 e;obtain⟨f,v⟩:=Bool.and_eq_true_iff.1 f;have v:=aE v;have ao:w.extract 0 w.size=w:=jy w;unfold dl at o b d h i;rw[aa c,aa e,aa r,ao]at o b d h i;by_cases z:oH w=0
 .rw[ab z]at o;cases o
 rw[aa z]at b d h i;simp only at b d h i;rw[d]at b;rw[iG]at b;obtain⟨ak,H⟩:=Kz w u z;rw[d]at ak H;have K:40<=k/\k<=78:=by omega
 have J:∀m,m<w.size->aw w m=aw (eC k) m:=λm B=>H m (by omega);have af:aw (T.extract p T.size) 0=aw w 0:=by have:=l.1;rw[ju T p T.size 0 (ag _),gD,g]
 have s:oH (T.extract p T.size)=k:=by
  rw[<-d];unfold oH;rw[af,rK je 40 (T.extract p T.size) w 11 (λC t=>ahg l u J b K f apD t (osz ⟨C,t⟩)) 11 0 _ (by omega),
   rK lB 61 (T.extract p T.size) w 18 (λC t=>ahg l u J b K f apE t (bsz ⟨C,t⟩)) 18 0 _ (by omega)]
 refine⟨?_,?_,?_,?_,?_,A λq=>?_⟩
 .unfold dl;rw[g,aa c,aa e,aa r,s,aa (by omega)]
 .unfold dl;rw[g,aa c,aa e,aa r,s,aa (by omega)];simp only;rw[b]
 .unfold dl;rw[g,aa c,aa e,aa r,s,aa (by omega)]
 .unfold dl;rw[g,aa c,aa e,aa r,s,aa (by omega)];exact h
 .unfold dl;rw[g,aa c,aa e,aa r,s,aa (by omega)];exact i
 .have w1:=ad (by rw[<-g];exact q.1);rw[w1]at v;rw[<-g]at v;omega
def alp(h:aw T p=c)(d:c=10\/c=59):(dl T p).ok=M/\(dl T p).a=p+1/\(dl T p).k=(if c=10 then 7 else 5)/\blk T (T.size+1) p=p:=by
 have i:p<T.size:=bq h;have b:bK c=Ax/\cD c=Ax/\iK c=Ax:=by rcases d with rfl|rfl<;>decide
 have f:aw (T.extract p T.size) 0=c:=by rw[ju T p T.size 0 (ag _),gD,h]
 have g:oH (T.extract p T.size)=if c=10 then 7 else 5:=by unfold oH;rw[f];rcases d with rfl|rfl<;>rfl
 have e:blk T (T.size+1) p=p:=Hm T p (by rw[h,b.2.2];simp) (by rw[h];omega);unfold dl;rw[h,aa (by rw[b.1];simp),aa (by rw[b.2.1];simp),aa (by omega),g];rcases d with rfl|rfl
 .exact⟨rfl,rfl,rfl,e⟩
 .exact⟨rfl,rfl,rfl,e⟩
end
inductive Skp (T:ByteArray) (o:Bool):Nat->Nat->Prop where
 |nil {p:Nat}:Skp T o p p
 |bl {p q:Nat}:iK (aw T p)=true->Skp T o (p+1) q->Skp T o p q
 |rem {p q:Nat}:aw T p=45->aw T (p+1)=45->Skp T o (Ly T p) q->Skp T o p q
 |nl {p q:Nat}:o=true->aw T p=10->Skp T o (p+1) q->Skp T o p q
inductive Rz (T:ByteArray):Nat->List Wt->Nat->Prop where
 |nil {p:Nat}:Rz T p [] p
 |bl {p q:Nat}{l:List Wt}:iK (aw T p)=true->Rz T (p+1) l q->Rz T p l q
 |rem {p q:Nat}{l:List Wt}:aw T p=45->aw T (p+1)=45->Rz T (Ly T p) l q->Rz T p l q
 |tok {p r q:Nat}{t:Wt}{l:List Wt}:t.k≠7->t.k≠5->Alo t.w t.k t.n t.x->Stn T p t.w->yJ t.w t.k (aw T (p+t.w.size))=true->Skp T (opn t.k) (p+t.w.size) r->Rz T r l q->Rz T p (t::l) q
 |sep {p q:Nat}{l:List Wt}{c:Int}:aw T p=c->c=10\/c=59->Rz T (p+1) l q->Rz T p (nlW::l) q
def Rz.app{T:ByteArray}{q r:Nat}{l m:List Wt}(h:Rz T p l q)(g:Rz T q m r):Rz T p (l++m) r:=by
 induction h with
 |nil=>exact g
 |bl a c b=>exact .bl a (b g)
 |rem a c d b=>exact .rem a c (b g)
 |tok a c d e f i j b=>exact .tok a c d e f i (b g)
 |sep a c d b=>exact .sep a c (b g)
def wt(t:Wt):Nat:=if t.k<5 then t.w.size+5 else 11
def cst:List Wt->Nat
 |[]=>0
 |t::l=>wt t+cst l
def cj:∀(a b:List Wt),cst (a++b)=cst a+cst b
 |[],b=>(iG _).symm
 |t::a,b=>by rw[ez,cst,cst,cj a b,fj]
def iJ(f:Int->Bool)(x:ByteArray)(l:List Wt):Prop:=∀T p,Stn T p x->f (aw T (p+x.size))=M->Rz T p l (p+x.size)
def pz(c:Int):Bool:=M
def ng(c:Int):Bool:=decide (c∈uA)
def yK(c:Int):Bool:=!(alB c)
section
variable {f g : Int → Bool} {x y : ByteArray} {l m : List Wt}
def iJ.app(h:iJ f x l)(e:iJ g y m)(k:0<y.size:=by decide)(i:f (aw y 0)=M:=by decide):iJ g (x++y) (l++m):=λa n j c=>by
 obtain⟨d,b⟩:=j.app;rw[ay,<-fj]at c⊢;exact(h a n d (by have:=b.2 0 k;rw[gD]at this;rw[this];exact i)).app (e a _ b c)
def iJ.mono(h:iJ f x l)(d:∀c,g c=M->f c=M):iJ g x l:=λa i e b=>h a i e (d _ b)
def iJ.tt(h:iJ pz x l):iJ g x l:=h.mono λ_ _=>rfl
def iJ.as{k:List Wt}(h:iJ f x l)(e:l=k:=by simp):iJ f x k:=e ▸ h
def aa8:iJ f U []:=λa d c b=> .nil
def yL:iJ pz ⟨#[32]⟩ []:=λb d a c=> .bl (by have:=a.2 0 (by decide);rw[gD]at this;rw[this];decide) .nil
def acH:iJ pz ⟨#[10]⟩ [nlW]:=λb e a d=> .sep (c:=10) (by have:=a.2 0 (by decide);rw[gD]at this;rw[this];rfl) (.inl rfl) .nil
def ahh:∀t,iJ pz (EB t) []
 |0=>aa8
 |t+1=>by
  have a:iJ pz ⟨#[9]⟩ []:=λc e b d=> .bl (by have:=b.2 0 (by decide);rw[gD]at this;rw[this];decide) .nil;exact(ahh t).app a
def acI(t:Nat):iJ pz (iB t) [nlW]:=by
 cases t with
 |zero=>
  intro c e b a;have d:iB 0=⟨#[10]⟩:=by decide
  rw[d]at b a⊢;exact acH c e b a
 |succ t=>exact acH.app (ahh (t+1)) (by rw[vB];omega) rfl
def D7{t:Wt}(b:t.k≠7)(a:t.k≠5)(c:Alo t.w t.k t.n t.x):iJ (yJ t.w t.k) t.w [t]:=λf g e d=> .tok b a c e d .nil .nil
def og(h:lh x=M):iJ yK x [lG x]:=(D7 (t:=lG x) (by simp[lG]) (by simp[lG]) (ahd h)).mono λa b=>by
 have:bK (aw x 0)=M:=by unfold lh at h;exact(aE h).2.1
 show yJ x 1 a=M;unfold yJ;rw[ab this];exact b
def ahi(c:k≠7)(b:k≠5)(a:(eC k).size≠0):iJ (yJ (eC k) k) (eC k) [sgF k]:=D7 (t:=sgF k) c b (aj4 a)
def itT:List Int->ByteArray
 |[]=>U
 |k::r=>(if k=0 then⟨#[32]⟩ else eC k)++itT r
def itL:List Int->List Wt
 |[]=>[]
 |k::r=>if k=0 then itL r else sgF k::itL r
def itF:List Int->Int->Bool
 |[]=>pz
 |[k]=>if k=0 then pz else yJ (eC k) k
 |_::r=>itF r
def itC:List Int->Bool
 |[]=>M
 |k::r=>(k==0||(k !=7&&k !=5&&(eC k).size !=0&&(r==[]||((itT r).size !=0&&yJ (eC k) k (aw (itT r) 0)))))&&itC r
def ahj:∀r,itC r=M->iJ (itF r) (itT r) (itL r)
 |[],_=>aa8
 |[k],h=>by
  simp only[itC,Bool.and_true]at h;unfold itF itT itL itT itL;by_cases e:k=0
  .rw[ab e,ab e,ab e];intro T p d c;have f:(⟨#[32]⟩:ByteArray)++U=⟨#[32]⟩:=by decide
   rw[f]at d c⊢;exact yL T p d c
  .rw[aa e,aa e,aa e];simp[e]at h;have f:eC k++U=eC k:=by apply jD;simp[kC]
   rw[f];exact ahi h.1.1 h.1.2 (λg=>h.2 (by simpa using g))
 |k::b::r,h=>by
  have j:=ahj (b::r);simp only[itC]at h j;rw[bI]at h;have i:=j h.2;show iJ (itF (b::r)) ((if k=0 then⟨#[32]⟩ else eC k)++itT (b::r)) (if k=0 then itL (b::r) else sgF k::itL (b::r));by_cases e:k=0
  .rw[ab e,ab e];intro T p d c;obtain⟨l,m⟩:=d.app;rw[ay,<-fj]at c⊢;exact(yL T p l rfl).app (i T _ m c)
  .rw[aa e,aa e];have a:=h.1;simp[e]at a;exact(ahi a.1.1.1 a.1.1.2 (λg=>a.1.2 (by simpa using g))).app i (by have:=a.2.1;rcases pi (itT (b::r)).size with g|g;exact absurd (by simpa using g) this;exact g) a.2.2
def lit(r:List Int)(h:x=itT r:=by decide+kernel)(a:itC r=M:=by decide+kernel):iJ (itF r) x (itL r):=by rw[h];exact ahj r a
end
def ql(g:Int->Fo):List Int->Fo
 |[]=> .nil
 |k::r=>(g k).app (ql g r)
def shT(ns:List Nd):Nat->Int->Fo
 |0,_=> .nil
 |f+1,i=>one (ae ns i).bare (ql (shT ns f) (ae ns i).ks)
def Sh(ns:List Nd)(i:Int):Fo:=shT ns (i.toNat+1) i
def Af{g h:Int->Fo}:∀(l:List Int),(∀z∈l,g z=h z)->ql g l=ql h l
 |[],_=>rfl
 |k::r,e=>by rw[ql,ql,e k bg,Af r λz a=>e z (dm _ a)]
def Io(g:Int->Fo):∀(a b:List Int),ql g (a++b)=(ql g a).app (ql g b)
 |[],b=>rfl
 |k::r,b=>by rw[ez,ql,ql,Io g r b,Fo.app_app]
def td(d:Wzd ns)(c:i<ns.length){z:Int}(f:z∈(ae ns i).ks):∃y:Nat,z=(y:Int)/\y<i/\y<ns.length/\∃j,j<(ae ns i).ks.length/\dC (ae ns i) j=z:=by
 obtain⟨j,e,b⟩:=qF f;obtain⟨y,a⟩:=jj (d.nb i c) c j e;exact⟨y,by rw[<-b,a.id],a.lt,a.len,j,e,b⟩
def aka(d:Wzd ns):∀(i:Nat),i<ns.length->∀f,i<f->shT ns f i=Sh ns i:=by
 intro i
 induction i using Nat.strongRecOn with
 |_ i c=>
  intro h f k;obtain⟨f,rfl⟩:∃g,f=g+1:=⟨f-1,by omega⟩;unfold Sh;rw[shT,show((i:Int)).toNat+1=i+1 by omega,shT]
  congr 1
  refine Af _ λl j=>?_;obtain⟨e,rfl,a,b,_⟩:=td d h j;rw[c e a b f (by omega),c e a b i a]
def tD(d:Wzd ns)(c:i<ns.length):Sh ns i=one (ae ns i).bare (ql (Sh ns) (ae ns i).ks):=by
 have:Sh ns i=shT ns (i+1) i:=by unfold Sh;rw[show((i:Int)).toNat=i by omega]
 rw[this,shT]
 congr 1
 refine Af _ λg e=>?_;obtain⟨f,rfl,a,b,_⟩:=td d c e;exact aka d f b i a
def tg(h:N.ks.length=2):N.ks=[dC N 0,dC N 1]:=by
 unfold dC
 match e:N.ks,h with
 |[a,b],_=>rfl
def lI(h:N.ks.length=1):N.ks=[dC N 0]:=by
 unfold dC
 match e:N.ks,h with
 |[a],_=>rfl
def D8(h:N.ks.length=3):N.ks=[dC N 0,dC N 1,dC N 2]:=by
 unfold dC
 match e:N.ks,h with
 |[a,b,c],_=>rfl
def akb(h:N.ks.length=4):N.ks=[dC N 0,dC N 1,dC N 2,dC N 3]:=by
 unfold dC
 match e:N.ks,h with
 |[a,b,c,d],_=>rfl
def kI(g:Int->Fo)(a:Int):ql g [a]=g a:=Fo.app_nil _
def mz(g:Int->Fo)(a b:Int):ql g [a,b]=(g a).app (g b):=by rw[ql,kI]
section
variable {ns : List Nd} {N : Nd}
def akc{a b c e:Bool}(h:bF N a b c e=M):N.bare=bN N.k (if a=M then N.op else 0) (if b=M then N.n else 0) (if c=M then N.x else z0) (if e=M then N.nm else []):=by
 unfold bF xd at h;simp only[bI,ve,decide_eq_true_eq,jB]at h;obtain⟨⟨⟨f,i⟩,j⟩,l⟩:=h;unfold Nd.bare
 congr 1
 .rcases f with g|g
  .rw[ab g]
  .rw[g];split<;>rfl
 .rcases i with g|g
  .rw[ab g]
  .rw[g];split<;>rfl
 .rcases j with g|g
  .rw[ab g]
  .have d:N.x=z0:=by
    rw[gy]at g;apply jD;apply Array.toList_inj.1;exact g
   rw[d];split<;>rfl
 .rcases l with g|g
  .rw[ab g]
  .rw[jK g];split<;>rfl
def za(h:nC ns N=M):N.bare=bN N.k (if N.k=30\/N.k=31\/N.k=36 then N.op else 0) (if N.k=5\/N.k=23 then N.n else 0) (if N.k=24\/N.k=25\/N.k=26\/N.k=33\/N.k=42 then N.x else z0) (if N.k=2\/N.k=3\/N.k=4\/N.k=9\/N.k=10\/N.k=14\/N.k=36 then N.nm else []):=by
 have:=akc (Ig h);simpa only[decide_eq_true_eq] using this
def D9(h:nC ns N=M)(i:N.k=2\/N.k=3\/N.k=4\/N.k=9\/N.k=10\/N.k=14):∃x r,N.nm=x::r/\(∀s∈x::r,lh s=M)/\(N.k=3\/N.k=4\/N.k=9->r=[])/\(N.k=14->r.length<=1):=by
 have h:=oD h;unfold stB at h;have a:∀{c b:Int},fE N c b=M->1<=c->(N.k=3\/N.k=4\/N.k=9->b=1)->(N.k=14->b<=2)->∃x r,N.nm=x::r/\(∀s∈x::r,lh s=M)/\(N.k=3\/N.k=4\/N.k=9->r=[])/\(N.k=14->r.length<=1):=λ{c b} j n l m=>by
  obtain⟨d,f,g⟩:=mF j;cases e:N.nm with
  |nil=>rw[e]at f;simp at f;omega
  |cons x r=>
   rw[e]at d g;simp at g;refine⟨x,r,rfl,d,λk=>jK (by have:=l k;omega),λk=>by have:=m k;omega⟩
 rcases i with e|e|e|e|e|e;all_goals (simp[e]at h)
 .exact a h.1.2 (by decide) (by omega) (by omega)
 .exact a h.1.1.2 (by decide) (by omega) (by omega)
 .exact a h.1.1.2 (by decide) (by omega) (by omega)
 .exact a h.2.1 (by decide) (by omega) (by omega)
 .exact a h.1.1.1.2 (by decide) (by omega) (by omega)
 .exact a h.1.1.1.2 (by decide) (by omega) (by omega)
def Ip(h:nC ns N=M):(N.k=26\/N.k=33\/N.k=42->lh N.x=M)/\(N.k=24->fok N.x=M):=by
 refine⟨λa=>?_,λa=>?_⟩
 .have h:=qE h;unfold jg at h;rcases a with e|e|e<;>simp[e]at h<;>simp[h]
 .have h:=qE h;unfold jg at h;simp[a]at h;simp[h]
def Ea(h:nC ns N=M)(a:N.k=32\/N.k=33\/N.k=34):(ae ns (dC N 0)).k≠27:=by
 have h:=qE h;unfold jg at h;rcases a with e|e|e<;>simp[e,my]at h<;>simp[h]
def akd(h:nC ns N=M)(a:N.k=37):(ae ns (dC N 0)).k=34\/(ae ns (dC N 0)).k=27:=by
 have h:=qE h;unfold jg at h;simp[a,my]at h;exact h.1.2
def apH:∀(f j:Nat),F3 ns N f j=M->∀q,j<=q->q<j+f->tr (ae ns (dC N q)).k=M
 |0,j,_,q,a,b=>by omega
 |f+1,j,h,q,a,b=>by
  rw[F3,bI]at h;rcases js a with rfl|h3
  .exact h.1
  .exact apH f (j+1) h.2 q h3 (by omega)
end
def mBs:List ByteArray->ByteArray
 |[]=>U
 |y::r=>iz++(y++mBs r)
def nh(a:ByteArray):a++U=a:=by apply jD;simp[kC]
def Eb(a:ByteArray):U++a=a:=by apply jD;simp[kC]
def KA:∀(r:List ByteArray)(a:ByteArray),(r.foldl aaa (M,a)).2=a++mBs r
 |[],a=>(nh a).symm
 |y::r,a=>by
  rw[kF,mBs,<-dh,<-dh];exact KA r ((a++iz)++y)
def uB(x:ByteArray)(r:List ByteArray):fc (x::r)=x++mBs r:=by
 unfold fc adt;rw[kF];have:aaa (Ax,U) x=(M,x):=by unfold aaa;simp[Eb]
 rw[this];exact KA r x
def qG(x:ByteArray):fc [x]=x:=by rw[uB,mBs,nh]
def pA(x a:ByteArray)(r:List ByteArray):fc (x::a::r)=x++(iz++fc (a::r)):=by rw[uB,mBs,uB]
def Ec(x:ByteArray)(r:List ByteArray):jh (x::r)=x++jh r:=by
 have d:∀(r:List ByteArray)(a:ByteArray),r.foldl (· ++·) a=a++r.foldl (· ++·) U:=by
  intro r
  induction r with
  |nil=>intro a;exact(nh a).symm
  |cons c r b=>intro a;rw[kF,kF,b (a++c),b (U++c),Eb,dh]
 unfold jh;rw[kF,d,Eb]
def eH{a b:ByteArray}(h:0<a.size):aw (a++b) 0=aw a 0:=by rw[oe,ab h]
def az{a b:ByteArray}(h:0<a.size:=by decide):0<(a++b).size:=by rw[ay];omega
def Bc{f:Int->Bool}{a b:ByteArray}(h:0<a.size:=by decide)(c:f (aw a 0)=M:=by decide):f (aw (a++b) 0)=M:=by rw[eH h];exact c
def Ch(h:ng c=M):yK c=M:=by
 have:∀c∈uA,yK c=M:=by decide
 exact this c (aE h)
def acJ(b:k=40\/k=41\/k=42\/k=43\/k=44\/k=45\/k=46\/k=50)(c:Int):yJ (eC k) k c=M:=by
 have d:nxS k c=M:=by unfold nxS;rw[ab b]
 have a:bK (aw (eC k) 0)=Ax/\cD (aw (eC k) 0)=Ax/\aw (eC k) 0≠34/\aw (eC k) 0≠45:=by rcases b with rfl|rfl|rfl|rfl|rfl|rfl|rfl|rfl<;>decide+kernel
 unfold yJ;rw[aa (by rw[a.1];simp),aa (by rw[a.2.1];simp[a.2.2.1]),d];simp[a.2.2.2]
def lit1{x:ByteArray}(a:k=40\/k=41\/k=42\/k=43\/k=44\/k=45\/k=46\/k=50:=by decide)(h:x=eC k:=by decide+kernel):iJ pz x [sgF k]:=by
 rw[h];exact(ahi (by omega) (by omega) (by rcases a with rfl|rfl|rfl|rfl|rfl|rfl|rfl|rfl<;>decide+kernel)).mono λb _=>acJ a b
def Ci:iJ pz ⟨#[40]⟩ [sgF 40]:=lit1
def Iq:iJ pz ⟨#[41]⟩ [sgF 41]:=lit1
def mi:iJ pz iz [sgF 46]:=lit [46,0]
def ahk{x:ByteArray}{l:List Wt}(h:iJ ng x l)(a:0<x.size):iJ pz (zF x) (sgF 40::(l++[sgF 41])):=by
 have:=(Ci.app h a rfl).app Iq;simpa only[zF,ez,eu] using this
def Cj(x:ByteArray):0<(zF x).size/\aw (zF x) 0=40:=by
 unfold zF;have a:0<(⟨#[40]⟩++x:ByteArray).size:=az;exact⟨az a,by rw[eH a,eH (by decide)];rfl⟩
def kdK(k:Int):Nat:=if k=26 then 0 else if k=34 then 2 else if k=37 then 3 else 1
structure EL (ns:List Nd) (z:Nat) (x:ByteArray) (l:List Wt):Prop where
 pos:0<x.size
 fb:11<=im (ae ns z).k (ae ns z).op->aw x 0≠61/\(aw x 0=45->Dk (ae ns z)=M)
 rd:iJ ng x l
 ba:qc (ae ns z).k=M->iJ yK x l/\xn l (Sh ns z) (kdK (ae ns z).k)
 un:11<=im (ae ns z).k (ae ns z).op->zL l (Sh ns z)
 ex:ni l (Sh ns z) (im (ae ns z).k (ae ns z).op)
 sh:∃K,Sh ns z=one (ae ns z).bare K
 cs:(cst l:Int)+32<=wN ns z
def Ey(ns:List Nd)(z:Nat)(x:ByteArray):Prop:=∃l,EL ns z x l
def ahl(op:Int):3<=(zr op).1/\(zr op).1<=(zr op).2/\(zr op).2<=11:=by
 unfold zr
 repeat' split
 all_goals decide
def oK(k op:Int):1<=im k op/\(im k op<11->k=28\/k=29\/k=31)/\(im k op=11->k=30\/k=31):=by
 have:=ahl op;unfold im
 repeat' split
 all_goals omega
def ahm{op:Int}(h:qc k=M):im k op=12:=by
 unfold qc at h;simp at h;unfold im;rw[aa (by omega),aa (by omega),aa (by omega),aa (by omega)]
def ahn(h:qc N.k=M):Dk N=Ax:=by
 unfold qc at h;simp at h;unfold Dk;have:(N.k==30)=Ax:=by rw[dv];omega
 rw[this];rfl
section
variable {ns : List Nd} {E : Int → ByteArray} {S : Int → Nat → ByteArray} {z : Nat} {x : ByteArray} {l : List Wt}
def EL.par(h:EL ns z x l)(a:(ae ns z).k≠34)(b:(ae ns z).k≠27):iJ pz (zF x) (sgF 40::(l++[sgF 41]))/\xn (sgF 40::(l++[sgF 41])) (Sh ns z) 3/\(cst (sgF 40::(l++[sgF 41])):Int)+10<=wN ns z:=by
 refine⟨ahk h.rd h.pos,?_,by have:=h.cs;simp only[cst,cj,wt,sgF,Int.reduceLT,reduceIte];omega⟩;obtain⟨d,c⟩:=h.sh;have:=h.ex.le (r:=0) (by have:=oK (ae ns z).k (ae ns z).op;omega);rw[c]at this⊢;exact this.par a b
def acK{least:Int}(h:Ey ns z (E z))(e:least<=11):∃l,0<(jH ns E z least).size/\iJ ng (jH ns E z least) l/\ni l (Sh ns z) least/\(cst l:Int)+10<=wN ns z:=by
 obtain⟨l,h⟩:=h;have f:=oK (ae ns z).k (ae ns z).op;unfold jH;split
 .rename_i d;obtain⟨a,b,c⟩:=h.par (by omega) (by omega);exact⟨_,(Cj _).1,a.tt,b.un.ex _,c⟩
 .rename_i d;exact⟨l,h.pos,h.rd,h.ex.le (by omega),by have:=h.cs;omega⟩
def ake(h:Ey ns z (E z)):∃l,0<(jH ns E z 11).size/\iJ ng (jH ns E z 11) l/\zL l (Sh ns z)/\aw (jH ns E z 11) 0≠61/\(aw (jH ns E z 11) 0=45->Dk (ae ns z)=M)/\(cst l:Int)+10<=wN ns z:=by
 obtain⟨l,h⟩:=h;have e:=oK (ae ns z).k (ae ns z).op;unfold jH;split
 .rename_i a;obtain⟨b,c,d⟩:=h.par (by omega) (by omega);have:=Cj (E z);exact⟨_,this.1,b.tt,c.un,by rw[this.2];decide,λa=>(by rw[this.2]at a;cases a),d⟩
 .rename_i a;have:=h.fb (by omega);exact⟨l,h.pos,h.rd,h.un (by omega),this.1,this.2,by have:=h.cs;omega⟩
def aho(h:Ey ns z (E z))(i:(ae ns z).k≠27):∃l e,e<4/\(0<(IL ns E z).size/\aw (IL ns E z) 0≠61/\aw (IL ns E z) 0≠45)/\iJ yK (IL ns E z) l/\xn l (Sh ns z) e/\(cst l:Int)+10<=wN ns z:=by
 obtain⟨l,h⟩:=h;unfold IL;split
 .rename_i a;have d:=h.fb (by rw[ahm a];decide);obtain⟨b,c⟩:=h.ba a;refine⟨l,_,?_,⟨h.pos,d.1,λm=>?_⟩,b,c,by have:=h.cs;omega⟩
  .unfold kdK;repeat' split
   all_goals omega
  .have:=d.2 m;rw[ahn a]at this;cases this
 .rename_i a;have j:(ae ns z).k≠34:=λg=>a (by rw[g];decide);obtain⟨b,c,f⟩:=h.par j i;have:=Cj (E z);exact⟨_,3,by decide,⟨this.1,by rw[this.2];decide,by rw[this.2];decide⟩,b.tt,c,f⟩
def EL.of_ba(j:qc (ae ns z).k=M)(d:0<x.size)(f:aw x 0≠61)(e:aw x 0≠45)(b:iJ yK x l)(a:xn l (Sh ns z) (kdK (ae ns z).k))(h:Sh ns z=one (ae ns z).bare K)(g:(cst l:Int)+32<=wN ns z):Ey ns z x:=
 ⟨l,d,λ_=>⟨f,λc=>absurd c e⟩,b.mono λi=>Ch,λ_=>⟨b,a⟩,λ_=>a.un,a.un.ex _,⟨K,h⟩,g⟩
def EL.of_un(g:qc (ae ns z).k=Ax)(c:0<x.size)(e:aw x 0≠61)(d:aw x 0=45->Dk (ae ns z)=M)(h:iJ ng x l)(b:zL l (Sh ns z))(i:Sh ns z=one (ae ns z).bare K)(f:(cst l:Int)+32<=wN ns z):Ey ns z x:=
 ⟨l,c,λ_=>⟨e,d⟩,h,λa=>(by rw[g]at a;cases a),λ_=>b,b.ex _,⟨K,i⟩,f⟩
def EL.of_ex(e:qc (ae ns z).k=Ax)(b:0<x.size)(h:im (ae ns z).k (ae ns z).op<11)(f:iJ ng x l)(c:ni l (Sh ns z) (im (ae ns z).k (ae ns z).op))(g:Sh ns z=one (ae ns z).bare K)(d:(cst l:Int)+32<=wN ns z):Ey ns z x:=
 ⟨l,b,λa=>by omega,f,λa=>(by rw[e]at a;cases a),λa=>by omega,c,⟨K,g⟩,d⟩
def KE(ns:List Nd)(E:Int->ByteArray)(z:Int):Prop:=∃y:Nat,z=(y:Int)/\Ey ns y (E y)
def vL:∀(r:List Int)(z:Int),(∀y∈z::r,KE ns E y)->∃l,0<(fc ((z::r).map E)).size/\iJ ng (fc ((z::r).map E)) l/\LA l (ql (Sh ns) (z::r))/\(cst l:Int)+21<=wK ns (z::r)
 |[],z,h=>by
  obtain⟨y,rfl,l,a⟩:=h z bg;refine⟨l,?_⟩;rw[dw,List.map_nil,qG,kI];exact⟨a.pos,a.rd,(a.ex.le (by have:=oK (ae ns y).k (ae ns y).op;omega)).es,by have:=a.cs;simp only[wK];omega⟩
 |z2::r,z,h=>by
  obtain⟨y,rfl,l,a⟩:=h z bg;obtain⟨d,e,f,g,i⟩:=vL r z2 λy c=>h y (dm _ c);refine⟨l++(sgF 46::d),?_⟩;rw[dw,dw,pA,<-dw,ql];have b:0<(iz++fc ((z2::r).map E)).size:=az;refine⟨az a.pos,?_,LA.cons (a.ex.le (by have:=oK (ae ns y).k (ae ns y).op;omega)) g,by have:=a.cs;simp only[cj,cst,wt,sgF,Int.reduceLT,reduceIte];rw[wK];omega⟩;have:=a.rd.app (mi.app f e rfl) b Bc;exact this
def ahp{t L R:Int}{sign:ByteArray}(f:Ey ns a (E a))(g:Ey ns b (E b))(h:iJ pz sign [sgF t])(s0:0<sign.size)(u:aw sign 0=32)(d:L=lkw t)(e:R=Jh t)(ht:gx t=M)(i:t<100)(j:t≠7)(k:yi t=Ax):
  ∃l,0<(jH ns E a L++sign++jH ns E b R).size/\iJ ng (jH ns E a L++sign++jH ns E b R) l/\ni l (one (aeh t) ((Sh ns a).app (Sh ns b))) (As t)/\(cst l:Int)<=wN ns a+wN ns b:=by
 subst d e;obtain⟨l,m,n,o,w⟩:=acK (least:=lkw t) f (by have:=Hx t;omega);obtain⟨p,q,r,s,x⟩:=acK (least:=Jh t) g (acm t).2;refine⟨l++(sgF t::p),az (az m),?_,ni.bin o s ht i j k,by have c:wt (sgF t)=11:=aa (show ¬t<5 from λv=>by unfold gx at ht;have:=aE ht;omega);simp only[cj,cst,c];omega⟩;have:=(n.app h s0 (by rw[u];decide)).app r q rfl;exact this.as
def akf:∀op:Fin 19,1<=op.val->As (60+(op.val:Int))=(zr op.val).1/\Jh (60+(op.val:Int))=(zr op.val).2/\lkw (60+(op.val:Int))=(if(zr op.val).2=(zr op.val).1 then(zr op.val).1+1 else(zr op.val).1)/\gx (60+(op.val:Int))=M/\yi (60+(op.val:Int))=Ax/\Cx (60+(op.val:Int))=eC (60+(op.val:Int))/\itC [0,60+(op.val:Int),0]=M:=by decide+kernel
end
def wj:Int->ByteArray
 |1=>⟨#[115,116,97,116,42]⟩
 |2=>⟨#[101,120,112,114,42]⟩
 |3=>⟨#[101,120,112,114]⟩
 |4=>⟨#[102,110]⟩
 |6=>⟨#[99,97,108,108]⟩
 |7=>⟨#[101,120,112,114,32,98,108,111,99,107,32,101,108,115,101,63]⟩
 |8=>⟨#[101,120,112,114,32,98,108,111,99,107]⟩
 |9=>⟨#[101,120,112,114,32,101,120,112,114,32,101,120,112,114,63,32,98,108,111,99,107]⟩
 |10=>⟨#[101,120,112,114,32,98,108,111,99,107]⟩
 |11=>⟨#[]⟩
 |12=>⟨#[]⟩
 |13=>⟨#[101,120,112,114,42]⟩
 |14=>⟨#[98,108,111,99,107,32,98,108,111,99,107]⟩
 |15=>⟨#[101,120,112,114]⟩
 |16=>⟨#[99,97,108,108]⟩
 |20=>⟨#[]⟩
 |21=>⟨#[]⟩
 |22=>⟨#[]⟩
 |23=>⟨#[]⟩
 |24=>⟨#[]⟩
 |25=>⟨#[]⟩
 |26=>⟨#[]⟩
 |27=>⟨#[]⟩
 |28=>⟨#[101,120,112,114,32,101,120,112,114]⟩
 |29=>⟨#[101,120,112,114,32,101,120,112,114]⟩
 |30=>⟨#[101,120,112,114]⟩
 |31=>⟨#[101,120,112,114,32,101,120,112,114]⟩
 |32=>⟨#[98,97,115,101,32,101,120,112,114]⟩
 |33=>⟨#[98,97,115,101]⟩
 |34=>⟨#[98,97,115,101,32,101,120,112,114,42]⟩
 |35=>⟨#[101,110,116,114,121,42]⟩
 |36=>⟨#[98,108,111,99,107]⟩
 |37=>⟨#[109,97,110,121]⟩
 |40=>⟨#[101,120,112,114]⟩
 |41=>⟨#[101,120,112,114,32,101,120,112,114]⟩
 |42=>⟨#[101,120,112,114]⟩
 |_=>⟨#[]⟩
def aa9:Int->Option (List (Nat×Nat))
 |1=>O [(0,1)]
 |2=>O [(3,1)]
 |3=>O [(3,0)]
 |4=>O [(8,0)]
 |6=>O [(6,0)]
 |7=>O [(3,0),(1,0),(2,2)]
 |8=>O [(3,0),(1,0)]
 |9=>O [(3,0),(3,0),(3,2),(1,0)]
 |10=>O [(3,0),(1,0)]
 |11=>O []
 |12=>O []
 |13=>O [(3,1)]
 |14=>O [(1,0),(1,0)]
 |15=>O [(3,0)]
 |16=>O [(6,0)]
 |20=>O []
 |21=>O []
 |22=>O []
 |23=>O []
 |24=>O []
 |25=>O []
 |26=>O []
 |27=>O []
 |28=>O [(3,0),(3,0)]
 |29=>O [(3,0),(3,0)]
 |30=>O [(3,0)]
 |31=>O [(3,0),(3,0)]
 |32=>O [(4,0),(3,0)]
 |33=>O [(4,0)]
 |34=>O [(4,0),(3,1)]
 |35=>O [(9,1)]
 |36=>O [(1,0)]
 |37=>O [(7,0)]
 |40=>O [(3,0)]
 |41=>O [(3,0),(3,0)]
 |42=>O [(3,0)]
 |_=>Q
def nJ:List Int:=[1,2,3,4,6,7,8,9,10,11,12,13,14,15,16,20,21,22,23,24,25,26,27,28,29,30,31,32,33,34,35,36,37,40,41,42]
def Ir(k:Int)(h:k ∉ nJ):aa9 k=Q/\wj k=⟨#[]⟩:=by
 simp only[nJ,ij,mo,mu,not_or]at h;obtain⟨a,j,v,F,J,K,L,ad,b,c,d,e,f,g,i,l,m,n,o,p,q,r,s,t,u,w,x,y,z,A,B,C,E,G,H,I⟩:=h;constructor
 .unfold aa9;split<;>first|rfl|contradiction
 .unfold wj;split<;>first|rfl|contradiction
def KB(k:Int)(h:k∈nJ):∃a,aa9 k=O a/\Lib.fields (wj k).data.toList=a.map (λx=>AG x.1 x.2)/\(∀x∈a,x.1<10/\x.2<3)/\(wj k).size<100/\(∀(j:Nat) b,(wj k).data.toList[j]?=O b->b.toNat<128)/\a.length<10:=by
 have d:∀(c:List UInt8),(c.all λb=>decide (b.toNat<128))=M->∀(j:Nat) b,c[j]?=O b->b.toNat<128:=λc f j b e=>by simpa using List.all_eq_true.1 f b (dz e)
 simp only[nJ,ij,mo,mu]at h;rcases h with rfl|rfl|rfl|rfl|rfl|rfl|rfl|rfl|rfl|rfl|rfl|rfl|rfl|rfl|rfl|rfl|rfl|rfl|rfl|rfl|rfl|rfl|rfl|rfl|rfl|rfl|rfl|rfl|rfl|rfl|rfl|rfl|rfl|rfl|rfl|rfl;all_goals exact⟨_,rfl,rfl,by decide,by decide,d _ (by decide),by decide⟩
def ahq(k:Int)(w:A9)(h:k=1\/k=2\/k=3\/k=4\/k=6\/k=7\/k=8\/k=9\/k=10):B6 X 199 #[B1 B2 k] w λe a=>e= A2 (Ex #[C2 (wj k),B7 M])/\a=w:=by
 rcases h with rfl|rfl|rfl|rfl|rfl|rfl|rfl|rfl|rfl;all_goals
  simp only[wj];go_in;go_wp2;go_ret2;exact⟨rfl,rfl⟩
def ahr(k:Int)(w:A9)(h:k=11\/k=12\/k=13\/k=14\/k=15\/k=16\/k=20\/k=21\/k=22):B6 X 199 #[B1 B2 k] w λe a=>e= A2 (Ex #[C2 (wj k),B7 M])/\a=w:=by
 rcases h with rfl|rfl|rfl|rfl|rfl|rfl|rfl|rfl|rfl;all_goals
  simp only[wj];go_in;go_wp2;go_ret2;exact⟨rfl,rfl⟩
def ahs(k:Int)(w:A9)(h:k=23\/k=24\/k=25\/k=26\/k=27\/k=28\/k=29\/k=30\/k=31):B6 X 199 #[B1 B2 k] w λe a=>e= A2 (Ex #[C2 (wj k),B7 M])/\a=w:=by
 rcases h with rfl|rfl|rfl|rfl|rfl|rfl|rfl|rfl|rfl;all_goals
  simp only[wj];go_in;go_wp2;go_ret2;exact⟨rfl,rfl⟩
def aht(k:Int)(w:A9)(h:k=32\/k=33\/k=34\/k=35\/k=36\/k=37\/k=40\/k=41\/k=42):B6 X 199 #[B1 B2 k] w λe a=>e= A2 (Ex #[C2 (wj k),B7 M])/\a=w:=by
 rcases h with rfl|rfl|rfl|rfl|rfl|rfl|rfl|rfl|rfl;all_goals
  simp only[wj];go_in;go_wp2;go_ret2;exact⟨rfl,rfl⟩
def aeq(k:Int)(w:A9)(h:k ∉ nJ):B6 X 199 #[B1 B2 k] w λe a=>e= A2 (Ex #[C2 ⟨#[]⟩,B7 Ax])/\a=w:=by
 simp only[nJ,ij,mo,mu,not_or]at h;obtain⟨b,m,y,I,ad,af,ak,al,c,d,f,g,i,j,l,n,o,p,q,r,s,t,u,v,x,z,A,B,C,E,F,G,H,J,K,L⟩:=h;go_in;go_wp2;go_ret2;exact⟨rfl,rfl⟩
def KC(k:Int)(w:A9):B6 X 199 #[B1 B2 k] w λe c=>e= A2 (Ex #[C2 (wj k),B7 (aa9 k).isSome])/\c=w:=by
 by_cases h:k∈nJ
 .obtain⟨d,a,_⟩:=KB k h;rw[a,Option.isSome_some];simp only[nJ,ij,mo,mu]at h;rcases(show(k=1\/k=2\/k=3\/k=4\/k=6\/k=7\/k=8\/k=9\/k=10)\/(k=11\/k=12\/k=13\/k=14\/k=15\/k=16\/k=20\/k=21\/k=22)\/(k=23\/k=24\/k=25\/k=26\/k=27\/k=28\/k=29\/k=30\/k=31)\/(k=32\/k=33\/k=34\/k=35\/k=36\/k=37\/k=40\/k=41\/k=42) by omega) with h|h|h|h
  .exact ahq k w h
  .exact ahr k w h
  .exact ahs k w h
  .exact aht k w h
 .obtain⟨a,b⟩:=Ir k h;rw[a,b];exact aeq k w h
def E3(n:Nat):List (Nat×Nat):=List.replicate n (5,0)++[(3,0),(3,1)]
def setB(n:Nat):ByteArray:=⟨(A0 [116,97,114,103,101,116,32] n).toArray⟩++⟨#[101,120,112,114,32,101,120,112,114,42]⟩
def Ah(n:Nat):(setB n).data.toList=A0 [116,97,114,103,101,116,32] n++[101,120,112,114,32,101,120,112,114,42]:=by
 unfold setB;rw[kC];simp
def AJ:∀n,Lib.fields (A0 [116,97,114,103,101,116,32] n++[101,120,112,114,32,101,120,112,114,42])=(E3 n).map λx=>AG x.1 x.2
 |0=>by decide
 |n+1=>by
  have b:=AJ n;have a:Lib.fields (A0 [116,97,114,103,101,116,32] (n+1)++[101,120,112,114,32,101,120,112,114,42])=[116,97,114,103,101,116]::Lib.fields (A0 [116,97,114,103,101,116,32] n++[101,120,112,114,32,101,120,112,114,42]):=by
   rw[A0];rfl
  rw[a,b];rfl
def aba(n:Nat):∀(j:Nat) b,(setB n).data.toList[j]?=O b->b.toNat<128:=by
 rw[Ah];have c:∀(a:List UInt8),(a.all λb=>decide (b.toNat<128))=M->∀b∈a,b.toNat<128:=λa d b hb=>by simpa using List.all_eq_true.1 d b hb
 have e:∀n,∀b∈A0 [116,97,114,103,101,116,32] n,b.toNat<128:=by
  intro n
  induction n with
  |zero=>intro b hb;simp[A0]at hb
  |succ n f=>
   intro b hb;rw[A0]at hb;rcases List.mem_append.1 hb with hb|hb
   .exact c _ (by decide) b hb
   .exact f b hb
 intro j b hb;rcases List.mem_append.1 (dz hb) with h|h
 .exact e n b h
 .exact c _ (by decide) b h
def aer(n:Nat):(setB n).size=7*n+10:=by
 have a:=congrArg List.length (Ah n);rw[aJ,Lib.repeatL_length]at a;simp at a;omega
def akg(n:Nat):∀x∈E3 n,x.1<10/\x.2<3:=by
 intro x hx;unfold E3 at hx;rcases List.mem_append.1 hx with hx|hx
 .rw[(List.mem_replicate.1 hx).2];decide
 .simp at hx;rcases hx with rfl|rfl<;>decide
def KD(w:A9)(b:Nat)(nk s u t v:Int)(n:Nat)(p:n<=200)(vk:Y)(ks:List Int)(f:iL w vk ks)(o:ks.length<=1048576)(i:∀W,Z w.heap.size w W->Ck X W "strings.asciiSpace" .u8 A5)
  (d:w.heap[b]?=O (B3 #[B1 B2 nk,B1 B2 s,B1 B2 u,B1 B2 t,B1 B2 v,vk,B1 B2 (n:Int)] 150 (0,0))):
  B6 X 129 #[Fs 148 (B4 (O ⟨b,0,Q⟩))] w λe x=>e= A2 (B7 (ga (E3 n) ks))/\Z w.heap.size w x:=by
 have E:=λw=>asT b w 148 (by decide);have g:=aaw n w p;have a:=λW (h:Z w.heap.size w W)=>wC W (setB n) (E3 n) vk ks (by rw[Ah];exact AJ n) (akg n) (by rw[aer];omega) (aba n) (i W h) (f.below h) o (by unfold E3;rw[aJ,List.length_replicate];simp;omega);obtain⟨k,l,rfl⟩:=f.form;have c5:w.cell? ⟨b,5,Q⟩=O (Ce k ks.length l):=by rw[am _ _ _ _ _ _ d];rfl
 have C:w.cell? ⟨b,6,Q⟩=O (B1 B2 (n:Int)):=by rw[am _ _ _ _ _ _ d];rfl
 have q:((⟨(A0 [116,97,114,103,101,116,32] n).toArray⟩:ByteArray)).size=7*n:=by
  have e:((⟨(A0 [116,97,114,103,101,116,32] n).toArray⟩:ByteArray)).size=(A0 [116,97,114,103,101,116,32] n).length:=by simp[ByteArray.size]
  rw[e,Lib.repeatL_length];simp;omega
 unfold setB at a;generalize ga (E3 n) ks=A at a⊢;generalize ks.length=z at a c5;generalize (⟨(A0 [116,97,114,103,101,116,32] n).toArray⟩:ByteArray)=B at a g q;have j:=aq c5;clear d f i c5;go_in;go_wp21
 refine g.mono ?_;rintro e y ⟨rfl,c⟩;have c5:=ah c j.out;have r:=a y c;clear a g;go_wp21
 refine r.mono ?_;rintro e F ⟨rfl,m⟩;go_wp21
 go_ret;exact⟨rfl,c.trans (m.mono c.size)⟩
def asS(k:Int)(h:fC k≠1)(b:Nat)(w:A9):(Instr.typeAssert (Fs (po (fC k)) (B4 (O ⟨b,0,Q⟩))) 52 148 M).run X w= .ok (Ex #[B4 Q,B7 Ax]) w:=by
 have a:=h;rcases Dw k with g|g|g|g|g|g|g<;>rw[g]at a⊢;all_goals first|exact absurd rfl a|exact asF b w _ _ (by decide) (by decide) (by decide)
def rkB(k:Int)(ks:List Int):Bool:=match aa9 k with|some a=>ga a ks|none=>Ax
def KF(w:A9)(b:Nat)(k:Int)(i:fC k≠1)(vk:Y)(ks:List Int)(f:iL w vk ks)(u:ks.length<=1048576)(j:Ck X w "strings.asciiSpace" .u8 A5)
  (C:w.cell? ⟨b,0,Q⟩=O (B1 B2 k)) (c5:w.cell? ⟨b,5,Q⟩=O vk):
  B6 X 129 #[gg k b] w λe x=>e= A2 (B7 (rkB k ks))/\Z w.heap.size w x:=by
 have n:=λw=>asS k i b w;have o:=λw=>rJ k b w;have p:=λw=>fJ b w;have a:=λw=>KC k w;unfold gg rkB;by_cases g:k∈nJ
 .obtain⟨q,c,d,l,r,m,s⟩:=KB k g;have h:=wC w (wj k) q vk ks d l (by omega) m j f u (by omega);rw[c]at a⊢;simp only[Option.isSome_some]at a⊢;obtain⟨B,E,rfl⟩:=f.form;generalize ks.length=y at h c5;generalize ga q ks=z at h⊢;generalize wj k=A at h a;generalize po (fC k)=v at n o⊢;clear f j d l r m s c g i;go_in;go_wp2_with (first|(go_at_call 303;refine ft (p _) ?_)|(go_at_call 199;refine ft (a _) ?_)|(go_at_call 198;refine h.mono ?_;rintro e F ⟨rfl,t⟩));go_ret;exact⟨rfl,t⟩
 .obtain⟨c,d⟩:=Ir k g;rw[c,d]at a;rw[c];simp only[Option.isSome_none]at a⊢;generalize po (fC k)=v at n o⊢;clear f j g i c d;go_in;go_wp2_with (first|(go_at_call 303;refine ft (p _) ?_)|(go_at_call 199;refine ft (a _) ?_));go_ret;exact⟨rfl,ai _ _⟩
def ffB(N:Nd)(L:Nat):Nat->Bool
 |0=>decide (1<=(N.nm.length:Int)/\(N.nm.length:Int)<=DF N.k)&&ug N.nm N.nm.length 0
 |1=>decide (1<=N.n/\N.n<(L:Int))
 |2=>M
 |3=>txB N.k N.x
 |4=>if N.k=30 then(decide ((19:Int)<=N.op)&&decide (N.op<=22)) else(decide ((1:Int)<=N.op)&&decide (N.op<=18))
 |5=>ug N.nm N.nm.length 0
 |_=>M
def E4(w:A9)(lb mb:Nat)(i:Y)(h:Lk w lb mb i)(b:Nat)(N:Nd)(vn:Y)(c:Int)(m:Option Addr)(L ck:Nat)(v:L<=1048576)(p:dk w vn N.nm)(o:N.nm.length<=1048576)(q:∀s∈N.nm,s.size<=1048576)(z:N.x.size<=1048576)(a:gJ w b N vn c (Ce m L ck)):
  B6 X 128 #[B4 (O ⟨lb,0,Q⟩),gg N.k b] w λe d=>e= A2 (B7 (ffB N L (fC N.k)))/\Z w.heap.size w d:=by
 unfold gJ at a;unfold gg;have g:∀{j:Bool},(B6 X 128 #[B4 (O ⟨lb,0,Q⟩),Fs (po (fC N.k)) (B4 (O ⟨b,0,Q⟩))] w λe d=>e= A2 (B7 j)/\d=w)->(B6 X 128 #[B4 (O ⟨lb,0,Q⟩),Fs (po (fC N.k)) (B4 (O ⟨b,0,Q⟩))] w λe d=>e= A2 (B7 j)/\Z w.heap.size w d):=λy=>y.mono λe d ⟨r,u⟩=>⟨r,u ▸ ai _ _⟩;rcases Dw N.k with hc|hc|hc|hc|hc|hc|hc
 .refine g ?_;rw[hc]at a⊢;exact ff0 w lb mb i h b N.k N.f N.t N.l c _ vn N.nm p o q a
 .rw[hc]at a⊢;exact ff1 w lb b N.k N.f N.t N.l c N.n m L ck v a
 .refine g ?_;rw[hc]at a⊢;exact ff2 w lb b
 .rw[hc]at a⊢;exact ff3 w lb mb i h b N.k N.f N.t N.l c _ N.x (by omega) a
 .refine g ?_;rw[hc]at a⊢;exact ff4 w lb b N.k N.f N.t N.l c N.op _ a
 .refine g ?_;rw[hc]at a⊢;exact ff5 w lb mb i h b N.k N.f N.t N.l c _ vn (decide (N.op=1)) N.nm p o q a
 .refine g ?_;rw[hc]at a⊢;exact ff6 w lb b
def gJ.cells{a:Int}(h:gJ W b N vn a kv):W.cell? ⟨b,0,Q⟩=O (B1 B2 N.k)/\W.cell? ⟨b,1,Q⟩=O (B1 B2 N.f)/\W.cell? ⟨b,2,Q⟩=O (B1 B2 N.t)/\W.cell? ⟨b,4,Q⟩=O (B1 B2 a)/\W.cell? ⟨b,5,Q⟩=O kv/\∀j,W.frozen? ⟨b,j,Q⟩=Ax:=by
 unfold gJ at h;refine⟨?_,?_,?_,?_,?_,λj=>ch _ _ _ _ _ h⟩
 .rw[am _ _ _ _ _ _ h];simp
 .rw[am _ _ _ _ _ _ h];simp
 .rw[am _ _ _ _ _ _ h];simp
 .rw[am _ _ _ _ _ _ h];simp
 .rw[am _ _ _ _ _ _ h];simp
def kfB(N:Nd)(ks:List Int):Bool:=if fC N.k=1 then ga (E3 N.n.toNat) ks else rkB N.k ks
def KG(w:A9)(b:Nat)(N:Nd)(vn d:Y)(j:Int)(ks:List Int)(g:iL w d ks)(h:ks.length<=1048576)(i:∀W,Z w.heap.size w W->Ck X W "strings.asciiSpace" .u8 A5)(c:gJ w b N vn j d)(o:fC N.k=1->0<=N.n/\N.n<=200):
  B6 X 129 #[gg N.k b] w λe p=>e= A2 (B7 (kfB N ks))/\Z w.heap.size w p:=by
 unfold kfB;by_cases a:fC N.k=1
 .rw[ab a];obtain⟨q,r⟩:=o a;unfold gJ at c;unfold gg;rw[a]at c⊢;have e:N.n=((N.n.toNat:Nat):Int):=by omega
  refine KD w b N.k N.f N.t N.l j N.n.toNat (by omega) d ks g h i ?_;rw[<-e];exact c
 .rw[aa a];obtain⟨m,_,_,_,c5,_⟩:=c.cells;exact KF w b N.k a d ks g h (i w (ai _ _)) m c5
structure Im where
 N:Nd
 b:Nat
 vn:Y
 kv:Y
def nV(x:Im):Y:=gg x.N.k x.b
def qm(L:List Im)(ks:List Int):List Y:=ks.map λz=>match L[z.toNat]? with|some y=>nV y|none=> F0
structure mH (W:A9) (base:Nat) (vs:Y) (L:List Im):Prop where
 row:W.ownsRow base 52 1 vs L.length (L.map nV)
 box:∀(i:Nat) x,L[i]?=O x->gJ W x.b x.N x.vn i x.kv
 kid:∀(i:Nat) x,L[i]?=O x->W.ownsRow base 52 1 x.kv x.N.ks.length (qm (L.take i) x.N.ks)
 far:∀x∈L,x.kv.ownBlock=Q\/x.kv.ownBlock≠vs.ownBlock
 rng:∀(i:Nat) x z,L[i]?=O x->z∈x.N.ks->0<=z/\z<(i:Int)
def gJ.below{a:Int}(h:gJ W b N vn a kv)(c:Z W.heap.size W W'):gJ W' b N vn a kv:=(c.block _ (aj h)).trans h
def mH.below{base:Nat}{L:List Im}(h:mH W base vs L)(a:Z W.heap.size W W'):mH W' base vs L:=
 ⟨cJ h.row a,λc d b=>(h.box c d b).below a,λc d b=>cJ (h.kid c d b) a,h.far,h.rng⟩
def rj{f g:Array Y}{d e:E1}{h i:Nat×Nat}(j:W.heap[a]?=O (B3 f d h))(k:W.heap[b]?=O (B3 g e i))(ht:d≠e):a≠b:=by
 rintro rfl;have c:=j.symm.trans k;simp only[fi,jL]at c;exact ht c.2.1
def qo(c:Nat):xb c≠52/\xb c≠165/\xb c≠62:=by
 unfold xb;split<;>decide
def Ed{cs:Array Y}{t:E1}{f:Nat×Nat}(h:W.ownsMap X 9 (plainElem (H:=Unit) X 3) mb 22 (zi 22))(c:W.heap[b]?=O (B3 cs t f)):mb≠b:=by
 rintro rfl;obtain⟨e,d,a,g⟩:=h;rw[c]at a;cases a
def acL(W:A9)(g:Nat):Prop:=∃a,W.heap[g]?=O (B3 a 52 (0,0))
def pI{base n g:Nat}{v:Y}{xs:List Y}(h:W.ownsRow base 52 1 v n xs)(b:v.ownBlock=O g):acL W g/\base<=g:=by
 rcases bB h with⟨_,rfl⟩|⟨d,i,rfl⟩
 .simp[B0]at b
 .obtain rfl:d=g:=by simpa [B0] using b
  rcases h.2 with⟨a,_⟩|⟨k,j,c,a,e,f,_⟩
  .cases a
  .cases a;exact⟨⟨c,f⟩,e⟩
structure Be (w0:A9) (lb mb p bn:Nat) (vs:Y) (L:List Im) (N:Nd) (vn vk kv:Y) (j:Nat) (W:A9):Prop where
 lk:Lk W lb mb vs
 ns:mH W w0.heap.size vs L
 rb:mD p W 62 N vn vk
 bx:gJ W bn N vn L.length kv
 kr:W.ownsRow w0.heap.size 52 1 kv j (qm L (N.ks.take j))
 fr:kv.ownBlock=Q\/kv.ownBlock≠vs.ownBlock
 fo:∀x∈L,x.kv.ownBlock=Q\/x.kv.ownBlock≠kv.ownBlock
 bl:Z w0.heap.size w0 W
 lo:w0.heap.size<=lb/\w0.heap.size<=bn/\w0.heap.size<=p
def Be.below{L:List Im}(h:Be w0 lb mb p bn vs L N vn vk kv j W)(a:Z W.heap.size W W'):Be w0 lb mb p bn vs L N vn vk kv j W':=
 ⟨h.lk.below a,h.ns.below a,h.rb.below a,h.bx.below a,cJ h.kr a,h.fr,h.fo,h.bl.trans (a.mono h.bl.size),h.lo⟩
def Be.kid{L:List Im}(ao:ou w0)(h:Be w0 lb mb p bn vs L N vn vk kv j W)(s:W.grownBy W' kv.ownBlock){g f H:Nat}(v:W'.ownsRow w0.heap.size 52 1 (Ce (O ⟨g,0,Q⟩) (j+1) f) (j+1) (qm L (N.ks.take (j+1))))(an:kv.ownBlock=O g\/g=H)(au:W.heap.size=H):
  gJ W' bn N vn L.length kv/\Be w0 lb mb p bn vs L N vn vk (Ce (O ⟨g,0,Q⟩) (j+1) f) (j+1) (W'.setCell ⟨bn,5,Q⟩ (Ce (O ⟨g,0,Q⟩) (j+1) f)):=by
 have A:∀a,kv.ownBlock=O a->acL W a/\w0.heap.size<=a:=λa t=>pI h.kr t;have x:∀{o:Nat}{q:Array Y}{k:E1},W.heap[o]?=O (B3 q k (0,0))->k≠52->W'.heap[o]?=O (B3 q k (0,0)):=λd B=>
  (s.block _ (aj d) (λe=>by obtain⟨⟨u,r⟩,_⟩:=A _ e.symm;exact rj d r B rfl)).trans d
 have l:gJ W' bn N vn L.length kv:=x h.bx (qo _).1;have af:Z w0.heap.size w0 W':=h.bl.grown s h.bl.size (λa t=>(A a t).2);have G:Z w0.heap.size w0 (W'.setCell ⟨bn,5,Q⟩ (Ce (O ⟨g,0,Q⟩) (j+1) f)):=af.setCell h.lo.2.1 _;have set:∀{o:Nat}{q:Array Y}{k:E1},W'.heap[o]?=O (B3 q k (0,0))->k≠xb (fC N.k)->(W'.setCell ⟨bn,5,Q⟩ (Ce (O ⟨g,0,Q⟩) (j+1) f)).heap[o]?=O (B3 q k (0,0)):=λd B=>
  (aC _ _ _ _ (λe=>by exact rj d l B e)).trans d
 have C:∀{J:Y}{I:Nat}{ad:List Y},W'.ownsRow w0.heap.size 52 1 J I ad->(W'.setCell ⟨bn,5,Q⟩ (Ce (O ⟨g,0,Q⟩) (j+1) f)).ownsRow w0.heap.size 52 1 J I ad:=λv=>
  v.kept (row:=O bn) ⟨rfl,rfl,rfl,by simp[World.setCell],λa t n=>aC _ _ _ _ (λe=>n (by rw[e]))⟩ (by
   cases hv:B0 _ with
   |none=>exact .inl rfl
   |some a=>exact .inr (λe=>by obtain⟨⟨u,r⟩,_⟩:=pI v hv;obtain rfl:=bc e;exact rj l r (qo _).1 rfl))
 have K:vs.ownBlock=Q\/vs.ownBlock≠kv.ownBlock:=by
  rcases h.fr with e|e
  .cases hv:vs.ownBlock with
   |none=>exact .inl rfl
   |some a=>rw[e];exact .inr (by simp)
  .exact .inr (dA e)
 have E:∀a,a<W.heap.size->kv.ownBlock≠O a->O g≠O a:=λa t n e=>by
  obtain rfl:=bc e;rcases an with e2|e2
  .exact n e2
  .omega
 refine⟨l,⟨⟨set (x h.lk.b (by decide)) (dA (qo _).2.1),?_,ao.keep G⟩,⟨C (h.ns.row.kept s K),?_,?_,h.ns.far,h.ns.rng⟩,set (x h.rb (by decide)) (dA (qo _).2.2),?_,C v,?_,?_,G,h.lo⟩⟩
 .have F:=sJ h.lk.m (s.block _ h.lk.m.lt (λe=>by obtain⟨⟨u,r⟩,_⟩:=A _ e.symm;exact Ed h.lk.m r rfl));exact sJ F (aC _ _ _ _ (λe=>by exact Ed F l e))
 .intro i b c;have d:=x (h.ns.box i b c) (qo _).1;by_cases n:b.b=bn
  .exfalso;have y:=h.ns.box i b c;have e2:=h.bx;unfold gJ at y e2;rw[n,e2]at y;have ak:=congrArg (λar=>match ar with|some (Obj.cells u _ _)=>u[4]?|_=>Q) y;simp at ak;have av:i<L.length:=(List.getElem?_eq_some_iff.1 c).1;omega
  .exact(aC _ _ _ _ n).trans d
 .intro i b c;exact C ((h.ns.kid i b c).kept s (h.fo b (dz c)))
 .unfold gJ at l⊢;have:=aL W' bn 5 _ _ (Ce (O ⟨g,0,Q⟩) (j+1) f) l;rw[this];simp
 .refine .inr λe=>?_;have w:=e.symm;have z:=(h.ns.row.lt g w).2;exact E g z (by rcases K with e2|e2;rw[e2]at w;cases w;rw[w]at e2;exact dA e2) rfl
 .intro b c;cases hxk:b.kv.ownBlock with
  |none=>exact .inl rfl
  |some a=>
   refine .inr λe=>?_;obtain⟨i,ap,al⟩:=gG c;have z:=((h.ns.kid i b (by rw[aA ap,al])).lt a hxk).2;refine E a z ?_ e.symm;rcases h.fo b c with e2|e2
   .rw[hxk]at e2;cases e2
   .rw[hxk]at e2;exact dA e2
def Be.start{w:A9}{L:List Im}(t:ou w0)(r:mH w w0.heap.size vs L)(A:w.heap.size<=bn)(u:lb≠bn)(v:p≠bn)(lk:Lk W lb mb vs)(ns:mH W w0.heap.size vs L)(x:mD p W 62 N vn vk)(bx:gJ W bn N vn 0 (Ce Q 0 0))(q:Z w0.heap.size w0 W)(lo:w0.heap.size<=lb/\w0.heap.size<=bn/\w0.heap.size<=p):
  Be w0 lb mb p bn vs L N vn vk (Ce Q 0 0) 0 (W.setCell ⟨bn,4,Q⟩ (B1 B2 L.length)):=by
 have i:Z w0.heap.size w0 (W.setCell ⟨bn,4,Q⟩ (B1 B2 L.length)):=q.setCell lo.2.1 _;have e:∀{f:Nat},f≠bn->(W.setCell ⟨bn,4,Q⟩ (B1 B2 L.length)).heap[f]?=W.heap[f]?:=λg=>aC _ _ _ _ g;have l:∀{n:Y}{k:Nat}{o:List Y},W.ownsRow w0.heap.size 52 1 n k o->(W.setCell ⟨bn,4,Q⟩ (B1 B2 L.length)).ownsRow w0.heap.size 52 1 n k o:=λh=>
  h.kept (row:=O bn) ⟨rfl,rfl,rfl,by simp[World.setCell],λj z g=>aC _ _ _ _ (λb=>g (by rw[b]))⟩ (by
   cases hv:B0 _ with
   |none=>exact .inl rfl
   |some j=>exact .inr (λb=>by obtain⟨⟨y,s⟩,_⟩:=pI h hv;obtain rfl:=bc b;exact rj bx s (qo _).1 rfl))
 refine⟨⟨(e u).trans lk.b,sJ lk.m (e (λb=>Ed lk.m bx b)),t.keep i⟩,⟨l ns.row,λd a c=>?_,λd a c=>l (ns.kid d a c),ns.far,ns.rng⟩,(e v).trans x,?_,?_,.inl rfl,λa c=>?_,i,lo⟩
 .have:=aj (r.box d a c);exact(e (by omega)).trans (ns.box d a c)
 .unfold gJ at bx⊢;have:=aL W bn 4 _ _ (B1 B2 L.length) bx;rw[this];simp
 .rw[Bk];exact eI _ _ _ _
 .cases a.kv.ownBlock with
  |none=>exact .inl rfl
  |some j=>exact .inr (by simp[B0])
def uC(g m:Nat):(⟨g,0,Q⟩:Addr).add m=⟨g,m,Q⟩:=by unfold Addr.add;split<;>simp_all
def Be.done{L:List Im}(al:ou w0)(h:Be w0 lb mb p bn vs L N vn vk kv N.ks.length W)(ar:∀z∈N.ks,0<=z/\z<(L.length:Int)){a:Y}(s:W.grownBy W' vs.ownBlock)(l:W'.ownsRow w0.heap.size 52 1 a (L.length+1) (L.map nV++[gg N.k bn]))(ak:a.ownBlock=vs.ownBlock\/a.ownBlock=O W.heap.size):
  W'.heap[lb]?=O (B3 #[.map (O mb),vs] 165 (0,0))/\
  Lk (W'.setCell ⟨lb,1,Q⟩ a) lb mb a/\mH (W'.setCell ⟨lb,1,Q⟩ a) w0.heap.size a (L++[⟨N,bn,vn,kv⟩])/\gJ (W'.setCell ⟨lb,1,Q⟩ a) bn N vn L.length kv/\Z w0.heap.size w0 (W'.setCell ⟨lb,1,Q⟩ a):=by
 have y:∀k,vs.ownBlock=O k->acL W k/\w0.heap.size<=k:=λk w=>pI h.ns.row w;have C:∀{n:Nat}{o:Array Y}{j:E1},W.heap[n]?=O (B3 o j (0,0))->j≠52->W'.heap[n]?=O (B3 o j (0,0)):=λd A=>
  (s.block _ (aj d) (λe=>by obtain⟨⟨G,r⟩,_⟩:=y _ e.symm;exact rj d r A rfl)).trans d
 have t:=C h.lk.b (by decide);have ad:Z w0.heap.size w0 W':=h.bl.grown s h.bl.size (λk w=>(y k w).2);have J:Z w0.heap.size w0 (W'.setCell ⟨lb,1,Q⟩ a):=ad.setCell h.lo.1 _;have set:∀{n:Nat}{o:Array Y}{j:E1},W'.heap[n]?=O (B3 o j (0,0))->j≠165->(W'.setCell ⟨lb,1,Q⟩ a).heap[n]?=O (B3 o j (0,0)):=λd A=>
  (aC _ _ _ _ (λe=>by exact rj d t A e)).trans d
 have E:∀{c:Y}{u:Nat}{v:List Y},W'.ownsRow w0.heap.size 52 1 c u v->(W'.setCell ⟨lb,1,Q⟩ a).ownsRow w0.heap.size 52 1 c u v:=λl=>
  l.kept (row:=O lb) ⟨rfl,rfl,rfl,by simp[World.setCell],λk w ap=>aC _ _ _ _ (λe=>ap (by rw[e]))⟩ (by
   cases B:B0 _ with
   |none=>exact .inl rfl
   |some k=>exact .inr (λe=>by obtain⟨⟨G,r⟩,_⟩:=pI l B;obtain rfl:=bc e;exact rj t r (by decide) rfl))
 have F:gJ (W'.setCell ⟨lb,1,Q⟩ a) bn N vn L.length kv:=set (C h.bx (qo _).1) (qo _).2.1;have I:=sJ h.lk.m (s.block _ h.lk.m.lt (λe=>by obtain⟨⟨G,r⟩,_⟩:=y _ e.symm;exact Ed h.lk.m r rfl));have an:qm L (N.ks.take N.ks.length)=qm L N.ks:=by rw[Bt]
 have x:=h.kr;rw[an]at x;have H:∀{c:Y}{u:Nat}{v:List Y},W.ownsRow w0.heap.size 52 1 c u v->(c.ownBlock=Q\/c.ownBlock≠vs.ownBlock)->(c.ownBlock=Q\/c.ownBlock≠a.ownBlock):=λl B=>by
  rcases B with e|e
  .exact .inl e
  .rename_i c u v;cases d:c.ownBlock with
   |none=>exact .inl rfl
   |some k=>
    have:=(l.lt k d).2;rcases ak with e2|e2
    .rw[e2,<-d];exact .inr e
    .rw[e2];exact .inr (by simp only[ne_eq,fi];omega)
 refine⟨t,⟨aL W' lb 1 _ _ _ t,sJ I (aC _ _ _ _ (λe=>by exact Ed I t e)),al.keep J⟩,⟨?_,?_,?_,?_,?_⟩,F,J⟩
 .rw[aJ,dK];exact E l
 .intro b f hx;rcases bC b L.length with g|g
  .rw[iq g]at hx;exact set (C (h.ns.box b f hx) (qo _).1) (qo _).2.1
  .rw[gh g]at hx;obtain⟨q,i⟩:=List.getElem?_eq_some_iff.1 hx;simp at q i;subst i;obtain rfl:b=L.length:=by omega
   exact F
 .intro b f hx;rcases bC b L.length with g|g
  .rw[iq g]at hx;rw[List.take_append_of_le_length (by omega)];exact E ((h.ns.kid b f hx).kept s (h.ns.far f (dz hx)))
  .rw[gh g]at hx;obtain⟨q,i⟩:=List.getElem?_eq_some_iff.1 hx;simp at q i;subst i;obtain rfl:b=L.length:=by omega
   rw[List.take_left];exact E (x.kept s h.fr)
 .intro f hx;rcases List.mem_append.1 hx with hx|hx
  .obtain⟨b,ao,af⟩:=gG hx;exact H (h.ns.kid b f (by rw[aA ao,af])) (h.ns.far f hx)
  .obtain rfl:=List.mem_singleton.1 hx;exact H x h.fr
 .intro b f z hx K;rcases bC b L.length with g|g
  .rw[iq g]at hx;exact h.ns.rng b f z hx K
  .rw[gh g]at hx;obtain⟨q,i⟩:=List.getElem?_eq_some_iff.1 hx;simp at q i;subst i;obtain rfl:b=L.length:=by omega
   exact ar z K
def kinds(ns:List Nd)(ks:List Int):List Int:=ks.map λz=>(ns.getD z.toNat Fi).k
def mH.kids{base:Nat}{L:List Im}(h:mH W base vs L)(s:L.map Im.N=ns.take L.length){x:Im}(j:L[i]?=O x):iL W x.kv (kinds ns x.N.ks):=by
 have e:=h.kid i x j;have n:(kinds ns x.N.ks).length=x.N.ks.length:=by simp[kinds]
 have w:i<L.length:=(List.getElem?_eq_some_iff.1 j).1;rcases bB e with⟨z,f⟩|⟨q,p,f⟩
 .exact .inl ⟨jK (by omega),_,_,f⟩
 .rw[f]at e⊢;refine .inr ⟨⟨q,0,Q⟩,p,by rw[n],?_,λl A c=>?_⟩
  .rw[n];rcases e.2 with⟨g,_⟩|⟨v,t,u,g,_,_,r,_⟩
   .cases g
   .cases g;exact r
  .unfold kinds at c;rw[cH]at c;cases hz:x.N.ks[l]? with
   |none=>rw[hz]at c;cases c
   |some d=>
    rw[hz]at c;obtain rfl:=bc c;obtain⟨z0,B⟩:=h.rng i x d j (dz hz);obtain⟨a,k⟩:∃a,L[d.toNat]?=O a:=⟨L[d.toNat]'(by omega),aA _⟩;have o:(ns.getD d.toNat Fi)=a.N:=by
     have m:(L.map Im.N)[d.toNat]?=O a.N:=by rw[cH,k];rfl
     rw[s,mJ,ab (by omega)]at m;rw[aK,m];rfl
    have y:l<x.N.ks.length:=(List.getElem?_eq_some_iff.1 hz).1;refine⟨a.b,?_,?_⟩
    .rw[uC,e.cellAt l (by omega)];unfold qm;rw[cH,hz];simp only[uL];rw[mJ,ab (by omega),k,o];rfl
    .show W.cell? ⟨a.b,0,Q⟩=O (B1 B2 (ns.getD d.toNat Fi).k);rw[o];exact(h.box _ a k).cells.1
def aes:(Tryz.prog.info? 52).map (λi=>(i.zero,i.size,i.bytes))=O (O F0,1,16):=by kernel_rfl
def E5(N:Nd):Bool:=decide (0<=N.f/\N.f<=N.t/\0<=N.l/\N.ks.length<=200/\N.nm.length<=200)
def E6(ns:List Nd)(i:Nat)(N:Nd):Bool:=
 E5 N&&(AI (oy N (fC N.k)) N&&(I2 N.ks i N.ks.length 0&&(ffB N N.ks.length (fC N.k)&&kfB N (kinds ns N.ks))))
def Is(b:A9)(lb mb:Nat)(L:List Im)(ns:List Nd)(N:Nd)(vn:Y)(e:Ending)(a:A9):Prop:=
 e= A2 (B7 (E6 ns L.length N))/\Z b.heap.size b a/\(E6 ns L.length N=M->∃c x,x.N=N/\x.vn=vn/\Lk a lb mb c/\mH a b.heap.size c (L++[x]))
def aet(w:A9)(lb:Nat)(N:Nd)(vn vk:Y)(g:dk w vn N.nm)(f:dB w vk N.ks)(d:kH N)(h:E5 N=Ax):
  B6 X 68 #[B4 (O ⟨lb,0,Q⟩),jl N vn vk] w λe p=>e= A2 (B7 Ax)/\Z w.heap.size w p:=by
 have b:∀c,Z w.heap.size w (w.alloc c):=λc=>(ai _ w).alloc (ag _) c;obtain⟨q,s,rfl⟩:=g.form;obtain⟨r,t,rfl⟩:=f.form;have l:=d.l1;have m:=d.l2;unfold E5 at h;have a:=mj h;unfold jl;generalize N.nm.length=j at l a⊢;generalize N.ks.length=k at m a⊢;clear g f d h;obtain⟨A,i,o,n,F,C,G,E,B⟩:=N;simp only at a⊢;by_cases u:i<0
 .clear a;go_in;go_wp2;go_ret;exact⟨rfl,b _⟩
 by_cases v:o<i
 .clear a;go_in;go_wp2;go_ret;exact⟨rfl,b _⟩
 by_cases x:n<0
 .clear a;go_in;go_wp2;go_ret;exact⟨rfl,b _⟩
 by_cases y:(200:Int)<(k:Int)
 .clear a;go_in;go_wp2;go_ret;exact⟨rfl,b _⟩
 have z:(200:Int)<(j:Int):=by omega
 clear a;go_in;go_wp2;go_ret;exact⟨rfl,b _⟩
def KH(c:Z W.heap.size W W'){a:Addr}(b:a.block<W.heap.size){r:Bool}(h:W.frozen? a=r):W'.frozen? a=r:=by
 rw[<-h];exact World.frozen?_of_block (c.block _ b)
def aq6{w:A9}(h:dk w vn N.nm)(k:Int):dk w (tJ vn (fC k)) (oy N (fC k)).nm:=by
 rcases Dw k with hc|hc|hc|hc|hc|hc|hc
 .rw[hc];exact h
 .rw[hc];exact .inl ⟨rfl,_,_,rfl⟩
 .rw[hc];exact .inl ⟨rfl,_,_,rfl⟩
 .rw[hc];exact .inl ⟨rfl,_,_,rfl⟩
 .rw[hc];exact .inl ⟨rfl,_,_,rfl⟩
 .rw[hc];exact h
 .rw[hc];exact .inl ⟨rfl,_,_,rfl⟩
def ahu(k:Int)(h:N.nm.length<=1048576):(oy N (fC k)).nm.length<=1048576:=by
 rcases Dw k with hc|hc|hc|hc|hc|hc|hc
 .rw[hc];exact h
 .rw[hc];exact aI _
 .rw[hc];exact aI _
 .rw[hc];exact aI _
 .rw[hc];exact aI _
 .rw[hc];exact h
 .rw[hc];exact aI _
def ahv(e w:A9)(F:ou e)(H:Z e.heap.size e w)(lb mb:Nat)(hb:e.heap.size<=lb)(cc:Y)(L:List Im)(h:Lk w lb mb cc)(ey:mH w e.heap.size cc L)(N:Nd)(vn vk:Y)(cr:dk e vn N.nm)(a9:dB e vk N.ks)(J:kH N)(gu:L.length<=3000)(ns:List Nd)(e6:L.map Im.N=ns.take L.length)(ar:ns[L.length]?=O N)(au:∀W,Z e.heap.size e W->Ck X W "strings.asciiSpace" .u8 A5)(cq:E5 N=M):
  B6 X 68 #[.pointer (O ⟨lb,0,Q⟩),jl N vn vk] w (Is e lb mb L ns N vn):=by
 have cb:=λW (c6:Z w.heap.size w W)=>LL W N vn vk (by obtain⟨cF,br,k⟩:=cr.form;exact⟨_,_,_,k⟩) (by obtain⟨cF,br,k⟩:=a9.form;exact⟨_,_,_,k⟩);obtain⟨bh,b5⟩:=aF (E6 ns L.length N);unfold Is;rw[b5];unfold E6 at b5;rw[cq,gB]at b5;obtain⟨o,p,rfl⟩:=cr.form;obtain⟨a4,a7,rfl⟩:=a9.form;unfold E5 at cq;obtain⟨ge,gf,gn,gp,gr⟩:=aE cq;have v:E2 (Lk w lb mb cc/\mH w e.heap.size cc L/\dk e (.slice o N.nm.length p) N.nm/\dB e (.slice a4 N.ks.length a7) N.ks/\kH N/\L.map Im.N=ns.take L.length/\(∀W,Z e.heap.size e W->Ck X W "strings.asciiSpace" .u8 A5)/\ou e/\Z e.heap.size e w/\ns[L.length]?=O N):=⟨h,ey,cr,a9,J,e6,au,F,H,ar⟩;have er:=aq b5;have h7:¬N.f<0:=by omega
 have h8:¬N.t<N.f:=by omega
 have h9:¬N.l<0:=by omega
 unfold jl at cb⊢;obtain⟨n,c7⟩:=aF N.nm.length;obtain⟨q,c8⟩:=aF N.ks.length;have ce:=gE c7 c8;rw[c7]at cb v gr⊢;rw[c8]at cb v gp⊢;have ia:¬(200:Int)<(q:Int):=by omega
 have ib:¬(200:Int)<(n:Int):=by omega
 have i5:lb<w.heap.size:=aj v.1.b;clear c7 c8 cr a9 J e6 au F H h ey b5 cq ge gf gn ar;go_in;go_wp2_with fail;generalize eA:w.alloc _=et;obtain⟨cw,dd,hq⟩:=al1 eA;replace cw:mD w.heap.size et 62 N (.slice o n p) (.slice a4 q a7):=cw;clear eA;refine(cb et dd).mono ?_;rintro k A ⟨rfl,b6,da⟩;rw[hq]at b6⊢;obtain⟨i,g9⟩:=aF (w.heap.size+1+1+1);rw[g9]at b6⊢;have em:=cw.below da;have bj:Z w.heap.size w A:=dd.trans (da.mono (by omega));obtain⟨bs,bt,bv,bw,bE,b0,b1,b2,b3,gb⟩:=be em;have cI:Z A.heap.size A A.drew:=bH (ai _ A);have ds:dk A.drew (.slice o n p) N.nm:=((v.2.2.1.below v.2.2.2.2.2.2.2.2.1).below bj).below cI;have af:=FE A.drew i N (.slice o n p) (.slice Q 0 0) 0 ⟨_,_,_,rfl⟩ (b6.below cI);have ax:=λW (c6:Z A.drew.heap.size A.drew W)=>Dz W (oy N (fC N.k)) N (tJ (.slice o n p) (fC N.k)) (.slice Q 0 0) (.slice o n p) (.slice a4 q a7) ((aq6 ds N.k).below c6) (ds.below c6) ⟨_,_,_,rfl⟩ ⟨_,_,_,rfl⟩ (ahu _ v.2.2.2.2.1.l1) v.2.2.2.2.1.l1;obtain⟨h1,i9,h2,e8⟩:∃cF hC br,tJ (.slice o n p) (fC N.k)= .slice cF hC br:=by
  unfold tJ;split<;>exact⟨_,_,_,rfl⟩
 rw[e8]at af ax;unfold jl at af ax;obtain⟨hE,ec⟩:=aF (AI (oy N (fC N.k)) N);rw[ec]at ax;have cf:=aq ec;obtain⟨hK,ea⟩:=aF (oy N (fC N.k));rw[ea]at af ax cf;clear ec ds e8 cb cw dd da;have hl:=λw=>rJ N.k i w;have hv:=λw=>fJ i w;unfold gg at af⊢;have hJ:E2 (po (fC N.k)=po (fC N.k)):=rfl;generalize ed:po (fC N.k)=en at af hl⊢;go_wp2_with fail;cases hE with
 |false=>
  have E:E2 (Ax=bh):=by have:=er.out;rw[ea,cf.out,fw]at this;exact this
  go_region_held3 (λm=>m.cell? ⟨w.heap.size,0,Q⟩=O (.int .i64 N.k)/\m.cell? ⟨w.heap.size,1,Q⟩=O (.int .i64 N.f)/\m.cell? ⟨w.heap.size,2,Q⟩=O (.int .i64 N.t)/\m.cell? ⟨w.heap.size,3,Q⟩=O (.int .i64 N.l)/\m.cell? ⟨w.heap.size,4,Q⟩=O (.int .i64 N.op)/\m.cell? ⟨w.heap.size,5,Q⟩=O (.int .i64 N.n)/\m.cell? ⟨w.heap.size,6,Q⟩=O (.string N.x)/\m.cell? ⟨w.heap.size,7,Q⟩=O (.slice o n p)/\m.cell? ⟨w.heap.size,8,Q⟩=O (.slice a4 q a7)) (first|go_keep|exact⟨ah j (ah a bs),ah j (ah a bt),ah j (ah a bv),ah j (ah a bw),ah j (ah a bE),ah j (ah a b0),ah j (ah a b1),ah j (ah a b2),ah j (ah a b3)⟩|exact⟨ah a bs,ah a bt,ah a bv,ah a bw,ah a bE,ah a b0,ah a b1,ah a b2,ah a b3⟩) (first|(go_at_call 33;refine af.mono ?_;rintro k hI ⟨rfl,a⟩)|(go_at_call 127;refine(ax _ a).mono ?_;rintro k a0 ⟨rfl,j⟩))
  go_wp2_with fail;go_ret;have g7:Z w.heap.size w a0:=bj.trans (((bH (ai _ A)).trans (a.trans (j.mono a.size))).mono bj.size);exact⟨by rw[<-E.out];rfl,v.2.2.2.2.2.2.2.2.1.trans (g7.mono v.2.2.2.2.2.2.2.2.1.size),λh=>by rw[<-E.out]at h;cases h⟩
 |true=>
  have fB:E2 ((I2 N.ks L.length N.ks.length 0&&(ffB N N.ks.length (fC N.k)&&kfB N (kinds ns N.ks)))=bh):=by have:=er.out;rw[ea,cf.out,gB]at this;exact this
  go_region_held3 (λm=>m.cell? ⟨w.heap.size,0,Q⟩=O (.int .i64 N.k)/\m.cell? ⟨w.heap.size,1,Q⟩=O (.int .i64 N.f)/\m.cell? ⟨w.heap.size,2,Q⟩=O (.int .i64 N.t)/\m.cell? ⟨w.heap.size,3,Q⟩=O (.int .i64 N.l)/\m.cell? ⟨w.heap.size,4,Q⟩=O (.int .i64 N.op)/\m.cell? ⟨w.heap.size,5,Q⟩=O (.int .i64 N.n)/\m.cell? ⟨w.heap.size,6,Q⟩=O (.string N.x)/\m.cell? ⟨w.heap.size,7,Q⟩=O (.slice o n p)/\m.cell? ⟨w.heap.size,8,Q⟩=O (.slice a4 q a7)) (first|go_keep|exact⟨ah j (ah a bs),ah j (ah a bt),ah j (ah a bv),ah j (ah a bw),ah j (ah a bE),ah j (ah a b0),ah j (ah a b1),ah j (ah a b2),ah j (ah a b3)⟩|exact⟨ah a bs,ah a bt,ah a bv,ah a bw,ah a bE,ah a b0,ah a b1,ah a b2,ah a b3⟩) (first|(go_at_call 33;refine af.mono ?_;rintro k hI ⟨rfl,a⟩)|(go_at_call 127;refine(ax _ a).mono ?_;rintro k a0 ⟨rfl,j⟩))
  have cn:Z A.heap.size A a0:=(bH (ai _ A)).trans (a.trans (j.mono a.size));have cl:Z w.heap.size w a0:=bj.trans (cn.mono bj.size);obtain⟨lk,ba,ct,dg,J,cu,au,F,H,ar⟩:=v.out;have ev:Z e.heap.size e a0:=H.trans (cl.mono H.size);have ei:=lk.below cl;have el:=ba.below cl;have fu:=em.below cn;have bo:=b6.below cn;have hs:=H.size;have d:=Be.start F ba (by omega) (by omega) (by omega) ei el fu bo ev ⟨hb,by omega,hs⟩;obtain⟨an,ao,bb⟩:=bJ el.row;have ex:a0.cell? ⟨lb,1,Q⟩=O (.slice an L.length ao):=by rw[<-bb,am _ _ _ _ _ _ ei.b];rfl
  have c0:=bo.cells.2.2.2.1;have c4:=bo.cells.2.2.2.2.2;have g8:i<a0.heap.size:=aj bo;have bf:=aq d;obtain⟨g,dx⟩:=aF L.length;rw[dx]at ex bf gu;have G:=aq dx;clear d ei el fu bo cn lk ba ct dg J cu au F H ar bs bt bv bw bE b0 b1 b2 b3 gb af ax b6 em cI cf dx;go_wp2_with (go_at_call 303;refine(hv _).mono ?_;rintro k w5 ⟨rfl,rfl⟩);obtain⟨fm,eL,fd,ff,fg⟩:=eD aes;clear ex c0 c4 cl ev g8 bb;go_loopw [54] (λep wr=>∃(c:Nat) (fn:Y),ep= .int .i64 c/\c<=q/\E2 ((I2 N.ks g (q-c) c&&(ffB N q (fC N.k)&&kfB N (kinds ns N.ks)))=bh)/\E2 (∀r∈N.ks.take c,0<=r/\r<(g:Int))/\E2 (Be e lb mb w.heap.size i cc L N (.slice o n p) (.slice a4 q a7) fn c wr)) (λep _=>q-(intOf ep).toNat)
  case atStart=>
   refine⟨0,_,rfl,aI _,?_,λr I=>by simp at I,bf⟩;have:=fB.out;rw[G.out,ce.out.2]at this;exact this
  case round=>
   obtain⟨c,fn,rfl,i1,cd,es,bd⟩:=hrel;clear bf;have d:=bd.out;have C:=cd.out;by_cases hh:c<q
   .obtain⟨r,I⟩:=cA ce.2 hh;obtain⟨h0,g0,iy⟩:=(v.2.2.2.1.below d.bl).get I;subst g0;have i3:(c:Int)<(q:Int):=by omega
    have i2:(0:Int)<=(c:Int):=by omega
    have c0:=d.bx.cells.2.2.2.1;rw[G.out]at c0;rw[show q-c=(q-(c+1))+1 by omega,I2,aK,I,iu]at C;by_cases a8:0<=r/\r<(g:Int)
    .obtain⟨ek,rfl⟩:=iw a8.1;have gt:ek<g:=by omega
     obtain⟨al,ee⟩:=cA G.out gt;have ca:=d.ns.row;rw[G.out]at ca;rcases bB ca with⟨i7,_⟩|⟨b4,cs,bb⟩
     .omega
     subst bb;have f9:wr.cell? ⟨lb,1,Q⟩=O (.slice (O ⟨b4,0,Q⟩) g cs):=by rw[am _ _ _ _ _ _ d.lk.b];rfl
     have ew:wr.cell? ⟨b4,ek,Q⟩=O (.iface (po (fC al.N.k)) (.pointer (O ⟨al.b,0,Q⟩))):=by
      rw[ca.cellAt ek (by omega),cH,ee];rfl
     obtain⟨s,u,dn⟩:=bJ d.kr;subst dn;have gd:=d.bx.cells.2.2.2.2.1;have c4:=d.bx.cells.2.2.2.2.2 5;have e1:=d.kr;have cB:E2 (qm L (N.ks.take (c+1))=qm L (N.ks.take c)++[.iface (po (fC al.N.k)) (.pointer (O ⟨al.b,0,Q⟩))]):=by
      show _=_;rw[ie,I];unfold qm;rw[dK];simp[ee,nV,gg]
     have fA:E2 ((I2 N.ks g (q-(c+1)) (c+1)&&(ffB N q (fC N.k)&&kfB N (kinds ns N.ks)))=bh):=by
      rw[bp a8,gB]at C;exact C
     have f7:E2 (∀r∈N.ks.take (c+1),0<=r/\r<(g:Int)):=λr fk=>by
      rw[ie,I]at fk;rcases List.mem_append.1 fk with h|h
      .exact es r h
      .simp at h;subst h;exact a8
     have hx:lb<wr.heap.size:=aj d.lk.b;have hA:i<wr.heap.size:=aj d.bx;have i8:b4<wr.heap.size:=(ca.lt b4 rfl).2;have eh:∀eg,(Br s c u).ownBlock=O eg->acL wr eg:=λeg a9=>(pI e1 a9).1;have ji:O lb≠(Br s c u).ownBlock:=λk=>by obtain⟨br,b7⟩:=eh lb k.symm;exact rj d.lk.b b7 (by decide) rfl
     have fq:O i≠(Br s c u).ownBlock:=λk=>by obtain⟨br,b7⟩:=eh i k.symm;exact rj d.bx b7 (qo _).1 rfl
     have j0:O b4≠(Br s c u).ownBlock:=λk=>by
      rcases d.fr with e2|e2
      .rw[e2]at k;cases k
      .exact e2 k.symm
     have ht:e.heap.size<=wr.heap.size:=d.bl.size;have f6:E2 (po (fC al.N.k)=po (fC al.N.k)):=rfl;generalize po (fC al.N.k)=eo at ew cB f6;generalize al.b=eq at ew cB;have bk:∀B,Z wr.heap.size wr (wr.alloc B).drew:=λB=>bH ((ai _ wr).alloc (ag _) B);clear d C ee I a8 ca eh;go_wp2_with fail;go_region_law (refine step_append_lies _ (by rfl) _ _ _ (by rfl) e.heap.size 52 fm _ 1 16 Tryz.underlying88 eL fd ff fg rfl (by omega) (.slice s c u) c (qm L (N.ks.take c)) (by rfl) ((e1.alloc _).drew) ⟨wr.heap.size,0,Q⟩ 1 1 [.iface eo (.pointer (O ⟨eq,0,Q⟩))] (by rfl) (by rfl) (World.news_of_block (cs:=#[.iface eo (.pointer (O ⟨eq,0,Q⟩))]) (t:=52) (fr:=(0,0)) (aB wr _)) (by simp[Value.oneCell']) (by omega) (by unfold maxLen;omega) (by omega) (by simp;omega) (wr.heap.size+1) (by simp) ?_;intro h6 h3 w5 b9 b8 c9 i4;have h4:=(b8.cell_far ⟨i,5,Q⟩ (by simp;omega) fq).trans (ah (bk _) gd);have h5:=(b8.frozen_far ⟨i,5,Q⟩ (by simp;omega) fq).trans (KH (bk _) hA c4))
     all_goals
      go_wp2_with fail;obtain⟨_,ba,_,_,_,_,_,F,_,_⟩:=v.out;have hH:=bd.below (bk (.cells #[.iface eo (.pointer (O ⟨eq,0,Q⟩))] 52));rw[<-cB.out]at b9;obtain⟨_,stB⟩:=hH.kid F b8 b9 c9 (by simp);exact⟨⟨c+1,_,by go_num,by omega,fA,f7,stB⟩,by simp[intOf];omega⟩
    .have E:E2 (Ax=bh):=by rw[aD a8,fw,fw]at C;exact C
     have eF:=d.bl;by_cases ih:r<0
     .clear C d bd cd I;go_wp2_with fail;go_ret;exact⟨by rw[<-E.out];rfl,eF,λh=>by rw[<-E.out]at h;cases h⟩
     .have ii:¬r<(g:Int):=by omega
      clear C d bd cd I a8;go_wp2_with fail;go_ret;exact⟨by rw[<-E.out];rfl,eF,λh=>by rw[<-E.out]at h;cases h⟩
   .obtain rfl:c=q:=by omega
    rw[fG,I2,gB]at C;obtain⟨s,u,dn⟩:=bJ d.kr;subst dn;obtain⟨an,ao,bb⟩:=bJ d.ns.row;subst bb;rw[G.out];have f9:wr.cell? ⟨lb,1,Q⟩=O (.slice an g ao):=by rw[<-G.out,am _ _ _ _ _ _ d.lk.b];rfl
    have eb:=d.ns.row;rw[G.out]at eb;have ht:e.heap.size<=wr.heap.size:=d.bl.size;have hx:lb<wr.heap.size:=aj d.lk.b;have bk:∀B,Z wr.heap.size wr (wr.alloc B):=λB=>(ai _ wr).alloc (ag _) B;have bf:=aq d;have fF:=aq C;have f0:=aq eb;clear C d bd cd eb;obtain⟨_,ba,ct,dg,J,cu,au,F,H,ar⟩:=v.out;have fz:E2 (∀B w5 z y,(wr.alloc B).grownBy w5 (Br an g ao).ownBlock->w5.ownsRow e.heap.size 52 1 (.slice (O ⟨z,0,Q⟩) (g+1) y) (g+1) (L.map nV++[.iface en (.pointer (O ⟨i,0,Q⟩))])->((Br (O ⟨z,0,Q⟩) (g+1) y).ownBlock=(Br an g ao).ownBlock\/(Br (O ⟨z,0,Q⟩) (g+1) y).ownBlock=O (wr.alloc B).heap.size)->
      w5.heap[lb]?=O (.cells #[.map (O mb),.slice an g ao] 165 (0,0))/\Lk (w5.setCell ⟨lb,1,Q⟩ (.slice (O ⟨z,0,Q⟩) (g+1) y)) lb mb (.slice (O ⟨z,0,Q⟩) (g+1) y)/\mH (w5.setCell ⟨lb,1,Q⟩ (.slice (O ⟨z,0,Q⟩) (g+1) y)) e.heap.size (.slice (O ⟨z,0,Q⟩) (g+1) y) (L++[⟨N,i,.slice o n p,.slice s c u⟩])/\gJ (w5.setCell ⟨lb,1,Q⟩ (.slice (O ⟨z,0,Q⟩) (g+1) y)) i N (.slice o n p) g (.slice s c u)/\Z e.heap.size e (w5.setCell ⟨lb,1,Q⟩ (.slice (O ⟨z,0,Q⟩) (g+1) y))):=by
     intro B w5 z y ha hm c9;have hG:=bf.below (bk B);have d9:=G.out;have dq:=ce.2;subst dq;subst d9;have hp:∀r∈N.ks,0<=r/\r<(L.length:Int):=by
      have:=es.out;rw[Bt]at this;exact this
     refine hG.done F hp ha ?_ c9;unfold gg;rw[ed];exact hm
    clear ba H F;go_wp2_with (at_builtin;refine wpList_append_own_at _ rfl _ _ 88 rfl e.heap.size 52 fm _ 1 16 Tryz.underlying88 eL fd ff fg rfl (by decide) _ _ _ rfl (f0.alloc _) ⟨wr.heap.size,0,Q⟩ 1 1 [.iface en (.pointer (O ⟨i,0,Q⟩))] rfl rfl (World.news_of_block (cs:=#[.iface en (.pointer (O ⟨i,0,Q⟩))]) (fr:=(0,0)) (aB wr _)) (by intro j1 e9;simp at e9;subst e9;rfl) (by unfold maxLen;omega) (by omega) (by simp;omega) ?_;intro j2 w5 b9 b8 i6 g6;obtain⟨z,y,rfl⟩:=ownsRow_succ b9;obtain⟨fo,cy,cz,cp,a5⟩:=fz.out _ w5 z y b8 b9 g6;have j4:w5.cell? ⟨lb,1,Q⟩=O (.slice an g ao):=by {rw[am _ _ _ _ _ _ fo];rfl};have j5:w5.frozen? ⟨lb,1,Q⟩=Ax:=ch _ _ _ _ _ fo);generalize w5.setCell ⟨lb,1,Q⟩ (.slice (O ⟨z,0,Q⟩) (g+1) y)=f8 at cy cz cp a5⊢;have d9:=G.out;have dq:=ce.2;have fb:(L++[⟨N,i,.slice o n p,.slice s c u⟩])[g]?=O ⟨N,i,.slice o n p,.slice s c u⟩:=by rw[<-d9];simp
    have e7:(L++[(⟨N,i,.slice o n p,.slice s c u⟩:Im)]).map Im.N=ns.take (L++[(⟨N,i,.slice o n p,.slice s c u⟩:Im)]).length:=by
     rw[dK,cu,aJ,Bi,ie,ar];rfl
    have e0:=cz.kids e7 fb;have ad:=E4 f8 lb mb _ cy i N (.slice o n p) g s c u (by omega) (ct.below a5) J.l1 J.ls J.lx cp;unfold gg at ad;rw[ed]at ad;have K:=fF.out;cases hfb:ffB N c (fC N.k) with
    |false=>
     rw[hfb]at ad K;rw[fw]at K;have E:=aq K;refine ad.mono ?_;rintro k fv ⟨rfl,ap⟩;have a6:=a5.trans (ap.mono a5.size);clear K hfb ad;go_wp2_with fail;go_ret;exact⟨by rw[<-E.out];rfl,a6,λh=>by rw[<-E.out]at h;cases h⟩
    |true=>
     rw[hfb]at ad K;rw[gB]at K;have e3:fC N.k=1->0<=N.n/\N.n<=200:=λb7=>by
      rw[b7]at hfb;have:=aE (show decide (1<=N.n/\N.n<(c:Int))=M from hfb);omega
     refine ad.mono ?_;rintro k fv ⟨rfl,ap⟩;have a6:=a5.trans (ap.mono a5.size);have hw:=cy.below ap;have hD:=cz.below ap;have hd:(kinds ns N.ks).length<=1048576:=by unfold kinds;rw[bi,dq];omega
     have cx:=KG fv i N (.slice o n p) (.slice s c u) g (kinds ns N.ks) (e0.below ap) hd (λW gv=>au W (a6.trans (gv.mono a6.size))) (cp.below ap) e3;rw[K]at cx;unfold gg at cx;rw[ed]at cx;clear K hfb ad e3 e0 fb e7 cy cz cp ar cu au J ct dg;go_wp2_with (go_at_call 129;refine cx.mono ?_;rintro k j3 ⟨rfl,dc⟩);go_ret;exact⟨rfl,a6.trans (dc.mono a6.size),λ_=>⟨_,_,rfl,rfl,hw.below dc,hD.below dc⟩⟩
def ahw(a w:A9)(l:ou a)(b:Z a.heap.size a w)(lb mb:Nat)(n:a.heap.size<=lb)(c:Y)(L:List Im)(h:Lk w lb mb c)(j:mH w a.heap.size c L)(N:Nd)(vn vk:Y)(f:dk a vn N.nm)(e:dB a vk N.ks)(g:kH N)(i:L.length<=3000)(ns:List Nd)(o:L.map Im.N=ns.take L.length)(m:ns[L.length]?=O N)(p:∀W,Z a.heap.size a W->Ck X W "strings.asciiSpace" .u8 A5):
  B6 X 68 #[B4 (O ⟨lb,0,Q⟩),jl N vn vk] w (Is a lb mb L ns N vn):=by
 cases hf:E5 N with
 |true=>exact ahv a w l b lb mb n c L h j N vn vk f e g i ns o m p hf
 |false=>
  refine du (aet w lb N vn vk (f.below b) (e.below b) g hf) λq k=>?_;have d:E6 ns L.length N=Ax:=by unfold E6;rw[hf,fw]
  exact⟨by rw[d],b.trans (k.mono b.size),λh=>by rw[d]at h;cases h⟩
