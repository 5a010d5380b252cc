import Derived.Test.YtoahhnnflblfaaaGreatDoorHVk28
import Derived.Test.YtoahhnnflblfaaaGreatDoorHVk19
import Derived.Test.YtoahhnnflblfaaaGreatDoorHVk29
set_option linter.all false
set_option maxRecDepth 100000
set_option maxHeartbeats 6400000
open Bool renaming true->M,false->W
open Go.Value renaming int->O,string->Y,tuple->A0,agg->A4
open Go.IntKind renaming i64->Q
open ByteArray renaming empty->U
open Go.Lib renaming hasPrefix->Z
open Option renaming some->Ax
open Go.Proofs.Tryz renaming prog->A1
open Go.Ending renaming returned->A2
open Go.Obj renaming cells->A3
namespace Go.Proofs.YtoahhnnflblfaaaGreatDoor
open Go.RowKit Go.Maps Go.WideMaps
theorem aeJ{ns:List Nd}(h:(cF ns).1=0):∀(i:Nat) N,ns[i]?=Ax N->iJ ns i N=M:=by
 unfold cF at h;by_cases d:gJ ns=M
 ·rw[ab d]at h;exact absurd h (by decide)
 rw[aa d]at h;obtain⟨e,c⟩:=aA (gp (eC ns) ns.length 0);rw[c]at h;cases e with
 |some i=>rw[tf2]at h;exact absurd h (by simp)
 |none=>
  have f:=ny c;intro i N b;have g:i<ns.length:=(List.getElem?_eq_some_iff.1 b).1;have a:=f i (aG _) (by omega);unfold eC at a;rw[bc,b,ii]at a;simpa using a
theorem akJ{N:Nd}{a b d:Bool}(h:aD N a b W d=M):N.x.size<=4000:=by
 unfold aD at h;simp only[cL,D8]at h;have:=aH h.1.2;have c:N.x.toList.length=0:=by rw[this];rfl
 rw[gw]at c;have:N.x.size=0:=by simpa using c
 omega
theorem aeK{s:ByteArray}(h:jo s=M):s.size<=4000:=by
 have:=(aH h).1;omega
theorem amG{s:ByteArray}(h:fok s=M):s.size<=4000:=by
 unfold fok at h;rw[cL]at h;have:=aH h.1;omega
theorem je{ns:List Nd}{i:Nat}{N:Nd}(h:iJ ns i N=M):mq ns N=M/\N.ks.length<=200:=by
 unfold iJ at h;rw[cL,cL]at h;exact⟨h.2.2,(aH h.1).2.2.2⟩
theorem qc{ns:List Nd}{N:Nd}(h:mq ns N=M)(a:17<=N.k):jp ns N=M:=by
 unfold mq at h
 rwa [aa (by unfold ja;rw[decide_eq_true_eq];omega)]at h
theorem nD{ns:List Nd}{N:Nd}(h:mq ns N=M)(a:1<=N.k/\N.k<=16):stB ns N=M:=by
 unfold mq at h
 rwa [ab (by unfold ja;rw[decide_eq_true_eq];omega)]at h
theorem aeL{ns:List Nd}{N:Nd}(h:mq ns N=M):(1<=N.k/\N.k<=16)\/(20<=N.k/\N.k<=37)\/(40<=N.k/\N.k<=42):=by
 by_cases a:1<=N.k/\N.k<=16
 ·exact .inl a
 ·unfold mq at h;rw[aa (by unfold ja;rw[decide_eq_true_eq];exact a)]at h;by_cases b:(20<=N.k/\N.k<=37)\/(40<=N.k/\N.k<=42)
  ·exact .inr b
  ·unfold jp at h
   repeat rw[aa (by omega)]at h
   cases h
theorem EK{ns:List Nd}{N:Nd}(h:mq ns N=M):aD N (decide (N.k=30\/N.k=31\/N.k=36)) (decide (N.k=5\/N.k=23)) (decide (N.k=24\/N.k=25\/N.k=26\/N.k=33\/N.k=42)) (decide (N.k=2\/N.k=3\/N.k=4\/N.k=9\/N.k=10\/N.k=14\/N.k=36))=M:=by
 rcases aeL h with g|g|g
 ·have h:=nD h g;unfold stB at h;rcases(show N.k=1\/N.k=2\/N.k=3\/N.k=4\/N.k=5\/N.k=6\/N.k=7\/N.k=8\/N.k=9\/N.k=10\/N.k=11\/N.k=12\/N.k=13\/N.k=14\/N.k=15\/N.k=16 by omega) with e|e|e|e|e|e|e|e|e|e|e|e|e|e|e|e;all_goals (simp[e]at h;simp[e,h])
 ·have h:=qc h (by omega);unfold jp at h;rcases(show N.k=20\/N.k=21\/N.k=22\/N.k=23\/N.k=24\/N.k=25\/N.k=26\/N.k=27\/N.k=28\/N.k=29\/N.k=30\/N.k=31\/N.k=32\/N.k=33\/N.k=34\/N.k=35\/N.k=36\/N.k=37 by omega) with e|e|e|e|e|e|e|e|e|e|e|e|e|e|e|e|e|e;all_goals (simp[e]at h;simp[e,h])
 ·have h:=qc h (by omega);unfold jp at h;rcases(show N.k=40\/N.k=41\/N.k=42 by omega) with e|e|e;all_goals (simp[e]at h;simp[e,h])
theorem Jw{ns:List Nd}{i:Nat}{N:Nd}(h:iJ ns i N=M):N.x.size<=4000:=by
 have b:=(je h).1;have a:=EK b;by_cases c:N.k=24\/N.k=25\/N.k=26\/N.k=33\/N.k=42
 ·have h:=qc b (by omega);unfold jp at h;rcases c with e|e|e|e|e<;>simp[e]at h
  ·exact amG h.2
  ·omega
  all_goals exact aeK h.2
 ·rw[az c]at a;exact akJ a
theorem LK(ns:List Nd):∀i,gC (ns.take i)=(gC ns).take i:=by
 refine vK (p:=fun ns=>∀i,gC (ns.take i)=(gC ns).take i) ?_ ?_ ns
 ·intro i;simp[gC]
 ·intro a x c i;rcases bv i (a++[x]).length with h|h
  ·have b:i<=a.length:=by rw[aF]at h;simp at h;omega
   rw[List.take_append_of_le_length b,c,rj,List.take_append_of_le_length (by rw[jw];exact b)]
  ·rw[cI h,cI (by rw[jw];exact h)]
theorem Jy{ns:List Nd}{i:Nat}{N:Nd}(h:ns[i]?=Ax N):(gC ns).getD i 0=po ((gC ns).take i) i N.ks:=by
 have e:i<ns.length:=(List.getElem?_eq_some_iff.1 h).1;have b:ns.take (i+1)=ns.take i++[N]:=by rw[gG,h];rfl
 have a:=LK ns (i+1);rw[b,rj,LK,gx,jw,sI (by omega),gG]at a;have c:(gC ns)[i]?=Ax ((gC ns).getD i 0):=by
  rw[bc,aE (by rw[jw];exact e)];rfl
 rw[c]at a;have d:=List.append_cancel_left a;simpa using d.symm
def rF(S:List Int):List Int->Int
 |[]=>0
 |k::l=>S.getD k.toNat 0+rF S l
theorem ae0(S:List Int)(a b:List Int):rF S (a++b)=rF S a+rF S b:=by
 induction a with
 |nil=>simp[rF]
 |cons d l c=>simp only[fy,rF,c];omega
theorem ae1(S:List Int)(l:List Int):rF S l.reverse=rF S l:=by
 induction l with
 |nil=>rfl
 |cons b l a=>rw[List.reverse_cons,ae0,a];simp only[rF];omega
theorem LL{S:List Int}:∀(l:List Int)(a b:Int),rG S l a=Ax b->b=a-rF S l
 |[],a,b,h=>by simp[rG]at h;simp[rF];omega
 |k::r,a,b,h=>by
  rw[rG]at h;split at h
  ·have:=LL r _ _ h;simp only[rF];omega
  ·cases h
theorem ae2(S:List Int)(i:Nat)(l:List Int)(h:∀k∈l,0<=k/\k<(i:Int)):rF (S.take i) l=rF S l:=by
 induction l with
 |nil=>rfl
 |cons k l c=>
  have a:=h k bz;have b:(S.take i).getD k.toNat 0=S.getD k.toNat 0:=by
   rw[bc,bc,List.getElem?_take_of_lt (by omega)]
  simp only[rF,b,c fun k a=>h k (dm _ a)]
structure amH (ns:List Nd):Prop where
 at_:∀(i:Nat) N,ns[i]?=Ax N->(gC ns).getD i 0=1+rF (gC ns) N.ks
 le:∀i,(gC ns).getD i 0<=3000
theorem ah0{ns:List Nd}(h:(cF ns).1=0):amH ns:=by
 have f:=lL h;unfold cF at h;by_cases j:gJ ns=M
 ·rw[ab j]at h;exact absurd h (by decide)
 rw[aa j]at h;obtain⟨k,r⟩:=aA (gp (eC ns) ns.length 0);rw[r]at h;cases k with
 |some i=>rw[tf2]at h;exact absurd h (by simp)
 |none=>
  rw[tf2]at h;obtain⟨m,g⟩:=aA (gp (fp (gC ns)) ns.length 0);rw[g]at h;cases m with
  |some i=>rw[LI]at h;exact absurd h (by simp)
  |none=>
   have s:=ny g;have t:yu (gC ns):=uw ns (fun N b e d=>by
    obtain⟨i,hi,c⟩:=fL b;exact(f.kid i N (by rw[aE hi,c]) e d).1)
   refine⟨fun i N b=>?_,fun i=>?_⟩
   ·have hi:i<ns.length:=(List.getElem?_eq_some_iff.1 b).1;have a:=s i (aG _) (by omega);unfold fp at a;rw[Jy b]at a⊢;unfold po at a⊢;cases hw:rG ((gC ns).take i) N.ks.reverse i with
    |none=>rw[hw]at a;simp at a
    |some o=>
     have c:=LL _ _ _ hw;rw[ae1,ae2 _ _ _ (fun e d=>f.kid i N b e d)]at c;show(i:Int)-o+1=_;omega
   ·rcases bv i ns.length with hi|hi
    ·have p:(gC ns)[i]?=Ax ((gC ns).getD i 0):=by
      rw[bc,aE (by rw[jw];exact hi)];rfl
     have:=t i _ p;have:=f.len;omega
    ·rw[bc,fm (by rw[jw];exact hi)];decide
theorem lh(ns:List Nd)(N:Nd)(j:Nat):eu ns N j=(ad ns (bJ N j)).k:=rfl
theorem iz{ns:List Nd}{N:Nd}:∀(f j:Nat),iF ns N f j=M->∀q,j<=q->q<j+f->eK (ad ns (bJ N q)).k=M
 |0,j,_,q,a,b=>by omega
 |f+1,j,h,q,a,b=>by
  rw[iF,cL]at h;rcases jg a with rfl|h3
  ·exact h.1
  ·exact iz f (j+1) h.2 q h3 (by omega)
theorem Dr{ns:List Nd}{N:Nd}:∀(f j:Nat),G8 ns N f j=M->∀q,j<=q->q<j+f->ja (ad ns (bJ N q)).k=M
 |0,j,_,q,a,b=>by omega
 |f+1,j,h,q,a,b=>by
  rw[G8,cL]at h;rcases jg a with rfl|h3
  ·exact h.1
  ·exact Dr f (j+1) h.2 q h3 (by omega)
theorem Ds{k:Int}(h:rx k=M):eK k=M:=by
 have:=aH h;exact bg (by omega)
theorem ai9{ns:List Nd}{N:Nd}:∀(f j:Nat),C7 ns N f j=M->∀q,j<=q->q<j+f->eK (ad ns (bJ N q)).k=M
 |0,j,_,q,a,b=>by omega
 |f+1,j,h,q,a,b=>by
  rw[C7,cL]at h;rcases jg a with rfl|h3
  ·exact Ds h.1
  ·exact ai9 f (j+1) h.2 q h3 (by omega)
theorem aaa{ns:List Nd}{N:Nd}:∀(f j:Nat),Gp ns N f j=M->∀q,j<=q->q<j+f->40<=(ad ns (bJ N q)).k/\(ad ns (bJ N q)).k<=42
 |0,j,_,q,a,b=>by omega
 |f+1,j,h,q,a,b=>by
  rw[Gp,cL]at h;rcases jg a with rfl|h3
  ·exact aH h.1
  ·exact aaa f (j+1) h.2 q h3 (by omega)
structure Kid (ns:List Nd) (i:Nat) (N:Nd) (j q:Nat):Prop where
 at_:N.ks[j]?=Ax (q:Int)
 lt:q<i
 len:q<ns.length
 id:bJ N j=(q:Int)
theorem il{ns:List Nd}{i:Nat}{N:Nd}(h:iJ ns i N=M)(d:i<ns.length)(j:Nat)(b:j<N.ks.length):∃q,Kid ns i N j q:=by
 unfold iJ at h;rw[cL,cL]at h;have c:=wo N.ks i N.ks.length 0 h.2.1 j (by omega) (by omega);have a:N.ks[j]?=Ax (N.ks.getD j 0):=by rw[bc,aE b];rfl
 refine⟨(N.ks.getD j 0).toNat,?_,by omega,by omega,?_⟩
 ·rw[a];congr 1;omega
 ·show N.ks.getD j 0=_;omega
theorem oG{N:Nd}{z:Int}(h:z∈N.ks):∃j,j<N.ks.length/\bJ N j=z:=by
 obtain⟨j,a,b⟩:=fL h;exact⟨j,a,by unfold bJ;rw[bc,aE a];exact b⟩
theorem og{ns:List Nd}{N:Nd}(h:mq ns N=M)(a:N.k=28\/N.k=29\/N.k=31\/N.k=32\/N.k=41):N.ks.length=2/\iF ns N 2 0=M/\(N.k=31->1<=N.op/\N.op<=18):=by
 have h:=qc h (by omega);unfold jp at h;rcases a with e|e|e|e|e<;>simp[e]at h<;>exact⟨by omega,by simp[h],by omega⟩
theorem pu{ns:List Nd}{N:Nd}(h:mq ns N=M)(a:N.k=30\/N.k=33\/N.k=37\/N.k=40\/N.k=42):N.ks.length=1/\eK (ad ns (bJ N 0)).k=M/\(N.k=30->19<=N.op/\N.op<=22):=by
 have h:=qc h (by omega);unfold jp at h;rcases a with e|e|e|e|e<;>simp[e,lh]at h
 ·exact⟨by omega,iz 1 0 h.1.1.1.2 0 (by omega) (by omega),by omega⟩
 ·exact⟨by omega,iz 1 0 h.1.1.1.2 0 (by omega) (by omega),by omega⟩
 ·exact⟨by omega,bg (by omega),by omega⟩
 ·exact⟨by omega,iz 1 0 h.1.2 0 (by omega) (by omega),by omega⟩
 ·exact⟨by omega,iz 1 0 h.1.1.2 0 (by omega) (by omega),by omega⟩
theorem E2{ns:List Nd}{N:Nd}(h:mq ns N=M)(a:N.k=34):1<=N.ks.length/\iF ns N N.ks.length 0=M:=by
 have h:=qc h (by omega);unfold jp at h;simp[a,lh]at h;exact⟨by omega,h.1.1.2⟩
theorem AJ{ns:List Nd}{N:Nd}(h:mq ns N=M)(a:N.k=35):Gp ns N N.ks.length 0=M:=by
 have h:=qc h (by omega);unfold jp at h;simp[a]at h;exact h.1
theorem sB{N:Nd}{a b:Int}(h:ez N a b=M)(c:b<=200):a<=(N.nm.length:Int)/\N.nm.length<=200:=by
 unfold ez at h;rw[cL]at h;have:=aH h.1;omega
theorem ae3{ns:List Nd}{N:Nd}(h:mq ns N=M)(a:N.k=36):N.ks.length=1/\(ad ns (bJ N 0)).k=1/\N.nm.length<=200/\(N.op=0\/N.op=1):=by
 have h:=qc h (by omega);unfold jp at h;simp[a,lh]at h;exact⟨by omega,h.1.1.1.2,(sB h.1.2 (by omega)).2,h.2⟩
theorem sC{ns:List Nd}{N:Nd}(h:mq ns N=M)(a:N.k=1):G8 ns N N.ks.length 0=M:=by
 have h:=nD h (by omega);unfold stB at h;simp[a]at h;exact h.1
theorem ae4{ns:List Nd}{N:Nd}(h:mq ns N=M)(a:20<=N.k/\N.k<=27):N.ks.length=0:=by
 have h:=qc h (by omega);unfold jp at h;rcases(show N.k=20\/N.k=21\/N.k=22\/N.k=23\/N.k=24\/N.k=25\/N.k=26\/N.k=27 by omega) with e|e|e|e|e|e|e|e<;>simp[e]at h<;>simp[h]
def sN(ns:List Nd)(i:Int):Nat:=((gC ns).getD i.toNat 0).toNat
def sK(ns:List Nd):List Int->Nat
 |[]=>0
 |k::l=>sN ns k+sK ns l
theorem akK(ns:List Nd)(a b:List Int):sK ns (a++b)=sK ns a+sK ns b:=by
 induction a with
 |nil=>simp[sK]
 |cons d l c=>simp only[fy,sK,c];omega
theorem AK(ns:List Nd)(l:List Int)(n:Nat):sK ns l=sK ns (l.take n)+sK ns (l.drop n):=by rw[<-akK,uH]
structure Szd (ns:List Nd):Prop where
 nb:∀i:Nat,i<ns.length->iJ ns i (ad ns i)=M
 at_:∀i:Nat,i<ns.length->sN ns i=1+sK ns (ad ns i).ks
 le:∀i:Int,sN ns i<=3000
theorem ae5{ns:List Nd}(h:(cF ns).1=0):Szd ns:=by
 have e:=ah0 h;have p:=lL h;have m:=aeJ h;have j:yu (gC ns):=uw ns (fun N f c g=>by
  obtain⟨i,a,b⟩:=fL f;exact(p.kid i N (by rw[aE a,b]) c g).1)
 have o:∀i:Nat,0<=(gC ns).getD i 0:=by
  intro i;rw[bc];cases b:(gC ns)[i]? with
  |none=>decide
  |some z=>exact(j i z b).1
 have r:∀l:List Int,rF (gC ns) l=(sK ns l:Int):=by
  intro l
  induction l with
  |nil=>rfl
  |cons c s k=>
   have:=o c.toNat;simp only[rF,sK,k,sN];omega
 have d:∀i:Nat,i<ns.length->ns[i]?=Ax (ad ns i):=fun i a=>by
  unfold ad;rw[fD,List.getD,aE a];rfl
 refine⟨fun i a=>m i _ (d i a),fun i a=>?_,fun i=>?_⟩
 ·have b:=e.at_ i _ (d i a);rw[r]at b;show((gC ns).getD (i:Int).toNat 0).toNat=_;rw[fD,b];omega
 ·have:=e.le i.toNat;unfold sN;omega
theorem Dt(l:List ByteArray):(bG l).size<=(l.map fun x=>x.size+2).sum:=by
 have d:∀a,(bG (l.take a)).size<=((l.take a).map fun x=>x.size+2).sum:=by
  intro a
  induction a with
  |zero=>show(U).size<=_;exact aG _
  |succ a b=>
   rcases bv a l.length with h|h
   ·rw[qz l a _ (aE h),ae,List.take_succ_eq_append_getElem h,fK,List.sum_append];have c:dG.size=2:=rfl;have:(if a=0 then bG (l.take a) else bG (l.take a)++dG).size<=(bG (l.take a)).size+2:=by
     split
     ·omega
     ·rw[ae,c];exact ag _
    simp only[dq,List.map_nil,List.sum_cons,List.sum_nil];omega
   ·rw[cI (by omega)];rw[cI (by omega)]at b;exact b
 have:=d l.length
 rwa [cI (ag _)]at this
theorem Jz(ns:List Nd)(b:Int->Nat)(d:Nat)(a:List Int)(h:∀z∈a,b z+10000<=2000000*sN ns z)(k:d<=10000):(a.map fun z=>b z+d).sum<=2000000*sK ns a:=by
 induction a with
 |nil=>exact aG _
 |cons z m e=>
  have g:=h z bz;have j:=e fun f c=>h f (dm _ c);simp only[dq,List.sum_cons,sK,Nat.mul_add];omega
theorem rp(ns:List Nd)(E:Int->ByteArray)(a:List Int)(h:∀z∈a,(E z).size+10000<=2000000*sN ns z):(bG (a.map E)).size<=2000000*sK ns a:=by
 refine dh (Dt _) ?_;rw[List.map_map];exact Jz ns (fun z=>(E z).size) 2 a h (by omega)
theorem Hk(l:List ByteArray)(h:∀s∈l,s.size<=4000):(bG l).size<=4002*l.length:=by
 refine dh (Dt _) ?_
 induction l with
 |nil=>exact aG _
 |cons x f b=>
  have d:=h x bz;have e:=b fun c a=>h c (dm _ a);simp only[dq,List.sum_cons,cC];omega
theorem Du(l:List ByteArray):(iA l).size=(l.map ByteArray.size).sum:=by
 have c:∀(a:ByteArray),(l.foldl (· ++·) a).size=a.size+(l.map ByteArray.size).sum:=by
  induction l with
  |nil=>intro a;simp
  |cons x d b=>intro a;rw[ju,b,ae,dq,List.sum_cons];omega
 have:=c U;rw[show ByteArray.empty.size=0 from rfl]at this;unfold iA;omega
theorem akL(ns:List Nd)(S:Int->Nat->ByteArray)(a:List Int)(tab:Nat)(e:tab<=9000)(h:∀z∈a,(S z (tab+1)).size+10000<=2000000*sN ns z):(uz S a tab).size+10000<=2000000*(1+sK ns a)-900000:=by
 unfold uz;by_cases b:a=[]
 ·rw[ab b];show 2+10000<=_;omega
 ·rw[aa b,ae,ae,ae,Du,mz,List.map_map];have c:(a.map (ByteArray.size ∘ fun d=>ig (tab+1)++S d (tab+1)))=a.map fun z=>(S z (tab+1)).size+(tab+2):=by
   apply List.map_congr_left;intro z f;simp only[Function.comp];rw[ae,mz];omega
  rw[c];have:=Jz ns (fun z=>(S z (tab+1)).size) (tab+2) a h (by omega);show 1+_+(tab+1)+1+10000<=_;omega
theorem ww{ns:List Nd}{N:Nd}(h:iF ns N 1 0=M):eK (ad ns (bJ N 0)).k=M:=iz 1 0 h 0 (by omega) (by omega)
theorem JA{ns:List Nd}{N:Nd}(h:mq ns N=M)(a:N.k=2):iF ns N N.ks.length 0=M/\N.nm.length<=200:=by
 have h:=nD h (by omega);unfold stB at h;simp only[a]at h;simp at h;exact⟨h.2,(sB h.1.2 (by omega)).2⟩
theorem AL{ns:List Nd}{N:Nd}(h:mq ns N=M)(b:N.k=3):N.ks.length=1/\eK (ad ns (bJ N 0)).k=M/\N.nm.length=1:=by
 have h:=nD h (by omega);unfold stB at h;simp[b]at h;have:=sB h.1.1.2 (by omega);have a:=h.1.1.2;unfold ez at a;rw[cL]at a;have:=aH a.1;exact⟨by omega,ww h.2,by omega⟩
theorem JB{ns:List Nd}{N:Nd}(h:mq ns N=M)(b:N.k=4):N.ks.length=1/\(ad ns (bJ N 0)).k=36/\N.nm.length=1:=by
 have h:=nD h (by omega);unfold stB at h;simp[b,lh]at h;have a:=h.1.1.2;unfold ez at a;rw[cL]at a;have:=aH a.1;exact⟨by omega,h.2,by omega⟩
theorem ae6{ns:List Nd}{N:Nd}(h:mq ns N=M)(a:N.k=5):1<=N.n/\N.n<(N.ks.length:Int)/\C7 ns N N.n.toNat 0=M/\iF ns N (N.ks.length-N.n.toNat) N.n.toNat=M:=by
 have h:=nD h (by omega);unfold stB at h;simp[a]at h;exact⟨h.2.1.1,h.2.1.2,h.2.2.1,h.2.2.2⟩
theorem Dv{ns:List Nd}{N:Nd}(h:mq ns N=M)(a:N.k=6\/N.k=16):N.ks.length=1/\(ad ns (bJ N 0)).k=34:=by
 have h:=nD h (by omega);unfold stB at h;rcases a with e|e<;>simp[e,lh]at h<;>exact⟨by omega,h.2⟩
theorem ae7{ns:List Nd}{N:Nd}(h:mq ns N=M)(a:N.k=7):2<=N.ks.length/\N.ks.length<=3/\eK (ad ns (bJ N 0)).k=M/\(ad ns (bJ N 1)).k=1/\(N.ks.length=2\/(ad ns (bJ N 2)).k=1\/(ad ns (bJ N 2)).k=7):=by
 have h:=nD h (by omega);unfold stB at h;simp[a,lh]at h;exact⟨h.2.1.1,h.2.1.2,ww h.2.2.1,h.2.2.2.1,by omega⟩
theorem Ba{ns:List Nd}{N:Nd}(h:mq ns N=M)(a:N.k=8):N.ks.length=2/\eK (ad ns (bJ N 0)).k=M/\(ad ns (bJ N 1)).k=1:=by
 have h:=nD h (by omega);unfold stB at h;simp[a,lh]at h;exact⟨by omega,ww h.1.2,h.2⟩
theorem JC{ns:List Nd}{N:Nd}(h:mq ns N=M)(b:N.k=9):(N.ks.length=3\/N.ks.length=4)/\iF ns N (N.ks.length-1) 0=M/\(ad ns (bJ N (N.ks.length-1))).k=1/\N.nm.length=1:=by
 have h:=nD h (by omega);unfold stB at h;simp[b,lh]at h;have a:=h.2.1;unfold ez at a;rw[cL]at a;have:=aH a.1;exact⟨by omega,h.2.2.2.1,h.2.2.2.2,by omega⟩
theorem E3{ns:List Nd}{N:Nd}(h:mq ns N=M)(a:N.k=10):N.ks.length=2/\eK (ad ns (bJ N 0)).k=M/\(ad ns (bJ N 1)).k=1/\N.nm.length<=200:=by
 have h:=nD h (by omega);unfold stB at h;simp[a,lh]at h;exact⟨by omega,ww h.1.2,h.2,(sB h.1.1.1.2 (by omega)).2⟩
theorem ae8{ns:List Nd}{N:Nd}(h:mq ns N=M)(a:N.k=13):iF ns N N.ks.length 0=M:=by
 have h:=nD h (by omega);unfold stB at h;simp[a]at h;exact h.2
theorem JD{ns:List Nd}{N:Nd}(h:mq ns N=M)(a:N.k=14):N.ks.length=2/\(ad ns (bJ N 0)).k=1/\(ad ns (bJ N 1)).k=1/\N.nm.length<=200:=by
 have h:=nD h (by omega);unfold stB at h;simp[a,lh]at h;exact⟨by omega,h.1.2,h.2,(sB h.1.1.1.2 (by omega)).2⟩
theorem Bb{ns:List Nd}{N:Nd}(h:mq ns N=M)(a:N.k=15):N.ks.length=1/\eK (ad ns (bJ N 0)).k=M:=by
 have h:=nD h (by omega);unfold stB at h;simp[a]at h;exact⟨by omega,ww h.2⟩
theorem aab{l:List ByteArray}:∀(f j:Nat),sc l f j=M->∀q,j<=q->q<j+f->jo (l.getD q U)=M
 |0,j,_,q,a,b=>by omega
 |f+1,j,h,q,a,b=>by
  rw[sc,cL]at h;rcases jg a with rfl|h3
  ·exact h.1
  ·exact aab f (j+1) h.2 q h3 (by omega)
theorem lu{N:Nd}{a b:Int}(h:ez N a b=M):(∀s∈N.nm,jo s=M)/\a<=(N.nm.length:Int)/\(N.nm.length:Int)<=b:=by
 unfold ez at h;rw[cL]at h;refine⟨fun s e=>?_,aH h.1⟩;obtain⟨f,d,c⟩:=fL e;have:=aab _ 0 h.2 f (by omega) (by omega);rw[bc,aE d]at this;rw[<-c];exact this
theorem aja{ns:List Nd}{N:Nd}(h:mq ns N=M):∀s∈N.nm,jo s=M:=by
 have a:=EK h;by_cases c:N.k=2\/N.k=3\/N.k=4\/N.k=9\/N.k=10\/N.k=14\/N.k=36
 ·by_cases d:N.k=36
  ·have h:=qc h (by omega);unfold jp at h;simp[d]at h;exact(lu h.1.2).1
  ·have h:=nD h (by omega);unfold stB at h;rcases c with e|e|e|e|e|e|e<;>simp[e]at h
   ·exact(lu h.1.2).1
   ·exact(lu h.1.1.2).1
   ·exact(lu h.1.1.2).1
   ·exact(lu h.2.1).1
   ·exact(lu h.1.1.1.2).1
   ·exact(lu h.1.1.1.2).1
 ·rw[az c]at a;unfold aD at a;simp at a;intro s b;rw[a.2]at b;cases b
theorem Bc{ns:List Nd}{N:Nd}(h:mq ns N=M):∀s∈N.nm,s.size<=4000:=fun s a=>aeK (aja h s a)
theorem wy{N:Nd}{j:Nat}(h:j<N.ks.length):N.ks[j]=bJ N j:=by unfold bJ;rw[bc,aE h];rfl
theorem qp(ns:List Nd){N:Nd}(h:N.ks.length=1):sK ns N.ks=sN ns (bJ N 0):=by
 unfold bJ
 match e:N.ks,h with
 |[a],_=>simp[sK]
theorem xy(ns:List Nd){N:Nd}(h:N.ks.length=2):sK ns N.ks=sN ns (bJ N 0)+sN ns (bJ N 1):=by
 unfold bJ
 match e:N.ks,h with
 |[a,b],_=>simp[sK]
theorem ae9(ns:List Nd){N:Nd}(h:N.ks.length=3):sK ns N.ks=sN ns (bJ N 0)+sN ns (bJ N 1)+sN ns (bJ N 2):=by
 unfold bJ
 match e:N.ks,h with
 |[a,b,c],_=>simp[sK];omega
theorem ah1(ns:List Nd){N:Nd}(h:0<N.ks.length):sK ns N.ks=sK ns (N.ks.take (N.ks.length-1))+sN ns (bJ N (N.ks.length-1)):=by
 rw[AK ns N.ks (N.ks.length-1)]
 congr 1
 rw[ly (by omega),wy,lA (by omega)];simp[sK]
theorem ah2(ns:List Nd){N:Nd}(h:0<N.ks.length):sK ns N.ks=sN ns (bJ N 0)+sK ns (N.ks.drop 1):=by
 rw[AK ns N.ks 1]
 congr 1
 unfold bJ
 match e:N.ks,h with
 |a::b,_=>simp[sK]
theorem ab7(n:Int)(b:n<=9223372036854775807):(wd n).size<=30:=by
 unfold wd;split
 ·rw[qy];omega
 ·rename_i a;have:=Lib.itoa_length_le n (by omega) b;show(Lib.decDigits n.toNat).toArray.size<=30;rw[jG];unfold Lib.itoa at this;simp only[a,if_false]at this;omega
theorem afa(N:Nd)(b:N.x.size<=4000)(a:N.n<=9223372036854775807):(zo N).size<=20000:=by
 unfold zo
 repeat' split
 ·show 3<=_;omega
 ·show 4<=_;omega
 ·show 5<=_;omega
 ·have:=ab7 N.n a;omega
 ·omega
 ·have:=abp N.x;unfold akd at this;omega
 ·show 3<=_;omega
 ·show 0<=_;omega
theorem xz(ns:List Nd)(E:Int->ByteArray)(k least:Int):(gE ns E k least).size<=(E k).size+2:=by
 unfold gE;split
 ·rw[tr];omega
 ·omega
theorem E4(ns:List Nd)(E:Int->ByteArray)(k:Int):(FD ns E k).size<=(E k).size+2:=by
 unfold FD;split
 ·omega
 ·rw[tr];omega
theorem ah3(ns:List Nd)(N:Nd):(Lm ns N).size<=4:=by
 unfold Lm
 repeat' split
 ·show 4<=4;omega
 ·show 1<=4;omega
 ·show 1<=4;omega
 ·show 2<=4;omega
 ·show 1<=4;omega
theorem Hl{op:Int}(h:1<=op/\op<=18):(vw (60+op)).size<=4:=by
 obtain⟨a,b⟩:=h;rcases(show op=1\/op=2\/op=3\/op=4\/op=5\/op=6\/op=7\/op=8\/op=9\/op=10\/op=11\/op=12\/op=13\/op=14\/op=15\/op=16\/op=17\/op=18 by omega) with rfl|rfl|rfl|rfl|rfl|rfl|rfl|rfl|rfl|rfl|rfl|rfl|rfl|rfl|rfl|rfl|rfl|rfl;all_goals decide+kernel
structure SzE (ns:List Nd) (E:Int->ByteArray) (S:Int->Nat->ByteArray) (i:Nat) (tab:Nat):Prop where
 e:∀z:Nat,z<i->(E z).size+10000<=2000000*sN ns z
 s:∀z:Nat,z<i->(S z (tab+1)).size+10000<=2000000*sN ns z
theorem SzE.kid{ns:List Nd}{E:Int->ByteArray}{S:Int->Nat->ByteArray}{i tab:Nat}(h:SzE ns E S i tab)(d:Szd ns){q:Nat}(k:q<=i)(a:q<ns.length):∀z∈(ad ns q).ks,(E z).size+10000<=2000000*sN ns z/\(S z (tab+1)).size+10000<=2000000*sN ns z:=by
 intro z g;obtain⟨j,f,rfl⟩:=oG g;obtain⟨c,b⟩:=il (d.nb q a) a j f;rw[b.id];have:=b.lt;exact⟨h.e c (by omega),h.s c (by omega)⟩
theorem SzE.blk{ns:List Nd}{E:Int->ByteArray}{S:Int->Nat->ByteArray}{i tab:Nat}(h:SzE ns E S i tab)(d:Szd ns)(c:tab<=9000){q:Nat}(b:q<=i)(a:q<ns.length):(uz S (ad ns q).ks tab).size+910000<=2000000*sN ns q:=by
 have:=akL ns S (ad ns q).ks tab c (fun z e=>(h.kid d b a z e).2);rw[d.at_ q a];omega
theorem afb{ns:List Nd}{N:Nd}(h:mq ns N=M)(b:N.nm.length<=200):(Cp N).size<=810000:=by
 unfold Cp;have:=Hk N.nm (Bc h);simp only[ae];have a:(if N.op=1 then(if N.nm=[] then(⟨#[46,46,46]⟩:ByteArray) else dG++⟨#[46,46,46]⟩) else U).size<=5:=by
  repeat' split
  ·show 3<=5;omega
  ·show 5<=5;omega
  ·show 0<=5;omega
 show 1+_+_+2<=_;omega
theorem SzE.bod{ns:List Nd}{E:Int->ByteArray}{S:Int->Nat->ByteArray}{i tab:Nat}(h:SzE ns E S i tab)(d:Szd ns)(j:tab<=9000){q:Nat}(g:q<=i)(a:q<ns.length)(f:(ad ns q).k=36):(xj ns S (ad ns q) tab).size+20000<=2000000*sN ns q:=by
 obtain⟨c,o,e,p⟩:=ae3 (je (d.nb q a)).1 f;obtain⟨r,b⟩:=il (d.nb q a) a 0 (by omega);have m:=h.blk d j (dh (gy b.lt) g) b.len;unfold xj;rw[ae,b.id,d.at_ q a,qp ns c,b.id];have:=afb (je (d.nb q a)).1 e;omega
theorem afc{ns:List Nd}{E:Int->ByteArray}{S:Int->Nat->ByteArray}{i tab:Nat}(h:SzE ns E S i tab)(d:Szd ns){q:Nat}(u:q<=i)(b:q<ns.length)(t:40<=(ad ns q).k/\(ad ns q).k<=42):(lm ns E (ad ns q)).size+10000<=2000000*sN ns q:=by
 have o:=(je (d.nb q b)).1;have v:=Jw (d.nb q b);have g:=fun s r=>il (d.nb q b) b s r;rw[d.at_ q b];unfold lm;by_cases j:(ad ns q).k=41
 ·rw[ab j];obtain⟨f,_,_⟩:=og o (by omega);obtain⟨c,a⟩:=g 0 (by omega);obtain⟨p,m⟩:=g 1 (by omega);rw[xy ns f,a.id,m.id];have:=h.e c (by have:=a.lt;omega);have:=h.e p (by have:=m.lt;omega);simp only[ae];show 1+_+4+_+_<=_;omega
 ·rw[aa j];obtain⟨f,_,_⟩:=pu o (show _ by omega);obtain⟨c,a⟩:=g 0 (by omega);rw[qp ns f,a.id];have:=h.e c (by have:=a.lt;omega);split
  ·simp only[ae];show 1+_+3+_+_<=_;omega
  ·omega
theorem afd{ns:List Nd}{E:Int->ByteArray}{S:Int->Nat->ByteArray}{i tab:Nat}(h:SzE ns E S i tab)(d:Szd ns)(ak:tab<=9000)(c:i<ns.length)(af:(ad ns i).n<=9223372036854775807):(prE ns E S (ad ns i) tab).size+10000<=2000000*sN ns i:=by
 have j:=(je (d.nb i c)).1;have al:=Jw (d.nb i c);have g:=fun o u=>il (d.nb i c) c o u;have y:∀(B:ByteArray)(A:Int),B.size<=100->((ad ns i).k=28\/(ad ns i).k=29\/(ad ns i).k=31\/(ad ns i).k=32\/(ad ns i).k=41)->(xi ns E (ad ns i) B A).size+10000<=2000000*sN ns i:=by
  intro B A an L;obtain⟨f,_,_⟩:=og j L;obtain⟨b,a⟩:=g 0 (by omega);obtain⟨m,k⟩:=g 1 (by omega);rw[d.at_ i c,xy ns f,a.id,k.id];unfold xi;rw[a.id,k.id];have:=h.e b a.lt;have:=h.e m k.lt;have:=xz ns E b (Dh (ad ns i) A);have:=xz ns E m (sj (ad ns i).k (ad ns i).op);simp only[ae];omega
 unfold prE;by_cases C:(ad ns i).k=28
 ·rw[ab C];exact y _ _ (by show 5<=100;omega) (by omega)
 rw[aa C];by_cases G:(ad ns i).k=29
 ·rw[ab G];exact y _ _ (by show 4<=100;omega) (by omega)
 rw[aa G];by_cases p:(ad ns i).k=31
 ·rw[ab p];have:=Hl ((og j (by omega)).2.2 p);exact y _ _ (by simp only[ae];show 1+_+1<=_;omega) (by omega)
 rw[aa p];by_cases H:(ad ns i).k=30
 ·rw[ab H];obtain⟨f,_,_⟩:=pu j (by omega);obtain⟨b,a⟩:=g 0 (by omega);rw[d.at_ i c,qp ns f,a.id];unfold Lp;rw[a.id];have:=h.e b a.lt;have:=xz ns E b 11;have:=ah3 ns (ad ns i);simp only[ae];omega
 rw[aa H];by_cases I:(ad ns i).k=32
 ·rw[ab I];obtain⟨f,_,_⟩:=og j (by omega);obtain⟨b,a⟩:=g 0 (by omega);obtain⟨m,k⟩:=g 1 (by omega);rw[d.at_ i c,xy ns f,a.id,k.id];have:=h.e b a.lt;have:=h.e m k.lt;have:=E4 ns E b;simp only[ae];show _+1+_+1+_<=_;omega
 rw[aa I];by_cases J:(ad ns i).k=33
 ·rw[ab J];obtain⟨f,_,_⟩:=pu j (by omega);obtain⟨b,a⟩:=g 0 (by omega);rw[d.at_ i c,qp ns f,a.id];have:=h.e b a.lt;have:=E4 ns E b;simp only[ae];show _+(1+_)+_<=_;omega
 rw[aa J];by_cases r:(ad ns i).k=34
 ·rw[ab r];obtain⟨f,_⟩:=E2 j r;obtain⟨b,a⟩:=g 0 (by omega);rw[d.at_ i c,ah2 ns (by omega),a.id];have:=h.e b a.lt;have:=E4 ns E b;have:=rp ns E ((ad ns i).ks.drop 1) (fun z w=>(h.kid d (ag _) c z (List.mem_of_mem_drop w)).1);simp only[ae];show _+1+_+1+_<=_;omega
 rw[aa r];by_cases s:(ad ns i).k=35
 ·rw[ab s];unfold abw;have f:=AJ j s;have:=rp ns (fun am=>lm ns E (ad ns am)) (ad ns i).ks (fun z w=>by
   obtain⟨o,u,rfl⟩:=oG w;obtain⟨ao,v⟩:=g o u;have K:=aaa _ 0 f o (by omega) (by omega);rw[v.id]at K⊢;exact afc h d (gy v.lt) v.len K)
  rw[d.at_ i c];simp only[ae];show 1+_+1+_<=_;omega
 rw[aa s];by_cases t:(ad ns i).k=36
 ·rw[ab t];have:=h.bod d ak (ag _) c t;simp only[ae];show 2+_+_<=_;omega
 rw[aa t];by_cases F:(ad ns i).k=37
 ·rw[ab F];obtain⟨f,_,_⟩:=pu j (by omega);obtain⟨b,a⟩:=g 0 (by omega);rw[d.at_ i c,qp ns f,a.id,tr];have:=h.e b a.lt;omega
 rw[aa F];have:=afa (ad ns i) al af;rw[d.at_ i c];omega
def fW(N:Nd):Int:=150+8000*(bgN N:Int)
def Wp(ns:List Nd)(j:Int):Int:=((ns.take j.toNat).map fW).sum
def wN(ns:List Nd)(i:Int):Int:=Wp ns (i+1)-Wp ns (i+1-(gC ns).getD i.toNat 0)
def wK(ns:List Nd):List Int->Int
 |[]=>0
 |k::l=>wN ns k+wK ns l
theorem afe(ns:List Nd)(a b:List Int):wK ns (a++b)=wK ns a+wK ns b:=by
 induction a with
 |nil=>simp[wK]
 |cons d l c=>simp only[fy,wK,c];omega
theorem ak0(ns:List Nd)(l:List Int):wK ns l.reverse=wK ns l:=by
 induction l with
 |nil=>rfl
 |cons b l a=>rw[List.reverse_cons,afe,a];simp only[wK];omega
theorem ajb(ns:List Nd):∀(l:List Int)(a b:Int),rG (gC ns) l a=Ax b->wK ns l=Wp ns a-Wp ns b
 |[],a,b,h=>by simp[rG]at h;subst h;simp[wK]
 |k::r,a,b,h=>by
  rw[rG]at h;split at h
  ·rename_i c;have:=ajb ns r _ _ h;simp only[wK,wN];rw[this,show k+1=a by omega];omega
  ·cases h
theorem Be(S:List Int)(i:Nat):∀(l:List Int)(a:Int),(∀k∈l,0<=k/\k<(i:Int))->rG (S.take i) l a=rG S l a
 |[],a,_=>rfl
 |k::r,a,h=>by
  have d:=h k bz;have b:(S.take i).getD k.toNat 0=S.getD k.toNat 0:=by
   rw[bc,bc,List.getElem?_take_of_lt (by omega)]
  rw[rG,rG,b,Be S i r _ fun z c=>h z (dm _ c)]
theorem ah4{ns:List Nd}{i:Nat}{N:Nd}(h:ns[i]?=Ax N):Wp ns ((i:Int)+1)=Wp ns i+fW N:=by
 unfold Wp;rw[show((i:Int)+1).toNat=i+1 by omega,show((i:Int)).toNat=i by omega,gG,h];simp
structure JE (ns:List Nd):Prop where
 nb:∀i:Nat,i<ns.length->iJ ns i (ad ns i)=M
 at_:∀i:Nat,i<ns.length->wN ns i=fW (ad ns i)+wK ns (ad ns i).ks
 root:wN ns ((ns.length:Int)-1)=Wp ns ns.length
 len:1<=ns.length
theorem E5{ns:List Nd}(h:(cF ns).1=0):JE ns:=by
 have p:=ae5 h;have k:=lL h;have y:=h;unfold cF at h;by_cases j:gJ ns=M
 ·rw[ab j]at h;exact absurd h (by decide)
 rw[aa j]at h;obtain⟨m,r⟩:=aA (gp (eC ns) ns.length 0);rw[r]at h;cases m with
 |some i=>rw[tf2]at h;exact absurd h (by simp)
 |none=>
  rw[tf2]at h;obtain⟨o,g⟩:=aA (gp (fp (gC ns)) ns.length 0);rw[g]at h;cases o with
  |some i=>rw[LI]at h;exact absurd h (by simp)
  |none=>
   have s:=ny g;rw[LI]at h;have v:(gC ns).getD (ns.length-1) 0=(ns.length:Int):=by
    by_cases f:(gC ns).getD (ns.length-1) 0=(ns.length:Int)
    ·exact f
    ·rw[ab f]at h;exact absurd h (by simp)
   refine⟨p.nb,fun i t=>?_,?_,k.len.1⟩
   ·have c:ns[i]?=Ax (ad ns i):=by
     unfold ad;rw[fD,List.getD,aE t];rfl
    generalize ad ns i=N at c;have b:=s i (aG _) (by omega);unfold fp at b;have a:=Jy c;rw[a]at b;unfold po at b a;cases hw:rG ((gC ns).take i) N.ks.reverse i with
    |none=>rw[hw]at b;simp at b
    |some d=>
     rw[hw]at a;simp only at a;rw[Be (gC ns) i _ _ (fun w u=>k.kid i N c w (by simpa using u))]at hw;have e:=ajb ns _ _ _ hw;rw[ak0]at e;unfold wN;rw[show((i:Int)).toNat=i by omega,a,ah4 c,e,show(i:Int)+1-((i:Int)-d+1)=d by omega];omega
   ·unfold wN;rw[show((ns.length:Int)-1).toNat=ns.length-1 by omega,v,show(ns.length:Int)-1+1=ns.length by omega,Int.sub_self];have:Wp ns 0=0:=by unfold Wp;simp
    omega
theorem ak1(L:List Mb):Wp (L.map Mb.N) (L.map Mb.N).length=150*(L.length:Int)+8000*(bigs L:Int):=by
 unfold Wp bigs;rw[show(((L.map Mb.N).length:Nat):Int).toNat=(L.map Mb.N).length by omega,cI (ag _)]
 induction L with
 |nil=>rfl
 |cons b L a=>
  simp only[dq,List.sum_cons,cC]at a⊢;rw[a];unfold fW;omega
theorem ui(N:Nd):150<=fW N:=by unfold fW;omega
def px(g:Int->Fo):List Int->Fo
 |[]=> .nil
 |k::r=>(g k).app (px g r)
def shT(ns:List Nd):Nat->Int->Fo
 |0,_=> .nil
 |f+1,i=>one (ad ns i).bare (px (shT ns f) (ad ns i).ks)
def Sh(ns:List Nd)(i:Int):Fo:=shT ns (i.toNat+1) i
theorem xA{g h:Int->Fo}:∀(l:List Int),(∀z∈l,g z=h z)->px g l=px h l
 |[],_=>rfl
 |k::r,e=>by rw[px,px,e k bz,xA r fun z a=>e z (dm _ a)]
theorem E6(g:Int->Fo):∀(a b:List Int),px g (a++b)=(px g a).app (px g b)
 |[],b=>rfl
 |k::r,b=>by rw[fy,px,px,E6 g r b,Fo.app_app]
theorem rq{ns:List Nd}(d:JE ns){i:Nat}(c:i<ns.length){z:Int}(f:z∈(ad ns i).ks):∃y:Nat,z=(y:Int)/\y<i/\y<ns.length/\∃j,j<(ad ns i).ks.length/\bJ (ad ns i) j=z:=by
 obtain⟨j,e,b⟩:=oG f;obtain⟨y,a⟩:=il (d.nb i c) c j e;exact⟨y,by rw[<-b,a.id],a.lt,a.len,j,e,b⟩
theorem ah5{ns:List Nd}(d:JE ns):∀(i:Nat),i<ns.length->∀f,i<f->shT ns f i=Sh ns i:=by
 intro i
 induction i using Nat.strongRecOn with
 |_ i c=>
  intro h f k;obtain⟨f,rfl⟩:∃g,f=g+1:=⟨f-1,by omega⟩;unfold Sh;rw[shT,show((i:Int)).toNat+1=i+1 by omega,shT]
  congr 1
  refine xA _ fun z j=>?_;obtain⟨e,rfl,a,b,_⟩:=rq d h j;rw[c e a b f (by omega),c e a b i a]
theorem rz{ns:List Nd}(d:JE ns){i:Nat}(c:i<ns.length):Sh ns i=one (ad ns i).bare (px (Sh ns) (ad ns i).ks):=by
 have:Sh ns i=shT ns (i+1) i:=by unfold Sh;rw[show((i:Int)).toNat=i by omega]
 rw[this,shT]
 congr 1
 refine xA _ fun z e=>?_;obtain⟨f,rfl,a,b,_⟩:=rq d c e;exact ah5 d f b i a
theorem rt{N:Nd}(h:N.ks.length=2):N.ks=[bJ N 0,bJ N 1]:=by
 unfold bJ
 match e:N.ks,h with
 |[a,b],_=>rfl
theorem kj{N:Nd}(h:N.ks.length=1):N.ks=[bJ N 0]:=by
 unfold bJ
 match e:N.ks,h with
 |[a],_=>rfl
theorem Bf{N:Nd}(h:N.ks.length=3):N.ks=[bJ N 0,bJ N 1,bJ N 2]:=by
 unfold bJ
 match e:N.ks,h with
 |[a,b,c],_=>rfl
theorem ah6{N:Nd}(h:N.ks.length=4):N.ks=[bJ N 0,bJ N 1,bJ N 2,bJ N 3]:=by
 unfold bJ
 match e:N.ks,h with
 |[a,b,c,x],_=>rfl
theorem jx(g:Int->Fo)(a:Int):px g [a]=g a:=Fo.app_nil _
theorem li(g:Int->Fo)(a b:Int):px g [a,b]=(g a).app (g b):=by rw[px,jx]
section
variable {ns : List Nd} {N : Nd}
theorem ah7{a b c e:Bool}(h:aD N a b c e=M):N.bare=bN N.k (if a=M then N.op else 0) (if b=M then N.n else 0) (if c=M then N.x else z0) (if e=M then N.nm else []):=by
 unfold aD oa at h;simp only[cL,yK,decide_eq_true_eq,jH]at h;obtain⟨⟨⟨f,j⟩,m⟩,o⟩:=h;unfold Nd.bare
 congr 1
 ·rcases f with g|g
  ·rw[ab g]
  ·rw[g];split<;>rfl
 ·rcases j with g|g
  ·rw[ab g]
  ·rw[g];split<;>rfl
 ·rcases m with g|g
  ·rw[ab g]
  ·have d:N.x=z0:=by
    rw[gw]at g;apply jh;apply Array.toList_inj.1;exact g
   rw[d];split<;>rfl
 ·rcases o with g|g
  ·rw[ab g]
  ·rw[jr g];split<;>rfl
theorem wA(h:mq ns N=M):N.bare=bN N.k (if N.k=30\/N.k=31\/N.k=36 then N.op else 0) (if N.k=5\/N.k=23 then N.n else 0) (if N.k=24\/N.k=25\/N.k=26\/N.k=33\/N.k=42 then N.x else z0) (if N.k=2\/N.k=3\/N.k=4\/N.k=9\/N.k=10\/N.k=14\/N.k=36 then N.nm else []):=by
 have:=ah7 (EK h);simpa only[decide_eq_true_eq] using this
theorem Bh(h:mq ns N=M)(j:N.k=2\/N.k=3\/N.k=4\/N.k=9\/N.k=10\/N.k=14):∃x r,N.nm=x::r/\(∀s∈x::r,jo s=M)/\(N.k=3\/N.k=4\/N.k=9->r=[])/\(N.k=14->r.length<=1):=by
 have h:=nD h (by omega);unfold stB at h;have a:∀{c b:Int},ez N c b=M->1<=c->(N.k=3\/N.k=4\/N.k=9->b=1)->(N.k=14->b<=2)->∃x r,N.nm=x::r/\(∀s∈x::r,jo s=M)/\(N.k=3\/N.k=4\/N.k=9->r=[])/\(N.k=14->r.length<=1):=fun {c b} q p m o=>by
  obtain⟨d,f,g⟩:=lu q;cases e:N.nm with
  |nil=>rw[e]at f;simp at f;omega
  |cons x r=>
   rw[e]at d g;simp at g;refine⟨x,r,rfl,d,fun k=>jr (by have:=m k;omega),fun k=>by have:=o k;omega⟩
 rcases j with e|e|e|e|e|e;all_goals (simp[e]at h)
 ·exact a h.1.2 (by decide) (by omega) (by omega)
 ·exact a h.1.1.2 (by decide) (by omega) (by omega)
 ·exact a h.1.1.2 (by decide) (by omega) (by omega)
 ·exact a h.2.1 (by decide) (by omega) (by omega)
 ·exact a h.1.1.1.2 (by decide) (by omega) (by omega)
 ·exact a h.1.1.1.2 (by decide) (by omega) (by omega)
theorem E7(h:mq ns N=M):(N.k=26\/N.k=33\/N.k=42->jo N.x=M)/\(N.k=24->fok N.x=M):=by
 refine⟨fun a=>?_,fun a=>?_⟩
 ·have h:=qc h (by omega);unfold jp at h;rcases a with e|e|e<;>simp[e]at h<;>simp[h]
 ·have h:=qc h (by omega);unfold jp at h;simp[a]at h;simp[h]
theorem Bi(h:mq ns N=M)(a:N.k=32\/N.k=33\/N.k=34):(ad ns (bJ N 0)).k≠27:=by
 have h:=qc h (by omega);unfold jp at h;rcases a with e|e|e<;>simp[e,lh]at h<;>simp[h]
theorem ah8(h:mq ns N=M)(a:N.k=37):(ad ns (bJ N 0)).k=34\/(ad ns (bJ N 0)).k=27:=by
 have h:=qc h (by omega);unfold jp at h;simp[a,lh]at h;exact h.1.2
theorem amI:∀(f j:Nat),C7 ns N f j=M->∀q,j<=q->q<j+f->rx (ad ns (bJ N q)).k=M
 |0,j,_,q,a,b=>by omega
 |f+1,j,h,q,a,b=>by
  rw[C7,cL]at h;rcases jg a with rfl|h3
  ·exact h.1
  ·exact amI f (j+1) h.2 q h3 (by omega)
end
def mB:List ByteArray->ByteArray
 |[]=>U
 |y::r=>dG++(y++mB r)
theorem ma(a:ByteArray):a++U=a:=by apply jh;simp[js]
theorem Bj(a:ByteArray):U++a=a:=by apply jh;simp[js]
theorem Hm:∀(r:List ByteArray)(a:ByteArray),(r.foldl IE (M,a)).2=a++mB r
 |[],a=>(ma a).symm
 |y::r,a=>by
  rw[ju,mB,<-aB,<-aB];exact Hm r ((a++dG)++y)
theorem sD(x:ByteArray)(r:List ByteArray):bG (x::r)=x++mB r:=by
 unfold bG abi;rw[ju];have:IE (W,U) x=(M,x):=by unfold IE;simp[Bj]
 rw[this];exact Hm r x
theorem qd(x:ByteArray):bG [x]=x:=by rw[sD,mB,ma]
theorem oH(x y:ByteArray)(r:List ByteArray):bG (x::y::r)=x++(dG++bG (y::r)):=by rw[sD,mB,sD]
theorem Bk(x:ByteArray)(r:List ByteArray):iA (x::r)=x++iA r:=by
 have d:∀(r:List ByteArray)(a:ByteArray),r.foldl (· ++·) a=a++r.foldl (· ++·) U:=by
  intro r
  induction r with
  |nil=>intro a;exact(ma a).symm
  |cons c r b=>intro a;rw[ju,ju,b (a++c),b (U++c),Bj,aB]
 unfold iA;rw[ju,d,Bj]
theorem dH{a b:ByteArray}(h:0<a.size):aw (a++b) 0=aw a 0:=by rw[mI,ab h]
theorem ax{a b:ByteArray}(h:0<a.size:=by decide):0<(a++b).size:=by rw[ae];omega
theorem yz{f:Int->Bool}{a b:ByteArray}(h:0<a.size:=by decide)(c:f (aw a 0)=M:=by decide):f (aw (a++b) 0)=M:=by rw[dH h];exact c
theorem zt{c:Int}(h:lJ c=M):wl c=M:=by
 have:∀c∈ss,wl c=M:=by decide
 exact this c (aH h)
theorem aac{k:Int}(b:k=40\/k=41\/k=42\/k=43\/k=44\/k=45\/k=46\/k=50)(c:Int):wj (ed k) k c=M:=by
 have d:nxS k c=M:=by unfold nxS;rw[ab b]
 have a:bC (aw (ed k) 0)=W/\ch (aw (ed k) 0)=W/\aw (ed k) 0≠34/\aw (ed k) 0≠45:=by rcases b with rfl|rfl|rfl|rfl|rfl|rfl|rfl|rfl<;>decide+kernel
 unfold wj;rw[aa (by rw[a.1];simp),aa (by rw[a.2.1];simp[a.2.2.1]),d];simp[a.2.2.2]
theorem Ct{x:ByteArray}{k:Int}(a:k=40\/k=41\/k=42\/k=43\/k=44\/k=45\/k=46\/k=50:=by decide)(h:x=ed k:=by decide+kernel):ik oE x [sgF k]:=by
 rw[h];exact(aeb (by omega) (by omega) (by rcases a with rfl|rfl|rfl|rfl|rfl|rfl|rfl|rfl<;>decide+kernel)).mono fun b _=>aac a b
theorem zu:ik oE ⟨#[40]⟩ [sgF 40]:=Ct
theorem E8:ik oE ⟨#[41]⟩ [sgF 41]:=Ct
theorem kJ:ik oE dG [sgF 46]:=lit [46,0]
theorem aff{x:ByteArray}{l:List Wt}(h:ik lJ x l)(a:0<x.size):ik oE (uy x) (sgF 40::(l++[sgF 41])):=by
 have:=(zu.app h a rfl).app E8;simpa only[uy,fy,fx] using this
theorem zw(x:ByteArray):0<(uy x).size/\aw (uy x) 0=40:=by
 unfold uy;have a:0<(⟨#[40]⟩++x:ByteArray).size:=ax;exact⟨ax a,by rw[dH a,dH (by decide)];rfl⟩
def kdK(k:Int):Nat:=if k=26 then 0 else if k=34 then 2 else if k=37 then 3 else 1
structure EL (ns:List Nd) (z:Nat) (x:ByteArray) (l:List Wt):Prop where
 pos:0<x.size
 fb:11<=ej (ad ns z).k (ad ns z).op->aw x 0≠61/\(aw x 0=45->yv (ad ns z)=M)
 rd:ik lJ x l
 ba:pm (ad ns z).k=M->ik wl x l/\uu l (Sh ns z) (kdK (ad ns z).k)
 un:11<=ej (ad ns z).k (ad ns z).op->xd l (Sh ns z)
 ex:mg l (Sh ns z) (ej (ad ns z).k (ad ns z).op)
 sh:∃K,Sh ns z=one (ad ns z).bare K
 cs:(cst l:Int)+32<=wN ns z
def Cb(ns:List Nd)(z:Nat)(x:ByteArray):Prop:=∃l,EL ns z x l
theorem afg(op:Int):3<=(xe op).1/\(xe op).1<=(xe op).2/\(xe op).2<=11:=by
 unfold xe
 repeat' split
 all_goals decide
theorem oh(k op:Int):1<=ej k op/\(ej k op<11->k=28\/k=29\/k=31)/\(ej k op=11->k=30\/k=31):=by
 have:=afg op;unfold ej
 repeat' split
 all_goals omega
theorem afh{k op:Int}(h:pm k=M):ej k op=12:=by
 unfold pm at h;simp at h;unfold ej;rw[aa (by omega),aa (by omega),aa (by omega),aa (by omega)]
theorem afi{N:Nd}(h:pm N.k=M):yv N=W:=by
 unfold pm at h;simp at h;unfold yv;have:(N.k==30)=W:=by rw[aL];omega
 rw[this];rfl
section
variable {ns : List Nd} {E : Int → ByteArray} {S : Int → Nat → ByteArray} {z : Nat} {x : ByteArray} {l : List Wt}
theorem EL.par(h:EL ns z x l)(a:(ad ns z).k≠34)(b:(ad ns z).k≠27):ik oE (uy x) (sgF 40::(l++[sgF 41]))/\uu (sgF 40::(l++[sgF 41])) (Sh ns z) 3/\(cst (sgF 40::(l++[sgF 41])):Int)+10<=wN ns z:=by
 refine⟨aff h.rd h.pos,?_,by have:=h.cs;simp only[cst,cg,wt,sgF,Int.reduceLT,reduceIte];omega⟩;obtain⟨d,c⟩:=h.sh;have:=h.ex.le (r:=0) (by have:=oh (ad ns z).k (ad ns z).op;omega);rw[c]at this⊢;exact this.par a b
theorem aad{least:Int}(h:Cb ns z (E z))(e:least<=11):∃l,0<(gE ns E z least).size/\ik lJ (gE ns E z least) l/\mg l (Sh ns z) least/\(cst l:Int)+10<=wN ns z:=by
 obtain⟨l,h⟩:=h;have f:=oh (ad ns z).k (ad ns z).op;unfold gE;split
 ·rename_i d;obtain⟨a,b,c⟩:=h.par (by omega) (by omega);exact⟨_,(zw _).1,a.tt,b.un.ex _,c⟩
 ·rename_i d;exact⟨l,h.pos,h.rd,h.ex.le (by omega),by have:=h.cs;omega⟩
theorem ah9(h:Cb ns z (E z)):∃l,0<(gE ns E z 11).size/\ik lJ (gE ns E z 11) l/\xd l (Sh ns z)/\aw (gE ns E z 11) 0≠61/\(aw (gE ns E z 11) 0=45->yv (ad ns z)=M)/\(cst l:Int)+10<=wN ns z:=by
 obtain⟨l,h⟩:=h;have e:=oh (ad ns z).k (ad ns z).op;unfold gE;split
 ·rename_i a;obtain⟨b,c,d⟩:=h.par (by omega) (by omega);have:=zw (E z);exact⟨_,this.1,b.tt,c.un,by rw[this.2];decide,fun a=>(by rw[this.2]at a;cases a),d⟩
 ·rename_i a;have:=h.fb (by omega);exact⟨l,h.pos,h.rd,h.un (by omega),this.1,this.2,by have:=h.cs;omega⟩
theorem afj(h:Cb ns z (E z))(j:(ad ns z).k≠27):∃l e,e<4/\(0<(FD ns E z).size/\aw (FD ns E z) 0≠61/\aw (FD ns E z) 0≠45)/\ik wl (FD ns E z) l/\uu l (Sh ns z) e/\(cst l:Int)+10<=wN ns z:=by
 obtain⟨l,h⟩:=h;unfold FD;split
 ·rename_i a;have d:=h.fb (by rw[afh a];decide);obtain⟨b,c⟩:=h.ba a;refine⟨l,_,?_,⟨h.pos,d.1,fun q=>?_⟩,b,c,by have:=h.cs;omega⟩
  ·unfold kdK;repeat' split
   all_goals omega
  ·have:=d.2 q;rw[afi a]at this;cases this
 ·rename_i a;have m:(ad ns z).k≠34:=fun g=>a (by rw[g];decide);obtain⟨b,c,f⟩:=h.par m j;have:=zw (E z);exact⟨_,3,by decide,⟨this.1,by rw[this.2];decide,by rw[this.2];decide⟩,b.tt,c,f⟩
theorem EL.of_ba{b:Fo}(o:pm (ad ns z).k=M)(e:0<x.size)(g:aw x 0≠61)(f:aw x 0≠45)(c:ik wl x l)(a:uu l (Sh ns z) (kdK (ad ns z).k))(j:Sh ns z=one (ad ns z).bare b)(h:(cst l:Int)+32<=wN ns z):Cb ns z x:=
 ⟨l,e,fun _=>⟨g,fun d=>absurd d f⟩,c.mono fun m=>zt,fun _=>⟨c,a⟩,fun _=>a.un,a.un.ex _,⟨b,j⟩,h⟩
theorem EL.of_un{a:Fo}(h:pm (ad ns z).k=W)(d:0<x.size)(f:aw x 0≠61)(e:aw x 0=45->yv (ad ns z)=M)(j:ik lJ x l)(c:xd l (Sh ns z))(m:Sh ns z=one (ad ns z).bare a)(g:(cst l:Int)+32<=wN ns z):Cb ns z x:=
 ⟨l,d,fun _=>⟨f,e⟩,j,fun b=>(by rw[h]at b;cases b),fun _=>c,c.ex _,⟨a,m⟩,g⟩
theorem EL.of_ex{b:Fo}(f:pm (ad ns z).k=W)(c:0<x.size)(j:ej (ad ns z).k (ad ns z).op<11)(g:ik lJ x l)(d:mg l (Sh ns z) (ej (ad ns z).k (ad ns z).op))(h:Sh ns z=one (ad ns z).bare b)(e:(cst l:Int)+32<=wN ns z):Cb ns z x:=
 ⟨l,c,fun a=>by omega,g,fun a=>(by rw[f]at a;cases a),fun a=>by omega,d,⟨b,h⟩,e⟩
def KE(ns:List Nd)(E:Int->ByteArray)(z:Int):Prop:=∃a:Nat,z=(a:Int)/\Cb ns a (E a)
theorem tE:∀(r:List Int)(z:Int),(∀y∈z::r,KE ns E y)->∃l,0<(bG ((z::r).map E)).size/\ik lJ (bG ((z::r).map E)) l/\In l (px (Sh ns) (z::r))/\(cst l:Int)+21<=wK ns (z::r)
 |[],z,h=>by
  obtain⟨y,rfl,l,a⟩:=h z bz;refine⟨l,?_⟩;rw[dq,List.map_nil,qd,jx];exact⟨a.pos,a.rd,(a.ex.le (by have:=oh (ad ns y).k (ad ns y).op;omega)).es,by have:=a.cs;simp only[wK];omega⟩
 |z2::r,z,h=>by
  obtain⟨y,rfl,l,a⟩:=h z bz;obtain⟨d,e,f,g,j⟩:=tE r z2 fun y c=>h y (dm _ c);refine⟨l++(sgF 46::d),?_⟩;rw[dq,dq,oH,<-dq,px];have b:0<(dG++bG ((z2::r).map E)).size:=ax;refine⟨ax a.pos,?_,In.cons (a.ex.le (by have:=oh (ad ns y).k (ad ns y).op;omega)) g,by have:=a.cs;simp only[cg,cst,wt,sgF,Int.reduceLT,reduceIte];rw[wK];omega⟩;have:=a.rd.app (kJ.app f e rfl) b yz;exact this
theorem afk{a b:Nat}{t L R:Int}{sign:ByteArray}(g:Cb ns a (E a))(h:Cb ns b (E b))(j:ik oE sign [sgF t])(s0:0<sign.size)(A:aw sign 0=32)(e:L=lkw t)(f:R=rpw t)(c:ie t=M)(k:t<100)(m:t≠7)(o:vA t=W):
  ∃l,0<(gE ns E a L++sign++gE ns E b R).size/\ik lJ (gE ns E a L++sign++gE ns E b R) l/\mg l (one (abg t) ((Sh ns a).app (Sh ns b))) (B7 t)/\(cst l:Int)<=wN ns a+wN ns b:=by
 subst e f;obtain⟨l,p,r,s,C⟩:=aad (least:=lkw t) g (by have:=Em t;omega);obtain⟨u,v,w,y,F⟩:=aad (least:=rpw t) h (K0 t).2;refine⟨l++(sgF t::u),ax (ax p),?_,mg.bin s y c k m o,by have d:wt (sgF t)=11:=aa (show ¬t<5 from fun B=>by unfold ie at c;have:=aH c;omega);simp only[cg,cst,d];omega⟩;have:=(r.app j s0 (by rw[A];decide)).app w v rfl;exact this.as
theorem aia:∀op:Fin 19,1<=op.val->B7 (60+(op.val:Int))=(xe op.val).1/\rpw (60+(op.val:Int))=(xe op.val).2/\lkw (60+(op.val:Int))=(if(xe op.val).2=(xe op.val).1 then(xe op.val).1+1 else(xe op.val).1)/\ie (60+(op.val:Int))=M/\vA (60+(op.val:Int))=W/\vw (60+(op.val:Int))=ed (60+(op.val:Int))/\itC [0,60+(op.val:Int),0]=M:=by decide+kernel
end
def SCl(ns:List Nd)(z:Nat)(x:ByteArray):Prop:=∃l,0<x.size/\ik lJ x l/\C9 l (Sh ns z)/\(cst l:Int)+14<=wN ns z
def KS(ns:List Nd)(S:Int->Nat->ByteArray)(t:Nat)(z:Int):Prop:=∃a:Nat,z=(a:Int)/\SCl ns a (S a t)
theorem JF(t:Nat):0<(ig t).size/\aw (ig t) 0=10:=by
 unfold ig;exact⟨ax,by rw[dH (by decide)];rfl⟩
theorem qr{x:ByteArray}(h:jo x=M):0<x.size/\bC (aw x 0)=M:=by
 unfold jo at h;obtain⟨b,a,c,d⟩:=aH h;have e:=mw a;exact⟨bm rfl (by omega),a⟩
theorem aae:∀(r:List ByteArray)(x:ByteArray),(∀s∈x::r,jo s=M)->ik wl (bG (x::r)) (Gs (x::r))/\0<(bG (x::r)).size
 |[],x,h=>by
  have a:=h x bz;rw[qd];exact⟨mK a,(qr a).1⟩
 |y::r,x,h=>by
  have a:=h x bz;obtain⟨c,d⟩:=aae r y fun s b=>h s (dm _ b);rw[oH];exact⟨(mK a).app (kJ.app c d rfl) ax yz,ax (qr a).1⟩
theorem ajc:∀(r:List ByteArray)(x:ByteArray),(∀s∈x::r,s.size<=3)->cst (Gs (x::r))<=19*(r.length+1)
 |[],x,h=>by
  have:=h x bz;simp only[Gs,cst,wt,jK,Int.reduceLT,reduceIte];simp;omega
 |y::r,x,h=>by
  have:=h x bz;have:=ajc r y fun s a=>h s (dm _ a);rw[Gs]
  ·simp only[cst,wt,jK,sgF,Int.reduceLT,reduceIte,cC];omega
  ·simp
theorem afl:∀(nm:List ByteArray)(t:Bool),(∀s∈nm,s.size<=3)->cst (Al nm t)<=19*nm.length+11
 |[],false,_=>aG _
 |[],true,_=>by decide
 |x::r,t,h=>by
  have:=h x bz;have:=afl r t fun s a=>h s (dm _ a);rw[Al];split
  ·simp only[cst,wt,jK,Int.reduceLT,reduceIte,cC];omega
  ·simp only[cst,wt,jK,sgF,Int.reduceLT,reduceIte,cC];omega
theorem x19{N:Nd}(h:B9 N)(a:N.k≠25):N.x.size<=19:=by
 rcases h.x with g|g
 ·exact g.2.1
 ·exact absurd g.1 a
theorem afm{c:Int}(h:bC c=M):wj (ed 48) 48 c=M:=by
 have b:=mw h;have a:bC (aw (ed 48) 0)=W/\ch (aw (ed 48) 0)=W/\aw (ed 48) 0≠34/\aw (ed 48) 0≠45:=by decide+kernel
 unfold wj nxS;rw[aa (by rw[a.1];simp),aa (by rw[a.2.1];simp[a.2.2.1])];simp[a.2.2.2];omega
def prT(nm:List ByteArray)(r:Bool):ByteArray:=bG nm++(if r=M then(if nm=[] then⟨#[46,46,46]⟩ else dG++⟨#[46,46,46]⟩) else U)
theorem E9:ik lJ ⟨#[46,46,46]⟩ [sgF 49]:=(lit [49]).mono fun a b=>by
 have:∀a∈ss,itF [49] a=M:=by decide+kernel
 exact this a (aH b)
theorem afn:∀(nm:List ByteArray)(r:Bool),(∀s∈nm,jo s=M)->(nm≠[]\/r=M)->ik lJ (prT nm r) (Al nm r)/\0<(prT nm r).size
 |[],false,_,h=>by simp at h
 |[],true,_,_=>by
  have e:prT [] M=⟨#[46,46,46]⟩:=by decide
  rw[e];exact⟨E9,by decide⟩
 |[x],false,h,_=>by
  have a:=h x bz;have e:prT [x] W=x:=by unfold prT;rw[qd];exact ma x
  rw[e];exact⟨(mK a).mono fun k=>zt,(qr a).1⟩
 |[x],true,h,_=>by
  have a:=h x bz;have e:prT [x] M=x++(dG++⟨#[46,46,46]⟩):=by unfold prT;rw[qd];rfl
  rw[e];exact⟨(mK a).app (kJ.app E9) (by decide) (by decide),ax (qr a).1⟩
 |x::b::r,c,h,_=>by
  have a:=h x bz;obtain⟨g,j⟩:=afn (b::r) c (fun s f=>h s (dm _ f)) (.inl (by simp));have e:prT (x::b::r) c=x++(dG++prT (b::r) c):=by
   unfold prT;rw[oH,aa (show ¬x::b::r=[] by simp),aa (show ¬b::r=[] by simp)];simp only[aB]
  have d:Al (x::b::r) c=jK x::sgF 46::Al (b::r) c:=by rw[Al,aa (by simp)]
  rw[e,d];exact⟨(mK a).app (kJ.app g j rfl) ax yz,ax (qr a).1⟩
theorem aib(N:Nd)(h:∀s∈N.nm,jo s=M):ik oE (Cp N) (sgF 40::(Al N.nm (decide (N.op=1))++[sgF 41])):=by
 have b:ik oE ⟨#[41,32]⟩ [sgF 41]:=lit [41,0];have c:Cp N=⟨#[40]⟩++prT N.nm (decide (N.op=1))++⟨#[41,32]⟩:=by
  unfold Cp prT;simp only[decide_eq_true_eq,aB]
 rw[c];by_cases a:N.nm≠[]\/decide (N.op=1)=M
 ·obtain⟨g,j⟩:=afn N.nm _ h a;have:=(zu.app g j rfl).app b;exact this.as
 ·have e:N.nm=[]:=by by_cases q:N.nm=[];exact q;exact absurd (.inl q) a
  have f:decide (N.op=1)=W:=by cases q:decide (N.op=1) with
   |true=>exact absurd (.inr q) a
   |false=>rfl
  rw[e,f];have d:prT [] W=U:=by decide
  rw[d,ma];exact zu.app b
section
variable {ns : List Nd} {E : Int → ByteArray} {S : Int → Nat → ByteArray} {i tab q : Nat}
theorem aaf:∀(ks:List Int),(∀z∈ks,KS ns S (tab+1) z)->∃m,0<(iA (ks.map fun k=>ig (tab+1)++S k (tab+1))++ig tab).size/\aw (iA (ks.map fun k=>ig (tab+1)++S k (tab+1))++ig tab) 0=10/\ik oE (iA (ks.map fun k=>ig (tab+1)++S k (tab+1))++ig tab) m/\ID m (px (Sh ns) ks)/\(cst m:Int)<=wK ns ks+11
 |[],_=>by
  refine⟨[nlW],?_⟩;have e:iA (([]:List Int).map fun k=>ig (tab+1)++S k (tab+1))++ig tab=ig tab:=Bj _;rw[e];exact⟨(JF tab).1,(JF tab).2,LF tab,ID.nil,by show(11:Int)<=0+11;decide⟩
 |z::s,b=>by
  obtain⟨c,rfl,l,f,g,h,t⟩:=b z bz;obtain⟨m,j,o,p,r,u⟩:=aaf s fun c d=>b c (dm _ d);refine⟨nlW::(l++m),?_⟩;rw[dq,Bk,px];simp only[aB];have a:=JF (tab+1);refine⟨ax a.1,by rw[dH a.1];exact a.2,?_,ID.cons h r,by simp only[cst,cg,wt,sgF,jK,nlW,Int.reduceLT,reduceIte];rw[wK];omega⟩;exact(LF (tab+1)).app (g.app p j (by rw[o];decide)) (ax f) rfl
theorem anD(ks:List Int)(h:∀z∈ks,KS ns S (tab+1) z):∃l,0<(uz S ks tab).size/\ik oE (uz S ks tab) l/\Eo l (one (bN 1 0 0 z0 []) (px (Sh ns) ks))/\(cst l:Int)<=wK ns ks+33:=by
 unfold uz;split
 ·rename_i b;subst b;exact⟨[sgF 42,sgF 43],by decide,(lit [42,43]).mono fun a _=>(show wj (ed 43) 43 a=M from aac (by decide) a),aj8,by show(22:Int)<=0+33;decide⟩
 ·obtain⟨d,e,k,f,g,m⟩:=aaf ks h;have b:(⟨#[123]⟩:ByteArray)++iA (ks.map fun c=>ig (tab+1)++S c (tab+1))++ig tab++⟨#[125]⟩=⟨#[123]⟩++(iA (ks.map fun c=>ig (tab+1)++S c (tab+1))++ig tab)++⟨#[125]⟩:=by simp only[aB]
  rw[b];have j:ik oE (⟨#[123]⟩:ByteArray) [sgF 42]:=Ct;have a:ik oE (⟨#[125]⟩:ByteArray) [sgF 43]:=Ct;refine⟨sgF 42::(d++[sgF 43]),ax ax,?_,ID.bl g,by simp only[cst,cg,wt,sgF,jK,nlW,Int.reduceLT,reduceIte];omega⟩;have:=(j.app f e rfl).app a;exact this.as
structure JzE (ns:List Nd) (E:Int->ByteArray) (S:Int->Nat->ByteArray) (i:Nat) (tab:Nat):Prop where
 e:∀z:Nat,z<i->z<ns.length->eK (ad ns z).k=M->Cb ns z (E z)
 s:∀z:Nat,z<i->z<ns.length->ja (ad ns z).k=M->SCl ns z (S z (tab+1))
 b:∀z:Nat,z<ns.length->B9 (ad ns z)
theorem JzE.blk(h:JzE ns E S i tab)(d:JE ns)(w:q<=i)(a:q<ns.length)(b:(ad ns q).k=1):∃l,0<(uz S (ad ns q).ks tab).size/\ik oE (uz S (ad ns q).ks tab) l/\Eo l (Sh ns q)/\(cst l:Int)+117<=wN ns q:=by
 have c:=(je (d.nb q a)).1;obtain⟨l,p,r,t,y⟩:=anD (ns:=ns) (S:=S) (tab:=tab) (ad ns q).ks fun z m=>by
  obtain⟨f,rfl,u,j,o,v,g⟩:=rq d a m;have e:=Dr _ 0 (sC c b) o (by omega) (by omega);rw[g]at e;exact⟨f,rfl,h.s f (by omega) j e⟩
 refine⟨l,p,r,?_,by rw[d.at_ q a];have:=ui (ad ns q);omega⟩;rw[rz d a,wA c,b];exact t
theorem JzE.bod(h:JzE ns E S i tab)(d:JE ns)(H:q<=i)(c:q<ns.length)(r:(ad ns q).k=36):∃l,(0<(xj ns S (ad ns q) tab).size/\aw (xj ns S (ad ns q) tab) 0=40)/\ik oE (xj ns S (ad ns q) tab) l/\BDc l (Sh ns q)/\(cst l:Int)+170<=wN ns q:=by
 have e:=(je (d.nb q c)).1;obtain⟨m,o,G,v⟩:=ae3 e r;obtain⟨F,a⟩:=il (d.nb q c) c 0 (by omega);rw[a.id]at o;obtain⟨l,y,A,B,I⟩:=h.blk d (by have:=a.lt;omega) a.len o;have w:=aib (ad ns q) (aja e);unfold xj;rw[a.id];have j:0<(Cp (ad ns q)).size/\aw (Cp (ad ns q)) 0=40:=by
  unfold Cp;have u:∀x:ByteArray,0<(⟨#[40]⟩++x:ByteArray).size:=fun x=>ax;simp only[aB];exact⟨u _,by rw[dH (by decide)];rfl⟩
 have p:=h.b q c;refine⟨_,⟨ax j.1,by rw[dH j.1];exact j.2⟩,w.app A y rfl,?_,by
  rw[d.at_ q c,kj m,a.id];have:=afl (ad ns q).nm (decide ((ad ns q).op=1)) fun C e=>(p.s C e).sz;have:=p.nm;have:=ui (ad ns q);simp only[cst,cg,wt,sgF,Int.reduceLT,reduceIte,wK];omega⟩
 have:=Eo.body B (ad ns q).nm (decide ((ad ns q).op=1));rw[rz d c,wA e,r,kj m,jx,a.id];have s:(if decide ((ad ns q).op=1)=M then(1:Int) else 0)=(ad ns q).op:=by
  rcases v with g|g<;>rw[g]<;>rfl
 rw[s]at this;have t:∀f:List Wt,(sgF 40::(f++[sgF 41]))++l=sgF 40::(f++(sgF 41::l)):=fun f=>by simp
 rw[t];exact this
theorem JzE.ent(h:JzE ns E S i tab)(d:JE ns)(al:q<=i)(c:q<ns.length)(ak:40<=(ad ns q).k/\(ad ns q).k<=42):∃l,0<(lm ns E (ad ns q)).size/\ik lJ (lm ns E (ad ns q)) l/\ENc l (Sh ns q)/\(cst l:Int)+100<=wN ns q:=by
 have o:=(je (d.nb q c)).1;have v:=fun L K=>il (d.nb q c) c L K;have y:=fun z:Nat=>(oh (ad ns z).k (ad ns z).op).1;have am:=ui (ad ns q);unfold lm;rw[rz d c,wA o,d.at_ q c];by_cases s:(ad ns q).k=41
 ·obtain⟨u,B,_⟩:=og o (by omega);obtain⟨f,b⟩:=v 0 (by omega);obtain⟨A,g⟩:=v 1 (by omega);have j:=iz 2 0 B 0 (by omega) (by omega);have G:=iz 2 0 B 1 (by omega) (by omega);rw[b.id]at j;rw[g.id]at G;have:=b.lt;have:=g.lt;obtain⟨l,a⟩:=h.e f (by omega) b.len j;obtain⟨af,m⟩:=h.e A (by omega) g.len G;rw[ab s,b.id,g.id,rt u,li,b.id,g.id,s];have w:ik oE (⟨#[91]⟩:ByteArray) [sgF 44]:=Ct;have p:ik oE (⟨#[93,32,61,32]⟩:ByteArray) [sgF 45,sgF 47]:=lit [45,0,47,0];refine⟨sgF 44::(l++(sgF 45::sgF 47::af)),ax (ax ax),?_,mg.pair (a.ex.le (by have:=y f;omega)) (m.ex.le (by have:=y A;omega)),by have:=a.cs;have:=m.cs;simp only[cst,cg,wt,sgF,jK,nlW,Int.reduceLT,reduceIte];simp only[wK];omega⟩;have:=((w.app a.rd a.pos rfl).app p).app m.rd m.pos rfl;exact this.as
 rw[aa s];obtain⟨u,j,_⟩:=pu o (by omega);obtain⟨f,b⟩:=v 0 (by omega);rw[b.id]at j;have:=b.lt;obtain⟨l,a⟩:=h.e f (by omega) b.len j;have F:=a.ex.le (r:=0) (by have:=y f;omega);rw[b.id,kj u,jx,b.id];by_cases t:(ad ns q).k=42
 ·have C:=(E7 o).1 (by omega);have H:=qr C;rw[ab t,t];have w:ik (wj (ed 48) 48) (⟨#[46]⟩:ByteArray) [sgF 48]:=lit [48];have p:ik oE (⟨#[32,61,32]⟩:ByteArray) [sgF 47]:=lit [0,47,0];have J:wj (ed 48) 48 (aw (ad ns q).x 0)=M:=afm H.2;refine⟨sgF 48::jK (ad ns q).x::sgF 47::l,ax (ax ax),?_,mg.named F,by have:=a.cs;have:=x19 (h.b q c) (by omega);simp only[cst,cg,wt,sgF,jK,nlW,Int.reduceLT,reduceIte];simp only[wK];omega⟩;exact((w.app (mK C) H.1 J).app p).app a.rd a.pos rfl
 ·have I:(ad ns q).k=40:=by omega
  rw[aa t,I];exact⟨l,a.pos,a.rd,mg.item F,by have:=a.cs;simp only[wK];omega⟩
end
theorem JG{w:ByteArray}{k c:Int}(h:ch (aw w 0)=M\/aw w 0=34)(a:lJ c=M):wj w k c=M:=by
 have b:bC (aw w 0)=W:=by
  rcases h with g|g
  ·have:=iI g;simp[bC];omega
  ·rw[g];decide
 unfold wj;rw[aa (by rw[b];simp),ab h];exact a
theorem ak2{N:Nd}(h:B9 N)(b:N.k=25):((fa (dF N.x)).size:Int)+37<=fW N:=by
 have c:=ui N;rcases h.x with g|⟨_,g|g⟩
 ·exact absurd b g.1
 ·have:=Ll N.x;have:=g.1;omega
 ·have:=ahl N.x g.1.dg;have a:bgN N=1:=by unfold bgN;rw[ab (by have:=g.1.lo;omega)]
  unfold fW;rw[a];have:=g.2;omega
theorem ak3(n:Int)(a:n<=9223372036854775807):(wd n).size<=20:=by
 unfold wd;split
 ·rw[qy];decide
 ·show(oe n.toNat).size<=20;rw[abA];exact Lib.nDigits_le20 _ (by omega)
theorem aic(n:Int):ch (aw (wd n) 0)=M:=by
 unfold wd;split
 ·rw[(zr _ 16).1];decide
 ·have:=AD n.toNat;exact this.2.1 0 this.1
section
variable {ns : List Nd} {E : Int → ByteArray} {S : Int → Nat → ByteArray} {i tab q : Nat}
theorem JzE.tbl(h:JzE ns E S i tab)(d:JE ns):∀(r:List Int)(z:Int),(∀y∈z::r,∃k:Nat,y=(k:Int)/\k<=i/\k<ns.length/\40<=(ad ns k).k/\(ad ns k).k<=42)->∃l,0<(bG ((z::r).map fun k=>lm ns E (ad ns k))).size/\ik lJ (bG ((z::r).map fun k=>lm ns E (ad ns k))) l/\TBc l (px (Sh ns) (z::r))/\(cst l:Int)<=wK ns (z::r)
 |[],z,g=>by
  obtain⟨y,rfl,a,b,c⟩:=g z bz;obtain⟨l,e,j,m,p⟩:=h.ent d a b c;refine⟨l,?_⟩;rw[dq,List.map_nil,qd,jx];exact⟨e,j,m.last,by simp only[wK];omega⟩
 |z2::r,z,g=>by
  obtain⟨y,rfl,a,b,c⟩:=g z bz;obtain⟨l,e,j,m,p⟩:=h.ent d a b c;obtain⟨s,t,u,v,w⟩:=h.tbl d r z2 fun y o=>g y (dm _ o);refine⟨l++(sgF 46::s),?_⟩;rw[dq,dq,oH,<-dq (f:=fun k=>lm ns E (ad ns k)),px];exact⟨ax e,j.app (kJ.app u t rfl) ax yz,m.cons v,by simp only[cst,cg,wt,sgF,jK,nlW,Int.reduceLT,reduceIte];rw[wK];omega⟩
theorem aid(d:JE ns)(r:i<ns.length)(m:B9 (ad ns i))(I:20<=(ad ns i).k/\(ad ns i).k<=27):Cb ns i (zo (ad ns i)):=by
 have p:=(je (d.nb i r)).1;have H:=ae4 p I;have u:(ad ns i).ks=[]:=jr H;have f:=rz d r;have c:=f;rw[wA p,u,px]at c;have w:=d.at_ i r;have L:=ui (ad ns i);have y:=x19 m;rw[u]at w;simp only[wK]at w;have s:∀(x:ByteArray)(k:Int),x=itT [k]->itC [k]=M->k≠0->(∀j∈ss,wj (ed k) k j=M)->ik lJ x [sgF k]:=fun x k B C F G=>by
  have:=lit [k] B C;simp only[itF,itL,aa F]at this;exact this.mono fun j h=>G j (aH h)
 rcases(show(ad ns i).k=20\/(ad ns i).k=21\/(ad ns i).k=22\/(ad ns i).k=23\/(ad ns i).k=24\/(ad ns i).k=25\/(ad ns i).k=26\/(ad ns i).k=27 by omega) with e|e|e|e|e|e|e|e;all_goals (simp only[e]at c)
 ·rw[show zo (ad ns i)=⟨#[110,105,108]⟩ by unfold zo;simp[e]];exact EL.of_un (l:=[sgF 24]) (by rw[e];decide) (by decide) (by decide) (fun a=>absurd a (by decide)) (s _ 24 (by decide+kernel) (by decide+kernel) (by decide) (by decide+kernel)) (by rw[c];exact aj4) f (by simp only[cst,cg,wt,sgF,jK,nlW,Int.reduceLT,reduceIte];omega)
 ·rw[show zo (ad ns i)=⟨#[116,114,117,101]⟩ by unfold zo;simp[e]];exact EL.of_un (l:=[sgF 29]) (by rw[e];decide) (by decide) (by decide) (fun a=>absurd a (by decide)) (s _ 29 (by decide+kernel) (by decide+kernel) (by decide) (by decide+kernel)) (by rw[c];exact aj5) f (by simp only[cst,cg,wt,sgF,jK,nlW,Int.reduceLT,reduceIte];omega)
 ·rw[show zo (ad ns i)=⟨#[102,97,108,115,101]⟩ by unfold zo;simp[e]];exact EL.of_un (l:=[sgF 17]) (by rw[e];decide) (by decide) (by decide) (fun a=>absurd a (by decide)) (s _ 17 (by decide+kernel) (by decide+kernel) (by decide) (by decide+kernel)) (by rw[c];exact aj6) f (by simp only[cst,cg,wt,sgF,jK,nlW,Int.reduceLT,reduceIte];omega)
 ·rw[show zo (ad ns i)=wd (ad ns i).n by unfold zo;simp[e]];have g:=ahx (ad ns i).n m.int.n.1 m.int.n.2;have K:=ak3 (ad ns i).n m.int.n.2;have b:=aic (ad ns i).n;exact EL.of_un (l:=[⟨2,(ad ns i).n,⟨#[]⟩,wd (ad ns i).n⟩]) (by rw[e];decide) g.pos (fun a=>by rw[a]at b;exact absurd b (by decide)) (fun a=>by rw[a]at b;exact absurd b (by decide)) ((AE (t:=⟨2,(ad ns i).n,⟨#[]⟩,wd (ad ns i).n⟩) (by simp) (by simp) g).mono fun j h=>JG (.inl b) h) (by rw[c];exact aj1) f (by simp only[cst,cg,wt,sgF,jK,nlW,Int.reduceLT,reduceIte];omega)
 ·rw[show zo (ad ns i)=(ad ns i).x by unfold zo;simp[e]];have o:=(E7 p).2 e;have g:=aht o;have b:ch (aw (ad ns i).x 0)=M:=by unfold fok pi at o;rw[cL]at o;exact(aH o.2).1
  exact EL.of_un (l:=[⟨3,0,(ad ns i).x,(ad ns i).x⟩]) (by rw[e];decide) g.pos (fun a=>by rw[a]at b;exact absurd b (by decide)) (fun a=>by rw[a]at b;exact absurd b (by decide)) ((AE (t:=⟨3,0,(ad ns i).x,(ad ns i).x⟩) (by simp) (by simp) g).mono fun j h=>JG (.inl b) h) (by rw[c];exact aj2) f (by have:=y (by omega);simp only[cst,cg,wt,sgF,jK,nlW,Int.reduceLT,reduceIte];omega)
 ·rw[show zo (ad ns i)=fa (dF (ad ns i).x) by unfold zo;simp[e]];have g:=ahu (ad ns i).x;have b:=Gx (ad ns i).x;exact EL.of_un (l:=[⟨4,0,(ad ns i).x,fa (dF (ad ns i).x)⟩]) (by rw[e];decide) g.pos (by rw[b];decide) (fun a=>by rw[b]at a;cases a) ((AE (t:=⟨4,0,(ad ns i).x,fa (dF (ad ns i).x)⟩) (by simp) (by simp) g).mono fun j h=>JG (.inr b) h) (by rw[c];exact aj3) f (by have:=ak2 m e;simp only[cst,cg,wt,sgF,jK,nlW,Int.reduceLT,reduceIte];omega)
 ·rw[show zo (ad ns i)=(ad ns i).x by unfold zo;simp[e]];have v:=(E7 p).1 (by omega);have A:=qr v;have J:=mw A.2;exact EL.of_ba (l:=[jK (ad ns i).x]) (by rw[e];decide) A.1 (by omega) (by omega) (mK v) (by rw[c,e];exact ag0) f (by have:=y (by omega);simp only[cst,cg,wt,sgF,jK,nlW,Int.reduceLT,reduceIte];omega)
 ·rw[show zo (ad ns i)=⟨#[46,46,46]⟩ by unfold zo;simp[e]];exact EL.of_un (l:=[sgF 49]) (by rw[e];decide) (by decide) (by decide) (fun a=>absurd a (by decide)) E9 (by rw[c];exact aj7) f (by simp only[cst,cg,wt,sgF,jK,nlW,Int.reduceLT,reduceIte];omega)
theorem anE{a:Nat}(d:JE ns)(r:i<ns.length)(j:(ad ns i).k=30)(h:bJ (ad ns i) 0=(a:Int))(af:Cb ns a (E a)):Cb ns i (Lp ns E (ad ns i)):=by
 have w:=(je (d.nb i r)).1;obtain⟨t,_,v⟩:=pu w (by omega);have v:=v j;have y:=rz d r;have s:=y;rw[wA w,kj t,jx,h]at s;simp only[j]at s;obtain⟨l,al,am,an,ao,ap,av⟩:=ah9 af;have A:=d.at_ i r;have a0:=ui (ad ns i);rw[kj t,h]at A;simp only[wK]at A;have ak:pm (ad ns i).k=W:=by rw[j];decide
 unfold Lp;rw[h];have g:∀(k:Int)(f:ByteArray)(p:Int->Bool),Lm ns (ad ns i)=f->0<f.size->aw f 0≠61->(aw f 0=45->yv (ad ns i)=M)->ik p f [sgF k]->p (aw (gE ns E a 11) 0)=M->jk k=M->k≠7->k<100->Iv k=(ad ns i).op->Cb ns i (Lm ns (ad ns i)++gE ns E a 11):=fun k f p B m F G H I o J K C=>by
  rw[B];refine EL.of_un (l:=sgF k::l) ak (ax m) (by rw[dH m];exact F) (by rw[dH m];exact G) (H.app am al I) ?_ y (by
   have e:wt (sgF k)=11:=aa (show ¬k<5 from fun b=>by unfold jk at o;have:=aH o;omega);simp only[cst,e];omega)
  rw[s,<-C];exact an.pre o J K
 rcases(show(ad ns i).op=19\/(ad ns i).op=20\/(ad ns i).op=21\/(ad ns i).op=22 by omega) with e|e|e|e
 ·have u:yv (ad ns i)=M:=by unfold yv;rw[j,e];rfl
  by_cases b:yv (ad ns a)=M
  ·refine g 62 (⟨#[45]⟩++⟨#[32]⟩) oE (by unfold Lm;rw[e,h,ab b];rfl) (by decide) (by decide) (fun _=>u) (lit [62,0]) rfl (by decide) (by decide) (by decide) (by rw[e];decide)
  ·refine g 62 ⟨#[45]⟩ (wj (ed 62) 62) (by unfold Lm;rw[e,h,aa b];rfl) (by decide) (by decide) (fun _=>u) (lit [62]) ?_ (by decide) (by decide) (by decide) (by rw[e];decide);have c:bC (aw (ed 62) 0)=W/\ch (aw (ed 62) 0)=W/\aw (ed 62) 0≠34:=by decide+kernel
   have L:aw (gE ns E a 11) 0≠45:=fun q=>b (ap q);unfold wj nxS;rw[aa (by rw[c.1];simp),aa (by rw[c.2.1];simp[c.2.2])];simp[L]
 ·refine g 69 ⟨#[126]⟩ (wj (ed 69) 69) (by unfold Lm;rw[e];rfl) (by decide) (by decide) (fun b=>absurd b (by decide)) (lit [69]) ?_ (by decide) (by decide) (by decide) (by rw[e];decide);have c:bC (aw (ed 69) 0)=W/\ch (aw (ed 69) 0)=W/\aw (ed 69) 0≠34/\aw (ed 69) 0≠45:=by decide+kernel
  unfold wj nxS;rw[aa (by rw[c.1];simp),aa (by rw[c.2.1];simp[c.2.2.1])];simp[c.2.2.2,ao]
 ·exact g 25 ⟨#[110,111,116,32]⟩ oE (by unfold Lm;rw[e];rfl) (by decide) (by decide) (fun b=>absurd b (by decide)) (lit [25,0]) rfl (by decide) (by decide) (by decide) (by rw[e];decide)
 ·exact g 50 ⟨#[35]⟩ oE (by unfold Lm;rw[e];rfl) (by decide) (by decide) (fun b=>absurd b (by decide)) (Ct) rfl (by decide) (by decide) (by decide) (by rw[e];decide)
theorem ak4(h:JzE ns E S i tab)(d:JE ns)(w:i<ns.length)(b6:eK (ad ns i).k=M):Cb ns i (prE ns E S (ad ns i) tab):=by
 have B:=(je (d.nb i w)).1;have b6:=aH b6;have am:=fun bf bw=>il (d.nb i w) w bf bw;have y:=rz d w;have b:=y;rw[wA B]at b;have m:=d.at_ i w;have cz:=ui (ad ns i);have bo:∀(bx:(ad ns i).k=28\/(ad ns i).k=29\/(ad ns i).k=31\/(ad ns i).k=32),∃a s:Nat,bJ (ad ns i) 0=(a:Int)/\bJ (ad ns i) 1=(s:Int)/\(ad ns i).ks=[(a:Int),(s:Int)]/\Cb ns a (E a)/\Cb ns s (E s):=fun bx=>by
  obtain⟨a3,bb,_⟩:=og B (by omega);obtain⟨a,f⟩:=am 0 (by omega);obtain⟨s,bd⟩:=am 1 (by omega);have J:=iz 2 0 bb 0 (by omega) (by omega);have ca:=iz 2 0 bb 1 (by omega) (by omega);rw[f.id]at J;rw[bd.id]at ca;exact⟨a,s,f.id,bd.id,by rw[rt a3,f.id,bd.id],h.e a f.lt f.len J,h.e s bd.lt bd.len ca⟩
 have b2:∀(bx:(ad ns i).k=30\/(ad ns i).k=33\/(ad ns i).k=37),∃a:Nat,bJ (ad ns i) 0=(a:Int)/\(ad ns i).ks=[(a:Int)]/\Cb ns a (E a):=fun bx=>by
  obtain⟨a3,J,_⟩:=pu B (by omega);obtain⟨a,f⟩:=am 0 (by omega);rw[f.id]at J;exact⟨a,f.id,by rw[kj a3,f.id],h.e a f.lt f.len J⟩
 unfold prE;by_cases av:(ad ns i).k=28
 ·obtain⟨a,s,o,al,j,A,G⟩:=bo (by omega);rw[ab av];unfold xi Dh;rw[o,al];simp only[av,j,li]at b⊢;rw[j]at m;simp only[wK]at m;obtain⟨l,e,u,p,C⟩:=afk (t:=10) (sign:=⟨#[32,97,110,100,32]⟩) A G (lit [0,10,0]) (by decide) (by decide) rfl rfl (by decide) (by decide) (by decide) (by decide);exact EL.of_ex (l:=l) (by rw[av];decide) e (by rw[av];show(2:Int)<11;decide) u (by rw[b,av];exact p) y (by omega)
 rw[aa av];by_cases a0:(ad ns i).k=29
 ·obtain⟨a,s,o,al,j,A,G⟩:=bo (by omega);rw[ab a0];unfold xi Dh;rw[o,al];simp only[a0,j,li]at b⊢;rw[j]at m;simp only[wK]at m;obtain⟨l,e,u,p,C⟩:=afk (t:=26) (sign:=⟨#[32,111,114,32]⟩) A G (lit [0,26,0]) (by decide) (by decide) rfl rfl (by decide) (by decide) (by decide) (by decide);exact EL.of_ex (l:=l) (by rw[a0];decide) e (by rw[a0];show(1:Int)<11;decide) u (by rw[b,a0];exact p) y (by omega)
 rw[aa a0];by_cases af:(ad ns i).k=31
 ·obtain⟨a,s,o,al,j,A,G⟩:=bo (by omega);obtain⟨_,_,bA⟩:=og B (by omega);have bA:=bA af;rw[ab af];unfold xi Dh;rw[o,al];simp only[af,j,li]at b⊢;obtain⟨c,bD⟩:∃c,(ad ns i).op=c:=⟨_,rfl⟩;rw[bD]at bA b⊢;have cr:((c.toNat:Nat):Int)=c:=by omega
  obtain⟨ce,cf,ck,cl,cm,cn,cp⟩:=aia ⟨c.toNat,by omega⟩ (by simp only;omega);simp only[cr]at ce cf ck cl cm cn cp;have v:sj 31 c=(xe c).2:=rfl;have bs:ej 31 c=(xe c).1:=rfl;have cx:ik oE (⟨#[32]⟩++vw (60+c)++⟨#[32]⟩) [sgF (60+c)]:=by
   have:=aec [0,60+c,0] cp;have z:(60+c:Int)≠0:=by omega
   simp only[itT,itL,itF,aa z,pI,ma]at this;rw[cn,aB];exact this
  rw[j]at m;simp only[wK]at m;obtain⟨l,e,u,p,C⟩:=afk (t:=60+c) (L:=if sj 31 c=ej 31 c then ej 31 c+1 else ej 31 c) (R:=sj 31 c) A G cx (ax ax) (by rw[dH ax,dH (by decide)];decide) (by rw[v,bs,ck]) (by rw[v,cf]) cl (by omega) (by omega) cm;refine EL.of_ex (l:=l) (by rw[af];decide) e (by rw[af,bD,bs];have:=afg c;have:=El (60+c);omega) u ?_ y (by omega);rw[b,af,bD,bs,<-ce];have G:abg (60+c)=bN 31 c 0 z0 []:=by unfold abg;rw[aa (by omega),aa (by omega),show 60+c-60=c by omega]
  rw[G]at p;exact p
 rw[aa af];by_cases br:(ad ns i).k=30
 ·obtain⟨a,o,j,A⟩:=b2 (by omega);rw[ab br];exact anE d w br o A
 rw[aa br];by_cases a8:(ad ns i).k=32
 ·obtain⟨a,s,o,al,j,A,G⟩:=bo (by omega);have I:=Bi B (by omega);rw[o]at I;obtain⟨l,am,a5,⟨e,C,an⟩,u,p,cb⟩:=afj A I;obtain⟨bk,bn⟩:=G;rw[ab a8,o,al];simp only[a8,j,li]at b;have K:ik oE (⟨#[91]⟩:ByteArray) [sgF 44]:=Ct;have ao:ik oE (⟨#[93]⟩:ByteArray) [sgF 45]:=Ct;have r:=((u.app K).app bn.rd bn.pos rfl).app ao;refine EL.of_ba (l:=l++(sgF 44::(bk++[sgF 45]))) (by rw[a8];decide) (ax (ax (ax e))) (by rw[dH (ax (ax e)),dH (ax e),dH e];exact C) (by rw[dH (ax (ax e)),dH (ax e),dH e];exact an) ?_ ?_ y (by rw[j]at m;simp only[wK]at m;have:=bn.cs;simp only[cst,cg,wt,sgF,jK,nlW,Int.reduceLT,reduceIte];omega)
  ·have:=r.tt (g:=wl);exact this.as
  ·rw[b,a8];exact p.index a5 (bn.ex.le (by have:=oh (ad ns s).k (ad ns s).op;omega))
 rw[aa a8];by_cases a9:(ad ns i).k=33
 ·obtain⟨a,o,j,A⟩:=b2 (by omega);have I:=Bi B (by omega);rw[o]at I;have b7:=(E7 B).1 (by omega);have cc:=qr b7;obtain⟨l,am,a5,⟨e,C,an⟩,u,p,cb⟩:=afj A I;rw[ab a9,o];simp only[a9,j,jx]at b;have K:ik (wj (ed 48) 48) (⟨#[46]⟩:ByteArray) [sgF 48]:=lit [48];have r:=u.app (K.app (mK b7) cc.1 (afm cc.2)) ax yz;refine EL.of_ba (l:=l++[sgF 48,jK (ad ns i).x]) (by rw[a9];decide) (ax e) (by rw[dH e];exact C) (by rw[dH e];exact an) r ?_ y (by rw[j]at m;simp only[wK]at m;have:=x19 (h.b i w) (by omega);simp only[cst,cg,wt,sgF,jK,nlW,Int.reduceLT,reduceIte];omega);rw[b,a9];exact p.field a5
 rw[aa a9];by_cases H:(ad ns i).k=34
 ·obtain⟨a3,bb⟩:=E2 B H;obtain⟨a,f⟩:=am 0 (by omega);have J:=iz _ 0 bb 0 (by omega) (by omega);have I:=Bi B (by omega);rw[f.id]at J I;obtain⟨l,am,a5,⟨e,C,an⟩,u,p,cb⟩:=afj (h.e a f.lt f.len J) I;have j:(ad ns i).ks=(a:Int)::(ad ns i).ks.drop 1:=by
   cases ap:(ad ns i).ks with
   |nil=>rw[ap]at a3;simp at a3
   |cons x r=>have:=f.at_;rw[ap]at this;simp at this;rw[this];rfl
  have b8:∀z∈(ad ns i).ks.drop 1,KE ns E z:=fun z a4=>by
   obtain⟨bp,rfl,a6,F,bf,bw,ap⟩:=rq d w (List.mem_of_mem_drop a4);have bj:=iz _ 0 bb bf (by omega) (by omega);rw[ap]at bj;exact⟨bp,rfl,h.e bp a6 F bj⟩
  rw[ab H,f.id];rw[j,px]at b;rw[j,wK]at m;simp only[H]at b;have ak:∀a6 F a7:ByteArray,0<(FD ns E a++a6++F++a7).size/\aw (FD ns E a++a6++F++a7) 0=aw (FD ns E a) 0:=fun a6 F a7=>⟨ax (ax (ax e)),by rw[dH (ax (ax e)),dH (ax e),dH e]⟩;have cq:=u.app zu;cases v:(ad ns i).ks.drop 1 with
  |nil=>
   rw[v]at b;have bq:bG (([]:List Int).map E)=U:=rfl;rw[bq];obtain⟨bt,ba⟩:=ak ⟨#[40]⟩ U ⟨#[41]⟩;refine EL.of_ba (l:=l++[sgF 40,sgF 41]) (by rw[H];decide) bt (by rw[ba];exact C) (by rw[ba];exact an) ?_ ?_ y (by rw[v]at m;simp only[wK]at m;simp only[cst,cg,wt,sgF,jK,nlW,Int.reduceLT,reduceIte];omega)
   ·rw[ma];have:=(cq.app E8).tt (g:=wl);exact this.as
   ·rw[b,H,px,Fo.app_nil];exact p.call0 a5
  |cons z r=>
   rw[v]at b b8;obtain⟨bk,bE,b0,b1,cv⟩:=tE r z b8;obtain⟨bt,ba⟩:=ak ⟨#[40]⟩ (bG ((z::r).map E)) ⟨#[41]⟩;refine EL.of_ba (l:=l++(sgF 40::(bk++[sgF 41]))) (by rw[H];decide) bt (by rw[ba];exact C) (by rw[ba];exact an) ?_ ?_ y (by rw[v]at m;simp only[cst,cg,wt,sgF,jK,nlW,Int.reduceLT,reduceIte];omega)
   ·have:=((cq.app b0 bE rfl).app E8).tt (g:=wl);exact this.as
   ·rw[b,H];exact p.call a5 b1
 rw[aa H];by_cases a1:(ad ns i).k=35
 ·rw[ab a1];unfold abw;have cu:=AJ B a1;simp only[a1]at b;have a4:∀z∈(ad ns i).ks,∃k:Nat,z=(k:Int)/\k<=i/\k<ns.length/\40<=(ad ns k).k/\(ad ns k).k<=42:=fun z a4=>by
   obtain⟨bp,rfl,a6,F,bf,bw,ap⟩:=rq d w a4;have bj:=aaa _ 0 cu bf (by omega) (by omega);rw[ap]at bj;exact⟨bp,rfl,by omega,F,bj⟩
  have K:ik oE (⟨#[123]⟩:ByteArray) [sgF 42]:=Ct;have ao:ik oE (⟨#[125]⟩:ByteArray) [sgF 43]:=Ct;have ak:∀F a7:ByteArray,aw ((⟨#[123]⟩:ByteArray)++F++a7) 0=123:=fun F a7=>by rw[dH ax,dH (by decide)];decide
  cases v:(ad ns i).ks with
  |nil=>
   rw[v]at b;have bq:bG (([]:List Int).map fun k=>lm ns E (ad ns k))=U:=rfl;rw[bq];refine EL.of_un (l:=[sgF 42,sgF 43]) (by rw[a1];decide) (ax ax) (by rw[ak];decide) (fun g=>by rw[ak]at g;cases g) ?_ ?_ y (by rw[v]at m;simp only[wK]at m;simp only[cst,cg,wt,sgF,jK,nlW,Int.reduceLT,reduceIte];omega)
   ·rw[ma];exact(K.app ao).tt
   ·rw[b];exact TBc.nil.un
  |cons z r=>
   rw[v]at b a4;obtain⟨bk,bE,b0,b1,cv⟩:=h.tbl d r z a4;refine EL.of_un (l:=sgF 42::(bk++[sgF 43])) (by rw[a1];decide) (ax ax) (by rw[ak];decide) (fun g=>by rw[ak]at g;cases g) ?_ ?_ y (by rw[v]at m;simp only[cst,cg,wt,sgF,jK,nlW,Int.reduceLT,reduceIte];omega)
   ·have:=((K.app b0 bE rfl).app ao).tt (g:=lJ);exact this.as
   ·rw[b];exact b1.un
 rw[aa a1];by_cases bl:(ad ns i).k=36
 ·rw[ab bl];obtain⟨l,⟨e,C⟩,u,p,an⟩:=h.bod d (ag _) w bl;have K:ik wl (⟨#[102,110]⟩:ByteArray) [sgF 18]:=(lit [18]).mono fun ao ct=>by
   show wj (ed 18) 18 ao=M;unfold wj;rw[ab (by decide+kernel)];exact ct
  exact EL.of_un (l:=sgF 18::l) (by rw[bl];decide) ax (by rw[dH (by decide)];decide) (fun g=>by rw[dH (by decide)]at g;exact absurd g (by decide)) (K.app u e (by rw[C];decide)).tt p.un y (by simp only[cst,cg,wt,sgF,jK,nlW,Int.reduceLT,reduceIte];omega)
 rw[aa bl];by_cases a2:(ad ns i).k=37
 ·obtain⟨a,o,j,l,f⟩:=b2 (by omega);have b5:=ah8 B a2;rw[o]at b5;rw[ab a2,o];simp only[a2,j,jx]at b;obtain⟨cy,b4⟩:=f.sh;have b3:=zw (E a);refine EL.of_ba (l:=sgF 40::(l++[sgF 41])) (by rw[a2];decide) b3.1 (by rw[b3.2];decide) (by rw[b3.2];decide) (aff f.rd f.pos).tt ?_ y (by rw[j]at m;simp only[wK]at m;have:=f.cs;simp only[cst,cg,wt,sgF,jK,nlW,Int.reduceLT,reduceIte];omega);have b9:=f.ex.le (r:=0) (by have:=oh (ad ns a).k (ad ns a).op;omega);rw[b4]at b9;rw[b,a2,b4];exact b9.held b5
 rw[aa a2];exact aid d w (h.b i w) (by omega)
end
theorem Hn:ik oE (⟨#[32,61,32]⟩:ByteArray) [sgF 47]:=lit [0,47,0]
section
variable {ns : List Nd} {E : Int → ByteArray} {S : Int → Nat → ByteArray} {i tab q : Nat}
theorem aag:∀(r:List Int),(∀y∈r,∃k:Nat,y=(k:Int)/\Cb ns k (E k)/\rx (ad ns k).k=M)->∃l,ik wl (mB (r.map E)) l/\(r≠[]->0<(mB (r.map E)).size/\aw (mB (r.map E)) 0=44)/\TMc l (px (Sh ns) r)/\(r=[]->l=[])/\(cst l:Int)<=wK ns r
 |[],_=>⟨[],I8,fun h=>absurd rfl h,TMc.nil,fun _=>rfl,Int.le_refl _⟩
 |z::r,h=>by
  obtain⟨y,rfl,⟨l,a⟩,b⟩:=h z bz;obtain⟨p,s,t,u,v,A⟩:=aag r fun y o=>h y (dm _ o);have b:=aH b;have j:pm (ad ns y).k=M:=by rcases b with e|e|e<;>rw[e]<;>decide
  have m:kdK (ad ns y).k<2:=by rcases b with e|e|e<;>rw[e]<;>decide
  obtain⟨c,d⟩:=a.ba j;refine⟨sgF 46::(l++p),?_,fun _=>?_,TMc.cons d m u,fun g=>(by cases g),by have:=a.cs;simp only[cst,cg,wt,sgF,jK,nlW,Int.reduceLT,reduceIte];rw[wK];omega⟩
  ·rw[dq,mB];cases r with
   |nil=>
    have e:mB (([]:List Int).map E)=U:=rfl;have f:=v rfl;rw[e,ma,f,fj];exact kJ.app c a.pos rfl
   |cons B r=>
    obtain⟨w,p2⟩:=t (by simp);exact kJ.app (c.app s w (by rw[p2];decide)) (ax a.pos) rfl
  ·rw[dq,mB];exact⟨ax,by rw[dH (by decide)];rfl⟩
def BCl(ns:List Nd)(z:Nat)(x:ByteArray):Prop:=∃l,0<x.size/\ik lJ x l/\BRc l (Sh ns z)/\(cst l:Int)+25<=wN ns z
theorem anF{J:Int->ByteArray->ByteArray}(h:JzE ns E S i tab)(d:JE ns)(m:i<ns.length)(ak:(ad ns i).k=7)
  (ao:∀z:Nat,z<i->z<ns.length->(ad ns z).k=7->∃y,BCl ns z y/\∀w,J z w=w++y):∃y,BCl ns i y/\∀w,Az ns E S J (ad ns i) w tab=w++y:=by
 have al:=(je (d.nb i m)).1;have A:=fun a0 ap=>il (d.nb i m) m a0 ap;obtain⟨a4,a5,K,L,an⟩:=ae7 al ak;obtain⟨e,b⟩:=A 0 (by omega);obtain⟨p,c⟩:=A 1 (by omega);rw[b.id]at K;rw[c.id]at L;obtain⟨l,f⟩:=h.e e b.lt b.len K;obtain⟨B,a1,a2,C,a8⟩:=h.blk d (gy c.lt) c.len L;have a6:=f.cs;have t:=d.at_ i m;have a7:=ui (ad ns i);have v:=f.ex.le (r:=0) (by have:=oh (ad ns e).k (ad ns e).op;omega);have o:=rz d m;rw[wA al]at o;simp only[ak]at o;have s:=(f.rd.app wm).app a2 a1 rfl;rw[fj]at s;unfold Az;rw[b.id,c.id];rcases bv (ad ns i).ks.length 3 with g|g
 ·refine⟨E e++⟨#[32]⟩++uz S (ad ns p).ks tab,⟨l++B,ax (ax f.pos),s.tt,?_,by rw[rt (by omega),b.id,c.id]at t;simp only[wK]at t;simp only[cg];omega⟩,fun w=>?_⟩
  ·rw[o,rt (by omega),li,b.id,c.id];exact mg.br0 v C
  ·rw[ab g,ma];simp only[aB]
 ·obtain⟨j,a⟩:=A 2 (by omega);rw[a.id]at an;rw[Bf (by omega),b.id,c.id,a.id]at t;simp only[wK]at t;have af:px (Sh ns) (ad ns i).ks=((Sh ns e).app (Sh ns p)).app (Sh ns j):=by rw[Bf (by omega),px,li,b.id,c.id,a.id,Fo.app_app]
  by_cases u:(ad ns j).k=7
  ·obtain⟨y,⟨G,H,I,p2,a3⟩,av⟩:=ao j a.lt a.len u;have F:ik oE (⟨#[32,101,108,105,102,32]⟩:ByteArray) [sgF 15]:=lit [0,15,0];refine⟨(E e++⟨#[32]⟩++uz S (ad ns p).ks tab)++(⟨#[32,101,108,105,102,32]⟩++y),⟨l++(B++(sgF 15::G)),ax (ax (ax f.pos)),?_,?_,by simp only[cst,cg,wt,sgF,jK,nlW,Int.reduceLT,reduceIte];omega⟩,fun w=>?_⟩
   ·have:=s.app (F.app I H rfl) ax rfl;exact this.as
   ·rw[o,af];exact mg.br2 v C p2
   ·rw[aa (by omega),a.id,ab u,av];simp only[aB]
  ·have am:(ad ns j).k=1:=by omega
   obtain⟨G,H,I,p2,a3⟩:=h.blk d (gy a.lt) a.len am;have F:ik oE (⟨#[32,101,108,115,101,32]⟩:ByteArray) [sgF 16]:=lit [0,16,0];refine⟨(E e++⟨#[32]⟩++uz S (ad ns p).ks tab)++(⟨#[32,101,108,115,101,32]⟩++uz S (ad ns j).ks tab),⟨l++(B++(sgF 16::G)),ax (ax (ax f.pos)),?_,?_,by simp only[cst,cg,wt,sgF,jK,nlW,Int.reduceLT,reduceIte];omega⟩,fun w=>?_⟩
   ·have:=s.app (F.app I H rfl) ax rfl;have:=this.tt (g:=lJ);exact this.as
   ·rw[o,af];exact mg.br1 v C p2
   ·rw[aa (by omega),a.id,aa u];simp only[aB]
theorem ak5{cq:Int->ByteArray->ByteArray}(h:JzE ns E S i tab)(d:JE ns)(a3:i<ns.length)(a5:ja (ad ns i).k=M)
  (c3:(ad ns i).k=7->∃y,BCl ns i y/\cq (-1) ⟨#[105,102,32]⟩=⟨#[105,102,32]⟩++y):SCl ns i (prS ns E S cq (ad ns i) tab):=by
 have v:=(je (d.nb i a3)).1;have a5:=aH a5;have B:=fun J a4=>il (d.nb i a3) a3 J a4;have c:=rz d a3;rw[wA v]at c;have m:=d.at_ i a3;have d4:=ui (ad ns i);have cv:=h.b i a3;have a0:∀{x:ByteArray}{r:List ByteArray},(ad ns i).nm=x::r->x.size<=3/\cst (Gs (x::r))<=57:=fun {x r} o=>by
  have A:=cv.nm;have bj:∀cm∈x::r,cm.size<=3:=fun cm v=>(cv.s cm (by rw[o];exact v)).sz;have:=ajc r x bj;rw[o,cC]at A;exact⟨bj x bz,by omega⟩
 have a9:∀f:Nat,Kid ns i (ad ns i) 0 f->eK (ad ns f).k=M->∃l,EL ns f (E f) l/\mg l (Sh ns f) 0:=fun f a b3=>by
  obtain⟨l,b⟩:=h.e f a.lt a.len b3;exact⟨l,b,b.ex.le (by have:=oh (ad ns f).k (ad ns f).op;omega)⟩
 have ck:∀{bA J:Nat},iF ns (ad ns i) bA J=M->∀w,J<=w->w<J+bA->w<(ad ns i).ks.length->KE ns E (bJ (ad ns i) w):=fun {bA J} G w ds dx d0=>by
  obtain⟨y,I⟩:=B w d0;have:=iz bA J G w ds dx;rw[I.id]at this⊢;exact⟨y,rfl,h.e y I.lt I.len this⟩
 have cf:iF ns (ad ns i) (ad ns i).ks.length 0=M->∀z∈(ad ns i).ks,KE ns E z:=fun G z bj=>by
  obtain⟨J,a4,rfl⟩:=oG bj;exact ck G J (by omega) (by omega) a4
 unfold prS;by_cases bl:(ad ns i).k=1
 ·rw[ab bl];obtain⟨l,af,ak,u,bk⟩:=h.blk d (ag _) a3 bl;exact⟨l,af,ak.tt,u.st,by omega⟩
 rw[aa bl];by_cases am:(ad ns i).k=2
 ·rw[ab am];obtain⟨x,r,o,L,_⟩:=Bh v (by omega);obtain⟨ap,av⟩:=aae r x L;have t:ik oE (⟨#[108,101,116,32]⟩:ByteArray) [sgF 22]:=lit [22,0];simp only[am,o]at c⊢;have G:=cf (JA v am).1;cases er:(ad ns i).ks with
  |nil=>
   rw[er]at c;rw[ab rfl,ma];refine⟨sgF 22::Gs (x::r),ax,(t.app ap av rfl).mono fun a2=>zt,?_,by have:=(a0 o).2;rw[er]at m;simp only[wK]at m;simp only[cst,cg,wt,sgF,jK,nlW,Int.reduceLT,reduceIte];omega⟩;rw[c];exact ag1
  |cons z w=>
   rw[er]at c G;rw[aa (by simp)];obtain⟨l,af,ak,u,bk⟩:=tE w z G;refine⟨sgF 22::(Gs (x::r)++(sgF 47::l)),ax ax,?_,?_,by have:=(a0 o).2;rw[er]at m;simp only[cst,cg,wt,sgF,jK,nlW,Int.reduceLT,reduceIte];omega⟩
   ·have:=(t.app ap av rfl).app (Hn.app ak af rfl) ax yz;exact this.as
   ·rw[c];exact u.let_
 rw[aa am];by_cases bd:(ad ns i).k=3
 ·rw[ab bd];obtain⟨p,j,_⟩:=AL v bd;obtain⟨x,r,o,L,a6,_⟩:=Bh v (by omega);obtain rfl:=a6 (by omega);have G:=L x bz;obtain⟨f,a⟩:=B 0 (by omega);rw[a.id]at j⊢;obtain⟨l,b,u⟩:=a9 f a j;have ce:nm0 (ad ns i)=x:=by unfold nm0;rw[o];rfl
  simp only[bd,o,kj p,jx,a.id]at c;rw[ce];have t:ik oE (⟨#[99,111,110,115,116,32]⟩:ByteArray) [sgF 13]:=lit [13,0];refine⟨sgF 13::jK x::sgF 47::l,ax (ax ax),?_,?_,by have:=(a0 o).1;have:=b.cs;rw[kj p,a.id]at m;simp only[wK]at m;simp only[cst,cg,wt,sgF,jK,nlW,Int.reduceLT,reduceIte];omega⟩
  ·exact((t.app (mK G) (qr G).1 rfl).app Hn).app b.rd b.pos rfl
  ·rw[c];exact u.const
 rw[aa bd];by_cases bf:(ad ns i).k=4
 ·rw[ab bf];obtain⟨p,j,_⟩:=JB v bf;obtain⟨x,r,o,L,a6,_⟩:=Bh v (by omega);obtain rfl:=a6 (by omega);have G:=L x bz;obtain⟨f,a⟩:=B 0 (by omega);rw[a.id]at j⊢;obtain⟨l,⟨af,bk⟩,ak,u,d3⟩:=h.bod d (gy a.lt) a.len j;have ce:nm0 (ad ns i)=x:=by unfold nm0;rw[o];rfl
  simp only[bf,o,kj p,jx,a.id]at c;rw[ce];have t:ik oE (⟨#[102,110,32]⟩:ByteArray) [sgF 18]:=lit [18,0];refine⟨sgF 18::jK x::l,ax ax,?_,?_,by have:=(a0 o).1;rw[kj p,a.id]at m;simp only[wK]at m;simp only[cst,cg,wt,sgF,jK,nlW,Int.reduceLT,reduceIte];omega⟩
  ·exact((t.app (mK G) (qr G).1 rfl).app ak af (by rw[bk];decide)).tt
  ·rw[c];exact u.fn
 rw[aa bf];by_cases bw:(ad ns i).k=5
 ·rw[ab bw];obtain⟨p,j,A,cu⟩:=ae6 v bw;obtain⟨n,L⟩:∃n,(ad ns i).n.toNat=n:=⟨_,rfl⟩;rw[L]at A cu;have o:(ad ns i).n=(n:Int):=by omega
  simp only[bw,o]at c;rw[L];have ao:∀y∈(ad ns i).ks.take n,∃k:Nat,y=(k:Int)/\Cb ns k (E k)/\rx (ad ns k).k=M:=fun y I=>by
   obtain⟨J,a4,e⟩:=fL I;rw[gx]at a4;rw[List.getElem_take]at e;obtain⟨k,a5⟩:=B J (by omega);have:=amI _ 0 A J (by omega) (by omega);have am:y=(k:Int):=by rw[<-e,wy (by omega),a5.id]
   rw[a5.id]at this;exact⟨k,am,h.e k a5.lt a5.len (Ds this),this⟩
  have c5:∀z∈(ad ns i).ks.drop n,KE ns E z:=fun z bj=>by
   obtain⟨J,a4,e⟩:=fL bj;rw[ij]at a4;rw[List.getElem_drop]at e;rw[<-e,wy (by omega)];exact ck cu (n+J) (by omega) (by omega) (by omega)
  have F:px (Sh ns) (ad ns i).ks=(px (Sh ns) ((ad ns i).ks.take n)).app (px (Sh ns) ((ad ns i).ks.drop n)):=by rw[<-E6,uH]
  have cB:((ad ns i).ks.take n).length=n:=by rw[gx];omega
  have dc:((ad ns i).ks.drop n).length=(ad ns i).ks.length-n:=ij;have ct:wK ns (ad ns i).ks=wK ns ((ad ns i).ks.take n)+wK ns ((ad ns i).ks.drop n):=by rw[<-afe,uH]
  rw[F]at c;rw[ct]at m;clear F ct ck cf;generalize (ad ns i).ks.take n=al at *;generalize (ad ns i).ks.drop n=b6 at *;cases al with
  |nil=>simp at cB;omega
  |cons z al=>
  cases b6 with
  |nil=>simp at dc;omega
  |cons y b6=>
   obtain⟨k,rfl,⟨l,b⟩,bD⟩:=ao z bz;obtain⟨H,a7,a8,b4,dd,d5⟩:=aag al fun y I=>ao y (dm _ I);obtain⟨bq,br,bb,p2,c0⟩:=tE b6 y c5;have bD:=aH bD;have s:pm (ad ns k).k=M:=by rcases bD with e|e|e<;>rw[e]<;>decide
   have c6:kdK (ad ns k).k<2:=by rcases bD with e|e|e<;>rw[e]<;>decide
   obtain⟨b7,a1⟩:=b.ba s;have c7:(((Sh ns k).app (px (Sh ns) al)).len:Int)=n:=by
    have:∀(l:List Int),(∀y∈l,∃k:Nat,y=(k:Int)/\Cb ns k (E k)/\rx (ad ns k).k=M)->(px (Sh ns) l).len=l.length:=by
     intro l
     induction l with
     |nil=>intro _;rfl
     |cons f l da=>
      intro b;obtain⟨k,rfl,⟨_,q⟩,_⟩:=b f bz;obtain⟨d2,c4⟩:=q.sh;rw[px,Fo.len_app,da fun y I=>b y (dm _ I),c4,cC];show 1+l.length=_;omega
    have:=this ((k:Int)::al) ao;rw[px]at this;rw[this,cB]
   have c9:ik lJ (bG (((k:Int)::al).map E)) (l++H):=by
    rw[dq,sD];cases al with
    |nil=>
     have e:mB (([]:List Int).map E)=U:=rfl;have c2:=dd rfl;rw[e,ma,c2,fj];exact b.rd
    |cons d8 r=>
     obtain⟨bb,p2⟩:=a8 (by simp);exact(b7.app a7 bb (by rw[p2];decide)).mono fun a2=>zt
   have c8:0<(bG (((k:Int)::al).map E)).size:=by rw[dq,sD];exact ax b.pos
   refine⟨l++(H++(sgF 47::bq)),ax (ax c8),?_,?_,by have:=b.cs;rw[wK]at m;simp only[cst,cg,wt,sgF,jK,nlW,Int.reduceLT,reduceIte];omega⟩
   ·have:=(c9.app Hn).app bb br rfl;exact this.as
   ·rw[c,px,<-c7];exact a1.set c6 b4 p2
 rw[aa bw];by_cases ca:(ad ns i).k=6
 ·rw[ab ca];obtain⟨p,j⟩:=Dv v (by omega);obtain⟨f,a⟩:=B 0 (by omega);rw[a.id]at j⊢;obtain⟨l,b,_⟩:=a9 f a (by rw[j];decide);obtain⟨b7,a1⟩:=b.ba (by rw[j];decide);simp only[ca,kj p,jx,a.id]at c;rw[j]at a1;exact⟨l,b.pos,b.rd,by rw[c];exact a1.do_,by have:=b.cs;rw[kj p,a.id]at m;simp only[wK]at m;omega⟩
 rw[aa ca];by_cases cb:(ad ns i).k=7
 ·rw[ab cb];obtain⟨y,⟨l,af,ak,u,bk⟩,I⟩:=c3 cb;rw[I];have t:ik oE (⟨#[105,102,32]⟩:ByteArray) [sgF 20]:=lit [20,0];exact⟨sgF 20::l,ax,t.app ak af rfl,u.st,by simp only[cst,cg,wt,sgF,jK,nlW,Int.reduceLT,reduceIte];omega⟩
 rw[aa cb];by_cases bx:(ad ns i).k=8
 ·rw[ab bx];obtain⟨p,j,A⟩:=Ba v bx;obtain⟨f,a⟩:=B 0 (by omega);obtain⟨C,s⟩:=B 1 (by omega);rw[a.id]at j⊢;rw[s.id]at A⊢;obtain⟨l,b,u⟩:=a9 f a j;obtain⟨H,bp,a7,a8,b4⟩:=h.blk d (gy s.lt) s.len A;simp only[bx,rt p,li,a.id,s.id]at c;have t:ik oE (⟨#[119,104,105,108,101,32]⟩:ByteArray) [sgF 31]:=lit [31,0];refine⟨sgF 31::(l++H),ax (ax ax),?_,by rw[c];exact u.while_ a8,by have:=b.cs;rw[rt p,a.id,s.id]at m;simp only[wK]at m;simp only[cst,cg,wt,sgF,jK,nlW,Int.reduceLT,reduceIte];omega⟩;have:=(((t.app b.rd b.pos rfl).app wm).app a7 bp rfl).tt (g:=lJ);exact this.as
 rw[aa bx];by_cases cc:(ad ns i).k=9\/(ad ns i).k=10
 ·rw[ab cc];obtain⟨x,r,o,L,a6,_⟩:=Bh v (by omega);obtain⟨ap,av⟩:=aae r x L;have t:ik oE (⟨#[102,111,114,32]⟩:ByteArray) [sgF 19]:=lit [19,0];rcases cc with e|e
  ·obtain⟨p,j,A,_⟩:=JC v e;obtain rfl:=a6 (by omega);obtain⟨f,a⟩:=B 0 (by omega);obtain⟨C,s⟩:=B 1 (by omega);have b3:=iz _ 0 j 0 (by omega) (by omega);have cy:=iz _ 0 j 1 (by omega) (by omega);rw[a.id]at b3;rw[s.id]at cy;obtain⟨l,b,u⟩:=a9 f a b3;obtain⟨H,an⟩:=h.e C s.lt s.len cy;have bE:=an.ex.le (r:=0) (by have:=oh (ad ns C).k (ad ns C).op;omega);simp only[e,o,pI]at c⊢;rcases p with g|g
   ·obtain⟨a2,K⟩:=B 2 (by omega);rw[g,K.id]at A;obtain⟨bq,br,bb,p2,c0⟩:=h.blk d (gy K.lt) K.len A;have F:=Bf g;rw[a.id,s.id,K.id]at F;rw[F,px,li,<-Fo.app_app]at c;have bo:(ad ns i).ks.take ((ad ns i).ks.length-1)=[(f:Int),(C:Int)]:=by rw[F];rfl
    rw[bo,g,K.id];obtain⟨d6,d1,d7,_⟩:=tE (ns:=ns) (E:=E) [(C:Int)] f (fun y I=>by
     simp at I;rcases I with rfl|rfl
     ·exact⟨f,rfl,l,b⟩
     ·exact⟨C,rfl,H,an⟩)
    have cl:ik lJ (bG ([(f:Int),(C:Int)].map E)) (l++(sgF 46::H)):=by
     rw[dq,dq,List.map_nil,oH,qd];exact b.rd.app (kJ.app an.rd an.pos rfl) ax yz
    refine⟨sgF 19::jK x::sgF 47::((l++(sgF 46::H))++bq),ax (ax (ax (ax ax))),?_,by rw[c];exact mg.for_ u bE.es p2 (ag3 bE),by have:=(a0 o).1;have:=b.cs;have:=an.cs;rw[F]at m;simp only[wK]at m;simp only[cst,cg,wt,sgF,jK,nlW,Int.reduceLT,reduceIte];omega⟩;have:=(((((t.app ap av rfl).app Hn).app cl d1 rfl).app wm).app bb br rfl).tt (g:=lJ);simpa only[dC,fy,fx,Gs] using this
   ·obtain⟨w,ao⟩:=B 2 (by omega);obtain⟨a2,K⟩:=B 3 (by omega);have cz:=iz _ 0 j 2 (by omega) (by omega);rw[ao.id]at cz;rw[g,K.id]at A;obtain⟨cn,b0⟩:=h.e w ao.lt ao.len cz;have cx:=b0.ex.le (r:=0) (by have:=oh (ad ns w).k (ad ns w).op;omega);obtain⟨bq,br,bb,p2,c0⟩:=h.blk d (gy K.lt) K.len A;have F:=ah6 g;rw[a.id,s.id,ao.id,K.id]at F;rw[F,px,px,li,<-Fo.app_app (Sh ns C),<-Fo.app_app]at c;have bo:(ad ns i).ks.take ((ad ns i).ks.length-1)=[(f:Int),(C:Int),(w:Int)]:=by rw[F];rfl
    rw[bo,g,K.id];have dn:ik lJ (bG ([(C:Int),(w:Int)].map E)) (H++(sgF 46::cn)):=by
     rw[dq,dq,List.map_nil,oH,qd];exact an.rd.app (kJ.app b0.rd b0.pos rfl) ax yz
    have dp:0<(bG ([(C:Int),(w:Int)].map E)).size:=by rw[dq,dq,List.map_nil,oH];exact ax an.pos
    have cl:ik lJ (bG ([(f:Int),(C:Int),(w:Int)].map E)) (l++(sgF 46::(H++(sgF 46::cn)))):=by
     rw[dq,dq,oH,<-dq];exact b.rd.app (kJ.app dn dp rfl) ax yz
    have dj:0<(bG ([(f:Int),(C:Int),(w:Int)].map E)).size:=by rw[dq,dq,oH];exact ax b.pos
    refine⟨sgF 19::jK x::sgF 47::((l++(sgF 46::(H++(sgF 46::cn))))++bq),ax (ax (ax (ax ax))),?_,by rw[c];exact mg.for_ u (In.cons bE cx.es) p2 (abh bE cx),by have:=(a0 o).1;have:=b.cs;have:=an.cs;have:=b0.cs;rw[F]at m;simp only[wK]at m;simp only[cst,cg,wt,sgF,jK,nlW,Int.reduceLT,reduceIte];omega⟩;have:=(((((t.app ap av rfl).app Hn).app cl dj rfl).app wm).app bb br rfl).tt (g:=lJ);simpa only[dC,fy,fx,Gs] using this
  ·obtain⟨p,j,A,_⟩:=E3 v e;obtain⟨f,a⟩:=B 0 (by omega);obtain⟨C,s⟩:=B 1 (by omega);rw[a.id]at j;rw[s.id]at A;obtain⟨l,b,u⟩:=a9 f a j;obtain⟨H,bp,a7,a8,b4⟩:=h.blk d (gy s.lt) s.len A;have F:=rt p;rw[a.id,s.id]at F;simp only[e,o,F,li]at c;have bo:(ad ns i).ks.take ((ad ns i).ks.length-1)=[(f:Int)]:=by rw[F];rfl
   have c1:bJ (ad ns i) ((ad ns i).ks.length-1)=(C:Int):=by rw[p];exact s.id
   rw[bo,c1,aa (by omega),o,dq,List.map_nil,qd];have dg:ik oE (⟨#[32,105,110,32]⟩:ByteArray) [sgF 21]:=lit [0,21,0];refine⟨sgF 19::(Gs (x::r)++(sgF 21::(l++H))),ax (ax (ax (ax ax))),?_,by rw[c];exact u.each a8,by have:=(a0 o).2;have:=b.cs;rw[F]at m;simp only[wK]at m;simp only[cst,cg,wt,sgF,jK,nlW,Int.reduceLT,reduceIte];omega⟩;have:=(((((t.app ap av rfl).app dg).app b.rd b.pos rfl).app wm).app a7 bp rfl).tt (g:=lJ);exact this.as
 rw[aa cc];have cp:∀(x:ByteArray)(k:Int),x=itT [k]->itC [k]=M->k≠0->(∀a2∈ss,wj (ed k) k a2=M)->ik lJ x [sgF k]:=fun x k bl am bd bf=>by
  have:=lit [k] bl am;simp only[itF,itL,aa bd]at this;exact this.mono fun a2 K=>bf a2 (aH K)
 have b5:(ad ns i).k=11\/(ad ns i).k=12->(ad ns i).ks=[]:=fun g=>by
  have:=nD v (by omega);unfold stB at this;rcases g with e|e<;>simp[e]at this<;>exact this.2
 by_cases b8:(ad ns i).k=11
 ·rw[ab b8];simp only[b8,b5 (by omega),px]at c;exact⟨[sgF 11],by decide,cp _ 11 (by decide+kernel) (by decide+kernel) (by decide) (by decide+kernel),by rw[c];exact K7 (.inl ⟨rfl,rfl⟩),by rw[b5 (by omega)]at m;simp only[wK]at m;simp only[cst,cg,wt,sgF,jK,nlW,Int.reduceLT,reduceIte];omega⟩
 rw[aa b8];by_cases b9:(ad ns i).k=12
 ·rw[ab b9];simp only[b9,b5 (by omega),px]at c;exact⟨[sgF 23],by decide,cp _ 23 (by decide+kernel) (by decide+kernel) (by decide) (by decide+kernel),by rw[c];exact K7 (.inr ⟨rfl,rfl⟩),by rw[b5 (by omega)]at m;simp only[wK]at m;simp only[cst,cg,wt,sgF,jK,nlW,Int.reduceLT,reduceIte];omega⟩
 rw[aa b9];by_cases bs:(ad ns i).k=13
 ·rw[ab bs];simp only[bs]at c;have G:=cf (ae8 v bs);have t:=cp (⟨#[114,101,116,117,114,110]⟩:ByteArray) 27 (by decide+kernel) (by decide+kernel) (by decide) (by decide+kernel);cases er:(ad ns i).ks with
  |nil=>
   rw[er]at c;rw[ab rfl,ma];exact⟨[sgF 27],by decide,t,by rw[c];exact ag2,by rw[er]at m;simp only[wK]at m;simp only[cst,cg,wt,sgF,jK,nlW,Int.reduceLT,reduceIte];omega⟩
  |cons z w=>
   rw[er]at c G;rw[aa (by simp)];obtain⟨l,af,ak,u,bk⟩:=tE w z G;exact⟨sgF 27::l,ax,t.app (wm.app ak af rfl) ax yz,by rw[c];exact u.ret,by rw[er]at m;simp only[cst,cg,wt,sgF,jK,nlW,Int.reduceLT,reduceIte];omega⟩
 rw[aa bs];by_cases bn:(ad ns i).k=14
 ·rw[ab bn];obtain⟨p,j,A,_⟩:=JD v bn;obtain⟨x,r,o,L,_,a6⟩:=Bh v (by omega);obtain⟨ap,av⟩:=aae r x L;obtain⟨f,a⟩:=B 0 (by omega);obtain⟨C,s⟩:=B 1 (by omega);rw[a.id]at j⊢;rw[s.id]at A⊢;obtain⟨l,af,ak,u,bk⟩:=h.blk d (gy a.lt) a.len j;obtain⟨H,bp,a7,a8,b4⟩:=h.blk d (gy s.lt) s.len A;simp only[bn,o,rt p,li,a.id,s.id]at c;rw[o];have t:ik oE (⟨#[116,114,121,32]⟩:ByteArray) [sgF 30]:=lit [30,0];have df:ik oE (⟨#[32,99,97,116,99,104,32]⟩:ByteArray) [sgF 12]:=lit [0,12,0];refine⟨sgF 30::(l++(sgF 12::(Gs (x::r)++H))),ax (ax (ax (ax ax))),?_,by rw[c];exact u.try_ a8 (a6 bn),by have:=(a0 o).2;rw[rt p,a.id,s.id]at m;simp only[wK]at m;simp only[cst,cg,wt,sgF,jK,nlW,Int.reduceLT,reduceIte];omega⟩;have:=(((((t.app ak af rfl).app df).app ap av rfl).app wm).app a7 bp rfl).tt (g:=lJ);exact this.as
 rw[aa bn];by_cases bt:(ad ns i).k=15
 ·rw[ab bt];obtain⟨p,j⟩:=Bb v bt;obtain⟨f,a⟩:=B 0 (by omega);rw[a.id]at j⊢;obtain⟨l,b,u⟩:=a9 f a j;simp only[bt,kj p,jx,a.id]at c;have t:ik oE (⟨#[116,104,114,111,119,32]⟩:ByteArray) [sgF 28]:=lit [28,0];exact⟨sgF 28::l,ax,t.app b.rd b.pos rfl,by rw[c];exact u.throw,by have:=b.cs;rw[kj p,a.id]at m;simp only[wK]at m;simp only[cst,cg,wt,sgF,jK,nlW,Int.reduceLT,reduceIte];omega⟩
 rw[aa bt];have cr:(ad ns i).k=16:=by omega
 rw[ab cr];obtain⟨p,j⟩:=Dv v (by omega);obtain⟨f,a⟩:=B 0 (by omega);rw[a.id]at j⊢;obtain⟨l,b,_⟩:=a9 f a (by rw[j];decide);obtain⟨b7,a1⟩:=b.ba (by rw[j];decide);rw[j]at a1;simp only[cr,kj p,jx,a.id]at c;have t:ik oE (⟨#[100,101,102,101,114,32]⟩:ByteArray) [sgF 14]:=lit [14,0];exact⟨sgF 14::l,ax,t.app b.rd b.pos rfl,by rw[c];exact a1.defer,by have:=b.cs;rw[kj p,a.id]at m;simp only[wK]at m;simp only[cst,cg,wt,sgF,jK,nlW,Int.reduceLT,reduceIte];omega⟩
end
def pB(a b c:Int)(x:ByteArray):Bool:=decide ((x.size=0\/a=aw x 0)/\(x.size<=1\/b=aw x 1)/\(x.size<=2\/c=aw x 2))
theorem afo(r x:ByteArray)(i:Nat)(b:i<x.size):r.data.toList[i]?=x.data.toList[i]?↔aw r i=aw x i:=by
 have d:x.data.toList[i]?=Ax x[i]:=by rw[sG];exact yH b
 rw[d,fJ];have c:aw x i=(x[i].toNat:Int):=by unfold aw;rw[oA b]
 rw[c];constructor
 ·exact fun a=>a.2
 ·intro a;refine⟨?_,a⟩;rcases bv i r.size with h1|h1
  ·exact h1
  ·rw[dD (by omega)]at a;omega
theorem ak6(r x:ByteArray)(h:x.size<=3):Z r.data.toList x.data.toList=pB (aw r 0) (aw r 1) (aw r 2) x:=by
 unfold Z pB;rw[vc,uI,pF,List.prefix_iff_getElem?];have f:x.data.toList.length=x.size:=eB;have e:(∀i (a:i<x.data.toList.length),r.data.toList[i]?=Ax x.data.toList[i])↔∀i,i<x.size->aw r i=aw x i:=by
  constructor
  ·intro g i a;rw[<-afo r x i a,g i (by omega)];exact(aE (by omega)).symm
  ·intro g i a;rw[(afo r x i (by omega)).2 (g i (by omega))];exact aE a
 rw[e];constructor
 ·intro g;refine⟨?_,?_,?_⟩
  ·rcases kL x.size with h0|h0
   ·exact .inl h0
   ·exact .inr (g 0 h0)
  ·rcases bv 1 x.size with h0|h0
   ·exact .inr (g 1 h0)
   ·exact .inl h0
  ·rcases bv 2 x.size with h0|h0
   ·exact .inr (g 2 h0)
   ·exact .inl h0
 ·rintro ⟨b,c,d⟩ i a;rcases(show i=0\/i=1\/i=2 by omega) with rfl|rfl|rfl
  ·rcases b with g|g
   ·omega
   ·exact g
  ·rcases c with g|g
   ·omega
   ·exact g
  ·rcases d with g|g
   ·omega
   ·exact g
def Fa(q:ByteArray->Bool)(V:Array Value)(base:Int):Nat->Nat->Int×Nat->Int×Nat
 |0,_,a=>a
 |f+1,i,a=>Fa q V base f (i+1) (if a.2<(cG V i).size/\q (cG V i)=M then(base+(i:Int),(cG V i).size) else a)
def skq(a:Int)(q:ByteArray->Bool):Int:=if a=59 then 5 else if a=10 then 7 else(Fa q tI 61 18 0 (Fa q mh 40 11 0 (0,0))).1
def wC(q:ByteArray->Bool):Nat->Nat->Option Nat
 |0,_=>none
 |f+1,k=>if q (cG nH k)=M then Ax k else wC q f (k+1)
theorem afp(V:Array Value)(base:Int)(r:ByteArray):∀(f i:Nat)(a:Int×Nat),zp V base r f i a=Fa (fun x=>Z r.data.toList x.data.toList) V base f i a
 |0,i,a=>rfl
 |f+1,i,a=>by rw[zp,Fa];exact afp V base r f (i+1) _
theorem uC(q b:ByteArray->Bool)(V:Array Value)(base:Int)(N:Nat)(h:∀i,i<N->q (cG V i)=b (cG V i)):∀(f i:Nat)(a:Int×Nat),i+f<=N->Fa q V base f i a=Fa b V base f i a
 |0,i,a,_=>rfl
 |f+1,i,a,c=>by rw[Fa,Fa,h i (by omega)];exact uC q b V base N h f (i+1) _ (by omega)
theorem Bl(q a:ByteArray->Bool)(h:∀i,i<30->q (cG nH i)=a (cG nH i)):∀(f i:Nat),i+f<=30->wC q f i=wC a f i
 |0,i,_=>rfl
 |f+1,i,b=>by rw[wC,wC,h i (by omega),Bl q a h f (i+1) (by omega)]
def Cc(S:List Int)(b:Int):Int:=if b∈S then b else 0
theorem Fb(S:List Int)(d:(0:Int) ∉ S)(b a:Int)(c:a∈S):Cc S b=a↔b=a:=by
 unfold Cc;split
 ·exact Iff.rfl
 ·rename_i e;constructor
  ·rintro rfl;exact absurd c d
  ·rintro rfl;exact absurd c e
def fb0:List Int:=[46,60,62,61,126,47,40,41,123,125,91,93,44,59,35,43,45,42,37,38,124]
def fb1:List Int:=[46,60,61,62,47]
def fb2:List Int:=[46]
def inB(x:ByteArray):Bool:=decide (x.size<=3/\(x.size=0\/aw x 0∈fb0)/\(x.size<=1\/aw x 1∈fb1)/\(x.size<=2\/aw x 2∈fb2))
theorem ak7:∀i:Fin 11,inB (cG mh i.val)=M:=by decide+kernel
theorem ak8:∀i:Fin 18,inB (cG tI i.val)=M:=by decide+kernel
theorem ak9:∀i:Fin 30,inB (cG nH i.val)=M:=by decide+kernel
theorem ala(a b c:Int)(x:ByteArray)(h:inB x=M):pB a b c x=pB (Cc fb0 a) (Cc fb1 b) (Cc fb2 c) x:=by
 unfold inB at h;rw[pF]at h;obtain⟨_,g,j,k⟩:=h;have d:(x.size=0\/a=aw x 0)↔(x.size=0\/Cc fb0 a=aw x 0):=by
  rcases g with h|h
  ·simp[h]
  ·rw[Fb fb0 (by decide) a _ h]
 have e:(x.size<=1\/b=aw x 1)↔(x.size<=1\/Cc fb1 b=aw x 1):=by
  rcases j with h|h
  ·simp[h]
  ·rw[Fb fb1 (by decide) b _ h]
 have f:(x.size<=2\/c=aw x 2)↔(x.size<=2\/Cc fb2 c=aw x 2):=by
  rcases k with h|h
  ·simp[h]
  ·rw[Fb fb2 (by decide) c _ h]
 unfold pB;rw[D6,d,e,f]
def ajd(a b c:Int):Bool:=match wC (pB a b c) 30 0 with
 |some d=>decide (skq a (pB a b c)=ym (cG nH d)/\(ed (skq a (pB a b c))).size=(cG nH d).size/\skq a (pB a b c)≠0/\skq a (pB a b c)≠7)
 |none=>decide (skq a (pB a b c)=0)
theorem afq:∀a∈0::fb0,∀b∈0::fb1,∀c∈0::fb2,ajd a b c=M:=by decide+kernel
theorem JH(S:List Int)(b:Int):Cc S b∈0::S:=by
 unfold Cc;split
 ·exact dm _ (by assumption)
 ·exact bz
def Fc(r:ByteArray):Prop:=match wC (fun x=>Z r.data.toList x.data.toList) 30 0 with
 |some a=>od r=ym (cG nH a)/\(ed (od r)).size=(cG nH a).size/\od r≠0/\od r≠7
 |none=>od r=0
theorem aah(r:ByteArray)(f:aw r 0≠10):Fc r:=by
 have e:∀x,inB x=M->Z r.data.toList x.data.toList=pB (Cc fb0 (aw r 0)) (Cc fb1 (aw r 1)) (Cc fb2 (aw r 2)) x:=fun x d=>by
  rw[<-ala _ _ _ x d];unfold inB at d;rw[pF]at d;exact ak6 r x d.1
 have k:od r=skq (Cc fb0 (aw r 0)) (pB (Cc fb0 (aw r 0)) (Cc fb1 (aw r 1)) (Cc fb2 (aw r 2))):=by
  unfold od skq;rw[afp,afp,uC _ _ mh 40 11 (fun i b=>e _ (ak7 ⟨i,b⟩)) 11 0 _ (by omega),uC _ _ tI 61 18 (fun i b=>e _ (ak8 ⟨i,b⟩)) 18 0 _ (by omega)];have g:=Fb fb0 (by decide) (aw r 0) 59 (by decide);have j:Cc fb0 (aw r 0)≠10:=by
   unfold Cc;split
   ·exact f
   ·decide
  rw[aa f,aa j];by_cases c:aw r 0=59
  ·rw[ab c,ab (g.2 c)]
  ·rw[aa c,aa (fun h=>c (g.1 h))]
 have a:=afq _ (JH fb0 (aw r 0)) _ (JH fb1 (aw r 1)) _ (JH fb2 (aw r 2));unfold Fc;rw[Bl _ _ (fun i b=>e _ (ak9 ⟨i,b⟩)) 30 0 (by omega),k];unfold ajd at a;cases hf:wC (pB (Cc fb0 (aw r 0)) (Cc fb1 (aw r 1)) (Cc fb2 (aw r 2))) 30 0 with
 |some m=>rw[hf]at a;exact aH a
 |none=>rw[hf]at a;exact aH a
theorem aie(s x:ByteArray)(p:Nat)(f:p<=s.size):Z (s.extract p s.size).data.toList x.data.toList=decide (p+x.size<=s.size/\((s.extract p (p+x.size)).toList==x.toList)=M):=by
 have e:s.data.toList.length=s.size:=eB;have b:x.data.toList.length=x.size:=eB;have c:(s.extract p s.size).data.toList=s.data.toList.drop p:=by
  rw[<-gw,Lib.extract_toList,cI];rw[ij,eB];exact ag _
 have d:(s.extract p (p+x.size)).toList=(s.data.toList.drop p).take x.size:=by
  rw[Lib.extract_toList];congr 1;omega
 rw[c,d,gw x];unfold Z;rw[vc,uI,pF,List.prefix_iff_eq_take,b,jH];constructor
 ·intro a;refine⟨?_,a.symm⟩;have:=congrArg List.length a;rw[gx,ij,e,b]at this;omega
 ·exact fun a=>a.2.symm
theorem ab8(s:ByteArray)(f:s.size<=70000)(p:Nat)(b:p<s.size)(a:aw s p=10)(w:World):Calls A1 36 #[Y s,O Q p] w fun e d=>e= A2 (A0 #[A4 #[O Q 7,O Q p,O Q ((p:Int)+1),O Q 0,O Q 0,Y ⟨#[]⟩],O Q (-1)])/\Below w.heap.size w d:=by
 have c:=fun w=>eI b w;rw[a]at c;have g:(p:Int)<(s.size:Int):=by omega
 go_in;go_wp2;refine bB (v:= A0 #[A4 #[O Q 7,O Q p,O Q ((p:Int)+1),O Q 0,O Q 0,Y ⟨#[]⟩],O Q (-1)]) (by simp[results,Tryz.results36,go_sem]) rfl ⟨rfl,?_⟩;exact((ai _ w).alloc (ag _) _).alloc (by simp) _
theorem afr(p:Nat)(R:Bool×Nat×List Int):∃(t:Int) (x:ByteArray),Dp p R= A4 #[O Q 4,O Q p,O Q t,O Q 0,O Q 0,Y x]:=by
 unfold Dp;split<;>exact⟨_,_,rfl⟩
theorem Bm(s:ByteArray)(B:s.size<=70000)(p:Nat)(m:p<s.size)(A:aw s p=34)(w:World):Calls A1 36 #[Y s,O Q p] w fun e F=>e= A2 (A0 #[Dp p (fF s (s.size+1) (p+1) []),O Q (He (fF s (s.size+1) (p+1) []))])/\Below w.heap.size w F:=by
 have o:=fun w=>eI m w;have t:=fun w=>jz (c:=34) (b:=W) (by decide) w;have r:=fun w=>dK (c:=34) (b:=W) (by decide) w;have a:=fun w=>EH s B p m w;generalize fF s (s.size+1) (p+1) []=f at a;obtain⟨C,x,h⟩:=afr p f;rw[h]at a⊢;generalize He f=u at a;rw[A]at o;clear h;have j:gK w.heap.size ((w.alloc (A3 #[O Q 0,O Q 0,O Q 0,O Q 0,O Q 0,Y ⟨#[]⟩] 88)).alloc (A3 #[O Q 0,O Q p,O Q 0,O Q 0,O Q 0,Y ⟨#[]⟩] 88)) 0 0 0 0 0 ⟨#[]⟩:=(dt _ _ _ (by simp)).trans (ar w _);have g:Below w.heap.size w ((w.alloc (A3 #[O Q 0,O Q 0,O Q 0,O Q 0,O Q 0,Y ⟨#[]⟩] 88)).alloc (A3 #[O Q 0,O Q p,O Q 0,O Q 0,O Q 0,Y ⟨#[]⟩] 88)):=(((ai _ w).alloc (ag _) _).alloc (by simp) _);go_in;go_wp2_with (first|(go_at_call 71;refine fc (t _) ?_)|(go_at_call 73;refine fc (r _) ?_));refine cd (a _) fun G d=>?_;have k:=j.below d (by simp;omega);have y:=g.trans (d.mono (by simp;omega));clear d j g a t r o;obtain⟨z0,H,I,J,K,L,ak⟩:=cJ k;have af:w.heap.size<G.heap.size:=au k;go_wp2;refine bB (v:= A0 #[A4 #[O Q 4,O Q p,O Q C,O Q 0,O Q 0,Y x],O Q u]) (by simp[results,Tryz.results36,go_sem,z0,H,I,J,K,L]) rfl ⟨rfl,?_⟩
 iterate 6 refine fI ?_ (by simp) _
 exact y
structure aai (q:ByteArray->Bool) (f k:Nat) (R:Option Nat):Prop where
 out:wC q f k=R
def amJ(p:Nat)(R:Option Nat):Value:=match R with
 |some a=> A0 #[A4 #[O Q (ym (cG nH a)),O Q p,O Q ((p:Int)+((cG nH a).size:Int)),O Q 0,O Q 0,Y ⟨#[]⟩],O Q (-1)]
 |none=> A0 #[A4 #[O Q 0,O Q p,O Q 0,O Q 0,O Q 0,Y ⟨#[]⟩],O Q p]
theorem alb:∀k:Fin 30,(cG nH k.val).size<=3:=by decide
theorem Bn(s:ByteArray)(b4:s.size<=70000)(p:Nat)(ba:p<s.size)(al:¬aw s p=10)(ap:bC (aw s p)=W)(an:ch (aw s p)=W)(am:¬aw s p=34)(w:World):
  Calls A1 36 #[Y s,O Q p] w fun e bb=>e= A2 (amJ p (wC (fun x=>Z (s.extract p s.size).data.toList x.data.toList) 30 0))/\Below w.heap.size w bb:=by
 have a4:=fun w=>eI ba w;have af:(aw s p==10)=W:=by rw[aL];exact al
 have ak:(aw s p==34)=W:=by rw[aL];exact am
 have K:=fun w=>jz ap w;have J:=fun w=>dK an w;have b5:(p:Int)<(s.size:Int):=by omega
 generalize aw s p=bt at a4 af ak K J;obtain⟨q,H⟩:∃q:ByteArray->Bool,(fun x=>Z (s.extract p s.size).data.toList x.data.toList)=q:=⟨_,rfl⟩;have a0:∀x,q x=decide (p+x.size<=s.size/\((s.extract p (p+x.size)).toList==x.toList)=M):=fun x=>by rw[<-H];exact aie s x p (by omega)
 rw[H];obtain⟨o,C⟩:=aA (wC q 30 0);rw[C];have t:aai q 30 0 o:=⟨C⟩;have a5:=aj a0;clear C H a0 al ap an am;obtain⟨d,h⟩:=aA ((w.alloc (A3 #[O Q 0,O Q 0,O Q 0,O Q 0,O Q 0,Y ⟨#[]⟩] 88)).alloc (A3 #[O Q 0,O Q p,O Q 0,O Q 0,O Q 0,Y ⟨#[]⟩] 88));have F:gK w.heap.size d 0 0 0 0 0 ⟨#[]⟩:=by rw[<-h];exact(dt _ _ _ (by simp)).trans (ar w _)
 have u:gK (w.heap.size+1) d 0 p 0 0 0 ⟨#[]⟩:=by
  rw[<-h];have:=ar (w.alloc (A3 #[O Q 0,O Q 0,O Q 0,O Q 0,O Q 0,Y ⟨#[]⟩] 88)) (A3 #[O Q 0,O Q p,O Q 0,O Q 0,O Q 0,Y ⟨#[]⟩] 88);rw[bu]at this;exact this
 have A:Below w.heap.size w d:=by rw[<-h];exact(((ai _ w).alloc (ag _) _).alloc (by simp) _)
 have L:=aj h;clear h;go_in;go_wp2_with (first|(go_at_call 71;refine fc (K _) ?_)|(go_at_call 73;refine fc (J _) ?_));rw[L.out];refine cd (xF d) fun f k=>?_;have y:gK (w.heap.size+1) f 0 p 0 0 0 ⟨#[]⟩:=by rw[k];exact(dt _ _ _ (au u)).trans u
 have G:gK w.heap.size f 0 0 0 0 0 ⟨#[]⟩:=by rw[k];exact(dt _ _ _ (au F)).trans F
 have B:Below w.heap.size w f:=by rw[k];exact A.alloc A.size _
 have a7:f.heap[d.heap.size]?=Ax (A3 nH 9 (0,0)):=by rw[k];exact ar d _
 clear k u F A K J a4 L af ak;go_wp2_with fail;obtain⟨b9,ca,cb,cc,ce,cf,ck⟩:=cJ y;obtain⟨z0,bo,bp,bq,br,bs,cn⟩:=cJ G;have a2:w.heap.size<f.heap.size:=au G;have a3:w.heap.size+1<f.heap.size:=au y;go_loop [45,9] (fun i _=>∃a:Nat,a<=30/\i= O Q a/\aai q (30-a) a o) (fun i _=>30-(intOf i).toNat)
 case atStart=>exact⟨0,by omega,rfl,t⟩
 case round=>
  obtain⟨a,b3,rfl,m⟩:=hrel;by_cases av:a<30
  ·have a8:f.cell? ⟨d.heap.size,a,none⟩=Ax (Y (cG nH a)):=by rw[ay _ _ _ _ _ _ a7];exact acv ⟨a,av⟩
   have b:=m.out;rw[show 30-a=(30-(a+1))+1 by omega,wC,a5.out]at b;have a1:=alb ⟨a,av⟩;simp only at a1;obtain⟨x,I⟩:=aA (cG nH a);rw[I]at a8 b a1;have a6:=aj I;clear I m t;by_cases ao:p+x.size<=s.size
   ·have a9:(x.size:Int)<=(s.size:Int)-(p:Int):=by omega
    have b2:(p:Int)+(x.size:Int)<=(s.size:Int):=by omega
    by_cases r:((s.extract p (p+x.size)).toList==x.toList)=M
    ·rw[ab (bg ⟨ao,r⟩)]at b;have c:=aj b;clear b;go_wp2_with (go_at_call 77;refine(uq x _).mono ?_;rintro e cl ⟨rfl,j⟩;obtain⟨bw,bx,bA,bD,bE,b0,b1⟩:=cJ (y.below j a3);obtain⟨bd,bf,bj,bk,bl,bn,cm⟩:=cJ (G.below j a2);have b7:=jq a2 j.size;have b8:=jq a3 j.size);refine bB (v:= A0 #[A4 #[O Q (ym x),O Q p,O Q ((p:Int)+(x.size:Int)),O Q 0,O Q 0,Y ⟨#[]⟩],O Q (-1)]) (by simp[results,Tryz.results36,go_sem,bd,bf,bj,bk,bl,bn]) rfl ⟨by rw[<-c.out];have g:=a6.out;subst g;rfl,?_⟩
     iterate 8 refine fI ?_ (by simp) _
     exact B.trans (j.mono B.size)
    ·have b6:((s.extract p (p+x.size)).toList==x.toList)=W:=by simpa using r
     rw[aa (fun g=>r (aH g).2)]at b;have c:aai q (30-(a+1)) (a+1) o:=⟨b⟩;clear b r;go_wp2_with fail;go_round
     case rel=>exact⟨a+1,by omega,by go_num,c⟩
     case measure=>simp[intOf];omega
   ·have a9:¬(x.size:Int)<=(s.size:Int)-(p:Int):=by omega
    rw[aa (fun g=>ao (aH g).1)]at b;have c:aai q (30-(a+1)) (a+1) o:=⟨b⟩;clear b;go_wp2_with fail;go_round
    case rel=>exact⟨a+1,by omega,by go_num,c⟩
    case measure=>simp[intOf];omega
  ·obtain rfl:a=30:=by omega
   have c:=aj m.out;clear m t;go_wp2_with fail;refine bB (v:= A0 #[A4 #[O Q 0,O Q p,O Q 0,O Q 0,O Q 0,Y ⟨#[]⟩],O Q (p:Int)]) (by simp[results,Tryz.results36,go_sem,z0,bo,bp,bq,br,bs]) rfl ⟨by rw[<-c.out];rfl,?_⟩
   iterate 6 refine fI ?_ (by simp) _
   exact B
structure amK (R:Rd) (k t n:Int) (x:ByteArray) (bad:Int):Prop where
 yes:R.ok=M->bad= -1/\k=R.k/\t=(R.a:Int)/\n=R.n/\x=R.x/\R.d=(if R.k=7 then 1 else 0)
 no:R.ok=W->bad=(R.a:Int)
theorem amL(s:ByteArray)(p:Nat):(Di s p).1≠7:=by
 unfold Di;split
 ·simp only;omega
 ·simp
theorem am0(s:ByteArray)(p:Nat):(AC s p).1≠7:=by
 unfold AC;split
 ·simp
 ·split<;>simp
theorem JI(s:ByteArray)(v:s.size<=70000)(p:Nat)(f:p<s.size)(w:World):
  Calls A1 36 #[Y s,O Q p] w fun e c=>∃k t n x y,e= A2 (A0 #[A4 #[O Q k,O Q p,O Q t,O Q 0,O Q n,Y x],O Q y])/\amK (eE s p) k t n x y/\Below w.heap.size w c:=by
 unfold eE;by_cases m:bC (aw s p)=M
 ·rw[ab m];refine cd (xH s (by omega) p f m w) fun c b=>?_;rw[amv];exact⟨_,_,_,_,_,rfl,⟨fun _=>⟨rfl,rfl,rfl,rfl,rfl,by simp only;rw[aa (amL s p)]⟩,fun a=>by cases a⟩,b⟩
 rw[aa m];by_cases j:ch (aw s p)=M
 ·rw[ab j];refine cd (ut s (by omega) p f j w) fun c b=>?_;cases hok:(fe s p).2 with
  |true=>
   obtain⟨d,u⟩:=akg s p hok;rw[d,u,ab rfl];exact⟨_,_,_,_,_,rfl,⟨fun _=>⟨rfl,rfl,rfl,rfl,rfl,by simp only;rw[aa (am0 s p)]⟩,fun a=>by cases a⟩,b⟩
  |false=>
   obtain⟨k,t,n,x,d⟩:=KJ s p;rw[d,GG s p hok,aa (by simp)];exact⟨_,_,_,_,_,rfl,⟨fun a=>by(try simp at a),fun a=>rfl⟩,b⟩
 rw[aa j];by_cases h:aw s p=34
 ·rw[ab h];refine cd (Bm s v p f h w) fun c b=>?_;generalize fF s (s.size+1) (p+1) []=r;obtain⟨G,H,I⟩:=r;cases G with
  |true=>exact⟨_,_,_,_,_,rfl,⟨fun _=>⟨rfl,rfl,rfl,rfl,rfl,rfl⟩,fun a=>by cases a⟩,b⟩
  |false=>exact⟨_,_,_,_,_,rfl,⟨fun a=>(by cases a),fun a=>rfl⟩,b⟩
 rw[aa h];have A:aw (s.extract p s.size) 0=aw s p:=mJ s p s.size 0 (ag _) (by omega);by_cases g:aw s p=10
 ·have C:od (s.extract p s.size)=7:=by unfold od;rw[A,g];rfl
  rw[C,aa (by decide)];refine cd (ab8 s v p f g w) fun c b=>?_;exact⟨_,_,_,_,_,rfl,⟨fun _=>⟨rfl,rfl,rfl,rfl,rfl,rfl⟩,fun a=>by cases a⟩,b⟩
 ·have o:=aah (s.extract p s.size) (by rw[A];exact g);unfold Fc at o;refine cd (Bn s v p f g (by simpa using m) (by simpa using j) h w) fun c b=>?_;generalize wC (fun x=>Z (s.extract p s.size).data.toList x.data.toList) 30 0=r at o;cases r with
  |none=>
   rw[show od (s.extract p s.size)=0 from o,ab rfl];exact⟨_,_,_,_,_,rfl,⟨fun a=>(by cases a),fun a=>rfl⟩,b⟩
  |some F=>
   obtain⟨d,u,B,J⟩:=(show _/\_/\_/\_ from o);rw[aa B];refine⟨_,_,_,_,_,rfl,⟨fun _=>⟨rfl,d.symm,?_,rfl,rfl,rfl⟩,fun a=>by cases a⟩,b⟩;show(p:Int)+((cG nH F).size:Int)=((p+(ed (od (s.extract p s.size))).size:Nat):Int);rw[u];omega
structure alc (s:ByteArray) (f k e:Nat):Prop where
 out:iw nnB s f k=e
structure aaj (s:ByteArray) (f k e:Nat):Prop where
 out:blk s f k=e
theorem ru(s:ByteArray)(a5:s.size<=1100000)(p:Nat)(a6:p<=s.size)(w:World):Calls A1 35 #[Y s,O Q p] w fun e a7=>e= A2 (O Q (blk s (s.size+1) p))/\a7=w:=by
 obtain⟨A,I⟩:=aA (blk s (s.size+1) p);rw[I];have av:aaj s (s.size+1) p A:=⟨I⟩;clear I;go_in;go_wp2_with fail;go_loop [1,5] (fun i a8=>∃(a d:Nat),a<=s.size/\s.size<a+d/\i= O Q a/\aaj s d a A) (fun i _=>s.size-(intOf i).toNat)
 case atStart=>exact⟨p,s.size+1,a6,by omega,rfl,av⟩
 case round=>
  obtain⟨a,d,ak,a9,rfl,u⟩:=hrel;obtain⟨d,rfl⟩:∃g,d=g+1:=⟨d-1,by omega⟩;have b:=u.out;rw[blk]at b;by_cases am:a<s.size
  ·have bf:(a:Int)<(s.size:Int):=by omega
   rw[aa (by omega)]at b;have v:=fun w=>eI am w;have B:=qk am;by_cases j:ll (aw s a)=M
   ·rw[ab j]at b;have f:aaj s d (a+1) A:=⟨b⟩;have r:aw s a=32\/aw s a=9\/aw s a=13:=aH j;generalize aw s a=L at v r B;clear b u j;rcases r with rfl|rfl|rfl;all_goals
     go_wp2_with fail;go_round
     case rel=>exact⟨a+1,d,by omega,by omega,by go_num,f⟩
     case measure=>simp[intOf];omega
   ·rw[aa j]at b;have r:¬(aw s a=32\/aw s a=9\/aw s a=13):=fun H=>j (bg H);have C:(aw s a==32)=W:=by rw[aL];omega
    have F:(aw s a==9)=W:=by rw[aL];omega
    have G:(aw s a==13)=W:=by rw[aL];omega
    have y:=fun w=>gD s a5 ((a:Int)+1) (a+1) (by omega) w;have t:=se s (a+1) 45 (by omega);by_cases h:aw s a=45/\aw s (a+1)=45
    ·rw[ab h]at b;have f:aaj s d (Lu s a) A:=⟨b⟩;rw[h.2]at t;have al:lk s (a+1)=45:=by simpa using t
     have a3:=wg s a h.1;have a4:=EB s a ak;rw[h.1]at v;rw[al]at y;have K:alc s (s.size+1) a (Lu s a):=⟨rfl⟩;generalize Lu s a=N at f a3 a4 K;clear b u j r C F G t al h B;go_wp2_with (go_at_call 70;refine fc (y _) ?_);go_loop [1] (fun i=>∃(c g:Nat),c<=s.size/\s.size<c+g/\i= O Q c/\alc s g c N) (fun i=>s.size-(intOf i).toNat)
     case atStart=>exact⟨a,s.size+1,ak,by omega,rfl,K⟩
     case round=>
      obtain⟨c,g,bb,ba,rfl,J⟩:=hrel;obtain⟨g,rfl⟩:∃q,g=q+1:=⟨g-1,by omega⟩;have b:=J.out;rw[iw]at b;clear v J;by_cases af:c<s.size
      ·have bd:(c:Int)<(s.size:Int):=by omega
       have ao:=fun w=>eI af w;have ap:=qk af;by_cases m:aw s c=10
       ·rw[aa (by rw[m];decide)]at b;rw[m]at ao;have k:=aj b;clear b m ap;go_wp2_with fail;go_round
        case rel=>exact⟨c,d,by omega,by have:=k.out;omega,by go_num,by rw[k.out];exact f⟩
        case measure=>have:=k.out;simp[intOf];omega
       ·rw[ab (by unfold nnB;rw[pF];exact⟨m,by omega⟩)]at b;have k:alc s g (c+1) N:=⟨b⟩;have a0:(aw s c==10)=W:=by rw[aL];exact m
        generalize aw s c=L at ao a0;clear b m ap;go_wp2_with fail;go_round
        case rel=>exact⟨c+1,g,by omega,by omega,by go_num,k⟩
        case measure=>simp[intOf];omega
      ·obtain rfl:c=s.size:=by omega
       rw[aa (by rw[dD (Nat.lt_irrefl _)];decide)]at b;have k:=aj b;clear b;go_wp2_with fail;go_round
       case rel=>exact⟨s.size,d,by omega,by omega,by go_num,by rw[k.out];exact f⟩
       case measure=>simp[intOf];omega
    ·rw[aa h]at b;have f:=aj b;clear b u;by_cases o:aw s a=45
     ·have an:aw s (a+1)≠45:=fun H=>h ⟨o,H⟩;rw[az an]at t;rw[o]at v;generalize lk s (a+1)=x at y t;clear j r C F G h B an o;go_wp2_with (go_at_call 70;refine fc (y _) ?_);go_ret;exact⟨by rw[<-f.out];rfl,rfl⟩
     ·have a1:(aw s a==45)=W:=by rw[aL];exact o
      have a2:(aw s a !=45)=M:=by rw[zh];exact o
      generalize aw s a=L at v C F G a1 a2;clear j r h B o y t;go_wp2_with fail;go_ret;exact⟨by rw[<-f.out];rfl,rfl⟩
  ·obtain rfl:a=s.size:=by omega
   rw[ab (ag _)]at b;have f:=aj b;clear b u;go_wp2_with fail;go_ret;exact⟨by rw[<-f.out];rfl,rfl⟩
def Bo(s:ByteArray)(p:Nat):Int:=if ch (aw s p)=M then(if aw s p=48/\aw s (p+1)=120 then 2 else 3) else if aw s p=34 then 4 else 0
theorem afs(s:ByteArray)(p:Nat)(h:(fe s p).2=W):∃(t n:Int) (x:ByteArray),yq s p= A4 #[O Q (if aw s p=48/\aw s (p+1)=120 then 2 else 3),O Q p,O Q t,O Q 0,O Q n,Y x]:=by
 unfold yq;unfold fe at h;by_cases a:aw s p=48/\aw s (p+1)=120
 ·rw[ab a]at h;rw[ab a,ab a];unfold hxA;rw[aa (by rw[h];simp)];exact⟨_,_,_,rfl⟩
 ·rw[aa a]at h;rw[aa a,aa a];unfold nmA;rw[aa (by rw[h];simp)];exact⟨_,_,_,rfl⟩
def rA(s:ByteArray)(p:Nat):Int:=if(eE s p).ok=M then(eE s p).k else Bo s p
theorem afu(V:Array Value)(s:ByteArray):∀(f k j:Nat),uo V s f k=Ax j->j<k+f
 |0,k,j,h=>by simp[uo]at h
 |f+1,k,j,h=>by
  rw[uo]at h;split at h
  ·obtain rfl:=db h;omega
  ·have:=afu V s f (k+1) j h;omega
theorem aak(s:ByteArray)(p:Nat)(h:(eE s p).ok=M):1<=(eE s p).k/\(eE s p).k<=78:=by
 unfold eE at h⊢;split
 ·simp only;unfold Di;cases hf:uo fd (s.extract p (pC s (s.size+1) p)) 22 0 with
  |none=>simp
  |some k=>have:=afu _ _ _ _ _ hf;simp only;omega
 split
 ·split
  ·simp only;unfold AC;split
   ·simp
   ·split<;>simp
  ·rename_i a b c;rw[aa a,ab b,aa c]at h;cases h
 split
 ·split
  ·simp
  ·rename_i a b c d;rw[aa a,aa b,ab c,aa d]at h;cases h
 split
 ·rename_i a b c d;rw[aa a,aa b,aa c,ab d]at h;cases h
 ·rename_i a b c d;have:=akh (s.extract p s.size);simp only;omega
theorem aal(s:ByteArray)(p:Nat):0<=Bo s p/\Bo s p<=4:=by
 unfold Bo;split
 ·split<;>omega
 ·split<;>omega
theorem JJ(s:ByteArray)(y:s.size<=70000)(p:Nat)(o:p<s.size)(w:World):
  Calls A1 36 #[Y s,O Q p] w fun e k=>∃t n x v,e= A2 (A0 #[A4 #[O Q (rA s p),O Q p,O Q t,O Q 0,O Q n,Y x],O Q v])/\amK (eE s p) (rA s p) t n x v/\Below w.heap.size w k:=by
 cases hok0:(eE s p).ok with
 |true=>
  refine(JI s y p o w).mono ?_;rintro e k ⟨ao,t,n,x,v,rfl,a,f⟩;obtain⟨_,rfl,_⟩:=a.yes hok0;have e:rA s p=(eE s p).k:=by unfold rA;rw[ab hok0]
  rw[e];exact⟨_,_,_,_,rfl,a,f⟩
 |false=>
  have I:rA s p=Bo s p:=by unfold rA;rw[aa (by rw[hok0];simp)]
  rw[I];have b:=hok0;unfold eE at b;have h:¬bC (aw s p)=M:=fun a=>by rw[ab a]at b;cases b
  rw[aa h]at b;by_cases c:ch (aw s p)=M
  ·rw[ab c]at b;have A:(fe s p).2=W:=by
    cases j:(fe s p).2 with
    |true=>rw[ab j]at b;cases b
    |false=>rfl
   refine cd (ut s (by omega) p o c w) fun k f=>?_;obtain⟨t,n,x,C⟩:=afs s p A;have g:Bo s p=(if aw s p=48/\aw s (p+1)=120 then 2 else 3):=by unfold Bo;rw[ab c]
   rw[C,g,GG s p A];refine⟨_,_,_,_,rfl,⟨fun a=>(by rw[hok0]at a;cases a),fun a=>?_⟩,f⟩;unfold eE;rw[aa h,ab c,aa (by rw[A];simp)]
  ·rw[aa c]at b;by_cases d:aw s p=34
   ·have g:Bo s p=4:=by unfold Bo;rw[aa c,ab d]
    rw[g];refine cd (Bm s y p o d w) fun k f=>?_;have r:(eE s p).ok=(fF s (s.size+1) (p+1) []).1/\(eE s p).a=(fF s (s.size+1) (p+1) []).2.1:=by
     unfold eE;rw[aa h,aa c,ab d];cases j:(fF s (s.size+1) (p+1) []).1 with
     |true=>rw[ab rfl];exact⟨rfl,rfl⟩
     |false=>rw[aa (by simp)];exact⟨rfl,rfl⟩
    rw[hok0]at r;generalize am:fF s (s.size+1) (p+1) []=G at r;obtain⟨ap,ak,al⟩:=G;simp only at r;obtain⟨K,L⟩:=r;subst K;refine⟨_,_,_,_,rfl,⟨fun a=>(by rw[hok0]at a;cases a),fun a=>?_⟩,f⟩;rw[L];rfl
   ·rw[aa d]at b;have g:Bo s p=0:=by unfold Bo;rw[aa c,aa d]
    rw[g];have u:od (s.extract p s.size)=0:=by
     by_cases j:od (s.extract p s.size)=0
     ·exact j
     ·rw[aa j]at b;cases b
    have F:aw (s.extract p s.size) 0=aw s p:=mJ s p s.size 0 (ag _) (by omega);have m:¬aw s p=10:=fun m=>by
     have af:od (s.extract p s.size)=7:=by unfold od;rw[F,m];rfl
     rw[af]at u;exact absurd u (by decide)
    have B:=aah (s.extract p s.size) (by rw[F];exact m);unfold Fc at B;refine cd (Bn s y p o m (by simpa using h) (by simpa using c) d w) fun k f=>?_;generalize wC (fun x=>Z (s.extract p s.size).data.toList x.data.toList) 30 0=H at B;cases H with
    |none=>
     refine⟨_,_,_,_,rfl,⟨fun a=>(by rw[hok0]at a;cases a),fun a=>?_⟩,f⟩;unfold eE;rw[aa h,aa c,aa d,ab u]
    |some an=>
     obtain⟨C,_,J,_⟩:=(show _/\_/\_/\_ from B);exact absurd u J
def Bp(st:List Int)(k:Int):List Int×Bool:=if 0<k then dB st k else(st,W)
def sE(s:ByteArray):Nat->List Int->Nat->Int->List Tk->List Tk×List Int×Int
 |0,st,_,_,_=>([],st,0)
 |f+1,st,p,l,b=>
  if s.size<=p then(b++[⟨6,(s.size:Nat),(s.size:Nat),l,0,⟨#[]⟩⟩],st, -1)
  else if rA s p=7 then
   (if(dB st 5).2=M then sE s f (dB st 5).1 (blk s (s.size+1) (eE s p).a) (l+1) (b++[⟨5,(p:Nat),((eE s p).a:Nat),l,(eE s p).n,(eE s p).x⟩]) else sE s f st (blk s (s.size+1) (eE s p).a) (l+1) b)
  else if(Bp st (rA s p)).2=M then
   (if(eE s p).ok=M then sE s f (dB st (rA s p)).1 (blk s (s.size+1) (eE s p).a) l (b++[⟨rA s p,(p:Nat),((eE s p).a:Nat),l,(eE s p).n,(eE s p).x⟩]) else([],st,((eE s p).a:Nat)))
  else([],st,(wrongF s p (GD st):Nat))
def ou(s:ByteArray):List Tk×List Int×Int:=sE s (s.size+1) [100,6] (blk s (s.size+1) 0) 1 []
theorem ald(s:ByteArray)(p:Nat):0<=rA s p/\rA s p<=78:=by
 unfold rA;split
 ·rename_i a;have:=aak s p a;omega
 ·have:=aal s p;omega
theorem aif(s:ByteArray)(p:Nat)(h:rA s p=7):(eE s p).ok=M/\(eE s p).k=7:=by
 unfold rA at h;split at h
 ·rename_i a;exact⟨a,h⟩
 ·have:=aal s p;omega
inductive Fd:List Int->List Tk->List Int->Prop where
 |nil {st:List Int}:Fd st [] st
 |cons {st:List Int}{T:Tk}{ts:List Tk}{st':List Int}:1<=T.k->T.k<=78->T.k≠6->(dB st T.k).2=true->Fd (dB st T.k).1 ts st'->Fd st (T::ts) st'
theorem JK(V:Array Value)(base:Int)(r:ByteArray)(b:40<=base):∀(f i:Nat)(a:Int×Nat),a.1≠6->(zp V base r f i a).1≠6
 |0,i,a,h=>h
 |f+1,i,a,h=>by
  unfold zp;refine JK V base r b f (i+1) _ ?_;split
  ·show base+(i:Int)≠6;omega
  ·exact h
theorem aam(s:ByteArray)(p:Nat)(h:(eE s p).ok=M):rA s p≠6:=by
 unfold rA;rw[ab h];unfold eE at h⊢;split
 ·simp only;unfold Di;cases hf:uo fd (s.extract p (pC s (s.size+1) p)) 22 0 with
  |none=>simp
  |some e=>simp only;omega
 split
 ·split
  ·simp only;unfold AC;split
   ·simp
   ·split<;>simp
  ·rename_i a b c;rw[aa a,ab b,aa c]at h;cases h
 split
 ·split
  ·simp
  ·rename_i a b c d;rw[aa a,aa b,ab c,aa d]at h;cases h
 split
 ·rename_i a b c d;rw[aa a,aa b,aa c,ab d]at h;cases h
 ·simp only;unfold od;split
  ·omega
  split
  ·omega
  ·exact JK _ _ _ (by omega) _ _ _ (JK _ _ _ (by omega) _ _ _ (by simp))
theorem Fe(s:ByteArray):∀(f:Nat)(st:List Int)(p:Nat)(l:Int)(m:List Tk)(b:List Tk)(c:List Int),sE s f st p l m=(b,c, -1)->∃d g,b=m++d++[⟨6,(s.size:Nat),(s.size:Nat),g,0,⟨#[]⟩⟩]/\Fd st d c
 |0,st,p,l,m,b,c,h=>by simp[sE]at h
 |f+1,st,p,l,m,b,c,h=>by
  rw[sE]at h;split at h
  ·simp only[pG]at h;exact⟨[],l,by rw[fj];exact h.1.symm,by rw[<-h.2.1];exact .nil⟩
  split at h
  ·split at h
   ·rename_i j;obtain⟨d,g,e,o⟩:=Fe s f _ _ _ _ b c h;exact⟨⟨5,(p:Nat),((eE s p).a:Nat),l,(eE s p).n,(eE s p).x⟩::d,g,by rw[e];simp,.cons (by show(1:Int)<=5;omega) (by show(5:Int)<=78;omega) (by show(5:Int)≠6;omega) j o⟩
   ·exact Fe s f _ _ _ _ b c h
  split at h
  ·rename_i t j;split at h
   ·rename_i r;obtain⟨v,w⟩:=aak s p r;have u:rA s p=(eE s p).k:=by unfold rA;rw[ab r]
    rw[show Bp st (rA s p)=dB st (rA s p) by unfold Bp;rw[ab (by omega)]]at j;obtain⟨d,g,e,o⟩:=Fe s f _ _ _ _ b c h;exact⟨⟨rA s p,(p:Nat),((eE s p).a:Nat),l,(eE s p).n,(eE s p).x⟩::d,g,by rw[e];simp,.cons (by show 1<=rA s p;omega) (by show rA s p<=78;omega) (aam s p r) j o⟩
   ·simp only[pG]at h;omega
  ·simp only[pG]at h;omega
theorem am1{a:List Tk}{st f:List Int}(h:Fd st a f):∀{T:Tk},T∈a->1<=T.k/\T.k<=78/\T.k≠6:=by
 induction h with
 |nil=>intro T hT;cases hT
 |cons b c d g j e=>
  intro T hT;rcases List.mem_cons.1 hT with rfl|hT
  ·exact⟨b,c,d⟩
  ·exact e hT
def zTk:Tk:=⟨0,0,0,0,0,⟨#[]⟩⟩
def uD(a:List Tk)(q:Nat):Tk:=a.getD q zTk
theorem Bq{a:List Tk}{q:Nat}{T:Tk}(h:a[q]?=Ax T):uD a q=T:=by unfold uD;rw[bc,h];rfl
def JL:List Int->List Int->Option (List Int)
 |st,[]=>Ax st
 |st,k::r=>if(dB st k).2=M then JL (dB st k).1 r else none
theorem aan:∀(a b st:List Int),JL st (a++b)=(JL st a).bind fun s=>JL s b
 |[],b,st=>rfl
 |k::a,b,st=>by
  rw[fy,JL,JL];split
  ·exact aan a b _
  ·rfl
section
variable {tk : Nat → Tk} {n : Nat}
theorem aao{t:Int}{i j:Nat}(v:(tk i).k=t):∀(f:Nat)(st:List Int)(c:Nat)(o:List Int)(b:Bool)(p:Nat)(r:List Int)(m:Nat),jA f st t c=Ax (o,Ax b,p)->D tk n m (st++r) i j->b=M/\∃m',D tk n m' (o++r) (i+1) j
 |0,_,_,_,_,_,_,_,h,_=>by simp[jA]at h
 |f+1,[],_,_,_,_,_,_,h,_=>by simp[jA]at h
 |f+1,s::q,c,o,b,p,r,m,h,d=>by
  by_cases B:s<100
  ·obtain⟨rfl,e,_⟩:=sn h B;have e:b=decide (s=t):=by simpa using e
   cases d with
   |tok u y g a=>exact⟨by rw[e];exact bg (by rw[<-y,v]),_,a⟩
   |exp u=>omega
  ·cases d with
   |tok u=>omega
   |exp u y g a=>
    rw[v]at g a;rcases lq h (by omega) with⟨w,A⟩|⟨w,_⟩
    ·change D tk n _ ((xE s t).1++(q++r)) i j at a
     rw[<-dC]at a;exact aao v f _ _ o b p r _ A a
    ·rw[w]at g;cases g
theorem afv:∀(st:List Int)(m i j:Nat),D tk n m st i j->i<j->De st->1<=(tk i).k->(tk i).k<=78->(dB st (tk i).k).2=M/\∃m',D tk n m' (dB st (tk i).k).1 (i+1) j
 |[],m,i,j,d,h,_,_,_=>by cases d;omega
 |s::r,m,i,j,d,h,g,o,p=>by
  have A:De r:=fun x C=>g x (dm _ C);by_cases w:s<100
  ·cases d with
   |tok c f y a=>rw[oJ w];exact⟨bg f.symm,_,a⟩
   |exp c=>omega
  ·have B:=g s bz;by_cases b:(xE s (tk i).k).1=[]/\(xE s (tk i).k).2=M
   ·rw[qC (by omega) b];cases d with
    |tok c=>omega
    |exp c f y a=>rw[b.1]at a;exact afv r _ i j a h A o p
   ·obtain⟨F,t,u,e,_⟩:=Aq (by omega) B o p b;obtain⟨rfl,m',v⟩:=aao rfl 8 [s] 0 F t u r m e d;rw[qD (by omega) b e];exact⟨rfl,m',v⟩
theorem aje:∀(ks st:List Int)(i m j:Nat),D tk n m st i j->j=i+ks.length->De st->(∀q k,ks[q]?=Ax k->(tk (i+q)).k=k/\1<=k/\k<=78)->∃s,JL st ks=Ax s
 |[],st,i,m,j,d,_,_,_=>⟨st,rfl⟩
 |k::ks,st,i,m,j,d,g,f,e=>by
  rw[cC]at g;obtain⟨b,o,p⟩:=e 0 k rfl;rw[gI]at b;obtain⟨c,r,a⟩:=afv st m i j d (by omega) f (by omega) (by omega);rw[b]at c a;rw[JL,ab c];exact aje ks _ (i+1) r j a (by omega) (qE f o p) fun q z h=>by
   have:=e (q+1) z h;rw[show i+1+q=i+(q+1) by omega];exact this
end
def Bt(s:Int):Bool:=s==129||s==130||s==123||s==126
def tmo:List Int->Bool
 |[]=>W
 |a::_=>decide (a<100/\a≠5)
def r5:List Int->Bool
 |[]=>W
 |s::r=>if s<100 then decide (s≠5) else if Bt s=M then tmo r else !(xE s 5).2
def Adj:List Int->Prop
 |[]=>True
 |t::r=>(t<100->Lj t=M->r5 r=M)/\(Bt t=M->tmo r=M)/\Adj r
theorem anG{s:Int}(h:Bt s=M):xE s 5=([],M)/\100<=s:=by
 unfold Bt at h;simp at h;rcases h with((rfl|rfl)|rfl)|rfl<;>decide
theorem anH:∀{r:List Int},tmo r=M->(dB r 5).2=W
 |[],h=>by cases h
 |a::r,h=>by
  have:=aH h;rw[oJ this.1];exact az this.2
theorem am2:∀{st:List Int},r5 st=M->(dB st 5).2=W
 |[],h=>by cases h
 |s::r,h=>by
  rw[r5]at h;by_cases a:s<100
  ·rw[ab a]at h;rw[oJ a];exact az (aH h)
  ·rw[aa a]at h;by_cases b:Bt s=M
   ·rw[ab b]at h;have:=anG b;rw[qC this.2 (by rw[this.1];exact⟨rfl,rfl⟩)];exact anH h
   ·rw[aa b]at h;have d:(xE s 5).2=W:=by simpa using h
    rw[dB,aa a,aa (fun c=>by rw[d]at c;cases c.2)];rw[jA,aa a,aa (by rw[d];simp)]
def chA(s:Int):List Int->Bool
 |[]=>M
 |a::L=>(!(decide (a<100)&&Lj a)||(match L with|[]=>W|b::d=>if b<100 then decide (b≠5) else if Bt b=M then(match d with|[]=>Bt s|c::_=>decide (c<100/\c≠5)) else !(xE b 5).2))&&(!(Bt a)||(match L with|[]=>Bt s|c::_=>decide (c<100/\c≠5)))&&chA s L
theorem aig:((List.range 34).all fun s=>(List.range 78).all fun t=>!(xE ((s:Int)+100) ((t:Int)+1)).2||chA ((s:Int)+100) (xE ((s:Int)+100) ((t:Int)+1)).1)=M:=by decide+kernel
theorem ale{s t:Int}(c:100<=s)(d:s<=133)(e:1<=t)(f:t<=78)(h:(xE s t).2=M):chA s (xE s t).1=M:=by
 have b:=List.all_eq_true.1 aig (s-100).toNat (by rw[yD];omega);have a:=List.all_eq_true.1 b (t-1).toNat (by rw[yD];omega);rw[show(((s-100).toNat:Nat):Int)+100=s by omega,show(((t-1).toNat:Nat):Int)+1=t by omega,h]at a;exact a
theorem aap{s:Int}{r:List Int}(k:Bt s=M->tmo r=M)(m:Adj r):∀(L:List Int),chA s L=M->Adj (L++r)
 |[],_=>m
 |a::L,h=>by
  unfold chA at h;rw[cL,cL]at h;obtain⟨⟨b,d⟩,t⟩:=h;refine⟨fun f o=>?_,fun f=>?_,aap k m L t⟩
  ·rw[bg f,o]at b;simp only[Bool.and_self,Bool.not_true,D8]at b;cases L with
   |nil=>cases b
   |cons c e=>
    simp only at b;show(if c<100 then decide (c≠5) else if Bt c=M then tmo (e++r) else !(xE c 5).2)=M;split
    ·rename_i g;rw[ab g]at b;exact b
    ·rename_i g;rw[aa g]at b;split
     ·rename_i j;rw[ab j]at b;cases e with
      |nil=>exact k b
      |cons p e=>exact b
     ·rename_i j;rw[aa j]at b;exact b
  ·rw[f]at d;simp only[Bool.not_true,D8]at d;cases L with
   |nil=>exact k d
   |cons p L=>exact d
theorem Ho{t:Int}(g:1<=t)(j:t<=78):∀(f:Nat)(st:List Int)(c:Nat)(a:List Int)(b:Nat)(r:List Int),jA f st t c=Ax (a,Ax M,b)->De st->Adj (st++r)->Adj (a++r)/\(Lj t=M->r5 (a++r)=M)
 |0,_,_,_,_,_,h,_,_=>by simp[jA]at h
 |f+1,[],_,_,_,_,h,_,_=>by simp[jA]at h
 |f+1,s::q,c,a,b,r,h,p,A=>by
  have B:De q:=fun x hx=>p x (dm _ hx);obtain⟨v,w,k⟩:=A;by_cases o:s<100
  ·obtain⟨rfl,d,_⟩:=sn h o;have d:s=t:=aH (by simpa using d.symm);exact⟨k,fun y=>v o (by rw[d];exact y)⟩
  ·rcases lq h (by omega) with⟨m,e⟩|⟨m,_,e,_⟩
   ·have u:=p s bz;have:=aap w k (xE s t).1 (ale (by omega) u g j m)
    change Adj ((xE s t).1++(q++r)) at this
    rw[<-dC]at this;refine Ho g j f _ _ a b r e (fun x hx=>?_) this;rcases List.mem_append.1 hx with hx|hx
    ·exact(K9 (by omega) u g j).1 x hx
    ·exact B x hx
   ·simp at e
theorem Bv{t:Int}(e:1<=t)(f:t<=78):∀(st:List Int),De st->(dB st t).2=M->Adj st->Adj (dB st t).1/\(Lj t=M->r5 (dB st t).1=M)
 |[],_,h,_=>by simp[dB]at h
 |s::r,j,h,b=>by
  have p:De r:=fun x d=>j x (dm _ d);by_cases g:s<100
  ·rw[oJ g]at h⊢;have a:s=t:=aH h;exact⟨b.2.2,fun o=>b.1 g (by rw[a];exact o)⟩
  ·have k:=j s bz;by_cases c:(xE s t).1=[]/\(xE s t).2=M
   ·rw[qC (by omega) c]at h⊢;exact Bv e f r p h b.2.2
   ·obtain⟨u,v,m,a,_⟩:=Aq (by omega) k e f c;rw[qD (by omega) c a]at h⊢;simp only at h;subst h;exact Ho e f 8 [s] 0 u m r a (fun x d=>by rw[List.mem_singleton.1 d];exact k) b
inductive Tks (T:ByteArray):List Wt->List Tk->Prop where
 |nil:Tks T [] []
 |tok {t:Wt}{l:List Wt}{X:Tk}{ts:List Tk}:t.k≠7->t.k≠5->Alo t.w t.k t.n t.x->X.k=t.k->X.n=t.n->X.x=t.x->T.extract X.f.toNat X.t.toNat=t.w->Tks T l ts->Tks T (t::l) (X::ts)
 |sep {t:Wt}{l:List Wt}{X:Tk}{ts:List Tk}:t.k=7->X.k=5->Tks T l ts->Tks T (t::l) (X::ts)
def Cv(t:Wt):Int:=if t.k=7 then 5 else t.k
theorem alf{T:ByteArray}{o:Bool}{a r:Nat}(h:Skp T o a r){st:List Int}(C:o=M->(dB st 5).2=W):∀(f:Nat)(b:Int)(c:List Tk),T.size<f+a->∃k p,T.size<k+r/\sE T f st (blk T (T.size+1) a) b c=sE T k st (blk T (T.size+1) r) p c:=by
 induction h with
 |nil=>intro f b c m;exact⟨f,b,m,rfl⟩
 |@bl d q e g j=>
  intro f b c m;have t:d<T.size:=bm rfl (by have:=aH e;omega);rw[Dj T d t e];exact j f b c (by omega)
 |@rem d q e g B j=>
  intro f b c m;rw[GH T d e g];exact j f b c (by have:=wg T d e;omega)
 |@nl d q e g B j=>
  intro f b c m;have t:d<T.size:=bm g (by omega);obtain⟨w,y,s,A⟩:=ai3 g (.inl rfl);rw[ab rfl]at s;obtain⟨f,rfl⟩:∃v,f=v+1:=⟨f-1,by omega⟩;have u:rA T d=7:=by unfold rA;rw[ab w,s]
  obtain⟨k,p,F,G⟩:=j f (b+1) c (by omega);refine⟨k,p,F,?_⟩;rw[A,sE,aa (by omega),ab u,aa (by rw[C e];simp),y];exact G
theorem wk{T:ByteArray}{p q:Nat}{l:List Wt}(h:Rz T p l q):q=T.size->∀(f:Nat)(st:List Int)(b:Int)(d:List Tk)(j:List Int),T.size<f+p->De st->Adj st->JL st (l.map Cv)=Ax j->
  ∃r C,sE T f st (blk T (T.size+1) p) b d=(d++r++[⟨6,(T.size:Nat),(T.size:Nat),C,0,⟨#[]⟩⟩],j, -1)/\Tks T l r:=by
 induction h with
 |@nil p=>
  intro o f st b d j L m u c;obtain rfl:=o;obtain⟨f,rfl⟩:∃e,f=e+1:=⟨f-1,by omega⟩;have af:st=j:=by simpa [JL] using c
  refine⟨[],b,?_,.nil⟩;rw[ahq T _ (ag _),sE,ab (ag _),fj,af]
 |@bl p q l g s B=>
  intro o f st b d j L m u c;have a0:p<T.size:=bm rfl (by have:=aH g;omega);rw[Dj T p a0 g];exact B o f st b d j (by omega) m u c
 |@rem p q l g s G B=>
  intro o f st b d j L m u c;rw[GH T p g s];exact B o f st b d j (by have:=wg T p g;omega) m u c
 |@tok p bj q t l g s G al a5 a6 bb B=>
  intro o f st b d j L m u c;obtain⟨y,K,A,ak,a3,a4⟩:=amy G al g s a5;have bd:=G.pos;have bf:=al.1;obtain⟨f,rfl⟩:∃e,f=e+1:=⟨f-1,by omega⟩;have ap:rA T p=t.k:=by unfold rA;rw[ab y,A]
  have H:=aak T p y;rw[A]at H;rw[dq,JL,show Cv t=t.k by unfold Cv;rw[aa g]]at c;have v:(dB st t.k).2=M:=by
   by_cases e:(dB st t.k).2=M
   ·exact e
   ·rw[aa e]at c;cases c
  rw[ab v]at c;obtain⟨am,a7⟩:=Bv H.1 H.2 st m v u;obtain⟨a2,I,a8,a9⟩:=alf a6 (st:=(dB st t.k).1) (fun e=>am2 (a7 e)) f b (d++[⟨t.k,(p:Nat),((p+t.w.size:Nat):Int),b,t.n,t.x⟩]) (by omega);obtain⟨r,C,an,ao⟩:=B o a2 _ I _ j a8 (qE m H.1 H.2) am c;refine⟨⟨t.k,(p:Nat),((p+t.w.size:Nat):Int),b,t.n,t.x⟩::r,C,?_,?_⟩
  ·rw[a4,sE,aa (by omega),aa (by rw[ap];exact g),ap,show Bp st t.k=dB st t.k by unfold Bp;rw[ab (by omega)],ab v,ab y,K,ak,a3,a9,an];simp
  ·refine .tok g s G rfl rfl rfl ?_ ao;simp only[fD];exact al.ext
 |@sep p q l ba g s G B=>
  intro o f st b d j L m u c;have a0:p<T.size:=bm g (by omega);obtain⟨y,K,A,ak⟩:=ai3 g s;obtain⟨f,rfl⟩:∃e,f=e+1:=⟨f-1,by omega⟩;rw[dq,JL,show Cv nlW=5 from rfl]at c;have v:(dB st 5).2=M:=by
   by_cases e:(dB st 5).2=M
   ·exact e
   ·rw[aa e]at c;cases c
  rw[ab v]at c;obtain⟨am,_⟩:=Bv (t:=5) (by decide) (by decide) st m v u;have av:∀(F:Tk)(I:Int),F.k=5->sE T (f+1) st p b d=sE T f (dB st 5).1 (blk T (T.size+1) (p+1)) I (d++[F])->∃r C,sE T (f+1) st (blk T (T.size+1) p) b d=(d++r++[⟨6,(T.size:Nat),(T.size:Nat),C,0,⟨#[]⟩⟩],j, -1)/\Tks T (nlW::l) r:=fun F I J af=>by
   obtain⟨r,C,an,ao⟩:=B o f _ I (d++[F]) j (by omega) (qE m (by decide) (by decide)) am c;refine⟨F::r,C,?_,.sep rfl J ao⟩;rw[ak,af,an];simp
  rcases s with rfl|rfl
  ·rw[ab rfl]at A;have a1:rA T p=7:=by unfold rA;rw[ab y,A]
   exact av ⟨5,(p:Nat),((eE T p).a:Nat),b,(eE T p).n,(eE T p).x⟩ (b+1) rfl (by rw[sE,aa (by omega),ab a1,ab v,K])
  ·rw[aa (by decide)]at A;have J:rA T p=5:=by unfold rA;rw[ab y,A]
   exact av ⟨5,(p:Nat),((eE T p).a:Nat),b,(eE T p).n,(eE T p).x⟩ b rfl (by rw[sE,aa (by omega),aa (by rw[J];decide),J,show Bp st 5=dB st 5 by unfold Bp;rw[ab (by decide)],ab v,ab y,K])
theorem aih{T:ByteArray}{l:List Wt}(h:Rz T 0 l T.size){d:List Int}(f:JL [100,6] (l.map Cv)=Ax d):∃b c,ou T=(b++[⟨6,(T.size:Nat),(T.size:Nat),c,0,⟨#[]⟩⟩],d, -1)/\Tks T l b:=by
 obtain⟨b,c,e,a⟩:=wk h rfl (T.size+1) [100,6] 1 [] d (by omega) (fun x g=>by simp at g;omega) ⟨fun a=>absurd a (by decide),by decide,fun _ a=>absurd a (by decide),by decide,trivial⟩ f;rw[fx]at e;exact⟨b,c,e,a⟩
def Fo.all(p:Nd->Prop):Fo->Prop
 | .nil=>True
 | .cons N k r=>p N/\k.all p/\r.all p
theorem gg(p:Nd->Prop):∀(a b:Fo),(a.app b).all p↔a.all p/\b.all p
 | .nil,b=>by simp[Fo.app,Fo.all]
 | .cons N k r,b=>by simp only[Fo.app,Fo.all,gg p r b,and_assoc]
theorem cj(p:Nd->Prop)(N:Nd)(k:Fo):(one N k).all p↔p N/\k.all p:=by simp[one,Fo.all]
def Gd(tk:Nat->Tk)(n:Nat)(N:Nd):Prop:=(N.x=z0\/∃q,N.x=(tk q).x)/\N.nm.length<=n/\∀x∈N.nm,∃q,x=(tk q).x
def am3(tk:Nat->Tk)(n:Nat):wF->Prop
 | .more _ _ x=>x.all (Gd tk n)
 | .post _ a=>a.all (Gd tk n)
 |_=>True
section
variable {tk : Nat → Tk} {n : Nat}
theorem gd0(k:Int)(s:Tk)(e op m:Int):Gd tk n (nd k s e op m z0 []):=⟨.inl rfl,aG _,fun x a=>by cases a⟩
theorem gdx(k:Int)(s:Tk)(e op m:Int)(q:Nat):Gd tk n (nd k s e op m (tk q).x []):=⟨.inr ⟨q,rfl⟩,aG _,fun x a=>by cases a⟩
theorem gd1(h:0<n)(k:Int)(s:Tk)(e op m:Int)(q:Nat):Gd tk n (nd k s e op m z0 [(tk q).x]):=⟨.inl rfl,h,fun x a=>⟨q,List.mem_singleton.1 a⟩⟩
theorem gdb(k:Int)(s:Tk)(e:Int):Gd tk n (qx k s e):=by unfold qx;split;exact gd0 ..;split;exact gd0 ..;exact gd0 ..
theorem gdh(N:Nd)(ks:Fo)(s:Tk)(e:Int)(h:Gd tk n N)(a:ks.all (Gd tk n)):(mo N ks s e).all (Gd tk n):=by
 unfold mo;split
 ·rw[cj,cj];exact⟨gd0 ..,h,a⟩
 ·rw[cj];exact⟨h,a⟩
theorem F8.gd{i j:Nat}{ns:List ByteArray}(h:F8 tk n i ns j):i+2*ns.length<=j/\j<n/\∀x∈ns,∃q,x=(tk q).x:=by
 induction h with
 |stop c a=>exact⟨by simp,a,fun x hx=>by cases hx⟩
 |go c a d _ b=>
  refine⟨by simp;omega,b.2.1,fun x hx=>?_⟩;rcases List.mem_cons.1 hx with rfl|hx
  ·exact⟨_,rfl⟩
  ·exact b.2.2 x hx
theorem KA.gd{i j:Nat}{ns:List ByteArray}{r:Bool}(h:KA tk n i ns r j):i+ns.length<=j/\j<=n/\∀x∈ns,∃q,x=(tk q).x:=by
 induction h with
 |close a b=>exact⟨by simp,by omega,fun x hx=>by cases hx⟩
 |rest a b c=>exact⟨by simp,by omega,fun x hx=>by cases hx⟩
 |last a b c=>exact⟨by simp,by omega,fun x hx=>⟨_,List.mem_singleton.1 hx⟩⟩
 |go a b c _ d=>
  refine⟨by simp;omega,d.2.1,fun x hx=>?_⟩;rcases List.mem_cons.1 hx with rfl|hx
  ·exact⟨_,rfl⟩
  ·exact d.2.2 x hx
theorem gdn{i j q:Nat}{ns:List ByteArray}(h:F8 tk n i ns j)(k:Int)(s:Tk)(e op m:Int):Gd tk n (nd k s e op m z0 ((tk q).x::ns)):=by
 obtain⟨b,c,a⟩:=h.gd;refine⟨.inl rfl,by show ns.length+1<=n;omega,fun x hx=>?_⟩;rcases List.mem_cons.1 hx with rfl|hx
 ·exact⟨_,rfl⟩
 ·exact a x hx
theorem P.gd{t:wF}{i j:Nat}{R:Fo}(h:P tk n t i R j):am3 tk n t->R.all (Gd tk n):=by
 induction h
 case tlet0 h1 h2 h3 h4 h5=>intro _;rw[cj];exact⟨gdn h4 ..,trivial⟩
 case tlet h1 h2 h3 h4 h5 h6 ih=>intro _;rw[cj];exact⟨gdn h4 ..,ih trivial⟩
 case tfor h1 h2 h3 h4 h5 h6 h7 i1 i2=>intro _;rw[cj,gg];exact⟨gdn h4 ..,i1 trivial,i2 trivial⟩
 case teach h1 h2 h3 h4 h5 h6 h7 h8 h9 i1 i2=>intro _;rw[cj,gg];exact⟨gdn h4 ..,i1 trivial,i2 trivial⟩
 case ttry h1 h2 h3 h4 h5 h6 h7 h8 i1 i2=>intro _;rw[cj,gg];exact⟨gdn h7 ..,i1 trivial,i2 trivial⟩
 case body nm r B h1 h2 h3 h4 ih=>intro _;rw[cj];exact⟨⟨.inl rfl,by have:=h3.gd;show nm.length<=n;omega,h3.gd.2.2⟩,ih trivial⟩
 case bopen h1 h2 h3 h4 h5 h6 i1 i2=>intro _;have:=i1 trivial;rw[cj]at this;exact i2 (gdh _ _ _ _ this.1 this.2)
 case tcon h1 h2 h3 h4 h5 ih=>intro _;rw[cj];exact⟨gd1 (by omega) ..,ih trivial⟩
 case tfn h1 h2 h3 h4 h5 ih=>intro _;rw[cj];exact⟨gd1 (by omega) ..,ih trivial⟩
 all_goals
  intro a
  simp_all only[cj,gg,am3,Fo.all,gdx,gd0,iB,gdb,and_self,true_implies,forall_const]
end
def Fo.nms:Fo->Nat
 | .nil=>0
 | .cons N k r=>N.nm.length+k.nms+r.nms
theorem qe:∀(a b:Fo),(a.app b).nms=a.nms+b.nms
 | .nil,b=>by simp[Fo.app,Fo.nms]
 | .cons N k r,b=>by simp only[Fo.app,Fo.nms,qe r b];omega
theorem oI(N:Nd)(k:Fo):(one N k).nms=N.nm.length+k.nms:=by simp[one,Fo.nms]
theorem afw(N:Nd)(ks:Fo)(s:Tk)(e:Int):(mo N ks s e).nms=(one N ks).nms:=by
 unfold mo;split
 ·rw[oI];simp[iB,nd]
 ·rfl
theorem Bw(k:Int)(s:Tk)(e op m:Int)(x:ByteArray)(nm:List ByteArray):(nd k s e op m x nm).nm=nm:=rfl
theorem alg(k:Int)(s:Tk)(e:Int):(qx k s e).nm=[]:=by unfold qx;split;rfl;split<;>rfl
def Ff:wF->Nat
 | .more _ _ x=>x.nms
 | .post _ a=>a.nms
 |_=>0
theorem P.nms{tk:Nat->Tk}{n:Nat}{t:wF}{i j:Nat}{R:Fo}(h:P tk n t i R j):R.nms+i<=Ff t+j:=by
 induction h
 case tlet0 h1 h2 h3 h4 h5=>have:=h4.gd;simp only[oI,qe,Ff,Bw,Fo.nms,cC]at *;omega
 case tlet h1 h2 h3 h4 h5 h6 ih=>have:=h4.gd;simp only[oI,qe,Ff,Bw,Fo.nms,cC]at *;omega
 case tfor h1 h2 h3 h4 h5 h6 h7 i1 i2=>have:=h4.gd;simp only[oI,qe,Ff,Bw,Fo.nms,cC]at *;omega
 case teach h1 h2 h3 h4 h5 h6 h7 h8 h9 i1 i2=>have:=h4.gd;simp only[oI,qe,Ff,Bw,Fo.nms,cC]at *;omega
 case ttry h1 h2 h3 h4 h5 h6 h7 h8 i1 i2=>have:=h7.gd;simp only[oI,qe,Ff,Bw,Fo.nms,cC]at *;omega
 case body h1 h2 h3 h4 ih=>have:=h3.gd;simp only[oI,qe,Ff,Bw,Fo.nms,cC]at *;omega
 all_goals
  simp only[oI,qe,afw,Ff,iB,Bw,alg,Fo.nms,cC,gq]at *;omega
theorem By:∀(R:Fo)(a b:Nat),cnt a (R.flat b)+R.len=a+8*R.sz+R.nms
 | .nil,a,b=>by simp[Fo.flat,cnt,Fo.len,Fo.sz,Fo.nms]
 | .cons N k r,a,b=>by
  have d:=By k a b;have e:=By r (nxt (cnt a (k.flat b)) {N with ks:=k.tops b}) (b+k.sz+1);have f:=k.tops_len b;rw[Fo.flat,acE,cnt];have c:nxt (cnt a (k.flat b)) {N with ks:=k.tops b}=cnt a (k.flat b)+7+N.nm.length+(k.tops b).length:=rfl;simp only[Fo.len,Fo.sz,Fo.nms];omega
theorem am4(s:ByteArray)(p:Nat)(e:p<s.size):(eE s p).x.size<=s.size:=by
 have c:∀a b,(s.extract a b).size<=s.size:=fun a b=>by rw[oy];omega
 unfold eE;split
 ·show(Di s p).2.size<=_;unfold Di;split
  ·exact aG _
  ·exact c _ _
 split
 ·split
  ·show(AC s p).2.2.size<=_;unfold AC;split
   ·exact aG _
   split
   ·exact aG _
   ·exact c _ _
  ·exact aG _
 split
 ·split
  ·show(fa _).size<=_;have d:=(vv s (s.size+1) (p+1) [] e).2.2;rw[qu];simp at d;omega
  ·exact aG _
 split
 ·exact aG _
 ·exact aG _
theorem aaq(s:ByteArray):∀(f:Nat)(st:List Int)(p:Nat)(l:Int)(a:List Tk),(∀T∈a,T.x.size<=s.size)->∀T∈(sE s f st p l a).1,T.x.size<=s.size
 |0,st,p,l,a,h=>fun T hT=>by cases hT
 |f+1,st,p,l,a,h=>by
  have c:∀(b:Tk),b.x.size<=s.size->∀T∈a++[b],T.x.size<=s.size:=fun b e T hT=>by
   rcases List.mem_append.1 hT with hT|hT
   ·exact h T hT
   ·rw[List.mem_singleton.1 hT];exact e
  rw[sE];split
  ·exact c _ (aG _)
  ·rename_i g;have d:=am4 s p (by omega);split
   ·split
    ·exact aaq s f _ _ _ _ (c _ d)
    ·exact aaq s f _ _ _ _ h
   ·split
    ·split
     ·exact aaq s f _ _ _ _ (c _ d)
     ·exact fun T hT=>by cases hT
    ·exact fun T hT=>by cases hT
theorem aar(s:ByteArray):∀(f:Nat)(st:List Int)(p:Nat)(l:Int)(b:List Tk),p<=s.size->(sE s f st p l b).1.length<=b.length+(s.size-p)+1
 |0,st,p,l,b,h=>aG _
 |f+1,st,p,l,b,h=>by
  rw[sE];split
  ·simp
  ·rename_i k;have d:∀q,q<=s.size->q<=blk s (s.size+1) q/\blk s (s.size+1) q<=s.size:=fun q j=>pq s (s.size+1) q j;split
   ·rename_i e;have c:=qa s p (by omega) (aif s p e).1;have:=d _ c.2.1;split
    ·have:=aar s f (dB st 5).1 (blk s (s.size+1) (eE s p).a) (l+1) (b++[⟨5,(p:Nat),((eE s p).a:Nat),l,(eE s p).n,(eE s p).x⟩]) (by omega);simp only[aF,uG]at this;omega
    ·have:=aar s f st (blk s (s.size+1) (eE s p).a) (l+1) b (by omega);omega
   ·split
    ·split
     ·rename_i g;have c:=qa s p (by omega) g;have:=d _ c.2.1;have:=aar s f (dB st (rA s p)).1 (blk s (s.size+1) (eE s p).a) l (b++[⟨rA s p,(p:Nat),((eE s p).a:Nat),l,(eE s p).n,(eE s p).x⟩]) (by omega);simp only[aF,uG]at this;omega
     ·exact aG _
    ·exact aG _
theorem zA(p:Nd->Prop)(c:∀(N:Nd) (ks:List Int),p N->p {N with ks:=ks}):∀(R:Fo)(b:Nat),R.all p->∀N∈R.flat b,p N/\N.ks.length<=R.sz
 | .nil,b,h=>fun N hN=>by cases hN
 | .cons e k r,b,h=>fun N hN=>by
  have f:=k.len_le;have g:=k.tops_len b;rw[Fo.flat,zd,jI]at hN;rcases hN with hN|rfl|hN
  ·obtain⟨a,d⟩:=zA p c k b h.2.1 N hN;exact⟨a,by rw[Fo.sz];omega⟩
  ·exact⟨c _ _ h.1,by rw[Fo.sz];show(k.tops b).length<=_;omega⟩
  ·obtain⟨a,d⟩:=zA p c r _ h.2.2 N hN;exact⟨a,by rw[Fo.sz];omega⟩
def uE(s:ByteArray)(R:Fo):List Nd:=(one ⟨1,0,(s.size:Nat),1,0,0,⟨#[]⟩,[],[]⟩ R).flat 0
structure PF (s:ByteArray) (toks:List Tk) (m:Nat) (R:Fo) (lz:Int):Prop where
 len:toks.length=m+1
 le:m<=s.size
 p:P (uD toks) (m+1) .stats 0 R m
 k78:∀q,(uD toks q).k<=78
 k6:∀q,q<m->(uD toks q).k≠6
 end_:uD toks m=⟨6,(s.size:Nat),(s.size:Nat),lz,0,⟨#[]⟩⟩
 sz:R.sz<=200000
 sm:∀N∈uE s R,iy N
 ct:cnt 1 (uE s R)<=2000000
theorem am5{s:ByteArray}(G:s.size<=65536){a:List Tk}{st:List Int}(h:ou s=(a,st, -1)){m:Nat}{R:Fo}{o:Int}(r:a.length=m+1)(t:uD a m=⟨6,(s.size:Nat),(s.size:Nat),o,0,⟨#[]⟩⟩)(e:P (uD a) (m+1) .stats 0 R m)(u:∀q,q<m->(uD a q).k≠6):PF s a m R o:=by
 obtain⟨ak,af,b,A⟩:=Fe s _ _ _ _ _ a st h;rw[fx]at b;have K:=pq s (s.size+1) 0 (aG _);have j:=aar s (s.size+1) [100,6] (blk s (s.size+1) 0) 1 [] (by omega);have c:=aaq s (s.size+1) [100,6] (blk s (s.size+1) 0) 1 [] (fun d y=>by cases y);have H:sE s (s.size+1) [100,6] (blk s (s.size+1) 0) 1 []=(a,st, -1):=h;rw[H]at j c;simp only[gq]at j;have F:=e.pos;simp only[fh,slk,bas]at F;have C:=e.nms;have v:=e.gd trivial;have f:(one ⟨1,0,(s.size:Nat),1,0,0,⟨#[]⟩,[],[]⟩ R:Fo).sz=R.sz+1:=aJ _ _;have p:∀q,(uD a q).x.size<=65536:=fun q=>by
  unfold uD;rw[bc];cases hq:a[q]? with
  |none=>exact aG _
  |some d=>exact dh (c d (dl hq)) G
 have I:∀q,(uD a q).k<=78:=fun q=>by
  unfold uD;rw[bc];cases hq:a[q]? with
  |none=>show(0:Int)<=78;decide
  |some d=>
   have:=dl hq;rw[b,zd,List.mem_singleton]at this;rcases this with g|g
   ·have:=am1 A g;show d.k<=78;omega
   ·rw[g];show(6:Int)<=78;decide
 refine⟨r,by omega,e,I,u,t,by omega,fun N w=>?_,?_⟩
 ·obtain⟨g,B⟩:=zA (Gd (uD a) (m+1)) (fun N L h=>h) _ 0 ((cj _ _ R).2 ⟨⟨.inl rfl,aG _,fun x c=>by cases c⟩,v⟩) N w;rw[f]at B;refine⟨by have:=g.2.1;omega,by omega,?_,fun x c=>?_⟩
  ·rcases g.1 with b|⟨q,b⟩
   ·rw[b];exact aG _
   ·rw[b];have:=p q;omega
  ·obtain⟨q,b⟩:=g.2.2 x c;rw[b];have:=p q;omega
 ·have:=By (one ⟨1,0,(s.size:Nat),1,0,0,⟨#[]⟩,[],[]⟩ R) 1 0;rw[f,oI]at this;simp only[Ff]at C;have J:([]:List ByteArray).length=0:=rfl;unfold uE;show cnt 1 (Fo.flat (one ⟨1,0,(s.size:Nat),1,0,0,⟨#[]⟩,[],[]⟩ R) 0)<=_;simp only[gq]at this;omega
theorem afx{S:List Int}{n:Nat}(hS:yu S)(b:S.length=n)(d:1<=n):S.getD (n-1) 0≠(n:Int)↔S.getD (n-1) 0<(n:Int):=by
 obtain⟨z,a⟩:=bH b (show n-1<n by omega);have c:=hS _ z a;rw[bc,a,ii];omega
