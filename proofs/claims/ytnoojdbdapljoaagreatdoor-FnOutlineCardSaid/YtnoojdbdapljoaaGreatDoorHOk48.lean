import Derived.Test.YtnoojdbdapljoaaGreatDoorHOk42
import Derived.Test.YtnoojdbdapljoaaGreatDoorHOk47
set_option linter.all false
set_option maxRecDepth 100000
set_option maxHeartbeats 12800000
open Go.Value renaming slice->M,int->O,string->V,slice->Y,ownBlock->Ax
open Go.IntKind renaming i64->Q
open Bool renaming true->R,false->X
open Option renaming some->T,none->A0
open Go.Obj renaming cells->U
open ByteArray renaming empty->Z
namespace Go.Proofs.YtnoojdbdapljoaaGreatDoor
open Go.RowKit Go.Maps Go.WideMaps
def jb(N:Nd):ByteArray:=if N.k=4 then N.nm.getD 0 pL else pL
def nD(N:Nd)(i:Nat)(b:ByteArray)(a:Int):List En:=if N.k=36 then [⟨b,N.l,a,(i:Int)⟩] else []
def xB(N:Nd)(a:Int):Int:=if N.k=36 then a+1 else a
def cG(a:List Nd):Nat->Nat->ByteArray->Int->List En
 |0,_,_,_=>[]
 |f+1,i,c,b=>nD (a.getD i AB) i c b++(a.getD i AB).ks.flatMap fun k=>cG a f k.toNat (jb (a.getD i AB)) (xB (a.getD i AB) b)
def sn(a:List Nd):List En:=if(cF a).1=0 then cG a a.length (a.length-1) pL 0 else []
theorem JK(a:List Nd):∀i,gC (a.take i)=(gC a).take i:=by
 refine yF (p:=fun a=>∀i,gC (a.take i)=(gC a).take i) ?_ ?_ a
 ·intro i;simp[gC]
 ·intro b e d i;rcases cA i (b++[e]).length with h|h
  ·have c:i<=b.length:=by rw[aC]at h;simp at h;omega
   rw[List.take_append_of_le_length c,d,pK,List.take_append_of_le_length (by rw[ii];exact c)]
  ·rw[cw h,cw (by rw[ii];exact h)]
theorem aiK{a:List Nd}{i:Nat}{N:Nd}(h:a[i]?=T N):(gC a).getD i 0=pJ ((gC a).take i) i N.ks:=by
 have f:i<a.length:=(List.getElem?_eq_some_iff.1 h).1;have c:a.take (i+1)=a.take i++[N]:=by rw[dG,h];rfl
 have b:=JK a (i+1);rw[c,pK,JK,eJ,ii,tH (by omega),dG]at b;have d:(gC a)[i]?=T ((gC a).getD i 0):=by
  rw[bm,aI (by rw[ii];exact f)];rfl
 rw[d]at b;have e:=List.append_cancel_left b;simpa using e.symm
def mB(S:List Int):List Int->Int
 |[]=>0
 |k::a=>S.getD k.toNat 0+mB S a
theorem ad0(S:List Int)(a b:List Int):mB S (a++b)=mB S a+mB S b:=by
 induction a with
 |nil=>simp[mB]
 |cons d e c=>simp only[fF,mB,c];omega
theorem ad1(S:List Int)(a:List Int):mB S a.reverse=mB S a:=by
 induction a with
 |nil=>rfl
 |cons c a b=>rw[List.reverse_cons,ad0,b];simp only[mB];omega
theorem JL{S:List Int}:∀(c:List Int)(a b:Int),zw S c a=T b->b=a-mB S c
 |[],a,b,h=>by simp[zw]at h;simp[mB];omega
 |k::r,a,b,h=>by
  rw[zw]at h;split at h
  ·have:=JL r _ _ h;simp only[mB];omega
  ·cases h
theorem ad2(S:List Int)(i:Nat)(a:List Int)(h:∀k∈a,0<=k/\k<(i:Int)):mB (S.take i) a=mB S a:=by
 induction a with
 |nil=>rfl
 |cons k a d=>
  have b:=h k cH;have c:(S.take i).getD k.toNat 0=S.getD k.toNat 0:=by
   rw[bm,bm,List.getElem?_take_of_lt (by omega)]
  simp only[mB,c,d fun k b=>h k (dJ _ b)]
structure aka (ns:List Nd):Prop where
 at_:∀(i:Nat) N,ns[i]?=T N->(gC ns).getD i 0=1+mB (gC ns) N.ks
 le:∀i,(gC ns).getD i 0<=3000
theorem yI{b:List Nd}(h:(cF b).1=0):aka b:=by
 have j:=lC h;unfold cF at h;by_cases l:gB b=R
 ·rw[ab l]at h;exact absurd h (by decide)
 rw[aa l]at h;obtain⟨m,q⟩:=aA (gA (eu b) b.length 0);rw[q]at h;cases m with
 |some a=>rw[tf2]at h;exact absurd h (by simp)
 |none=>
  rw[tf2]at h;obtain⟨n,k⟩:=aA (gA (fI (gC b)) b.length 0);rw[k]at h;cases n with
  |some a=>rw[tf3]at h;exact absurd h (by simp)
  |none=>
   have r:=ng k;have s:xo (gC b):=sL b (fun e d i g=>by
    obtain⟨a,hi,f⟩:=fH d;exact(j.kid a e (by rw[aI hi,f]) i g).1)
   refine⟨fun a e d=>?_,fun a=>?_⟩
   ·have hi:a<b.length:=(List.getElem?_eq_some_iff.1 d).1;have c:=r a (be _) (by omega);unfold fI at c;rw[aiK d]at c⊢;unfold pJ at c⊢;cases hw:zw ((gC b).take a) e.ks.reverse a with
    |none=>rw[hw]at c;simp at c
    |some o=>
     have f:=JL _ _ _ hw;rw[ad1,ad2 _ _ _ (fun i g=>j.kid a e d i g)]at f;show(a:Int)-o+1=_;omega
   ·rcases cA a b.length with hi|hi
    ·have p:(gC b)[a]?=T ((gC b).getD a 0):=by
      rw[bm,aI (by rw[ii];exact hi)];rfl
     have:=s a _ p;have:=j.len;omega
    ·rw[bm,fG (by rw[ii];exact hi)];decide
theorem uI{a:List Nd}{i:Nat}{N:Nd}(h:a[i]?=T N):a.getD i AB=N:=by rw[bm,h];rfl
theorem J0(N:Nd)(i:Nat)(b:ByteArray)(a:Int):(nD N i b a).length<=1:=by
 unfold nD;split<;>simp
theorem J1{c:List Nd}(h:(cF c).1=0):∀(j i:Nat)(m:ByteArray)(g:Int),i<c.length->((cG c j i m g).length:Int)<=(gC c).getD i 0:=by
 have r:=yI h;have p:=lC h;intro j
 induction j with
 |zero=>
  intro i m g k;obtain⟨b,f⟩:∃b,c[i]?=T b:=⟨_,aI k⟩;have q:=r.at_ i b f;have o:∀d:List Int,(∀a∈d,0<=a/\a<(i:Int))->0<=mB (gC c) d:=by
   have u:xo (gC c):=sL c (fun b f a e=>by
    obtain⟨i,k,q⟩:=fH f;exact(p.kid i b (by rw[aI k,q]) a e).1)
   intro d
   induction d with
   |nil=>intro _;simp[mB]
   |cons a d n=>
    intro l;have t:=n fun a e=>l a (dJ _ e);have e:=l a cH;have s:(gC c)[a.toNat]?=T ((gC c).getD a.toNat 0):=by
     rw[bm,aI (by rw[ii];omega)];rfl
    have:=u a.toNat _ s;simp only[mB];omega
  have:=o b.ks (fun a e=>p.kid i b f a e);show(0:Int)<=_;omega
 |succ j n=>
  intro i m g k;obtain⟨b,f⟩:∃b,c[i]?=T b:=⟨_,aI k⟩;rw[cG,uI f,r.at_ i b f,aC];have t:=J0 b i m g;have o:∀d:List Int,(∀a∈d,0<=a/\a<(i:Int))->((d.flatMap fun a=>cG c j a.toNat (jb b) (xB b g)).length:Int)<=mB (gC c) d:=by
   intro d
   induction d with
   |nil=>intro _;simp[mB]
   |cons a d v=>
    intro l;have w:=v fun a e=>l a (dJ _ e);have e:=l a cH;have x:=n a.toNat (jb b) (xB b g) (by omega);rw[rt,aC];simp only[mB];omega
  have:=o b.ks (fun a e=>p.kid i b f a e);omega
theorem Am{a:List Nd}(h:(cF a).1=0):∀(i:Nat) N,a[i]?=T N->gG a i N=R:=by
 unfold cF at h;by_cases e:gB a=R
 ·rw[ab e]at h;exact absurd h (by decide)
 rw[aa e]at h;obtain⟨f,d⟩:=aA (gA (eu a) a.length 0);rw[d]at h;cases f with
 |some i=>rw[tf2]at h;exact absurd h (by simp)
 |none=>
  have g:=ng d;intro i N c;have j:i<a.length:=(List.getElem?_eq_some_iff.1 c).1;have b:=g i (be _) (by omega);unfold eu at b;rw[bm,c,gl]at b;simpa using b
theorem ay{N:Nd}{a b d:Bool}(h:aH N a b X d=R):N.x.size<=4000:=by
 unfold aH at h;simp only[aB,Bool.false_or]at h;have:=bc h.1.2;have c:N.x.toList.length=0:=by rw[this];rfl
 rw[gH]at c;have:N.x.size=0:=by simpa using c
 omega
theorem gw{s:ByteArray}(h:mH s=R):s.size<=4000:=by
 have:=(bc h).1;omega
theorem jg{s:ByteArray}(h:fok s=R):s.size<=4000:=by
 unfold fok at h;rw[aB]at h;have:=bc h.1;omega
theorem bv{c:Prop}[Decidable c] {a b:Bool}(h:(if c then a else b)=R):a=R\/b=R:=by
 by_cases d:c
 ·rw[ab d]at h;exact .inl h
 ·rw[aa d]at h;exact .inr h
theorem An{a:List Nd}{i:Nat}{N:Nd}(h:gG a i N=R):N.x.size<=4000:=by
 unfold gG at h;rw[aB,aB]at h;have h2:=h.2.2;unfold nc at h2;rcases bv h2 with h2|h2
 ·unfold stB at h2;rcases bv h2 with h2|h2
  ·(simp only[aB]at h2;first|exact ay h2.1|exact ay h2.2|exact ay h2.1.1|exact ay h2.1.1.1|exact ay h2.1.1.1.1|exact ay h2.1.1.1.1.1)
  rcases bv h2 with h2|h2
  ·(simp only[aB]at h2;first|exact ay h2.1|exact ay h2.2|exact ay h2.1.1|exact ay h2.1.1.1|exact ay h2.1.1.1.1|exact ay h2.1.1.1.1.1)
  rcases bv h2 with h2|h2
  ·(simp only[aB]at h2;first|exact ay h2.1|exact ay h2.2|exact ay h2.1.1|exact ay h2.1.1.1|exact ay h2.1.1.1.1|exact ay h2.1.1.1.1.1)
  rcases bv h2 with h2|h2
  ·(simp only[aB]at h2;first|exact ay h2.1|exact ay h2.2|exact ay h2.1.1|exact ay h2.1.1.1|exact ay h2.1.1.1.1|exact ay h2.1.1.1.1.1)
  rcases bv h2 with h2|h2
  ·(simp only[aB]at h2;first|exact ay h2.1|exact ay h2.2|exact ay h2.1.1|exact ay h2.1.1.1|exact ay h2.1.1.1.1|exact ay h2.1.1.1.1.1)
  rcases bv h2 with h2|h2
  ·(simp only[aB]at h2;first|exact ay h2.1|exact ay h2.2|exact ay h2.1.1|exact ay h2.1.1.1|exact ay h2.1.1.1.1|exact ay h2.1.1.1.1.1)
  rcases bv h2 with h2|h2
  ·(simp only[aB]at h2;first|exact ay h2.1|exact ay h2.2|exact ay h2.1.1|exact ay h2.1.1.1|exact ay h2.1.1.1.1|exact ay h2.1.1.1.1.1)
  rcases bv h2 with h2|h2
  ·(simp only[aB]at h2;first|exact ay h2.1|exact ay h2.2|exact ay h2.1.1|exact ay h2.1.1.1|exact ay h2.1.1.1.1|exact ay h2.1.1.1.1.1)
  rcases bv h2 with h2|h2
  ·(simp only[aB]at h2;first|exact ay h2.1|exact ay h2.2|exact ay h2.1.1|exact ay h2.1.1.1|exact ay h2.1.1.1.1|exact ay h2.1.1.1.1.1)
  rcases bv h2 with h2|h2
  ·(simp only[aB]at h2;first|exact ay h2.1|exact ay h2.2|exact ay h2.1.1|exact ay h2.1.1.1|exact ay h2.1.1.1.1|exact ay h2.1.1.1.1.1)
  rcases bv h2 with h2|h2
  ·(simp only[aB]at h2;first|exact ay h2.1|exact ay h2.2|exact ay h2.1.1|exact ay h2.1.1.1|exact ay h2.1.1.1.1|exact ay h2.1.1.1.1.1)
  rcases bv h2 with h2|h2
  ·(simp only[aB]at h2;first|exact ay h2.1|exact ay h2.2|exact ay h2.1.1|exact ay h2.1.1.1|exact ay h2.1.1.1.1|exact ay h2.1.1.1.1.1)
  rcases bv h2 with h2|h2
  ·(simp only[aB]at h2;first|exact ay h2.1|exact ay h2.2|exact ay h2.1.1|exact ay h2.1.1.1|exact ay h2.1.1.1.1|exact ay h2.1.1.1.1.1)
  rcases bv h2 with h2|h2
  ·(simp only[aB]at h2;first|exact ay h2.1|exact ay h2.2|exact ay h2.1.1|exact ay h2.1.1.1|exact ay h2.1.1.1.1|exact ay h2.1.1.1.1.1)
  rcases bv h2 with h2|h2
  ·(simp only[aB]at h2;first|exact ay h2.1|exact ay h2.2|exact ay h2.1.1|exact ay h2.1.1.1|exact ay h2.1.1.1.1|exact ay h2.1.1.1.1.1)
  rcases bv h2 with h2|h2
  ·(simp only[aB]at h2;first|exact ay h2.1|exact ay h2.2|exact ay h2.1.1|exact ay h2.1.1.1|exact ay h2.1.1.1.1|exact ay h2.1.1.1.1.1)
  exact absurd h2 (by decide)
 ·unfold lB at h2;rcases bv h2 with h2|h2
  ·(simp only[aB]at h2;first|exact ay h2.2|exact jg h2.2|exact gw h2.2|exact(by have:=bc h2.2;omega)|exact ay h2.1.2|exact ay h2.1.1.2|exact ay h2.1.1.1.2)
  rcases bv h2 with h2|h2
  ·(simp only[aB]at h2;first|exact ay h2.2|exact jg h2.2|exact gw h2.2|exact(by have:=bc h2.2;omega)|exact ay h2.1.2|exact ay h2.1.1.2|exact ay h2.1.1.1.2)
  rcases bv h2 with h2|h2
  ·(simp only[aB]at h2;first|exact ay h2.2|exact jg h2.2|exact gw h2.2|exact(by have:=bc h2.2;omega)|exact ay h2.1.2|exact ay h2.1.1.2|exact ay h2.1.1.1.2)
  rcases bv h2 with h2|h2
  ·(simp only[aB]at h2;first|exact ay h2.2|exact jg h2.2|exact gw h2.2|exact(by have:=bc h2.2;omega)|exact ay h2.1.2|exact ay h2.1.1.2|exact ay h2.1.1.1.2)
  rcases bv h2 with h2|h2
  ·(simp only[aB]at h2;first|exact ay h2.2|exact jg h2.2|exact gw h2.2|exact(by have:=bc h2.2;omega)|exact ay h2.1.2|exact ay h2.1.1.2|exact ay h2.1.1.1.2)
  rcases bv h2 with h2|h2
  ·(simp only[aB]at h2;first|exact ay h2.2|exact jg h2.2|exact gw h2.2|exact(by have:=bc h2.2;omega)|exact ay h2.1.2|exact ay h2.1.1.2|exact ay h2.1.1.1.2)
  rcases bv h2 with h2|h2
  ·(simp only[aB]at h2;first|exact ay h2.2|exact jg h2.2|exact gw h2.2|exact(by have:=bc h2.2;omega)|exact ay h2.1.2|exact ay h2.1.1.2|exact ay h2.1.1.1.2)
  rcases bv h2 with h2|h2
  ·(simp only[aB]at h2;first|exact ay h2.2|exact jg h2.2|exact gw h2.2|exact(by have:=bc h2.2;omega)|exact ay h2.1.2|exact ay h2.1.1.2|exact ay h2.1.1.1.2)
  rcases bv h2 with h2|h2
  ·(simp only[aB]at h2;first|exact ay h2.2|exact jg h2.2|exact gw h2.2|exact(by have:=bc h2.2;omega)|exact ay h2.1.2|exact ay h2.1.1.2|exact ay h2.1.1.1.2)
  rcases bv h2 with h2|h2
  ·(simp only[aB]at h2;first|exact ay h2.2|exact jg h2.2|exact gw h2.2|exact(by have:=bc h2.2;omega)|exact ay h2.1.2|exact ay h2.1.1.2|exact ay h2.1.1.1.2)
  rcases bv h2 with h2|h2
  ·(simp only[aB]at h2;first|exact ay h2.2|exact jg h2.2|exact gw h2.2|exact(by have:=bc h2.2;omega)|exact ay h2.1.2|exact ay h2.1.1.2|exact ay h2.1.1.1.2)
  rcases bv h2 with h2|h2
  ·(simp only[aB]at h2;first|exact ay h2.2|exact jg h2.2|exact gw h2.2|exact(by have:=bc h2.2;omega)|exact ay h2.1.2|exact ay h2.1.1.2|exact ay h2.1.1.1.2)
  rcases bv h2 with h2|h2
  ·(simp only[aB]at h2;first|exact ay h2.2|exact jg h2.2|exact gw h2.2|exact(by have:=bc h2.2;omega)|exact ay h2.1.2|exact ay h2.1.1.2|exact ay h2.1.1.1.2)
  rcases bv h2 with h2|h2
  ·(simp only[aB]at h2;first|exact ay h2.2|exact jg h2.2|exact gw h2.2|exact(by have:=bc h2.2;omega)|exact ay h2.1.2|exact ay h2.1.1.2|exact ay h2.1.1.1.2)
  rcases bv h2 with h2|h2
  ·(simp only[aB]at h2;first|exact ay h2.2|exact jg h2.2|exact gw h2.2|exact(by have:=bc h2.2;omega)|exact ay h2.1.2|exact ay h2.1.1.2|exact ay h2.1.1.1.2)
  rcases bv h2 with h2|h2
  ·(simp only[aB]at h2;first|exact ay h2.2|exact jg h2.2|exact gw h2.2|exact(by have:=bc h2.2;omega)|exact ay h2.1.2|exact ay h2.1.1.2|exact ay h2.1.1.1.2)
  rcases bv h2 with h2|h2
  ·(simp only[aB]at h2;first|exact ay h2.2|exact jg h2.2|exact gw h2.2|exact(by have:=bc h2.2;omega)|exact ay h2.1.2|exact ay h2.1.1.2|exact ay h2.1.1.1.2)
  rcases bv h2 with h2|h2
  ·(simp only[aB]at h2;first|exact ay h2.2|exact jg h2.2|exact gw h2.2|exact(by have:=bc h2.2;omega)|exact ay h2.1.2|exact ay h2.1.1.2|exact ay h2.1.1.1.2)
  rcases bv h2 with h2|h2
  ·(simp only[aB]at h2;first|exact ay h2.2|exact jg h2.2|exact gw h2.2|exact(by have:=bc h2.2;omega)|exact ay h2.1.2|exact ay h2.1.1.2|exact ay h2.1.1.1.2)
  rcases bv h2 with h2|h2
  ·(simp only[aB]at h2;first|exact ay h2.2|exact jg h2.2|exact gw h2.2|exact(by have:=bc h2.2;omega)|exact ay h2.1.2|exact ay h2.1.1.2|exact ay h2.1.1.1.2)
  rcases bv h2 with h2|h2
  ·(simp only[aB]at h2;first|exact ay h2.2|exact jg h2.2|exact gw h2.2|exact(by have:=bc h2.2;omega)|exact ay h2.1.2|exact ay h2.1.1.2|exact ay h2.1.1.1.2)
  exact absurd h2 (by decide)
theorem lp(a:List Nd)(N:Nd)(j:Nat):dF a N j=(al a (cL N j)).k:=rfl
theorem jE{b:List Nd}{N:Nd}:∀(f j:Nat),ik b N f j=R->∀q,j<=q->q<j+f->eB (al b (cL N q)).k=R
 |0,j,_,q,a,c=>by omega
 |f+1,j,h,q,a,c=>by
  rw[ik,aB]at h;rcases jk a with rfl|h3
  ·exact h.1
  ·exact jE f (j+1) h.2 q h3 (by omega)
theorem J2{b:List Nd}{N:Nd}:∀(f j:Nat),Le b N f j=R->∀q,j<=q->q<j+f->iw (al b (cL N q)).k=R
 |0,j,_,q,a,c=>by omega
 |f+1,j,h,q,a,c=>by
  rw[Le,aB]at h;rcases jk a with rfl|h3
  ·exact h.1
  ·exact J2 f (j+1) h.2 q h3 (by omega)
theorem aas{k:Int}(h:wA k=R):eB k=R:=by
 have:=bc h;exact bG (by omega)
theorem ahj{b:List Nd}{N:Nd}:∀(f j:Nat),JC b N f j=R->∀q,j<=q->q<j+f->eB (al b (cL N q)).k=R
 |0,j,_,q,a,c=>by omega
 |f+1,j,h,q,a,c=>by
  rw[JC,aB]at h;rcases jk a with rfl|h3
  ·exact aas h.1
  ·exact ahj f (j+1) h.2 q h3 (by omega)
theorem ad3{a:List Nd}{N:Nd}:∀(f j:Nat),Lg a N f j=R->∀q,j<=q->q<j+f->40<=(al a (cL N q)).k/\(al a (cL N q)).k<=42
 |0,j,_,q,b,c=>by omega
 |f+1,j,h,q,b,c=>by
  rw[Lg,aB]at h;rcases jk b with rfl|h3
  ·exact bc h.1
  ·exact ad3 f (j+1) h.2 q h3 (by omega)
structure Kid (ns:List Nd) (i:Nat) (N:Nd) (j q:Nat):Prop where
 at_:N.ks[j]?=T (q:Int)
 lt:q<i
 len:q<ns.length
 id:cL N j=(q:Int)
theorem jc{a:List Nd}{i:Nat}{N:Nd}(h:gG a i N=R)(e:i<a.length)(j:Nat)(c:j<N.ks.length):∃q,Kid a i N j q:=by
 unfold gG at h;rw[aB,aB]at h;have d:=uE N.ks i N.ks.length 0 h.2.1 j (by omega) (by omega);have b:N.ks[j]?=T (N.ks.getD j 0):=by rw[bm,aI c];rfl
 refine⟨(N.ks.getD j 0).toNat,?_,by omega,by omega,?_⟩
 ·rw[b];congr 1;omega
 ·show N.ks.getD j 0=_;omega
theorem qh{N:Nd}{z:Int}(h:z∈N.ks):∃j,j<N.ks.length/\cL N j=z:=by
 obtain⟨j,a,b⟩:=fH h;exact⟨j,a,by unfold cL;rw[bm,aI a];exact b⟩
theorem nE{a:List Nd}{i:Nat}{N:Nd}(h:gG a i N=R):nc a N=R/\N.ks.length<=200:=by
 unfold gG at h;rw[aB,aB]at h;exact⟨h.2.2,(bc h.1).2.2.2⟩
theorem Ch{a:List Nd}{N:Nd}(h:nc a N=R)(b:17<=N.k):lB a N=R:=by
 unfold nc at h
 rwa [aa (by unfold iw;rw[decide_eq_true_eq];omega)]at h
theorem oy{a:List Nd}{N:Nd}(h:nc a N=R)(b:1<=N.k/\N.k<=16):stB a N=R:=by
 unfold nc at h
 rwa [ab (by unfold iw;rw[decide_eq_true_eq];omega)]at h
theorem qi{a:List Nd}{N:Nd}(h:nc a N=R)(b:N.k=28\/N.k=29\/N.k=31\/N.k=32\/N.k=41):N.ks.length=2/\ik a N 2 0=R/\(N.k=31->1<=N.op/\N.op<=18):=by
 have h:=Ch h (by omega);unfold lB at h;rcases b with e|e|e|e|e<;>simp[e]at h<;>exact⟨by omega,by simp[h],by omega⟩
theorem rg{a:List Nd}{N:Nd}(h:nc a N=R)(b:N.k=30\/N.k=33\/N.k=37\/N.k=40\/N.k=42):N.ks.length=1/\eB (al a (cL N 0)).k=R/\(N.k=30->19<=N.op/\N.op<=22):=by
 have h:=Ch h (by omega);unfold lB at h;rcases b with e|e|e|e|e<;>simp[e,lp]at h
 ·exact⟨by omega,jE 1 0 h.1.1.1.2 0 (by omega) (by omega),by omega⟩
 ·exact⟨by omega,jE 1 0 h.1.1.1.2 0 (by omega) (by omega),by omega⟩
 ·exact⟨by omega,bG (by omega),by omega⟩
 ·exact⟨by omega,jE 1 0 h.1.2 0 (by omega) (by omega),by omega⟩
 ·exact⟨by omega,jE 1 0 h.1.1.2 0 (by omega) (by omega),by omega⟩
theorem J3{a:List Nd}{N:Nd}(h:nc a N=R)(b:N.k=34):1<=N.ks.length/\ik a N N.ks.length 0=R:=by
 have h:=Ch h (by omega);unfold lB at h;simp[b,lp]at h;exact⟨by omega,h.1.1.2⟩
theorem Ga{a:List Nd}{N:Nd}(h:nc a N=R)(b:N.k=35):Lg a N N.ks.length 0=R:=by
 have h:=Ch h (by omega);unfold lB at h;simp[b]at h;exact h.1
theorem rh{N:Nd}{a b:Int}(h:dD N a b=R)(c:b<=200):a<=(N.nm.length:Int)/\N.nm.length<=200:=by
 unfold dD at h;rw[aB]at h;have:=bc h.1;omega
theorem ahk{a:List Nd}{N:Nd}(h:nc a N=R)(b:N.k=36):N.ks.length=1/\(al a (cL N 0)).k=1/\N.nm.length<=200/\(N.op=0\/N.op=1):=by
 have h:=Ch h (by omega);unfold lB at h;simp[b,lp]at h;exact⟨by omega,h.1.1.1.2,(rh h.1.2 (by omega)).2,h.2⟩
theorem Ao{a:List Nd}{N:Nd}(h:nc a N=R)(b:N.k=1):Le a N N.ks.length 0=R:=by
 have h:=oy h (by omega);unfold stB at h;simp[b]at h;exact h.1
theorem ad4{c:List Nd}{N:Nd}(h:nc c N=R):(1<=N.k/\N.k<=16)\/(20<=N.k/\N.k<=37)\/(40<=N.k/\N.k<=42):=by
 by_cases a:1<=N.k/\N.k<=16
 ·exact .inl a
 ·unfold nc at h;rw[aa (by unfold iw;rw[decide_eq_true_eq];exact a)]at h;by_cases b:(20<=N.k/\N.k<=37)\/(40<=N.k/\N.k<=42)
  ·exact .inr b
  ·unfold lB at h
   repeat rw[aa (by omega)]at h
   cases h
def sN(a:List Nd)(i:Int):Nat:=((gC a).getD i.toNat 0).toNat
def sK(a:List Nd):List Int->Nat
 |[]=>0
 |k::b=>sN a k+sK a b
theorem aiL(c:List Nd)(a b:List Int):sK c (a++b)=sK c a+sK c b:=by
 induction a with
 |nil=>simp[sK]
 |cons e f d=>simp only[fF,sK,d];omega
theorem Ap(b:List Nd)(a:List Int)(n:Nat):sK b a=sK b (a.take n)+sK b (a.drop n):=by rw[<-aiL,py]
structure Szd (ns:List Nd):Prop where
 nb:∀i:Nat,i<ns.length->gG ns i (al ns i)=R
 at_:∀i:Nat,i<ns.length->sN ns i=1+sK ns (al ns i).ks
 le:∀i:Int,sN ns i<=3000
theorem ai0{b:List Nd}(h:(cF b).1=0):Szd b:=by
 have i:=yI h;have q:=lC h;have o:=Am h;have m:xo (gC b):=sL b (fun j k f l=>by
  obtain⟨a,c,d⟩:=fH k;exact(q.kid a j (by rw[aI c,d]) f l).1)
 have p:∀a:Nat,0<=(gC b).getD a 0:=by
  intro a;rw[bm];cases d:(gC b)[a]? with
  |none=>decide
  |some s=>exact(m a s d).1
 have r:∀e:List Int,mB (gC b) e=(sK b e:Int):=by
  intro e
  induction e with
  |nil=>rfl
  |cons f t n=>
   have:=p f.toNat;simp only[mB,sK,n,sN];omega
 have g:∀a:Nat,a<b.length->b[a]?=T (al b a):=fun a c=>by
  unfold al;rw[rp,List.getD,aI c];rfl
 refine⟨fun a c=>o a _ (g a c),fun a c=>?_,fun a=>?_⟩
 ·have d:=i.at_ a _ (g a c);rw[r]at d;show((gC b).getD (a:Int).toNat 0).toNat=_;rw[rp,d];omega
 ·have:=i.le a.toNat;unfold sN;omega
theorem Ci(b:List ByteArray):(cE b).size<=(b.map fun x=>x.size+2).sum:=by
 have e:∀a,(cE (b.take a)).size<=((b.take a).map fun x=>x.size+2).sum:=by
  intro a
  induction a with
  |zero=>show(Z).size<=_;exact be _
  |succ a c=>
   rcases cA a b.length with h|h
   ·rw[pc b a _ (aI h),ag,List.take_succ_eq_append_getElem h,en,List.sum_append];have d:ej.size=2:=rfl;have:(if a=0 then cE (b.take a) else cE (b.take a)++ej).size<=(cE (b.take a)).size+2:=by
     split
     ·omega
     ·rw[ag,d];exact ah _
    simp only[lg,List.map_nil,List.sum_cons,List.sum_nil];omega
   ·rw[cw (by omega)];rw[cw (by omega)]at c;exact c
 have:=e b.length
 rwa [cw (ah _)]at this
theorem Is(c:List Nd)(b:Int->Nat)(d:Nat)(a:List Int)(h:∀z∈a,b z+10000<=2000000*sN c z)(k:d<=10000):(a.map fun z=>b z+d).sum<=2000000*sK c a:=by
 induction a with
 |nil=>exact be _
 |cons z l f=>
  have i:=h z cH;have j:=f fun g e=>h g (dJ _ e);simp only[lg,List.sum_cons,sK,Nat.mul_add];omega
theorem qj(b:List Nd)(E:Int->ByteArray)(a:List Int)(h:∀z∈a,(E z).size+10000<=2000000*sN b z):(cE (a.map E)).size<=2000000*sK b a:=by
 refine bz (Ci _) ?_;rw[List.map_map];exact Is b (fun z=>(E z).size) 2 a h (by omega)
theorem Gb(a:List ByteArray)(h:∀s∈a,s.size<=4000):(cE a).size<=4002*a.length:=by
 refine bz (Ci _) ?_
 induction a with
 |nil=>exact be _
 |cons d i c=>
  have f:=h d cH;have g:=c fun e b=>h e (dJ _ b);simp only[lg,List.sum_cons,di];omega
theorem Cj(a:List ByteArray):(jf a).size=(a.map ByteArray.size).sum:=by
 have d:∀(b:ByteArray),(a.foldl (· ++·) b).size=b.size+(a.map ByteArray.size).sum:=by
  induction a with
  |nil=>intro b;simp
  |cons f e c=>intro b;rw[rx,c,ag,lg,List.sum_cons];omega
 have:=d Z;rw[show ByteArray.empty.size=0 from rfl]at this;unfold jf;omega
theorem ai1(b:List Nd)(S:Int->Nat->ByteArray)(a:List Int)(tab:Nat)(f:tab<=9000)(h:∀z∈a,(S z (tab+1)).size+10000<=2000000*sN b z):(AC S a tab).size+10000<=2000000*(1+sK b a)-900000:=by
 unfold AC;by_cases c:a=[]
 ·rw[ab c];show 2+10000<=_;omega
 ·rw[aa c,ag,ag,ag,Cj,kD,List.map_map];have d:(a.map (ByteArray.size ∘ fun e=>oL (tab+1)++S e (tab+1)))=a.map fun z=>(S z (tab+1)).size+(tab+2):=by
   apply List.map_congr_left;intro z g;simp only[Function.comp];rw[ag,kD];omega
  rw[d];have:=Is b (fun z=>(S z (tab+1)).size) (tab+2) a h (by omega);show 1+_+(tab+1)+1+10000<=_;omega
theorem uJ{a:List Nd}{N:Nd}(h:ik a N 1 0=R):eB (al a (cL N 0)).k=R:=jE 1 0 h 0 (by omega) (by omega)
theorem ad5{a:List Nd}{N:Nd}(h:nc a N=R)(b:N.k=2):ik a N N.ks.length 0=R/\N.nm.length<=200:=by
 have h:=oy h (by omega);unfold stB at h;simp only[b]at h;simp at h;exact⟨h.2,(rh h.1.2 (by omega)).2⟩
theorem Gc{b:List Nd}{N:Nd}(h:nc b N=R)(c:N.k=3):N.ks.length=1/\eB (al b (cL N 0)).k=R/\N.nm.length=1:=by
 have h:=oy h (by omega);unfold stB at h;simp[c]at h;have:=rh h.1.1.2 (by omega);have a:=h.1.1.2;unfold dD at a;rw[aB]at a;have:=bc a.1;exact⟨by omega,uJ h.2,by omega⟩
theorem ad6{b:List Nd}{N:Nd}(h:nc b N=R)(c:N.k=4):N.ks.length=1/\(al b (cL N 0)).k=36/\N.nm.length=1:=by
 have h:=oy h (by omega);unfold stB at h;simp[c,lp]at h;have a:=h.1.1.2;unfold dD at a;rw[aB]at a;have:=bc a.1;exact⟨by omega,h.2,by omega⟩
theorem ai2{a:List Nd}{N:Nd}(h:nc a N=R)(b:N.k=5):1<=N.n/\N.n<(N.ks.length:Int)/\JC a N N.n.toNat 0=R/\ik a N (N.ks.length-N.n.toNat) N.n.toNat=R:=by
 have h:=oy h (by omega);unfold stB at h;simp[b]at h;exact⟨h.2.1.1,h.2.1.2,h.2.2.1,h.2.2.2⟩
theorem J4{a:List Nd}{N:Nd}(h:nc a N=R)(b:N.k=6\/N.k=16):N.ks.length=1/\(al a (cL N 0)).k=34:=by
 have h:=oy h (by omega);unfold stB at h;rcases b with e|e<;>simp[e,lp]at h<;>exact⟨by omega,h.2⟩
theorem ahl{a:List Nd}{N:Nd}(h:nc a N=R)(b:N.k=7):2<=N.ks.length/\N.ks.length<=3/\eB (al a (cL N 0)).k=R/\(al a (cL N 1)).k=1/\(N.ks.length=2\/(al a (cL N 2)).k=1\/(al a (cL N 2)).k=7):=by
 have h:=oy h (by omega);unfold stB at h;simp[b,lp]at h;exact⟨h.2.1.1,h.2.1.2,uJ h.2.2.1,h.2.2.2.1,by omega⟩
theorem Ge{a:List Nd}{N:Nd}(h:nc a N=R)(b:N.k=8):N.ks.length=2/\eB (al a (cL N 0)).k=R/\(al a (cL N 1)).k=1:=by
 have h:=oy h (by omega);unfold stB at h;simp[b,lp]at h;exact⟨by omega,uJ h.1.2,h.2⟩
theorem ad7{b:List Nd}{N:Nd}(h:nc b N=R)(c:N.k=9):(N.ks.length=3\/N.ks.length=4)/\ik b N (N.ks.length-1) 0=R/\(al b (cL N (N.ks.length-1))).k=1/\N.nm.length=1:=by
 have h:=oy h (by omega);unfold stB at h;simp[c,lp]at h;have a:=h.2.1;unfold dD at a;rw[aB]at a;have:=bc a.1;exact⟨by omega,h.2.2.2.1,h.2.2.2.2,by omega⟩
theorem J5{a:List Nd}{N:Nd}(h:nc a N=R)(b:N.k=10):N.ks.length=2/\eB (al a (cL N 0)).k=R/\(al a (cL N 1)).k=1/\N.nm.length<=200:=by
 have h:=oy h (by omega);unfold stB at h;simp[b,lp]at h;exact⟨by omega,uJ h.1.2,h.2,(rh h.1.1.1.2 (by omega)).2⟩
theorem ai3{a:List Nd}{N:Nd}(h:nc a N=R)(b:N.k=13):ik a N N.ks.length 0=R:=by
 have h:=oy h (by omega);unfold stB at h;simp[b]at h;exact h.2
theorem ad8{a:List Nd}{N:Nd}(h:nc a N=R)(b:N.k=14):N.ks.length=2/\(al a (cL N 0)).k=1/\(al a (cL N 1)).k=1/\N.nm.length<=200:=by
 have h:=oy h (by omega);unfold stB at h;simp[b,lp]at h;exact⟨by omega,h.1.2,h.2,(rh h.1.1.1.2 (by omega)).2⟩
theorem Gf{a:List Nd}{N:Nd}(h:nc a N=R)(b:N.k=15):N.ks.length=1/\eB (al a (cL N 0)).k=R:=by
 have h:=oy h (by omega);unfold stB at h;simp[b]at h;exact⟨by omega,uJ h.2⟩
theorem J6(a:List ByteArray):∀(f j:Nat),qE a f j=R->∀q,j<=q->q<j+f->(a.getD q Z).size<=4000
 |0,j,_,q,b,c=>by omega
 |f+1,j,h,q,b,c=>by
  rw[qE,aB]at h;rcases jk b with rfl|h3
  ·exact gw h.1
  ·exact J6 a f (j+1) h.2 q h3 (by omega)
theorem ae{N:Nd}{a b:Int}(h:dD N a b=R):∀s∈N.nm,s.size<=4000:=by
 unfold dD at h;rw[aB]at h;intro s e;obtain⟨f,d,c⟩:=fH e;have:=J6 N.nm N.nm.length 0 h.2 f (by omega) (by omega);rw[bm,aI d,c]at this;exact this
theorem ai{N:Nd}{a b c:Bool}(h:aH N a b c X=R):∀s∈N.nm,s.size<=4000:=by
 unfold aH at h;simp at h;intro s d;rw[h.2]at d;cases d
theorem Aq{a:List Nd}{N:Nd}(h:nc a N=R):∀s∈N.nm,s.size<=4000:=by
 rcases ad4 h with hk|hk
 ·have h:=oy h hk;unfold stB at h;rcases bv h with h|h
  ·(simp only[aB]at h;first|exact ai h.1|exact ai h.2|exact ai h.1.1|exact ai h.1.1.1|exact ai h.1.2|exact ai h.1.1.2|exact ae h.2|exact ae h.1.2|exact ae h.1.1.2|exact ae h.1.1.1.2|exact ae h.2.1)
  rcases bv h with h|h
  ·(simp only[aB]at h;first|exact ai h.1|exact ai h.2|exact ai h.1.1|exact ai h.1.1.1|exact ai h.1.2|exact ai h.1.1.2|exact ae h.2|exact ae h.1.2|exact ae h.1.1.2|exact ae h.1.1.1.2|exact ae h.2.1)
  rcases bv h with h|h
  ·(simp only[aB]at h;first|exact ai h.1|exact ai h.2|exact ai h.1.1|exact ai h.1.1.1|exact ai h.1.2|exact ai h.1.1.2|exact ae h.2|exact ae h.1.2|exact ae h.1.1.2|exact ae h.1.1.1.2|exact ae h.2.1)
  rcases bv h with h|h
  ·(simp only[aB]at h;first|exact ai h.1|exact ai h.2|exact ai h.1.1|exact ai h.1.1.1|exact ai h.1.2|exact ai h.1.1.2|exact ae h.2|exact ae h.1.2|exact ae h.1.1.2|exact ae h.1.1.1.2|exact ae h.2.1)
  rcases bv h with h|h
  ·(simp only[aB]at h;first|exact ai h.1|exact ai h.2|exact ai h.1.1|exact ai h.1.1.1|exact ai h.1.2|exact ai h.1.1.2|exact ae h.2|exact ae h.1.2|exact ae h.1.1.2|exact ae h.1.1.1.2|exact ae h.2.1)
  rcases bv h with h|h
  ·(simp only[aB]at h;first|exact ai h.1|exact ai h.2|exact ai h.1.1|exact ai h.1.1.1|exact ai h.1.2|exact ai h.1.1.2|exact ae h.2|exact ae h.1.2|exact ae h.1.1.2|exact ae h.1.1.1.2|exact ae h.2.1)
  rcases bv h with h|h
  ·(simp only[aB]at h;first|exact ai h.1|exact ai h.2|exact ai h.1.1|exact ai h.1.1.1|exact ai h.1.2|exact ai h.1.1.2|exact ae h.2|exact ae h.1.2|exact ae h.1.1.2|exact ae h.1.1.1.2|exact ae h.2.1)
  rcases bv h with h|h
  ·(simp only[aB]at h;first|exact ai h.1|exact ai h.2|exact ai h.1.1|exact ai h.1.1.1|exact ai h.1.2|exact ai h.1.1.2|exact ae h.2|exact ae h.1.2|exact ae h.1.1.2|exact ae h.1.1.1.2|exact ae h.2.1)
  rcases bv h with h|h
  ·(simp only[aB]at h;first|exact ai h.1|exact ai h.2|exact ai h.1.1|exact ai h.1.1.1|exact ai h.1.2|exact ai h.1.1.2|exact ae h.2|exact ae h.1.2|exact ae h.1.1.2|exact ae h.1.1.1.2|exact ae h.2.1)
  rcases bv h with h|h
  ·(simp only[aB]at h;first|exact ai h.1|exact ai h.2|exact ai h.1.1|exact ai h.1.1.1|exact ai h.1.2|exact ai h.1.1.2|exact ae h.2|exact ae h.1.2|exact ae h.1.1.2|exact ae h.1.1.1.2|exact ae h.2.1)
  rcases bv h with h|h
  ·(simp only[aB]at h;first|exact ai h.1|exact ai h.2|exact ai h.1.1|exact ai h.1.1.1|exact ai h.1.2|exact ai h.1.1.2|exact ae h.2|exact ae h.1.2|exact ae h.1.1.2|exact ae h.1.1.1.2|exact ae h.2.1)
  rcases bv h with h|h
  ·(simp only[aB]at h;first|exact ai h.1|exact ai h.2|exact ai h.1.1|exact ai h.1.1.1|exact ai h.1.2|exact ai h.1.1.2|exact ae h.2|exact ae h.1.2|exact ae h.1.1.2|exact ae h.1.1.1.2|exact ae h.2.1)
  rcases bv h with h|h
  ·(simp only[aB]at h;first|exact ai h.1|exact ai h.2|exact ai h.1.1|exact ai h.1.1.1|exact ai h.1.2|exact ai h.1.1.2|exact ae h.2|exact ae h.1.2|exact ae h.1.1.2|exact ae h.1.1.1.2|exact ae h.2.1)
  rcases bv h with h|h
  ·(simp only[aB]at h;first|exact ai h.1|exact ai h.2|exact ai h.1.1|exact ai h.1.1.1|exact ai h.1.2|exact ai h.1.1.2|exact ae h.2|exact ae h.1.2|exact ae h.1.1.2|exact ae h.1.1.1.2|exact ae h.2.1)
  rcases bv h with h|h
  ·(simp only[aB]at h;first|exact ai h.1|exact ai h.2|exact ai h.1.1|exact ai h.1.1.1|exact ai h.1.2|exact ai h.1.1.2|exact ae h.2|exact ae h.1.2|exact ae h.1.1.2|exact ae h.1.1.1.2|exact ae h.2.1)
  rcases bv h with h|h
  ·(simp only[aB]at h;first|exact ai h.1|exact ai h.2|exact ai h.1.1|exact ai h.1.1.1|exact ai h.1.2|exact ai h.1.1.2|exact ae h.2|exact ae h.1.2|exact ae h.1.1.2|exact ae h.1.1.1.2|exact ae h.2.1)
  cases h
 ·have h:=Ch h (by omega);unfold lB at h;rcases bv h with h|h
  ·(simp only[aB]at h;first|exact ai h.1|exact ai h.2|exact ai h.1.1|exact ai h.1.1.1|exact ai h.1.2|exact ai h.1.1.2|exact ae h.2|exact ae h.1.2|exact ae h.1.1.2|exact ae h.1.1.1.2|exact ae h.2.1)
  rcases bv h with h|h
  ·(simp only[aB]at h;first|exact ai h.1|exact ai h.2|exact ai h.1.1|exact ai h.1.1.1|exact ai h.1.2|exact ai h.1.1.2|exact ae h.2|exact ae h.1.2|exact ae h.1.1.2|exact ae h.1.1.1.2|exact ae h.2.1)
  rcases bv h with h|h
  ·(simp only[aB]at h;first|exact ai h.1|exact ai h.2|exact ai h.1.1|exact ai h.1.1.1|exact ai h.1.2|exact ai h.1.1.2|exact ae h.2|exact ae h.1.2|exact ae h.1.1.2|exact ae h.1.1.1.2|exact ae h.2.1)
  rcases bv h with h|h
  ·(simp only[aB]at h;first|exact ai h.1|exact ai h.2|exact ai h.1.1|exact ai h.1.1.1|exact ai h.1.2|exact ai h.1.1.2|exact ae h.2|exact ae h.1.2|exact ae h.1.1.2|exact ae h.1.1.1.2|exact ae h.2.1)
  rcases bv h with h|h
  ·(simp only[aB]at h;first|exact ai h.1|exact ai h.2|exact ai h.1.1|exact ai h.1.1.1|exact ai h.1.2|exact ai h.1.1.2|exact ae h.2|exact ae h.1.2|exact ae h.1.1.2|exact ae h.1.1.1.2|exact ae h.2.1)
  rcases bv h with h|h
  ·(simp only[aB]at h;first|exact ai h.1|exact ai h.2|exact ai h.1.1|exact ai h.1.1.1|exact ai h.1.2|exact ai h.1.1.2|exact ae h.2|exact ae h.1.2|exact ae h.1.1.2|exact ae h.1.1.1.2|exact ae h.2.1)
  rcases bv h with h|h
  ·(simp only[aB]at h;first|exact ai h.1|exact ai h.2|exact ai h.1.1|exact ai h.1.1.1|exact ai h.1.2|exact ai h.1.1.2|exact ae h.2|exact ae h.1.2|exact ae h.1.1.2|exact ae h.1.1.1.2|exact ae h.2.1)
  rcases bv h with h|h
  ·(simp only[aB]at h;first|exact ai h.1|exact ai h.2|exact ai h.1.1|exact ai h.1.1.1|exact ai h.1.2|exact ai h.1.1.2|exact ae h.2|exact ae h.1.2|exact ae h.1.1.2|exact ae h.1.1.1.2|exact ae h.2.1)
  rcases bv h with h|h
  ·(simp only[aB]at h;first|exact ai h.1|exact ai h.2|exact ai h.1.1|exact ai h.1.1.1|exact ai h.1.2|exact ai h.1.1.2|exact ae h.2|exact ae h.1.2|exact ae h.1.1.2|exact ae h.1.1.1.2|exact ae h.2.1)
  rcases bv h with h|h
  ·(simp only[aB]at h;first|exact ai h.1|exact ai h.2|exact ai h.1.1|exact ai h.1.1.1|exact ai h.1.2|exact ai h.1.1.2|exact ae h.2|exact ae h.1.2|exact ae h.1.1.2|exact ae h.1.1.1.2|exact ae h.2.1)
  rcases bv h with h|h
  ·(simp only[aB]at h;first|exact ai h.1|exact ai h.2|exact ai h.1.1|exact ai h.1.1.1|exact ai h.1.2|exact ai h.1.1.2|exact ae h.2|exact ae h.1.2|exact ae h.1.1.2|exact ae h.1.1.1.2|exact ae h.2.1)
  rcases bv h with h|h
  ·(simp only[aB]at h;first|exact ai h.1|exact ai h.2|exact ai h.1.1|exact ai h.1.1.1|exact ai h.1.2|exact ai h.1.1.2|exact ae h.2|exact ae h.1.2|exact ae h.1.1.2|exact ae h.1.1.1.2|exact ae h.2.1)
  rcases bv h with h|h
  ·(simp only[aB]at h;first|exact ai h.1|exact ai h.2|exact ai h.1.1|exact ai h.1.1.1|exact ai h.1.2|exact ai h.1.1.2|exact ae h.2|exact ae h.1.2|exact ae h.1.1.2|exact ae h.1.1.1.2|exact ae h.2.1)
  rcases bv h with h|h
  ·(simp only[aB]at h;first|exact ai h.1|exact ai h.2|exact ai h.1.1|exact ai h.1.1.1|exact ai h.1.2|exact ai h.1.1.2|exact ae h.2|exact ae h.1.2|exact ae h.1.1.2|exact ae h.1.1.1.2|exact ae h.2.1)
  rcases bv h with h|h
  ·(simp only[aB]at h;first|exact ai h.1|exact ai h.2|exact ai h.1.1|exact ai h.1.1.1|exact ai h.1.2|exact ai h.1.1.2|exact ae h.2|exact ae h.1.2|exact ae h.1.1.2|exact ae h.1.1.1.2|exact ae h.2.1)
  rcases bv h with h|h
  ·(simp only[aB]at h;first|exact ai h.1|exact ai h.2|exact ai h.1.1|exact ai h.1.1.1|exact ai h.1.2|exact ai h.1.1.2|exact ae h.2|exact ae h.1.2|exact ae h.1.1.2|exact ae h.1.1.1.2|exact ae h.2.1)
  rcases bv h with h|h
  ·(simp only[aB]at h;first|exact ai h.1|exact ai h.2|exact ai h.1.1|exact ai h.1.1.1|exact ai h.1.2|exact ai h.1.1.2|exact ae h.2|exact ae h.1.2|exact ae h.1.1.2|exact ae h.1.1.1.2|exact ae h.2.1)
  rcases bv h with h|h
  ·(simp only[aB]at h;first|exact ai h.1|exact ai h.2|exact ai h.1.1|exact ai h.1.1.1|exact ai h.1.2|exact ai h.1.1.2|exact ae h.2|exact ae h.1.2|exact ae h.1.1.2|exact ae h.1.1.1.2|exact ae h.2.1)
  rcases bv h with h|h
  ·(simp only[aB]at h;first|exact ai h.1|exact ai h.2|exact ai h.1.1|exact ai h.1.1.1|exact ai h.1.2|exact ai h.1.1.2|exact ae h.2|exact ae h.1.2|exact ae h.1.1.2|exact ae h.1.1.1.2|exact ae h.2.1)
  rcases bv h with h|h
  ·(simp only[aB]at h;first|exact ai h.1|exact ai h.2|exact ai h.1.1|exact ai h.1.1.1|exact ai h.1.2|exact ai h.1.1.2|exact ae h.2|exact ae h.1.2|exact ae h.1.1.2|exact ae h.1.1.1.2|exact ae h.2.1)
  rcases bv h with h|h
  ·(simp only[aB]at h;first|exact ai h.1|exact ai h.2|exact ai h.1.1|exact ai h.1.1.1|exact ai h.1.2|exact ai h.1.1.2|exact ae h.2|exact ae h.1.2|exact ae h.1.1.2|exact ae h.1.1.1.2|exact ae h.2.1)
  cases h
theorem Gg{N:Nd}{j:Nat}(h:j<N.ks.length):N.ks[j]=cL N j:=by unfold cL;rw[bm,aI h];rfl
theorem oG(a:List Nd){N:Nd}(h:N.ks.length=1):sK a N.ks=sN a (cL N 0):=by
 unfold cL
 match e:N.ks,h with
 |[b],_=>simp[sK]
theorem wj(a:List Nd){N:Nd}(h:N.ks.length=2):sK a N.ks=sN a (cL N 0)+sN a (cL N 1):=by
 unfold cL
 match e:N.ks,h with
 |[b,c],_=>simp[sK]
theorem ad9(a:List Nd){N:Nd}(h:N.ks.length=3):sK a N.ks=sN a (cL N 0)+sN a (cL N 1)+sN a (cL N 2):=by
 unfold cL
 match e:N.ks,h with
 |[b,c,d],_=>simp[sK];omega
theorem agz(a:List Nd){N:Nd}(h:0<N.ks.length):sK a N.ks=sK a (N.ks.take (N.ks.length-1))+sN a (cL N (N.ks.length-1)):=by
 rw[Ap a N.ks (N.ks.length-1)]
 congr 1
 rw[mg (by omega),Gg,pt (by omega)];simp[sK]
theorem agA(b:List Nd){N:Nd}(h:0<N.ks.length):sK b N.ks=sN b (cL N 0)+sK b (N.ks.drop 1):=by
 rw[Ap b N.ks 1]
 congr 1
 unfold cL
 match e:N.ks,h with
 |a::c,_=>simp[sK]
theorem aat(n:Int)(b:n<=9223372036854775807):(acE n).size<=30:=by
 unfold acE;split
 ·rw[zF];omega
 ·rename_i a;have:=Lib.itoa_length_le n (by omega) b;show(Lib.decDigits n.toNat).toArray.size<=30;rw[ip];unfold Lib.itoa at this;simp only[a,if_false]at this;omega
theorem aea(N:Nd)(b:N.x.size<=4000)(a:N.n<=9223372036854775807):(plB N).size<=20000:=by
 unfold plB
 repeat' split
 ·show 3<=_;omega
 ·show 4<=_;omega
 ·show 5<=_;omega
 ·have:=aat N.n a;omega
 ·omega
 ·have:=vE N.x;unfold sc at this;omega
 ·show 3<=_;omega
 ·show 0<=_;omega
theorem wk(b:List Nd)(E:Int->ByteArray)(k a:Int):(jJ b E k a).size<=(E k).size+2:=by
 unfold jJ;split
 ·rw[rJ];omega
 ·omega
theorem Dz(a:List Nd)(E:Int->ByteArray)(k:Int):(bsB a E k).size<=(E k).size+2:=by
 unfold bsB;split
 ·omega
 ·rw[rJ];omega
theorem agB(a:List Nd)(N:Nd):(unS a N).size<=4:=by
 unfold unS
 repeat' split
 ·show 4<=4;omega
 ·show 1<=4;omega
 ·show 1<=4;omega
 ·show 2<=4;omega
 ·show 1<=4;omega
theorem Gh{op:Int}(h:1<=op/\op<=18):(xg (60+op)).size<=4:=by
 obtain⟨a,b⟩:=h;rcases(show op=1\/op=2\/op=3\/op=4\/op=5\/op=6\/op=7\/op=8\/op=9\/op=10\/op=11\/op=12\/op=13\/op=14\/op=15\/op=16\/op=17\/op=18 by omega) with rfl|rfl|rfl|rfl|rfl|rfl|rfl|rfl|rfl|rfl|rfl|rfl|rfl|rfl|rfl|rfl|rfl|rfl;all_goals decide+kernel
structure SzE (ns:List Nd) (E:Int->ByteArray) (S:Int->Nat->ByteArray) (i:Nat) (tab:Nat):Prop where
 e:∀z:Nat,z<i->(E z).size+10000<=2000000*sN ns z
 s:∀z:Nat,z<i->(S z (tab+1)).size+10000<=2000000*sN ns z
theorem SzE.kid{a:List Nd}{E:Int->ByteArray}{S:Int->Nat->ByteArray}{i tab:Nat}(h:SzE a E S i tab)(d:Szd a){q:Nat}(l:q<=i)(b:q<a.length):∀z∈(al a q).ks,(E z).size+10000<=2000000*sN a z/\(S z (tab+1)).size+10000<=2000000*sN a z:=by
 intro z j;obtain⟨k,g,rfl⟩:=qh j;obtain⟨f,c⟩:=jc (d.nb q b) b k g;rw[c.id];have:=c.lt;exact⟨h.e f (by omega),h.s f (by omega)⟩
theorem SzE.blk{a:List Nd}{E:Int->ByteArray}{S:Int->Nat->ByteArray}{i tab:Nat}(h:SzE a E S i tab)(d:Szd a)(e:tab<=9000){q:Nat}(c:q<=i)(b:q<a.length):(AC S (al a q).ks tab).size+910000<=2000000*sN a q:=by
 have:=ai1 a S (al a q).ks tab e (fun g f=>(h.kid d c b g f).2);rw[d.at_ q b];omega
theorem aeb{a:List Nd}{N:Nd}(h:nc a N=R)(c:N.nm.length<=200):(aga N).size<=810000:=by
 unfold aga;have:=Gb N.nm (Aq h);simp only[ag];have b:(if N.op=1 then(if N.nm=[] then(⟨#[46,46,46]⟩:ByteArray) else ej++⟨#[46,46,46]⟩) else Z).size<=5:=by
  repeat' split
  ·show 3<=5;omega
  ·show 5<=5;omega
  ·show 0<=5;omega
 show 1+_+_+2<=_;omega
theorem SzE.bod{a:List Nd}{E:Int->ByteArray}{S:Int->Nat->ByteArray}{i tab:Nat}(h:SzE a E S i tab)(d:Szd a)(l:tab<=9000){q:Nat}(j:q<=i)(b:q<a.length)(g:(al a q).k=36):(Dk a S (al a q) tab).size+20000<=2000000*sN a q:=by
 obtain⟨e,n,f,o⟩:=ahk (nE (d.nb q b)).1 g;obtain⟨p,c⟩:=jc (d.nb q b) b 0 (by omega);have m:=h.blk d l (bz (jx c.lt) j) c.len;unfold Dk;rw[ag,c.id,d.at_ q b,oG a e,c.id];have:=aeb (nE (d.nb q b)).1 f;omega
theorem aec{a:List Nd}{E:Int->ByteArray}{S:Int->Nat->ByteArray}{i tab:Nat}(h:SzE a E S i tab)(d:Szd a){q:Nat}(t:q<=i)(c:q<a.length)(s:40<=(al a q).k/\(al a q).k<=42):(my a E (al a q)).size+10000<=2000000*sN a q:=by
 have n:=(nE (d.nb q c)).1;have u:=An (d.nb q c);have j:=fun r p=>jc (d.nb q c) c r p;rw[d.at_ q c];unfold my;by_cases l:(al a q).k=41
 ·rw[ab l];obtain⟨g,_,_⟩:=qi n (by omega);obtain⟨f,b⟩:=j 0 (by omega);obtain⟨o,m⟩:=j 1 (by omega);rw[wj a g,b.id,m.id];have:=h.e f (by have:=b.lt;omega);have:=h.e o (by have:=m.lt;omega);simp only[ag];show 1+_+4+_+_<=_;omega
 ·rw[aa l];obtain⟨g,_,_⟩:=rg n (show _ by omega);obtain⟨f,b⟩:=j 0 (by omega);rw[oG a g,b.id];have:=h.e f (by have:=b.lt;omega);split
  ·simp only[ag];show 1+_+3+_+_<=_;omega
  ·omega
theorem aed{a:List Nd}{E:Int->ByteArray}{S:Int->Nat->ByteArray}{i tab:Nat}(h:SzE a E S i tab)(d:Szd a)(L:tab<=9000)(f:i<a.length)(K:(al a i).n<=9223372036854775807):(prE a E S (al a i) tab).size+10000<=2000000*sN a i:=by
 have k:=(nE (d.nb i f)).1;have ad:=An (d.nb i f);have j:=fun o t=>jc (d.nb i f) f o t;have w:∀(y:ByteArray)(x:Int),y.size<=100->((al a i).k=28\/(al a i).k=29\/(al a i).k=31\/(al a i).k=32\/(al a i).k=41)->(Bc a E (al a i) y x).size+10000<=2000000*sN a i:=by
  intro y x ak J;obtain⟨g,_,_⟩:=qi k J;obtain⟨c,b⟩:=j 0 (by omega);obtain⟨m,l⟩:=j 1 (by omega);rw[d.at_ i f,wj a g,b.id,l.id];unfold Bc;rw[b.id,l.id];have:=h.e c b.lt;have:=h.e m l.lt;have:=wk a E c (acF (al a i) x);have:=wk a E m (un (al a i).k (al a i).op);simp only[ag];omega
 unfold prE;by_cases z:(al a i).k=28
 ·rw[ab z];exact w _ _ (by show 5<=100;omega) (by omega)
 rw[aa z];by_cases B:(al a i).k=29
 ·rw[ab B];exact w _ _ (by show 4<=100;omega) (by omega)
 rw[aa B];by_cases p:(al a i).k=31
 ·rw[ab p];have:=Gh ((qi k (by omega)).2.2 p);exact w _ _ (by simp only[ag];show 1+_+1<=_;omega) (by omega)
 rw[aa p];by_cases C:(al a i).k=30
 ·rw[ab C];obtain⟨g,_,_⟩:=rg k (by omega);obtain⟨c,b⟩:=j 0 (by omega);rw[d.at_ i f,oG a g,b.id];unfold unB;rw[b.id];have:=h.e c b.lt;have:=wk a E c 11;have:=agB a (al a i);simp only[ag];omega
 rw[aa C];by_cases F:(al a i).k=32
 ·rw[ab F];obtain⟨g,_,_⟩:=qi k (by omega);obtain⟨c,b⟩:=j 0 (by omega);obtain⟨m,l⟩:=j 1 (by omega);rw[d.at_ i f,wj a g,b.id,l.id];have:=h.e c b.lt;have:=h.e m l.lt;have:=Dz a E c;simp only[ag];show _+1+_+1+_<=_;omega
 rw[aa F];by_cases G:(al a i).k=33
 ·rw[ab G];obtain⟨g,_,_⟩:=rg k (by omega);obtain⟨c,b⟩:=j 0 (by omega);rw[d.at_ i f,oG a g,b.id];have:=h.e c b.lt;have:=Dz a E c;simp only[ag];show _+(1+_)+_<=_;omega
 rw[aa G];by_cases q:(al a i).k=34
 ·rw[ab q];obtain⟨g,_⟩:=J3 k q;obtain⟨c,b⟩:=j 0 (by omega);rw[d.at_ i f,agA a (by omega),b.id];have:=h.e c b.lt;have:=Dz a E c;have:=qj a E ((al a i).ks.drop 1) (fun I v=>(h.kid d (ah _) f I (List.mem_of_mem_drop v)).1);simp only[ag];show _+1+_+1+_<=_;omega
 rw[aa q];by_cases r:(al a i).k=35
 ·rw[ab r];unfold acG;have g:=Ga k r;have:=qj a (fun af=>my a E (al a af)) (al a i).ks (fun I v=>by
   obtain⟨o,t,rfl⟩:=qh v;obtain⟨am,u⟩:=j o t;have H:=ad3 _ 0 g o (by omega) (by omega);rw[u.id]at H⊢;exact aec h d (jx u.lt) u.len H)
  rw[d.at_ i f];simp only[ag];show 1+_+1+_<=_;omega
 rw[aa r];by_cases s:(al a i).k=36
 ·rw[ab s];have:=h.bod d L (ah _) f s;simp only[ag];show 2+_+_<=_;omega
 rw[aa s];by_cases A:(al a i).k=37
 ·rw[ab A];obtain⟨g,_,_⟩:=rg k (by omega);obtain⟨c,b⟩:=j 0 (by omega);rw[d.at_ i f,oG a g,b.id,rJ];have:=h.e c b.lt;omega
 rw[aa A];have:=aea (al a i) ad K;rw[d.at_ i f];omega
theorem aau{a:List Nd}{E:Int->ByteArray}{S:Int->Nat->ByteArray}{m:Int->ByteArray->ByteArray}{i tab:Nat}(h:SzE a E S i tab)(d:Szd a)(o:tab<=9000)(f:i<a.length)(u:(al a i).k=7)
  (s:∀(z:Nat)(w:ByteArray),z<i->(al a z).k=7->w.size<=10->(m z w).size+10000<=2000000*sN a z) (p:ByteArray) (I:p.size<=10):(Fi a E S m (al a i) p tab).size+10000<=2000000*sN a i:=by
 have v:=(nE (d.nb i f)).1;have l:=fun x t=>jc (d.nb i f) f x t;obtain⟨C,F,G,H,r⟩:=ahl v u;obtain⟨q,c⟩:=l 0 (by omega);obtain⟨y,b⟩:=l 1 (by omega);have A:=h.e q c.lt;have B:=h.blk d o (jx b.lt) b.len;unfold Fi;rw[c.id,b.id,d.at_ i f];simp only[ag];rcases cA (al a i).ks.length 3 with g|g
 ·rw[ab g,wj a (by omega),c.id,b.id];show _+_+1+_+0+_<=_;omega
 ·rw[aa (by omega),ad9 a (by omega),c.id,b.id];obtain⟨n,e⟩:=l 2 (by omega);rw[e.id]at r⊢;by_cases j:(al a n).k=7
  ·rw[ab j];have:=s n ⟨#[32,101,108,105,102,32]⟩ e.lt j (by show 6<=10;omega);show _+_+1+_+_+_<=_;omega
  ·rw[aa j];have:=h.blk d o (jx e.lt) e.len;rw[ag];show _+_+1+_+(6+_)+_<=_;omega
theorem aee{a:List Nd}{N:Nd}(h:nc a N=R):(nm0 N).size<=4000:=by
 unfold nm0;rw[bm];cases e:N.nm[0]? with
 |none=>show 0<=4000;omega
 |some b=>exact Aq h b (bC e)
theorem aef{a:List Nd}{E:Int->ByteArray}{S:Int->Nat->ByteArray}{C:Int->ByteArray->ByteArray}{i tab:Nat}(h:SzE a E S i tab)(d:Szd a)(r:tab<=9000)(c:i<a.length)
  (ak:(al a i).k=7->(C (-1) ⟨#[105,102,32]⟩).size+10000<=2000000*sN a i):(prS a E S C (al a i) tab).size+10000<=2000000*sN a i:=by
 have g:=(nE (d.nb i c)).1;have o:=fun ao am=>jc (d.nb i c) c ao am;have t:=fun q p=>(h.kid d (ah _) c q p).1;have nm0:=aee g;have ar:=Gb (al a i).nm (Aq g);unfold prS;by_cases G:(al a i).k=1
 ·rw[ab G];have:=h.blk d r (ah _) c;omega
 rw[aa G];by_cases w:(al a i).k=2
 ·rw[ab w,d.at_ i c];obtain⟨f,l⟩:=ad5 g w;have:=qj a E (al a i).ks t;simp only[ag];split
  ·show 4+_+0+_<=_;omega
  ·rw[ag];show 4+_+(3+_)+_<=_;omega
 rw[aa w];by_cases x:(al a i).k=3
 ·rw[ab x,d.at_ i c];obtain⟨f,l,s⟩:=Gc g x;obtain⟨j,b⟩:=o 0 (by omega);rw[oG a f,b.id];have:=h.e j b.lt;simp only[ag];show 6+_+3+_+_<=_;omega
 rw[aa x];by_cases y:(al a i).k=4
 ·rw[ab y,d.at_ i c];obtain⟨f,l,s⟩:=ad6 g y;obtain⟨j,b⟩:=o 0 (by omega);rw[oG a f];rw[b.id]at l⊢;have:=h.bod d r (jx b.lt) b.len l;simp only[ag];show 3+_+_+_<=_;omega
 rw[aa y];by_cases L:(al a i).k=5
 ·rw[ab L,d.at_ i c,Ap a (al a i).ks (al a i).n.toNat];have:=qj a E ((al a i).ks.take (al a i).n.toNat) (fun q p=>t q (tD p));have:=qj a E ((al a i).ks.drop (al a i).n.toNat) (fun q p=>t q (List.mem_of_mem_drop p));simp only[ag];show _+3+_+_<=_;omega
 rw[aa L];by_cases ad:(al a i).k=6
 ·rw[ab ad,d.at_ i c];obtain⟨f,l⟩:=J4 g (by omega);obtain⟨j,b⟩:=o 0 (by omega);rw[oG a f,b.id];have:=h.e j b.lt;omega
 rw[aa ad];by_cases z:(al a i).k=7
 ·rw[ab z];exact ak z
 rw[aa z];by_cases A:(al a i).k=8
 ·rw[ab A,d.at_ i c];obtain⟨f,l,s⟩:=Ge g A;obtain⟨j,b⟩:=o 0 (by omega);obtain⟨F,m⟩:=o 1 (by omega);rw[wj a f,b.id,m.id];have:=h.e j b.lt;have:=h.blk d r (jx m.lt) m.len;simp only[ag];show 6+_+1+_+_<=_;omega
 rw[aa A];by_cases B:(al a i).k=9\/(al a i).k=10
 ·rw[ab B,d.at_ i c];have an:0<(al a i).ks.length/\(al a i).nm.length<=200:=by
   rcases B with e|e
   ·obtain⟨f,l,s,af⟩:=ad7 g e;omega
   ·obtain⟨f,l,s,af⟩:=J5 g e;omega
  obtain⟨F,m⟩:=o ((al a i).ks.length-1) (by omega);rw[agz a an.1,m.id];have:=qj a E ((al a i).ks.take ((al a i).ks.length-1)) (fun q p=>t q (tD p));have:=h.blk d r (jx m.lt) m.len;have ap:(if(al a i).k=9 then(⟨#[32,61,32]⟩:ByteArray) else⟨#[32,105,110,32]⟩).size<=4:=by
   split
   ·show 3<=4;omega
   ·show 4<=4;omega
  simp only[ag];show 4+_+_+_+1+_+_<=_;omega
 rw[aa B];by_cases H:(al a i).k=11
 ·rw[ab H,d.at_ i c];show 5+_<=_;omega
 rw[aa H];by_cases I:(al a i).k=12
 ·rw[ab I,d.at_ i c];show 4+_<=_;omega
 rw[aa I];by_cases J:(al a i).k=13
 ·rw[ab J,d.at_ i c];have:=qj a E (al a i).ks t;simp only[ag];split
  ·show 6+0+_<=_;omega
  ·rw[ag];show 6+(1+_)+_<=_;omega
 rw[aa J];by_cases u:(al a i).k=14
 ·rw[ab u,d.at_ i c];obtain⟨f,l,s,af⟩:=ad8 g u;obtain⟨j,b⟩:=o 0 (by omega);obtain⟨F,m⟩:=o 1 (by omega);rw[wj a f,b.id,m.id];have:=h.blk d r (jx b.lt) b.len;have:=h.blk d r (jx m.lt) m.len;simp only[ag];show 4+_+7+_+1+_+_<=_;omega
 rw[aa u];by_cases v:(al a i).k=15
 ·rw[ab v,d.at_ i c];obtain⟨f,l⟩:=Gf g v;obtain⟨j,b⟩:=o 0 (by omega);rw[oG a f,b.id];have:=h.e j b.lt;simp only[ag];show 6+_+_<=_;omega
 rw[aa v];by_cases K:(al a i).k=16
 ·rw[ab K,d.at_ i c];obtain⟨f,l⟩:=J4 g (by omega);obtain⟨j,b⟩:=o 0 (by omega);rw[oG a f,b.id];have:=h.e j b.lt;simp only[ag];show 6+_+_<=_;omega
 rw[aa K,d.at_ i c];show 0+_<=_;omega
theorem J7{a:List Nd}(d:Szd a)(p:∀i:Int,(al a i).n<=9223372036854775807):∀(f i tab:Nat),i<a.length->tab+f<=8000->
  (AD a f i tab).size+10000<=2000000*sN a i/\(uB a f i tab).size+10000<=2000000*sN a i/\((al a i).k=7->∀w:ByteArray,w.size<=10->(Be a f i w tab).size+10000<=2000000*sN a i)
 |0,i,tab,h,r=>by
  have:=d.at_ i h;refine⟨?_,?_,fun _ w _=>?_⟩;all_goals (first|(rw[AD];show 0+_<=_;omega)|(rw[uB];show 0+_<=_;omega)|(rw[Be];show 0+_<=_;omega))
 |f+1,i,tab,h,r=>by
  have l:=fun (b g:Nat) (e:b<i) (q:g+f<=8000)=>J7 d p f b g (by omega) q;have m:SzE a (fun k=>AD a f k tab) (fun k g=>uB a f k g) i tab:=⟨fun b e=>(l b tab e (by omega)).1,fun b e=>(l b (tab+1) e (by omega)).2.1⟩;have o:(al a i).k=7->∀w:ByteArray,w.size<=10->(Fi a (fun k=>AD a f k tab) (fun k g=>uB a f k g) (fun k w=>Be a f k w tab) (al a i) w tab).size+10000<=2000000*sN a i:=fun c w j=>
   aau m d (by omega) h c (fun b w e c j=>(l b tab e (by omega)).2.2 c w j) w j
  refine⟨?_,?_,?_⟩
  ·rw[AD];exact aed m d (by omega) h (p _)
  ·rw[uB];exact aef m d (by omega) h (fun c=>o c _ (by show 3<=10;omega))
  ·intro c w j;rw[Be];exact o c w j
theorem It{a:List Nd}(d:Szd a)(k:∀i:Int,(al a i).n<=9223372036854775807)(t:a.length<=3000)(p:0<a.length):(mL a).size<=6000000000:=by
 unfold mL;rw[Cj,List.map_map];have f:((a.length:Int)-1)=((a.length-1:Nat):Int):=by omega
 rw[f];have j:∀b∈(al a ((a.length-1:Nat):Int)).ks,(uB a a.length b 0).size+10000<=2000000*sN a b:=by
  intro b e;obtain⟨l,h,rfl⟩:=qh e;obtain⟨o,c⟩:=jc (d.nb _ (by omega)) (by omega) l h;rw[c.id];exact(J7 d k a.length o 0 c.len (by omega)).2.1
 have q:=Is a (fun b=>(uB a a.length b 0).size) 1 _ j (by omega);have r:=d.at_ (a.length-1) (by omega);have s:=d.le ((a.length-1:Nat):Int);have g:((al a ((a.length-1:Nat):Int)).ks.map (ByteArray.size ∘ fun m=>uB a a.length m 0++⟨#[10]⟩))=(al a ((a.length-1:Nat):Int)).ks.map fun b=>(uB a a.length b 0).size+1:=by
  apply List.map_congr_left;intro b e;simp only[Function.comp];rw[ag];rfl
 rw[g];omega
structure oH (w:World) (v:Value) (N:Nd) (vn vk:Value) (W:World):Prop where
 tb:W.cell? ⟨w.heap.size,0,A0⟩=T v
 bx:de (w.heap.size+1) W 35 N vn vk
 bl:Below w.heap.size w W
theorem oH.below{w:World}{v:Value}{N:Nd}{vn vk:Value}{a c:World}(h:oH w v N vn vk a)(b:Below a.heap.size a c):oH w v N vn vk c:=
 ⟨cell_kept b h.tb,h.bx.below b,h.bl.trans (b.mono h.bl.size)⟩
theorem oH.belowB{w:World}{v:Value}{N:Nd}{vn vk:Value}{b c:World}(h:oH w v N vn vk b)(a:Below (w.heap.size+1+1) b c):oH w v N vn vk c:=
 ⟨(gF a (show w.heap.size<_ by omega)).trans h.tb,(a.block _ (by omega)).trans h.bx,h.bl.trans (a.mono (by omega))⟩
def OkO(e:List Nd)(d:Nat):Prop:=∀(c:Nat)(a:World)(g:Value)(f:ByteArray)(b:Int),c<d->c<e.length->cg a g e->0<=b->b+d<=100000->
 Calls Tryz.prog 19 #[.agg #[g],O Q (c:Int),V f,O Q b] a fun j i=>∃h,j= .returned h/\ez a.heap.size i h (cG e d c f b)/\Below a.heap.size a i
theorem DA(d:List Nd)(hF:(cF d).1=0)(g5:∀(i:Nat) N,d[i]?=T N->N.k=4->1<=N.nm.length)(b:Nat)(g8:OkO d b):OkO d (b+1):=by
 intro i f h5 cl bb hL fe c7 hH hI;obtain⟨hE,v,rfl⟩:=c7.form;obtain⟨s,ep⟩:=aA d.length;rw[ep]at c7 fe⊢;obtain⟨N,c1⟩:=bj ep fe;have g1:=J1 hF;have es:=lC hF;have hm:=yI hF;have hD:=es.len;obtain⟨u,rfl,h7,h6,hv⟩:=c7.get c1;obtain⟨f9,gb,gd,ge,gf,gm,gr,e8,e9,eq,eo⟩:=hv;obtain⟨G,A,rfl⟩:=eq.form;obtain⟨a9,z,rfl⟩:=eo.form;have hC:=es.kn N (bC c1);have g0:=es.kid i N c1;have g4:=g5 i N c1;obtain⟨eg,em⟩:=aA (cG d (b+1) i cl bb);have ef:Hid (eg=nD N i cl bb++N.ks.flatMap fun k=>cG d b k.toNat (jb N) (xB N bb)):=by show _=_;rw[<-em,cG,uI c1]
 have f5:Hid (eg.length<=3000):=by
  have:=g1 (b+1) i cl bb (by omega);have:=hm.le i;show _<=_;rw[em]at *;omega
 rw[em];clear em;obtain⟨y,el⟩:=aA N.nm.length;obtain⟨r,fa⟩:=aA N.ks.length;rw[el]at eq e8 g4;rw[fa]at eo e9 hC;have a1:=akm c7 eq eo el fa g0 ep g8;have bd:∀p,Below f.heap.size f (f.alloc p):=fun p=>(aj _ f).alloc (ah _) p;have b0:=fun p=>(⟨cell_kept (bd p) f9,cell_kept (bd p) gb,cell_kept (bd p) gd,cell_kept (bd p) ge,cell_kept (bd p) gf,cell_kept (bd p) gm,cell_kept (bd p) gr,cell_kept (bd p) e8,cell_kept (bd p) e9⟩:_/\_/\_/\_/\_/\_/\_/\_/\_);have hJ:(0:Int)<=(i:Int):=by omega
 have hK:(i:Int)<(s:Int):=by omega
 have fv:=fun p=>(b0 p).1;have fz:=fun p=>(b0 p).2.1;have fA:=fun p=>(b0 p).2.2.1;have fB:=fun p=>(b0 p).2.2.2.1;have f0:=fun p=>(b0 p).2.2.2.2.1;have f1:=fun p=>(b0 p).2.2.2.2.2.1;have f2:=fun p=>(b0 p).2.2.2.2.2.2.1;have f3:=fun p=>(b0 p).2.2.2.2.2.2.2.1;have f4:=fun p=>(b0 p).2.2.2.2.2.2.2.2;clear c7 c1 g1 es hm hD eq eo g5 ep g8 f9 gb gd ge gf gm gr e8 e9 b0 el fa g0 fe;by_cases ca:N.k=36
 ·have fq:(N.k==36)=R:=by rw[gn];exact ca
  have g9:(N.k==4)=X:=by rw[bg];omega
  obtain⟨a,cq⟩:=aA (xB N bb);obtain⟨c,c2⟩:=aA (jb N);have g6:c=pL:=by rw[<-c2];unfold jb;rw[aa (by omega)]
  obtain⟨w,cp⟩:=aA (nD N i cl bb);have c9:w=[⟨cl,N.l,bb,(i:Int)⟩]:=by rw[<-cp];unfold nD;rw[ab ca]
  have dk:a=bb+1:=by rw[<-cq];unfold xB;rw[ab ca]
  have a3:=gD cp c2 cq;have fg:0<=a:=by omega
  have fk:a+b<=100000:=by omega
  have eb:=gD g6 c9 dk;clear ca cq c2 cp c9 g6;have hl:∀p,oH f (M (T u) s v) N (M G y A) (M a9 r z) (((f.alloc (U #[M (T u) s v] 25)).alloc (U #[O Q N.k,O Q N.f,O Q N.t,O Q N.l,O Q N.op,O Q N.n,V N.x,M G y A,M a9 r z] 35)).alloc p):=fun p=>by
   have cy:=aw f (U #[M (T u) s v] 25);have cu:(f.alloc (U #[M (T u) s v] 25)).heap.size=f.heap.size+1:=ba _ _;have cB:=bd (U #[M (T u) s v] 25);generalize f.alloc (U #[M (T u) s v] 25)=a4 at cy cu cB⊢;have b5:=aw a4 (U #[O Q N.k,O Q N.f,O Q N.t,O Q N.l,O Q N.op,O Q N.n,V N.x,M G y A,M a9 r z] 35);have b8:Below a4.heap.size a4 (a4.alloc (U #[O Q N.k,O Q N.f,O Q N.t,O Q N.l,O Q N.op,O Q N.n,V N.x,M G y A,M a9 r z] 35)):=(aj _ a4).alloc (ah _) _;rw[cu]at b5;generalize a4.alloc (U #[O Q N.k,O Q N.f,O Q N.t,O Q N.l,O Q N.op,O Q N.n,V N.x,M G y A,M a9 r z] 35)=c6 at b5 b8⊢;exact oH.below ⟨ch ((b8.block _ (by omega)).trans cy),b5,cB.trans (b8.mono (by omega))⟩ ((aj _ c6).alloc (ah _) p)
  go_in;go_wp2_with (at_builtin;refine rI rfl _ _ rfl (f.heap.size+1+1) (M A0 0 0) [] rfl (ez.nil _ _) (by simp) ⟨_,0,A0⟩ 1 ⟨cl,N.l,bb,(i:Int)⟩ rfl (uz _ _ (by simp) ⟨cl,N.l,bb,(i:Int)⟩) (by simp) 1 rfl ?_;intro hq hs fu g7 fc hu;have fr:=(hl _).belowB (ez.grown (ez.nil _ _) (by simp) fc);have c3:=(au fr.bx).2.2.2.2.2.2.2.2.1);have ho:=(ez.grown (base:=f.heap.size+1+1) (ez.nil _ _) (by simp) fc).size;have cm:Hid (oH f (M (T u) s v) N (M G y A) (M a9 r z) fu/\ez (f.heap.size+1+1) fu (M hq 1 hs) w/\f.heap.size+1+1<=fu.heap.size):=⟨fr,by rw[eb.out.2.1];exact g7,by simp at ho;omega⟩;rw[<-dk];clear dk hl fr g7 fc hu c3 ho fv fz fA fB f0 f1 f2 f3 f4 bd fq;go_loopw [10,40] (fun a0 K wr=>∃k:Nat,k<=r/\K= O Q k/\(∃H I,∃J:Nat,a0= M H J I)/\Hid (oH f (M (T u) s v) N (M G y A) (M a9 r z) wr/\ez (f.heap.size+1+1) wr a0 (w++(N.ks.take k).flatMap fun k=>cG d b k.toNat c a)/\f.heap.size+1+1<=wr.heap.size)) (fun _ K _=>r-(intOf K).toNat)
  case atStart=>exact⟨0,by omega,rfl,⟨_,_,_,rfl⟩,cm.out.1,by rw[iG,List.flatMap_nil,dA];exact cm.out.2.1,cm.out.2.2⟩
  case round=>
   obtain⟨k,hw,rfl,⟨H,I,J,rfl⟩,q⟩:=hrel;by_cases ff:k<r
   ·obtain⟨cx,b3⟩:=bj a1.out.2.2.2.2.1 ff;have fo:=a1.out.2.2.2.2.2.1 cx (bC b3);obtain⟨m,rfl⟩:∃m:Nat,cx=(m:Int):=⟨cx.toNat,by omega⟩;obtain⟨bF,rfl,ei⟩:=(a1.out.2.2.1.below q.out.1.bl).get b3;have b2:Hid ((N.ks.take (k+1)).flatMap (fun k=>cG d b k.toNat c a)=((N.ks.take k).flatMap fun k=>cG d b k.toNat c a)++cG d b m c a):=by
     show _=_;rw[dG,b3,mj];simp
    have ec:Hid ((w++(((N.ks.take k).flatMap fun k=>cG d b k.toNat c a)++cG d b m c a)).length<=3000):=by
     have E:=f5.out;rw[ef.out,a3.out.1,a3.out.2.1,a3.out.2.2]at E;have c0:N.ks.flatMap (fun k=>cG d b k.toNat c a)=(N.ks.take (k+1)).flatMap (fun k=>cG d b k.toNat c a)++(N.ks.drop (k+1)).flatMap (fun k=>cG d b k.toNat c a):=by rw[<-mj,py]
     rw[c0,b2.out]at E;show _<=_;simp only[aC]at E⊢;omega
    have hB:(k:Int)<(r:Int):=by omega
    have hy:(0:Int)<=(k:Int):=by omega
    have ct:=a1.out.2.2.2.2.2.2.2 m wr (M (T u) s v) c a (by omega) (by rw[a1.out.2.2.2.2.2.2.1];omega) (a1.out.1.below q.out.1.bl) fg fk;obtain⟨ev,ex,eF,e0,e1,e2,e3,e4,c3,e6⟩:=au q.out.1.bx;have e5:=q.out.1.tb;clear b3 fo;have cs:c=pL:=eb.out.1;have b4:=ct;rw[cs]at b4;unfold pL at b4;go_wp2_with fail;refine b4.mono ?_;rintro e L ⟨et,rfl,d9,am⟩;have bA:ez wr.heap.size L et (cG d b m c a):=by rw[cs];exact d9
    clear d9 b4 ct ev ex eF e0 e1 e2 e3 e4 c3 e6 e5 ei;obtain⟨o,bt⟩:=aA ((cG d b m c a).length);obtain⟨a5,a6,rfl⟩:=bA.formn bt;obtain⟨F,cf⟩:∃F,F=wr:=⟨wr,rfl⟩;have h:Hid (ez F.heap.size L (M a5 o a6) (cG d b m c a)/\(cG d b m c a).length=o/\oH f (M (T u) s v) N (M G y A) (M (T bF) r z) L/\ez (f.heap.size+1+1) L (M H J I) (w++(N.ks.take k).flatMap fun k=>cG d b k.toNat c a)/\f.heap.size+1+1<=L.heap.size/\(∀j,(Y H J I).ownBlock=T j->j<F.heap.size)/\F.heap.size<=L.heap.size/\(w++(N.ks.take (k+1)).flatMap fun k=>cG d b k.toNat c a).length<=3000/\(N.ks.take (k+1)).flatMap (fun k=>cG d b k.toNat c a)=((N.ks.take k).flatMap fun k=>cG d b k.toNat c a)++cG d b m c a):=by
     rw[cf];refine⟨bA,bt,q.out.1.below am,q.out.2.1.below am,bz q.out.2.2 am.size,fun j ao=>(q.out.2.1.lt j ao).2,am.size,?_,?_⟩
     ·rw[b2.out];have:=ec.out;exact this
     ·exact b2.out
    have g3:o<=3000:=by
     have af:=h.out.2.2.2.2.2.2.2.1;rw[h.out.2.2.2.2.2.2.2.2]at af;simp only[aC]at af;have:=h.out.2.1;omega
    clear bA bt am q cf;go_wp2_with fail;go_loopw [10,57] (fun a0 K wq=>∃n:Nat,n<=o/\K= O Q n/\(∃H I,∃J:Nat,a0= M H J I)/\Hid (ez F.heap.size wq (M a5 o a6) (cG d b m c a)/\oH f (M (T u) s v) N (M G y A) (M (T bF) r z) wq/\ez (f.heap.size+1+1) wq a0 (w++((N.ks.take k).flatMap fun k=>cG d b k.toNat c a)++(cG d b m c a).take n)/\f.heap.size+1+1<=wq.heap.size/\(∀j,a0.ownBlock=T j->(Y a5 o a6).ownBlock≠T j)/\(∀j,(Y a5 o a6).ownBlock=T j->j<wq.heap.size))) (fun _ K _=>o-(intOf K).toNat)
    case atStart=>
     refine⟨0,by omega,rfl,⟨_,_,_,rfl⟩,h.out.1,h.out.2.2.1,by rw[iG,dA];exact h.out.2.2.2.1,h.out.2.2.2.2.1,fun j ao dz=>?_,fun j ao=>(h.out.1.lt j ao).2⟩;have E:=h.out.2.2.2.2.2.1 j ao;have c0:=(h.out.1.lt j dz).1;omega
    case round=>
     obtain⟨n,gu,rfl,⟨bf,bn,ap,rfl⟩,g⟩:=hrel;by_cases dn:n<o
     ·obtain⟨e,bp⟩:=bj h.out.2.1 dn;obtain⟨j,rfl, -,ha,hb,hc,hf,gt⟩:=g.out.1.get bp;have gz:(n:Int)<(o:Int):=by omega
      have gv:(0:Int)<=(n:Int):=by omega
      have c5:Hid ((cG d b m c a).take (n+1)=(cG d b m c a).take n++[e]):=by show _=_;rw[dG,bp];rfl
      have bs:=(g.out.2.2.1).form;obtain⟨ad,a7⟩:∃ad,w++((N.ks.take k).flatMap fun k=>cG d b k.toNat c a)++(cG d b m c a).take n=ad:=⟨_,rfl⟩;have gs:ad.length<=3000:=by
       have af:=h.out.2.2.2.2.2.2.2.1;rw[h.out.2.2.2.2.2.2.2.2]at af;rw[<-a7];simp only[aC,eJ]at af⊢;omega
      rw[a7]at g bs;have ce:ap=ad.length:=by obtain⟨_,_,e⟩:=bs;cases e;rfl
      have b7:=dx a7 ce;have B:∀bD bE,Below wr.heap.size wr ((wr.alloc bD).alloc bE):=fun bD bE=>((aj _ wr).alloc (ah _) bD).alloc (by simp) bE;clear bp a7 bs ce;go_wp2_with (at_builtin;refine rI rfl _ _ rfl (f.heap.size+1+1) (M bf ap bn) ad rfl (g.out.2.2.1.below (B _ _)) (bz g.out.2.2.2.1 (B _ _).size) ⟨_,0,A0⟩ 1 e rfl (uz _ _ (ba _ _) e) (by omega) (ap+1) (by rw[b7.out.2]) ?_;intro f6 f8 hp ds cc df);have b9:=(g.out.2.2.1.below (B (U #[V e.nm,O Q e.ln,O Q e.dp,O Q e.nd] 37) (U #[V e.nm,O Q e.ln,O Q e.dp,O Q e.nd] 37))).grown (bz g.out.2.2.2.1 (B _ _).size) cc;have ea:((wr.alloc (U #[V e.nm,O Q e.ln,O Q e.dp,O Q e.nd] 37)).alloc (U #[V e.nm,O Q e.ln,O Q e.dp,O Q e.nd] 37)).heap.size=wr.heap.size+1+1:=by simp
      have hi:=b9.size;go_roundw
      case measure=>simp[intOf];omega
      case rel=>
       refine⟨n+1,by omega,by go_num,⟨_,_,_,rfl⟩,?_,(g.out.2.1.below (B _ _)).belowB b9,by rw[c5.out,<-cI,b7.out.1];exact ds,by have:=g.out.2.2.2.1;omega,?_,?_⟩
       ·have E:=g.out.1.below (B (U #[V e.nm,O Q e.ln,O Q e.dp,O Q e.nd] 37) (U #[V e.nm,O Q e.ln,O Q e.dp,O Q e.nd] 37));refine yq E cc (.inr fun e=>?_);cases hx:(Y bf ap bn).ownBlock with
        |none=>rw[hx]at e;simp[Ax]at e
        |some C=>exact g.out.2.2.2.2.1 C hx (e.trans hx)
       ·intro C br a8;have c8:=g.out.2.2.2.2.2 C a8;rcases df with e|e
        ·exact g.out.2.2.2.2.1 C (e.symm.trans br) a8
        ·rw[e,ea]at br;simp at br;omega
       ·intro C a8;have c8:=g.out.2.2.2.2.2 C a8;omega
     ·obtain rfl:n=o:=by omega
      have cb:(cG d b m c a).take n=cG d b m c a:=cw (by rw[h.out.2.1];exact ah _);rw[cb]at g;have c4:Hid (oH f (M (T u) s v) N (M G y A) (M (T bF) r z) wr/\ez (f.heap.size+1+1) wr (M bf ap bn) (w++(N.ks.take (k+1)).flatMap fun k=>cG d b k.toNat c a)/\f.heap.size+1+1<=wr.heap.size):=⟨g.out.2.1,by rw[h.out.2.2.2.2.2.2.2.2,<-cI];exact g.out.2.2.1,g.out.2.2.2.1⟩;clear cb g h;go_wp2_with fail;go_roundw
      case measure=>simp[intOf];omega
      case rel=>exact⟨k+1,by omega,by go_num,⟨_,_,_,rfl⟩,c4⟩
   ·obtain rfl:k=r:=by omega
    rw[cw (by rw[a1.out.2.2.2.2.1];exact ah _)]at q;have fb:ez f.heap.size wr (M H J I) eg:=by
     have E:=q.out.2.1;rw[ef.out,a3.out.1,a3.out.2.1,a3.out.2.2];exact E.le (by omega)
    have e7:=q.out.1.bl;clear q;go_wp2_with fail;go_ret;exact⟨_,rfl,fb,e7⟩
 ·have fq:(N.k==36)=X:=by rw[bg];exact ca
  obtain⟨a,cq⟩:=aA (xB N bb);obtain⟨c,c2⟩:=aA (jb N);obtain⟨w,cp⟩:=aA (nD N i cl bb);have c9:w=[]:=by rw[<-cp];unfold nD;rw[aa ca]
  have dk:a=bb:=by rw[<-cq];unfold xB;rw[aa ca]
  have a3:=gD cp c2 cq;have fg:0<=a:=by omega
  have fk:a+b<=100000:=by omega
  have eb:=aq c9;clear ca cq c2 cp c9;subst dk;go_in;go_wp2_with fail;have cy:=aw f (U #[M (T u) s v] 25);have cu:(f.alloc (U #[M (T u) s v] 25)).heap.size=f.heap.size+1:=ba _ _;have cB:=bd (U #[M (T u) s v] 25);generalize f.alloc (U #[M (T u) s v] 25)=a4 at cy cu cB⊢;have b5:=aw a4 (U #[O Q N.k,O Q N.f,O Q N.t,O Q N.l,O Q N.op,O Q N.n,V N.x,M G y A,M a9 r z] 35);have b8:Below a4.heap.size a4 (a4.alloc (U #[O Q N.k,O Q N.f,O Q N.t,O Q N.l,O Q N.op,O Q N.n,V N.x,M G y A,M a9 r z] 35)):=(aj _ a4).alloc (ah _) _;have hh:(a4.alloc (U #[O Q N.k,O Q N.f,O Q N.t,O Q N.l,O Q N.op,O Q N.n,V N.x,M G y A,M a9 r z] 35)).heap.size=f.heap.size+1+1:=by rw[ba,cu]
  rw[cu]at b5;generalize a4.alloc (U #[O Q N.k,O Q N.f,O Q N.t,O Q N.l,O Q N.op,O Q N.n,V N.x,M G y A,M a9 r z] 35)=c6 at b5 b8 hh⊢;have cm:Hid (oH f (M (T u) s v) N (M G y A) (M a9 r z) c6/\ez (f.heap.size+1+1) c6 (M A0 0 0) w/\f.heap.size+1+1<=c6.heap.size):=⟨⟨ch ((b8.block _ (by omega)).trans cy),b5,cB.trans (b8.mono (by omega))⟩,by rw[eb.out];exact ez.nil _ _,by omega⟩;clear cy cu cB b5 b8 hh fv fz fA fB f0 f1 f2 f3 f4 bd fq;go_loopw [10,40] (fun a0 K wr=>∃k:Nat,k<=r/\K= O Q k/\(∃H I,∃J:Nat,a0= M H J I)/\Hid (oH f (M (T u) s v) N (M G y A) (M a9 r z) wr/\ez (f.heap.size+1+1) wr a0 (w++(N.ks.take k).flatMap fun k=>cG d b k.toNat c a)/\f.heap.size+1+1<=wr.heap.size)) (fun _ K _=>r-(intOf K).toNat)
  case atStart=>exact⟨0,by omega,rfl,⟨_,_,_,rfl⟩,cm.out.1,by rw[iG,List.flatMap_nil,dA];exact cm.out.2.1,cm.out.2.2⟩
  case round=>
   obtain⟨k,hw,rfl,⟨H,I,J,rfl⟩,q⟩:=hrel;by_cases ff:k<r
   ·obtain⟨cx,b3⟩:=bj a1.out.2.2.2.2.1 ff;have fo:=a1.out.2.2.2.2.2.1 cx (bC b3);obtain⟨m,rfl⟩:∃m:Nat,cx=(m:Int):=⟨cx.toNat,by omega⟩;obtain⟨bF,rfl,ei⟩:=(a1.out.2.2.1.below q.out.1.bl).get b3;have b2:Hid ((N.ks.take (k+1)).flatMap (fun k=>cG d b k.toNat c a)=((N.ks.take k).flatMap fun k=>cG d b k.toNat c a)++cG d b m c a):=by
     show _=_;rw[dG,b3,mj];simp
    have ec:Hid ((w++(((N.ks.take k).flatMap fun k=>cG d b k.toNat c a)++cG d b m c a)).length<=3000):=by
     have E:=f5.out;rw[ef.out,a3.out.1,a3.out.2.1,a3.out.2.2]at E;have c0:N.ks.flatMap (fun k=>cG d b k.toNat c a)=(N.ks.take (k+1)).flatMap (fun k=>cG d b k.toNat c a)++(N.ks.drop (k+1)).flatMap (fun k=>cG d b k.toNat c a):=by rw[<-mj,py]
     rw[c0,b2.out]at E;show _<=_;simp only[aC]at E⊢;omega
    have hB:(k:Int)<(r:Int):=by omega
    have hy:(0:Int)<=(k:Int):=by omega
    have ct:=a1.out.2.2.2.2.2.2.2 m wr (M (T u) s v) c a (by omega) (by rw[a1.out.2.2.2.2.2.2.1];omega) (a1.out.1.below q.out.1.bl) fg fk;obtain⟨ev,ex,eF,e0,e1,e2,e3,e4,c3,e6⟩:=au q.out.1.bx;have e5:=q.out.1.tb;clear b3 fo;by_cases co:N.k=4
    ·have g9:(N.k==4)=R:=by rw[gn];exact co
     have el:=g4 co;obtain⟨s0,fn⟩:=bj a1.out.2.2.2.1 (show 0<y by omega);obtain⟨eh,ht,f7⟩:=(a1.out.2.1.below q.out.1.bl).get fn;subst ht;have hG:wr.cell? eh=T (V s0):=by simpa [Addr.add] using f7
     have cs:c=s0:=by rw[<-a3.out.2.1];unfold jb;rw[ab co,bm,fn];rfl
     have h0:(0:Int)<(y:Int):=by omega
     subst cs;clear co fn f7;go_wp2_with fail;refine ct.mono ?_;rintro e L ⟨et,rfl,bA,am⟩;clear ct ev ex eF e0 e1 e2 e3 e4 c3 e6 e5 ei;obtain⟨o,bt⟩:=aA ((cG d b m c a).length);obtain⟨a5,a6,rfl⟩:=bA.formn bt;obtain⟨F,cf⟩:∃F,F=wr:=⟨wr,rfl⟩;have h:Hid (ez F.heap.size L (M a5 o a6) (cG d b m c a)/\(cG d b m c a).length=o/\oH f (M (T u) s v) N (M (T eh) y A) (M (T bF) r z) L/\ez (f.heap.size+1+1) L (M H J I) (w++(N.ks.take k).flatMap fun k=>cG d b k.toNat c a)/\f.heap.size+1+1<=L.heap.size/\(∀j,(Y H J I).ownBlock=T j->j<F.heap.size)/\F.heap.size<=L.heap.size/\(w++(N.ks.take (k+1)).flatMap fun k=>cG d b k.toNat c a).length<=3000/\(N.ks.take (k+1)).flatMap (fun k=>cG d b k.toNat c a)=((N.ks.take k).flatMap fun k=>cG d b k.toNat c a)++cG d b m c a):=by
      rw[cf];refine⟨bA,bt,q.out.1.below am,q.out.2.1.below am,bz q.out.2.2 am.size,fun j ao=>(q.out.2.1.lt j ao).2,am.size,?_,?_⟩
      ·rw[b2.out];have:=ec.out;exact this
      ·exact b2.out
     have g3:o<=3000:=by
      have af:=h.out.2.2.2.2.2.2.2.1;rw[h.out.2.2.2.2.2.2.2.2]at af;simp only[aC]at af;have:=h.out.2.1;omega
     clear bA bt am q cf;go_wp2_with fail;go_loopw [10,57] (fun a0 K wq=>∃n:Nat,n<=o/\K= O Q n/\(∃H I,∃J:Nat,a0= M H J I)/\Hid (ez F.heap.size wq (M a5 o a6) (cG d b m c a)/\oH f (M (T u) s v) N (M (T eh) y A) (M (T bF) r z) wq/\ez (f.heap.size+1+1) wq a0 (w++((N.ks.take k).flatMap fun k=>cG d b k.toNat c a)++(cG d b m c a).take n)/\f.heap.size+1+1<=wq.heap.size/\(∀j,a0.ownBlock=T j->(Y a5 o a6).ownBlock≠T j)/\(∀j,(Y a5 o a6).ownBlock=T j->j<wq.heap.size))) (fun _ K _=>o-(intOf K).toNat)
     case atStart=>
      refine⟨0,by omega,rfl,⟨_,_,_,rfl⟩,h.out.1,h.out.2.2.1,by rw[iG,dA];exact h.out.2.2.2.1,h.out.2.2.2.2.1,fun j ao dz=>?_,fun j ao=>(h.out.1.lt j ao).2⟩;have E:=h.out.2.2.2.2.2.1 j ao;have c0:=(h.out.1.lt j dz).1;omega
     case round=>
      obtain⟨n,gu,rfl,⟨bf,bn,ap,rfl⟩,g⟩:=hrel;by_cases dn:n<o
      ·obtain⟨e,bp⟩:=bj h.out.2.1 dn;obtain⟨j,rfl, -,ha,hb,hc,hf,gt⟩:=g.out.1.get bp;have gz:(n:Int)<(o:Int):=by omega
       have gv:(0:Int)<=(n:Int):=by omega
       have c5:Hid ((cG d b m c a).take (n+1)=(cG d b m c a).take n++[e]):=by show _=_;rw[dG,bp];rfl
       have bs:=(g.out.2.2.1).form;obtain⟨ad,a7⟩:∃ad,w++((N.ks.take k).flatMap fun k=>cG d b k.toNat c a)++(cG d b m c a).take n=ad:=⟨_,rfl⟩;have gs:ad.length<=3000:=by
        have af:=h.out.2.2.2.2.2.2.2.1;rw[h.out.2.2.2.2.2.2.2.2]at af;rw[<-a7];simp only[aC,eJ]at af⊢;omega
       rw[a7]at g bs;have ce:ap=ad.length:=by obtain⟨_,_,e⟩:=bs;cases e;rfl
       have b7:=dx a7 ce;have B:∀bD bE,Below wr.heap.size wr ((wr.alloc bD).alloc bE):=fun bD bE=>((aj _ wr).alloc (ah _) bD).alloc (by simp) bE;clear bp a7 bs ce;go_wp2_with (at_builtin;refine rI rfl _ _ rfl (f.heap.size+1+1) (M bf ap bn) ad rfl (g.out.2.2.1.below (B _ _)) (bz g.out.2.2.2.1 (B _ _).size) ⟨_,0,A0⟩ 1 e rfl (uz _ _ (ba _ _) e) (by omega) (ap+1) (by rw[b7.out.2]) ?_;intro f6 f8 hp ds cc df);have b9:=(g.out.2.2.1.below (B (U #[V e.nm,O Q e.ln,O Q e.dp,O Q e.nd] 37) (U #[V e.nm,O Q e.ln,O Q e.dp,O Q e.nd] 37))).grown (bz g.out.2.2.2.1 (B _ _).size) cc;have ea:((wr.alloc (U #[V e.nm,O Q e.ln,O Q e.dp,O Q e.nd] 37)).alloc (U #[V e.nm,O Q e.ln,O Q e.dp,O Q e.nd] 37)).heap.size=wr.heap.size+1+1:=by simp
       have hi:=b9.size;go_roundw
       case measure=>simp[intOf];omega
       case rel=>
        refine⟨n+1,by omega,by go_num,⟨_,_,_,rfl⟩,?_,(g.out.2.1.below (B _ _)).belowB b9,by rw[c5.out,<-cI,b7.out.1];exact ds,by have:=g.out.2.2.2.1;omega,?_,?_⟩
        ·have E:=g.out.1.below (B (U #[V e.nm,O Q e.ln,O Q e.dp,O Q e.nd] 37) (U #[V e.nm,O Q e.ln,O Q e.dp,O Q e.nd] 37));refine yq E cc (.inr fun e=>?_);cases hx:(Y bf ap bn).ownBlock with
         |none=>rw[hx]at e;simp[Ax]at e
         |some C=>exact g.out.2.2.2.2.1 C hx (e.trans hx)
        ·intro C br a8;have c8:=g.out.2.2.2.2.2 C a8;rcases df with e|e
         ·exact g.out.2.2.2.2.1 C (e.symm.trans br) a8
         ·rw[e,ea]at br;simp at br;omega
        ·intro C a8;have c8:=g.out.2.2.2.2.2 C a8;omega
      ·obtain rfl:n=o:=by omega
       have cb:(cG d b m c a).take n=cG d b m c a:=cw (by rw[h.out.2.1];exact ah _);rw[cb]at g;have c4:Hid (oH f (M (T u) s v) N (M (T eh) y A) (M (T bF) r z) wr/\ez (f.heap.size+1+1) wr (M bf ap bn) (w++(N.ks.take (k+1)).flatMap fun k=>cG d b k.toNat c a)/\f.heap.size+1+1<=wr.heap.size):=⟨g.out.2.1,by rw[h.out.2.2.2.2.2.2.2.2,<-cI];exact g.out.2.2.1,g.out.2.2.2.1⟩;clear cb g h;go_wp2_with fail;go_roundw
       case measure=>simp[intOf];omega
       case rel=>exact⟨k+1,by omega,by go_num,⟨_,_,_,rfl⟩,c4⟩
    ·have g9:(N.k==4)=X:=by rw[bg];exact co
     have cs:c=pL:=by rw[<-a3.out.2.1];unfold jb;rw[aa co]
     have b4:=ct;rw[cs]at b4;clear co;unfold pL at b4;go_wp2_with fail;refine b4.mono ?_;rintro e L ⟨et,rfl,d9,am⟩;have bA:ez wr.heap.size L et (cG d b m c a):=by rw[cs];exact d9
     clear d9 b4 ct ev ex eF e0 e1 e2 e3 e4 c3 e6 e5 ei;obtain⟨o,bt⟩:=aA ((cG d b m c a).length);obtain⟨a5,a6,rfl⟩:=bA.formn bt;obtain⟨F,cf⟩:∃F,F=wr:=⟨wr,rfl⟩;have h:Hid (ez F.heap.size L (M a5 o a6) (cG d b m c a)/\(cG d b m c a).length=o/\oH f (M (T u) s v) N (M G y A) (M (T bF) r z) L/\ez (f.heap.size+1+1) L (M H J I) (w++(N.ks.take k).flatMap fun k=>cG d b k.toNat c a)/\f.heap.size+1+1<=L.heap.size/\(∀j,(Y H J I).ownBlock=T j->j<F.heap.size)/\F.heap.size<=L.heap.size/\(w++(N.ks.take (k+1)).flatMap fun k=>cG d b k.toNat c a).length<=3000/\(N.ks.take (k+1)).flatMap (fun k=>cG d b k.toNat c a)=((N.ks.take k).flatMap fun k=>cG d b k.toNat c a)++cG d b m c a):=by
      rw[cf];refine⟨bA,bt,q.out.1.below am,q.out.2.1.below am,bz q.out.2.2 am.size,fun j ao=>(q.out.2.1.lt j ao).2,am.size,?_,?_⟩
      ·rw[b2.out];have:=ec.out;exact this
      ·exact b2.out
     have g3:o<=3000:=by
      have af:=h.out.2.2.2.2.2.2.2.1;rw[h.out.2.2.2.2.2.2.2.2]at af;simp only[aC]at af;have:=h.out.2.1;omega
     clear bA bt am q cf;go_wp2_with fail;go_loopw [10,57] (fun a0 K wq=>∃n:Nat,n<=o/\K= O Q n/\(∃H I,∃J:Nat,a0= M H J I)/\Hid (ez F.heap.size wq (M a5 o a6) (cG d b m c a)/\oH f (M (T u) s v) N (M G y A) (M (T bF) r z) wq/\ez (f.heap.size+1+1) wq a0 (w++((N.ks.take k).flatMap fun k=>cG d b k.toNat c a)++(cG d b m c a).take n)/\f.heap.size+1+1<=wq.heap.size/\(∀j,a0.ownBlock=T j->(Y a5 o a6).ownBlock≠T j)/\(∀j,(Y a5 o a6).ownBlock=T j->j<wq.heap.size))) (fun _ K _=>o-(intOf K).toNat)
     case atStart=>
      refine⟨0,by omega,rfl,⟨_,_,_,rfl⟩,h.out.1,h.out.2.2.1,by rw[iG,dA];exact h.out.2.2.2.1,h.out.2.2.2.2.1,fun j ao dz=>?_,fun j ao=>(h.out.1.lt j ao).2⟩;have E:=h.out.2.2.2.2.2.1 j ao;have c0:=(h.out.1.lt j dz).1;omega
     case round=>
      obtain⟨n,gu,rfl,⟨bf,bn,ap,rfl⟩,g⟩:=hrel;by_cases dn:n<o
      ·obtain⟨e,bp⟩:=bj h.out.2.1 dn;obtain⟨j,rfl, -,ha,hb,hc,hf,gt⟩:=g.out.1.get bp;have gz:(n:Int)<(o:Int):=by omega
       have gv:(0:Int)<=(n:Int):=by omega
       have c5:Hid ((cG d b m c a).take (n+1)=(cG d b m c a).take n++[e]):=by show _=_;rw[dG,bp];rfl
       have bs:=(g.out.2.2.1).form;obtain⟨ad,a7⟩:∃ad,w++((N.ks.take k).flatMap fun k=>cG d b k.toNat c a)++(cG d b m c a).take n=ad:=⟨_,rfl⟩;have gs:ad.length<=3000:=by
        have af:=h.out.2.2.2.2.2.2.2.1;rw[h.out.2.2.2.2.2.2.2.2]at af;rw[<-a7];simp only[aC,eJ]at af⊢;omega
       rw[a7]at g bs;have ce:ap=ad.length:=by obtain⟨_,_,e⟩:=bs;cases e;rfl
       have b7:=dx a7 ce;have B:∀bD bE,Below wr.heap.size wr ((wr.alloc bD).alloc bE):=fun bD bE=>((aj _ wr).alloc (ah _) bD).alloc (by simp) bE;clear bp a7 bs ce;go_wp2_with (at_builtin;refine rI rfl _ _ rfl (f.heap.size+1+1) (M bf ap bn) ad rfl (g.out.2.2.1.below (B _ _)) (bz g.out.2.2.2.1 (B _ _).size) ⟨_,0,A0⟩ 1 e rfl (uz _ _ (ba _ _) e) (by omega) (ap+1) (by rw[b7.out.2]) ?_;intro f6 f8 hp ds cc df);have b9:=(g.out.2.2.1.below (B (U #[V e.nm,O Q e.ln,O Q e.dp,O Q e.nd] 37) (U #[V e.nm,O Q e.ln,O Q e.dp,O Q e.nd] 37))).grown (bz g.out.2.2.2.1 (B _ _).size) cc;have ea:((wr.alloc (U #[V e.nm,O Q e.ln,O Q e.dp,O Q e.nd] 37)).alloc (U #[V e.nm,O Q e.ln,O Q e.dp,O Q e.nd] 37)).heap.size=wr.heap.size+1+1:=by simp
       have hi:=b9.size;go_roundw
       case measure=>simp[intOf];omega
       case rel=>
        refine⟨n+1,by omega,by go_num,⟨_,_,_,rfl⟩,?_,(g.out.2.1.below (B _ _)).belowB b9,by rw[c5.out,<-cI,b7.out.1];exact ds,by have:=g.out.2.2.2.1;omega,?_,?_⟩
        ·have E:=g.out.1.below (B (U #[V e.nm,O Q e.ln,O Q e.dp,O Q e.nd] 37) (U #[V e.nm,O Q e.ln,O Q e.dp,O Q e.nd] 37));refine yq E cc (.inr fun e=>?_);cases hx:(Y bf ap bn).ownBlock with
         |none=>rw[hx]at e;simp[Ax]at e
         |some C=>exact g.out.2.2.2.2.1 C hx (e.trans hx)
        ·intro C br a8;have c8:=g.out.2.2.2.2.2 C a8;rcases df with e|e
         ·exact g.out.2.2.2.2.1 C (e.symm.trans br) a8
         ·rw[e,ea]at br;simp at br;omega
        ·intro C a8;have c8:=g.out.2.2.2.2.2 C a8;omega
      ·obtain rfl:n=o:=by omega
       have cb:(cG d b m c a).take n=cG d b m c a:=cw (by rw[h.out.2.1];exact ah _);rw[cb]at g;have c4:Hid (oH f (M (T u) s v) N (M G y A) (M (T bF) r z) wr/\ez (f.heap.size+1+1) wr (M bf ap bn) (w++(N.ks.take (k+1)).flatMap fun k=>cG d b k.toNat c a)/\f.heap.size+1+1<=wr.heap.size):=⟨g.out.2.1,by rw[h.out.2.2.2.2.2.2.2.2,<-cI];exact g.out.2.2.1,g.out.2.2.2.1⟩;clear cb g h;go_wp2_with fail;go_roundw
       case measure=>simp[intOf];omega
       case rel=>exact⟨k+1,by omega,by go_num,⟨_,_,_,rfl⟩,c4⟩
   ·obtain rfl:k=r:=by omega
    rw[cw (by rw[a1.out.2.2.2.2.1];exact ah _)]at q;have fb:ez f.heap.size wr (M H J I) eg:=by
     have E:=q.out.2.1;rw[ef.out,a3.out.1,a3.out.2.1,a3.out.2.2];exact E.le (by omega)
    have e7:=q.out.1.bl;clear q;go_wp2_with fail;go_ret;exact⟨_,rfl,fb,e7⟩
theorem aeg{S:List Int}{n:Nat}(hS:xo S)(b:S.length=n)(e:1<=n):S.getD (n-1) 0≠(n:Int)↔S.getD (n-1) 0<(n:Int):=by
 obtain⟨c,a⟩:=bj b (show n-1<n by omega);have d:=hS _ c a;rw[bm,a,gl];omega
theorem Iu(x:ByteArray):mJ x=decide (x=⟨#[]⟩):=by
 unfold mJ;rw[gH];by_cases a:x=⟨#[]⟩
 ·subst a;rfl
 ·rw[aD a,aD];intro b;apply a;cases x;simp only at b
  congr 1
  exact Array.toList_inj.1 b
theorem tm(N:Nd):wG (qp N (fJ N.k)) N=(match fJ N.k with
  |0=>aH N X X X R
  |1=>aH N X R X X
  |2=>aH N X R X X
  |3=>aH N X X R X
  |4=>aH N R X X X
  |5=>aH N R X X R&&(N.op==0||N.op==1)
  |_=>aH N X X X X):=by
 have p:∀(l m o:Bool)(P f g h:Prop) [Decidable P] [Decidable f] [Decidable g] [Decidable h],decide (P/\f/\g/\h)=(decide P&&decide f&&decide g&&decide h):=fun l m o P f g h _ _ _ _=>by
  by_cases c:P<;>by_cases q:f<;>by_cases r:g<;>by_cases s:h<;>simp[c,q,r,s]
 have d:decide ((0:Int)=N.op)=(N.op==0):=by
  by_cases a:N.op=0
  ·rw[bG a.symm,a];rfl
  ·rw[aD (fun b=>a b.symm)];exact(beq_eq_false_iff_ne.2 a).symm
 have j:decide ((0:Int)=N.n)=(N.n==0):=by
  by_cases a:N.n=0
  ·rw[bG a.symm,a];rfl
  ·rw[aD (fun b=>a b.symm)];exact(beq_eq_false_iff_ne.2 a).symm
 have e:decide ((⟨#[]⟩:ByteArray)=N.x)=mJ N.x:=by
  rw[Iu];by_cases a:N.x=⟨#[]⟩
  ·rw[bG a.symm,bG a]
  ·rw[aD (fun b=>a b.symm),aD a]
 have i:decide (([]:List ByteArray)=N.nm)=decide (N.nm.length=0):=by
  by_cases a:N.nm=[]
  ·rw[bG a.symm,bG (by rw[a];rfl)]
  ·rw[aD (fun b=>a b.symm),aD (fun b=>a (iE b))]
 unfold wG aH;rw[p R R R];rcases wh N.k with hc|hc|hc|hc|hc|hc|hc
 ·rw[hc];simp only[qp,d,j,e];simp
 ·rw[hc];simp only[qp,d,e,i];simp
 ·rw[hc];simp only[qp,d,e,i];simp
 ·rw[hc];simp only[qp,d,j,i];simp
 ·rw[hc];simp only[qp,j,e,i];simp
 ·rw[hc];simp only[qp,j,e];have b:decide ((if N.op=1 then(1:Int) else 0)=N.op)=(N.op==0||N.op==1):=by
   by_cases c:N.op=1
   ·rw[ab c,c];rfl
   ·rw[aa c,d];rw[beq_eq_false_iff_ne.2 c,yr]
  rw[b];simp;cases (N.op==0||N.op==1)<;>cases (N.n==0)<;>cases mJ N.x<;>rfl
 ·rw[hc];simp only[qp,d,j,e,i];simp
theorem jr(a:List Nd)(ks:List Int):(ic a ks).length=ks.length:=by simp[ic]
theorem aeh(a:List Nd)(N:Nd)(j:Nat)(h:j<N.ks.length):(ic a N.ks)[j]?=T (dF a N j):=by
 unfold ic dF;rw[cj,aI h];simp[List.getD,aI h]
theorem Iv(a:List Int):eA [] a=a.isEmpty:=rfl
theorem J8(i:Nat)(a:List Int):eA [(i,1)] a=a.all (ms i):=by
 rw[eA,aa (by omega),Iv];have c:Ea i 1 a=(a.takeWhile (ms i)).length:=by unfold Ea;rw[ab rfl]
 rw[c]
 induction a with
 |nil=>rfl
 |cons b e d=>
  cases h:ms i b with
  |false=>rw[Cq (by simp[h])];simp[h]
  |true=>
   rw[Cr (by simp[h]),CE,h,eC,di,List.drop_succ_cons];exact d (by unfold Ea;rw[ab rfl])
theorem akb(i b:Nat)(c:b≠1)(a:Int)(r:List Int):Ea i b (a::r)=if ms i a=R then 1 else 0:=by
 unfold Ea;rw[aa c];cases h:ms i a with
 |false=>rw[Cq (by simp[h])];simp
 |true=>rw[Cr (by simp[h]),di,ab rfl];omega
theorem DB(i:Nat)(b:List (Nat×Nat))(a:Int)(r:List Int):eA ((i,0)::b) (a::r)=(ms i a&&eA b r):=by
 rw[eA,akb i 0 (by omega)];cases h:ms i a with
 |false=>simp
 |true=>simp
theorem J9(i:Nat)(a:List (Nat×Nat)):eA ((i,0)::a) []=X:=by
 rw[eA];simp[Ea]
theorem ai4(i:Nat)(b:List (Nat×Nat))(a:Int)(r:List Int):eA ((i,2)::b) (a::r)=if ms i a=R then eA b r else eA b (a::r):=by
 rw[eA,akb i 2 (by omega)];cases h:ms i a with
 |false=>simp
 |true=>simp
theorem agC(i:Nat)(a:List (Nat×Nat)):eA ((i,2)::a) []=eA a []:=by
 rw[eA];simp[Ea]
theorem ai5(n:Nat):∀(b:List Int),n<b.length->eA (Bj n) b=((b.take n).all (ms 5)&&(b.drop n).all (ms 3)):=by
 induction n with
 |zero=>
  intro b c
  match b,c with
  |a::d,_=>
   show eA ((3,0)::[(3,1)]) (a::d)=_;rw[DB,J8];simp
 |succ n e=>
  intro b c
  match b,c with
  |a::d,c=>
   show eA ((5,0)::Bj n) (a::d)=_;rw[DB,e d (by simpa using c)];simp[Bool.and_assoc]
theorem pq(a:List Nd)(N:Nd)(j:Nat)(h:j<N.ks.length):dF a N j=(ic a N.ks).getD j 0:=by
 rw[bm,aeh a N j h];rfl
theorem uK(a:List Int)(p:Int->Bool)(b j:Nat)(h:j+(b+1)<=a.length):((a.drop j).take (b+1)).all p=(p (a.getD j 0)&&((a.drop (j+1)).take b).all p):=by
 have c:j<a.length:=by omega
 rw[mg c,List.take_succ_cons,CE,bm,aI c];rfl
theorem Iw(a:List Nd)(N:Nd):∀(f j:Nat),j+f<=N.ks.length->ik a N f j=(((ic a N.ks).drop j).take f).all eB
 |0,j,_=>by simp[ik]
 |f+1,j,h=>by
  rw[ik,Iw a N f (j+1) (by omega),uK _ _ _ _ (by rw[jr];exact h),pq a N j (by omega)]
theorem aei(a:List Nd)(N:Nd):∀(f j:Nat),j+f<=N.ks.length->Le a N f j=(((ic a N.ks).drop j).take f).all iw
 |0,j,_=>by simp[Le]
 |f+1,j,h=>by
  rw[Le,aei a N f (j+1) (by omega),uK _ _ _ _ (by rw[jr];exact h),pq a N j (by omega)]
theorem aej(a:List Nd)(N:Nd):∀(f j:Nat),j+f<=N.ks.length->JC a N f j=(((ic a N.ks).drop j).take f).all wA
 |0,j,_=>by simp[JC]
 |f+1,j,h=>by
  rw[JC,aej a N f (j+1) (by omega),uK _ _ _ _ (by rw[jr];exact h),pq a N j (by omega)]
theorem aek(a:List Nd)(N:Nd):∀(f j:Nat),j+f<=N.ks.length->Lg a N f j=(((ic a N.ks).drop j).take f).all (ms 9)
 |0,j,_=>by simp[Lg]
 |f+1,j,h=>by
  rw[Lg,aek a N f (j+1) (by omega),uK _ _ _ _ (by rw[jr];exact h),pq a N j (by omega)];rfl
theorem agD(k:Int):ms 5 k=wA k:=by
 unfold ms wA;by_cases a:k=26<;>by_cases b:k=32<;>by_cases c:k=33<;>simp[a,b,c]
def sA(a:List Nd)(N:Nd):Bool:=wG (qp N (fJ N.k)) N&&(ffB N N.ks.length (fJ N.k)&&kfB N (ic a N.ks))
theorem akc(a:List Nd)(N:Nd)(hk:N.k=3\/N.k=4\/N.k=6\/N.k=7\/N.k=8\/N.k=9\/N.k=10\/N.k=11\/N.k=12\/N.k=14\/N.k=15\/N.k=16\/N.k=20\/N.k=21\/N.k=22\/N.k=23\/N.k=24\/N.k=25\/N.k=26\/N.k=27\/N.k=28\/N.k=29\/N.k=30\/N.k=31\/N.k=32\/N.k=33\/N.k=36\/N.k=37\/N.k=40\/N.k=41\/N.k=42)(l:N.nm.length<=200):sA a N=nc a N:=by
 have b:=jr a N.ks;have c:=pq a N;have i:eB 1=X:=rfl;unfold sA kfB rkB;rw[tm];revert b c;generalize ic a N.ks=d;intro b c;rcases hk with hk|hk|hk|hk|hk|hk|hk|hk|hk|hk|hk|hk|hk|hk|hk|hk|hk|hk|hk|hk|hk|hk|hk|hk|hk|hk|hk|hk|hk|hk|hk;all_goals
  rcases d with _|⟨e,_|⟨f,_|⟨g,_|⟨h,_|⟨j,m⟩⟩⟩⟩⟩;all_goals
   simp at b;simp[nc,iw,stB,lB,fJ,Ip,ffB,txB,zK,hk,<-b,c,ik,dD,DB,J9,Iv,ai4,agC,ms]<;>grind
theorem akd(a:List Nd)(N:Nd)(hk:N.k=1\/N.k=2\/N.k=13\/N.k=34\/N.k=35)(l:N.nm.length<=200):sA a N=nc a N:=by
 have c:=jr a N.ks;have f:=pq a N 0;have e:=Iw a N N.ks.length 0 (by omega);have d:=aei a N N.ks.length 0 (by omega);have b:=aek a N N.ks.length 0 (by omega);have h:ms 0=iw:=rfl;have i:ms 3=eB:=rfl;rw[<-c]at e d b f;rw[jl,yu]at e d b;unfold sA kfB rkB;rw[tm,<-c];revert c f e d b;generalize ic a N.ks=g;intro c f e d b;rcases hk with hk|hk|hk|hk|hk;all_goals
  rcases g with _|⟨j,m⟩;all_goals
   simp at c f;simp only[di,CE,fs,List.all_nil]at e d b;simp[nc,iw,stB,lB,fJ,Ip,ffB,txB,zK,hk,e,d,b,h,i,<-c,f,dD,J8,DB,J9,Iv,ms]<;>grind
theorem ake(a:List Nd)(N:Nd)(b:N.k=5)(f:N.nm.length<=200):sA a N=nc a N:=by
 have d:fJ N.k=1:=by rw[b];rfl
 have e:nc a N=(aH N X R X X&&(decide (1<=N.n/\N.n<(N.ks.length:Int))&&(JC a N N.n.toNat 0&&ik a N (N.ks.length-N.n.toNat) N.n.toNat))):=by
  unfold nc;rw[ab (by rw[b];rfl)];unfold stB;rw[aa (by rw[b];decide),aa (by rw[b];decide),aa (by rw[b];decide),aa (by rw[b];decide),ab b]
 unfold sA kfB;rw[tm,d,e,ab rfl];simp only[ffB];by_cases c:1<=N.n/\N.n<(N.ks.length:Int)
 ·rw[bG c,eC,eC,ai5 _ _ (by rw[jr];omega),aej a N _ _ (by omega),Iw a N _ _ (by omega)]
  congr 1
  congr 1
  ·rw[jl]
   congr 1
   funext k
   exact agD k
  ·have:(ic a N.ks).drop N.n.toNat=((ic a N.ks).drop N.n.toNat).take (N.ks.length-N.n.toNat):=by
    rw[cw (by rw[gJ,jr];exact ah _)]
   rw[<-this];rfl
 ·rw[aD c,dK,dK]
theorem ai6(a:List Nd)(N:Nd)(h:N.k ∉ kL)(g:N.k≠5):sA a N=nc a N:=by
 have e:=(Dx N.k h).1;simp only[kL,iF,ld,lh,not_or]at h;have f:iw N.k=X:=by unfold iw;exact aD (by omega)
 have c:nc a N=X:=by
  unfold nc;rw[aa (by rw[f];decide)];unfold lB
  repeat rw[aa (by omega)]
 have b:fJ N.k=6:=by
  unfold fJ
  repeat rw[aa (by omega)]
 have d:rkB N.k (ic a N.ks)=X:=by unfold rkB;rw[e]
 unfold sA kfB;rw[c,b,aa (by decide),d,mi,mi]
theorem ael(a:List Nd)(N:Nd)(b:N.nm.length<=200):sA a N=nc a N:=by
 by_cases c:N.k∈kL
 ·simp only[kL,iF,ld,lh]at c;by_cases e:N.k=1\/N.k=2\/N.k=13\/N.k=34\/N.k=35
  ·exact akd a N e b
  ·exact akc a N (by omega) b
 ·by_cases d:N.k=5
  ·exact ake a N d b
  ·exact ai6 a N c d
theorem Ix(l:List Nd)(N:Nd)(m:200<N.nm.length):nc l N=X:=by
 have f:∀c d e,aH N c d e X=X:=fun c d e=>by unfold aH;rw[aD (by omega)];simp
 have a:∀g b,b<=200->dD N g b=X:=fun g b n=>by unfold dD;rw[aD (by omega)];rfl
 have h:=a 1 1 (by omega);have i:=a 1 2 (by omega);have j:=a 1 200 (by omega);have k:=a 0 200 (by omega);unfold nc;split
 ·unfold stB;simp only[f,h,i,j,dK,mi];simp
 ·unfold lB;simp only[f,k,dK,mi];simp
theorem agE(c:List Nd)(i:Nat)(N:Nd):Bm c i N=gG c i N:=by
 unfold Bm gG;by_cases d:N.nm.length<=200
 ·have e:Bl N=Bg N:=by
   unfold Bl Bg;by_cases a:0<=N.f/\N.f<=N.t/\0<=N.l/\N.ks.length<=200
   ·rw[bG a,bG ⟨a.1,a.2.1,a.2.2.1,a.2.2.2,d⟩]
   ·rw[aD a,aD (fun b=>a ⟨b.1,b.2.1,b.2.2.1,b.2.2.2.1⟩)]
  have g:=ael c N d;unfold sA at g;rw[e,<-g];generalize wG (qp N (fJ N.k)) N=h;generalize D9 N.ks i N.ks.length 0=j;cases h<;>cases j<;>rfl
 ·have e:Bl N=X:=by unfold Bl;exact aD (fun b=>d b.2.2.2.2)
  rw[e,Ix c N (by omega),dK,mi,mi]
