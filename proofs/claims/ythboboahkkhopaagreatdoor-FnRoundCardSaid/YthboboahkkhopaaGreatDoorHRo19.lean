import Derived.Test.YthboboahkkhopaaGreatDoorHRo17
import Derived.Test.YthboboahkkhopaaGreatDoorHRo16
set_option linter.all false
set_option maxRecDepth 100000
set_option maxHeartbeats 1600000
open Bool renaming true->M,false->Q
open ByteArray renaming empty->O
open Go.Lib renaming hasPrefix->U,decDigits->W
open Option renaming some->X
namespace Go.Proofs.YthboboahkkhopaaGreatDoor
open Go.RowKit Go.Maps Go.WideMaps
variable{Br:Int->ByteArray->ByteArray}{K:Fo}{N:Nd}{a i:Nat}{b s:ByteArray}{c k:Int}{ns:List Nd}
def ahD(h:(eG ns).1=0):∀(i:Nat) N,ns[i]?=X N->lh ns i N=M:=by
 unfold eG at h;by_cases d:js ns=M
 .rw[ae d]at h;exact absurd h (by decide)
 rw[aa d]at h;have⟨e,c⟩:=aJ (li (gF ns) ns.length 0);rw[c]at h;cases e with
 |some i=>rw[tf2]at h;exact absurd h (by simp)
 |none=>
  have f:=oh c;intro i N b;have g:i<ns.length:=(List.getElem?_eq_some_iff.1 b).1;have a:=f i (aH _) (by omega);unfold gF at a;rw[aD,b,ie]at a;simpa using a
def aot{a b d:Bool}(h:aL N a b Q d=M):N.x.size<=4000:=by
 unfold aL at h;simp only[ch,yD]at h;have:=aG h.1.2;have c:N.x.toList.length=0:=by rw[this];rfl
 rw[ja]at c;have:N.x.size=0:=by simpa using c
 omega
def ahE(h:jf s=M):s.size<=4000:=by
 have:=(aG h).1;omega
def aqr(h:fok s=M):s.size<=4000:=by
 unfold fok at h;rw[ch]at h;have:=aG h.1;omega
def jg(h:lh ns i N=M):lg ns N=M/\N.ks.length<=200:=by
 unfold lh at h;rw[ch,ch]at h;exact⟨h.2.2,(aG h.1).2.2.2⟩
def rA(h:lg ns N=M)(a:17<=N.k:=by omega):gh ns N=M:=by
 unfold lg at h
 rwa [aa (by unfold eA;rw[decide_eq_true_eq];omega)]at h
def pA(h:lg ns N=M)(a:1<=N.k/\N.k<=16:=by omega):stB ns N=M:=by
 unfold lg at h
 rwa [ae (by unfold eA;rw[decide_eq_true_eq];omega)]at h
def ahF(h:lg ns N=M):(1<=N.k/\N.k<=16)\/(20<=N.k/\N.k<=37)\/(40<=N.k/\N.k<=42):=by
 by_cases a:1<=N.k/\N.k<=16
 .exact .inl a
 .unfold lg at h;rw[aa (by unfold eA;rw[decide_eq_true_eq];exact a)]at h;by_cases b:(20<=N.k/\N.k<=37)\/(40<=N.k/\N.k<=42)
  .exact .inr b
  .unfold gh at h
   repeat rw[aa (by omega)]at h
   cases h
def Jg(h:lg ns N=M):aL N (decide (N.k=30\/N.k=31\/N.k=36)) (decide (N.k=5\/N.k=23)) (decide (N.k=24\/N.k=25\/N.k=26\/N.k=33\/N.k=42)) (decide (N.k=2\/N.k=3\/N.k=4\/N.k=9\/N.k=10\/N.k=14\/N.k=36))=M:=by
 rcases ahF h with g|g|g
 .have h:=pA h g;unfold stB at h;rcases(show N.k=1\/N.k=2\/N.k=3\/N.k=4\/N.k=5\/N.k=6\/N.k=7\/N.k=8\/N.k=9\/N.k=10\/N.k=11\/N.k=12\/N.k=13\/N.k=14\/N.k=15\/N.k=16 by omega) with e|e|e|e|e|e|e|e|e|e|e|e|e|e|e|e;all_goals (simp[e]at h;simp[e,h])
 .have h:=rA h;unfold gh at h;rcases(show N.k=20\/N.k=21\/N.k=22\/N.k=23\/N.k=24\/N.k=25\/N.k=26\/N.k=27\/N.k=28\/N.k=29\/N.k=30\/N.k=31\/N.k=32\/N.k=33\/N.k=34\/N.k=35\/N.k=36\/N.k=37 by omega) with e|e|e|e|e|e|e|e|e|e|e|e|e|e|e|e|e|e;all_goals (simp[e]at h;simp[e,h])
 .have h:=rA h;unfold gh at h;rcases(show N.k=40\/N.k=41\/N.k=42 by omega) with e|e|e;all_goals (simp[e]at h;simp[e,h])
def Ew(h:lh ns i N=M):N.x.size<=4000:=by
 have b:=(jg h).1;have a:=Jg b;by_cases c:N.k=24\/N.k=25\/N.k=26\/N.k=33\/N.k=42
 .have h:=rA b;unfold gh at h;rcases c with e|e|e|e|e<;>simp[e]at h
  .exact aqr h.2
  .omega
  all_goals exact ahE h.2
 .rw[aE c]at a;exact aot a
def adw(ns:List Nd):∀i,jj (ns.take i)=(jj ns).take i:=by
 refine zr (p:=λns=>∀i,jj (ns.take i)=(jj ns).take i) ?_ ?_ ns
 .intro i;simp[jj]
 .intro a d c i;rcases bI i (a++[d]).length with h|h
  .have b:i<=a.length:=by rw[bm]at h;simp at h;omega
   rw[List.take_append_of_le_length b,c,ux,List.take_append_of_le_length (by rw[my];exact b)]
  .rw[cj h,cj (by rw[my];exact h)]
def ab2(h:ns[i]?=X N):(jj ns).getD i 0=oy ((jj ns).take i) i N.ks:=by
 have e:i<ns.length:=(List.getElem?_eq_some_iff.1 h).1;have b:ns.take (i+1)=ns.take i++[N]:=by rw[jc,h];rfl
 have a:=adw ns (i+1);rw[b,ux,adw,eE,my,ui (by omega),jc]at a;have c:(jj ns)[i]?=X ((jj ns).getD i 0):=by
  rw[aD,az (by rw[my];exact e)];rfl
 rw[c]at a;have d:=List.append_cancel_left a;simpa using d.symm
def vq(S:List Int):List Int->Int
 |[]=>0
 |k::l=>S.getD k.toNat 0+vq S l
def ahG(S:List Int)(a b:List Int):vq S (a++b)=vq S a+vq S b:=by
 induction a with
 |nil=>simp[vq]
 |cons d e c=>simp only[ed,vq,c];omega
def ahH(S:List Int)(l:List Int):vq S l.reverse=vq S l:=by
 induction l with
 |nil=>rfl
 |cons b l a=>rw[List.reverse_cons,ahG,a];simp only[vq];omega
def adx{S:List Int}:∀(l:List Int)(a b:Int),qF S l a=X b->b=a-vq S l
 |[],a,b,h=>by simp[qF]at h;simp[vq];omega
 |k::r,a,b,h=>by
  rw[qF]at h;split at h
  .have:=adx r _ _ h;simp only[vq];omega
  .cases h
def ahI(S:List Int)(i:Nat)(l:List Int)(h:∀k∈l,0<=k/\k<(i:Int)):vq (S.take i) l=vq S l:=by
 induction l with
 |nil=>rfl
 |cons k l c=>
  have a:=h k bq;have b:(S.take i).getD k.toNat 0=S.getD k.toNat 0:=by
   rw[aD,aD,List.getElem?_take_of_lt (by omega)]
  simp only[vq,b,c λk a=>h k (dr _ a)]
structure aqs (ns:List Nd):Prop where
 at_:∀(i:Nat) N,ns[i]?=X N->(jj ns).getD i 0=1+vq (jj ns) N.ks
 le:∀i,(jj ns).getD i 0<=3000
def ak5(h:(eG ns).1=0):aqs ns:=by
 have i:=tB h;unfold eG at h;by_cases k:js ns=M
 .rw[ae k]at h;exact absurd h (by decide)
 rw[aa k]at h;have⟨l,p⟩:=aJ (li (gF ns) ns.length 0);rw[p]at h;cases l with
 |some a=>rw[tf2]at h;exact absurd h (by simp)
 |none=>
  rw[tf2]at h;have⟨m,j⟩:=aJ (li (jt (jj ns)) ns.length 0);rw[j]at h;cases m with
  |some a=>rw[tf3]at h;exact absurd h (by simp)
  |none=>
   have q:=oh j;have r:F6 (jj ns):=AJ ns (λd c g f=>by
    have⟨a,hi,e⟩:=iw c;exact(i.kid a d (by rw[az hi,e]) g f).1)
   refine⟨λa d c=>?_,λa=>?_⟩
   .have hi:a<ns.length:=(List.getElem?_eq_some_iff.1 c).1;have b:=q a (aH _) (by omega);unfold jt at b;rw[ab2 c]at b⊢;unfold oy at b⊢;cases hw:qF ((jj ns).take a) d.ks.reverse a with
    |none=>rw[hw]at b;simp at b
    |some n=>
     have e:=adx _ _ _ hw;rw[ahH,ahI _ _ _ (λg f=>i.kid a d c g f)]at e;show(a:Int)-n+1=_;omega
   .rcases bI a ns.length with hi|hi
    .have o:(jj ns)[a]?=X ((jj ns).getD a 0):=by
      rw[aD,az (by rw[my];exact hi)];rfl
     have:=r a _ o;have:=i.len;omega
    .rw[aD,jp (by rw[my];exact hi)];decide
def mL(ns:List Nd)(N:Nd)(j:Nat):dK ns N j=(ab ns (dt N j)).k:=rfl
def gD:∀(f j:Nat),jF ns N f j=M->∀q,j<=q->q<j+f->fy (ab ns (dt N q)).k=M
 |0,j,_,q,a,b=>by omega
 |f+1,j,h,q,a,b=>by
  rw[jF,ch]at h;rcases jz a with rfl|h3
  .exact h.1
  .exact gD f (j+1) h.2 q h3 (by omega)
def Ey:∀(f j:Nat),Ei ns N f j=M->∀q,j<=q->q<j+f->eA (ab ns (dt N q)).k=M
 |0,j,_,q,a,b=>by omega
 |f+1,j,h,q,a,b=>by
  rw[Ei,ch]at h;rcases jz a with rfl|h3
  .exact h.1
  .exact Ey f (j+1) h.2 q h3 (by omega)
def Ha(h:ti k=M):fy k=M:=by
 have:=aG h;exact aI (by omega)
def ahJ:∀(f j:Nat),BD ns N f j=M->∀q,j<=q->q<j+f->fy (ab ns (dt N q)).k=M
 |0,j,_,q,a,b=>by omega
 |f+1,j,h,q,a,b=>by
  rw[BD,ch]at h;rcases jz a with rfl|h3
  .exact Ha h.1
  .exact ahJ f (j+1) h.2 q h3 (by omega)
def aap:∀(f j:Nat),Eh ns N f j=M->∀q,j<=q->q<j+f->40<=(ab ns (dt N q)).k/\(ab ns (dt N q)).k<=42
 |0,j,_,q,a,b=>by omega
 |f+1,j,h,q,a,b=>by
  rw[Eh,ch]at h;rcases jz a with rfl|h3
  .exact aG h.1
  .exact aap f (j+1) h.2 q h3 (by omega)
structure Kid (ns:List Nd) (i:Nat) (N:Nd) (j q:Nat):Prop where
 at_:N.ks[j]?=X (q:Int)
 lt:q<i
 len:q<ns.length
 id:dt N j=(q:Int)
def iJ(h:lh ns i N=M)(d:i<ns.length)(j:Nat)(b:j<N.ks.length):∃q,Kid ns i N j q:=by
 unfold lh at h;rw[ch,ch]at h;have c:=zw N.ks i N.ks.length 0 h.2.1 j (by omega) (by omega);have a:N.ks[j]?=X (N.ks.getD j 0):=by rw[aD,az b];rfl
 refine⟨(N.ks.getD j 0).toNat,?_,by omega,by omega,?_⟩
 .rw[a];congr 1;omega
 .show N.ks.getD j 0=_;omega
def om{z:Int}(h:z∈N.ks):∃j,j<N.ks.length/\dt N j=z:=by
 have⟨j,a,b⟩:=iw h;exact⟨j,a,by unfold dt;rw[aD,az a];exact b⟩
def mC(h:lg ns N=M)(a:N.k=28\/N.k=29\/N.k=31\/N.k=32\/N.k=41:=by omega):N.ks.length=2/\jF ns N 2 0=M/\(N.k=31->1<=N.op/\N.op<=18):=by
 have h:=rA h;unfold gh at h;rcases a with e|e|e|e|e<;>simp[e]at h<;>exact⟨by omega,by simp[h],by omega⟩
def oI(h:lg ns N=M)(a:N.k=30\/N.k=33\/N.k=37\/N.k=40\/N.k=42:=by omega):N.ks.length=1/\fy (ab ns (dt N 0)).k=M/\(N.k=30->19<=N.op/\N.op<=22):=by
 have h:=rA h;unfold gh at h;rcases a with e|e|e|e|e<;>simp[e,mL]at h
 .exact⟨by omega,gD 1 0 h.1.1.1.2 0 (by omega) (by omega),by omega⟩
 .exact⟨by omega,gD 1 0 h.1.1.1.2 0 (by omega) (by omega),by omega⟩
 .exact⟨by omega,aI (by omega),by omega⟩
 .exact⟨by omega,gD 1 0 h.1.2 0 (by omega) (by omega),by omega⟩
 .exact⟨by omega,gD 1 0 h.1.1.2 0 (by omega) (by omega),by omega⟩
def Da(h:lg ns N=M)(a:N.k=34):1<=N.ks.length/\jF ns N N.ks.length 0=M:=by
 have h:=rA h;unfold gh at h;simp[a,mL]at h;exact⟨by omega,h.1.1.2⟩
def zx(h:lg ns N=M)(a:N.k=35):Eh ns N N.ks.length 0=M:=by
 have h:=rA h;unfold gh at h;simp[a]at h;exact h.1
def wu{a b:Int}(h:fj N a b=M)(c:b<=200):a<=(N.nm.length:Int)/\N.nm.length<=200:=by
 unfold fj at h;rw[ch]at h;have:=aG h.1;omega
def ady(h:lg ns N=M)(a:N.k=36):N.ks.length=1/\(ab ns (dt N 0)).k=1/\N.nm.length<=200/\(N.op=0\/N.op=1):=by
 have h:=rA h;unfold gh at h;simp[a,mL]at h;exact⟨by omega,h.1.1.1.2,(wu h.1.2 (by omega)).2,h.2⟩
def tD(h:lg ns N=M)(a:N.k=1):Ei ns N N.ks.length 0=M:=by
 have h:=pA h;unfold stB at h;simp[a]at h;exact h.1
def ahK(h:lg ns N=M)(a:20<=N.k/\N.k<=27):N.ks.length=0:=by
 have h:=rA h;unfold gh at h;rcases(show N.k=20\/N.k=21\/N.k=22\/N.k=23\/N.k=24\/N.k=25\/N.k=26\/N.k=27 by omega) with e|e|e|e|e|e|e|e<;>simp[e]at h<;>simp[h]
def sN(ns:List Nd)(i:Int):Nat:=((jj ns).getD i.toNat 0).toNat
def sK(ns:List Nd):List Int->Nat
 |[]=>0
 |k::l=>sN ns k+sK ns l
structure Szd (ns:List Nd):Prop where
 nb:∀i:Nat,i<ns.length->lh ns i (ab ns i)=M
 at_:∀i:Nat,i<ns.length->sN ns i=1+sK ns (ab ns i).ks
 le:∀i:Int,sN ns i<=3000
def ab3(h:(eG ns).1=0):Szd ns:=by
 have g:=ak5 h;have p:=tB h;have n:=ahD h;have l:F6 (jj ns):=AJ ns (λi j e k=>by
  have⟨a,b,c⟩:=iw j;exact(p.kid a i (by rw[az b,c]) e k).1)
 have o:∀a:Nat,0<=(jj ns).getD a 0:=by
  intro a;rw[aD];cases c:(jj ns)[a]? with
  |none=>decide
  |some r=>exact(l a r c).1
 have q:∀d:List Int,vq (jj ns) d=(sK ns d:Int):=by
  intro d
  induction d with
  |nil=>rfl
  |cons e s m=>
   have:=o e.toNat;simp only[vq,sK,m,sN];omega
 have f:∀a:Nat,a<ns.length->ns[a]?=X (ab ns a):=λa b=>by
  unfold ab;rw[ix,List.getD,az b];rfl
 refine⟨λa b=>n a _ (f a b),λa b=>?_,λa=>?_⟩
 .have c:=g.at_ a _ (f a b);rw[q]at c;show((jj ns).getD (a:Int).toNat 0).toNat=_;rw[ix,c];omega
 .have:=g.le a.toNat;unfold sN;omega
def A6(l:List ByteArray):(bK l).size<=(l.map λx=>x.size+2).sum:=by
 have d:∀a,(bK (l.take a)).size<=((l.take a).map λx=>x.size+2).sum:=by
  intro a
  induction a with
  |zero=>show(O).size<=_;exact aH _
  |succ a b=>
   rcases bI a l.length with h|h
   .rw[qu l a _ (az h),aq,List.take_succ_eq_append_getElem h,eK,List.sum_append];have c:dH.size=2:=rfl;have:(if a=0 then bK (l.take a) else bK (l.take a)++dH).size<=(bK (l.take a)).size+2:=by
     split
     .omega
     .rw[aq,c];exact af _
    simp only[dv,List.map_nil,List.sum_cons,List.sum_nil];omega
   .rw[cj (by omega)];rw[cj (by omega)]at b;exact b
 have:=d l.length
 rwa [cj (af _)]at this
def aaq(l:List ByteArray)(h:∀s∈l,s.size<=4000):(bK l).size<=4002*l.length:=by
 refine di (A6 _) ?_
 induction l with
 |nil=>exact aH _
 |cons c g b=>
  have e:=h c bq;have f:=b λd a=>h d (dr _ a);simp only[dv,List.sum_cons,bB];omega
def Hb(l:List ByteArray):(gC l).size=(l.map ByteArray.size).sum:=by
 have c:∀(a:ByteArray),(l.foldl (· ++·) a).size=a.size+(l.map ByteArray.size).sum:=by
  induction l with
  |nil=>intro a;simp
  |cons e d b=>intro a;rw[jd,b,aq,dv,List.sum_cons];omega
 have:=c O;rw[show ByteArray.empty.size=0 from rfl]at this;unfold gC;omega
def zy(h:jF ns N 1 0=M):fy (ab ns (dt N 0)).k=M:=gD 1 0 h 0 (by omega) (by omega)
def ab4(h:lg ns N=M)(a:N.k=2):jF ns N N.ks.length 0=M/\N.nm.length<=200:=by
 have h:=pA h;unfold stB at h;simp only[a]at h;simp at h;exact⟨h.2,(wu h.1.2 (by omega)).2⟩
def zz(h:lg ns N=M)(b:N.k=3):N.ks.length=1/\fy (ab ns (dt N 0)).k=M/\N.nm.length=1:=by
 have h:=pA h;unfold stB at h;simp[b]at h;have:=wu h.1.1.2 (by omega);have a:=h.1.1.2;unfold fj at a;rw[ch]at a;have:=aG a.1;exact⟨by omega,zy h.2,by omega⟩
def Jh(h:lg ns N=M)(b:N.k=4):N.ks.length=1/\(ab ns (dt N 0)).k=36/\N.nm.length=1:=by
 have h:=pA h;unfold stB at h;simp[b,mL]at h;have a:=h.1.1.2;unfold fj at a;rw[ch]at a;have:=aG a.1;exact⟨by omega,h.2,by omega⟩
def ab5(h:lg ns N=M)(a:N.k=5):1<=N.n/\N.n<(N.ks.length:Int)/\BD ns N N.n.toNat 0=M/\jF ns N (N.ks.length-N.n.toNat) N.n.toNat=M:=by
 have h:=pA h;unfold stB at h;simp[a]at h;exact⟨h.2.1.1,h.2.1.2,h.2.2.1,h.2.2.2⟩
def BE(h:lg ns N=M)(a:N.k=6\/N.k=16):N.ks.length=1/\(ab ns (dt N 0)).k=34:=by
 have h:=pA h;unfold stB at h;rcases a with e|e<;>simp[e,mL]at h<;>exact⟨by omega,h.2⟩
def adz(h:lg ns N=M)(a:N.k=7):2<=N.ks.length/\N.ks.length<=3/\fy (ab ns (dt N 0)).k=M/\(ab ns (dt N 1)).k=1/\(N.ks.length=2\/(ab ns (dt N 2)).k=1\/(ab ns (dt N 2)).k=7):=by
 have h:=pA h;unfold stB at h;simp[a,mL]at h;exact⟨h.2.1.1,h.2.1.2,zy h.2.2.1,h.2.2.2.1,by omega⟩
def zA(h:lg ns N=M)(a:N.k=8):N.ks.length=2/\fy (ab ns (dt N 0)).k=M/\(ab ns (dt N 1)).k=1:=by
 have h:=pA h;unfold stB at h;simp[a,mL]at h;exact⟨by omega,zy h.1.2,h.2⟩
def Ji(h:lg ns N=M)(b:N.k=9):(N.ks.length=3\/N.ks.length=4)/\jF ns N (N.ks.length-1) 0=M/\(ab ns (dt N (N.ks.length-1))).k=1/\N.nm.length=1:=by
 have h:=pA h;unfold stB at h;simp[b,mL]at h;have a:=h.2.1;unfold fj at a;rw[ch]at a;have:=aG a.1;exact⟨by omega,h.2.2.2.1,h.2.2.2.2,by omega⟩
def Db(h:lg ns N=M)(a:N.k=10):N.ks.length=2/\fy (ab ns (dt N 0)).k=M/\(ab ns (dt N 1)).k=1/\N.nm.length<=200:=by
 have h:=pA h;unfold stB at h;simp[a,mL]at h;exact⟨by omega,zy h.1.2,h.2,(wu h.1.1.1.2 (by omega)).2⟩
def ab6(h:lg ns N=M)(a:N.k=13):jF ns N N.ks.length 0=M:=by
 have h:=pA h;unfold stB at h;simp[a]at h;exact h.2
def Jj(h:lg ns N=M)(a:N.k=14):N.ks.length=2/\(ab ns (dt N 0)).k=1/\(ab ns (dt N 1)).k=1/\N.nm.length<=200:=by
 have h:=pA h;unfold stB at h;simp[a,mL]at h;exact⟨by omega,h.1.2,h.2,(wu h.1.1.1.2 (by omega)).2⟩
def zB(h:lg ns N=M)(a:N.k=15):N.ks.length=1/\fy (ab ns (dt N 0)).k=M:=by
 have h:=pA h;unfold stB at h;simp[a]at h;exact⟨by omega,zy h.2⟩
def adA{l:List ByteArray}:∀(f j:Nat),tj l f j=M->∀q,j<=q->q<j+f->jf (l.getD q O)=M
 |0,j,_,q,a,b=>by omega
 |f+1,j,h,q,a,b=>by
  rw[tj,ch]at h;rcases jz a with rfl|h3
  .exact h.1
  .exact adA f (j+1) h.2 q h3 (by omega)
def nE{a b:Int}(h:fj N a b=M):(∀s∈N.nm,jf s=M)/\a<=(N.nm.length:Int)/\(N.nm.length:Int)<=b:=by
 unfold fj at h;rw[ch]at h;refine⟨λs e=>?_,aG h.1⟩;have⟨f,d,c⟩:=iw e;have:=adA _ 0 h.2 f (by omega) (by omega);rw[aD,az d]at this;rw[<-c];exact this
def amD(h:lg ns N=M):∀s∈N.nm,jf s=M:=by
 have a:=Jg h;by_cases c:N.k=2\/N.k=3\/N.k=4\/N.k=9\/N.k=10\/N.k=14\/N.k=36
 .by_cases d:N.k=36
  .have h:=rA h;unfold gh at h;simp[d]at h;exact(nE h.1.2).1
  .have h:=pA h;unfold stB at h;rcases c with e|e|e|e|e|e|e<;>simp[e]at h
   .exact(nE h.1.2).1
   .exact(nE h.1.1.2).1
   .exact(nE h.1.1.2).1
   .exact(nE h.2.1).1
   .exact(nE h.1.1.1.2).1
   .exact(nE h.1.1.1.2).1
 .rw[aE c]at a;unfold aL at a;simp at a;intro s b;rw[a.2]at b;cases b
def Ez(h:lg ns N=M):∀s∈N.nm,s.size<=4000:=λs a=>ahE (amD h s a)
def wv{j:Nat}(h:j<N.ks.length):N.ks[j]=dt N j:=by unfold dt;rw[aD,az h];rfl
def Hc(n:Int)(b:n<=9223372036854775807):(tA n).size<=30:=by
 unfold tA;split
 .rw[tu];omega
 .rename_i a;have:=Lib.itoa_length_le n (by omega) b;show(W n.toNat).toArray.size<=30;rw[jo];unfold Lib.itoa at this;simp only[a,if_false]at this;omega
def A7(ns:List Nd)(E:Int->ByteArray)(k least:Int):(iL ns E k least).size<=(E k).size+2:=by
 unfold iL;split
 .rw[xg];omega
 .omega
def Jk(ns:List Nd)(E:Int->ByteArray)(k:Int):(El ns E k).size<=(E k).size+2:=by
 unfold El;split
 .omega
 .rw[xg];omega
def ak6(ns:List Nd)(N:Nd):(unS ns N).size<=4:=by
 unfold unS
 (repeat' split)
 .show 4<=4;omega
 .show 1<=4;omega
 .show 1<=4;omega
 .show 2<=4;omega
 .show 1<=4;omega
def EC{op:Int}(h:1<=op/\op<=18):(Am (60+op)).size<=4:=by
 obtain⟨a,b⟩:=h;rcases(show op=1\/op=2\/op=3\/op=4\/op=5\/op=6\/op=7\/op=8\/op=9\/op=10\/op=11\/op=12\/op=13\/op=14\/op=15\/op=16\/op=17\/op=18 by omega) with rfl|rfl|rfl|rfl|rfl|rfl|rfl|rfl|rfl|rfl|rfl|rfl|rfl|rfl|rfl|rfl|rfl|rfl;all_goals decide+kernel
def fW(N:Nd):Int:=150+8000*(bgN N:Int)
def Wp(ns:List Nd)(j:Int):Int:=((ns.take j.toNat).map fW).sum
def wN(ns:List Nd)(i:Int):Int:=Wp ns (i+1)-Wp ns (i+1-(jj ns).getD i.toNat 0)
def wK(ns:List Nd):List Int->Int
 |[]=>0
 |k::l=>wN ns k+wK ns l
def ahL(ns:List Nd)(a b:List Int):wK ns (a++b)=wK ns a+wK ns b:=by
 induction a with
 |nil=>simp[wK]
 |cons d e c=>simp only[ed,wK,c];omega
def aou(ns:List Nd)(l:List Int):wK ns l.reverse=wK ns l:=by
 induction l with
 |nil=>rfl
 |cons b l a=>rw[List.reverse_cons,ahL,a];simp only[wK];omega
def amE(ns:List Nd):∀(l:List Int)(a b:Int),qF (jj ns) l a=X b->wK ns l=Wp ns a-Wp ns b
 |[],a,b,h=>by simp[qF]at h;subst h;simp[wK]
 |k::r,a,b,h=>by
  rw[qF]at h;split at h
  .rename_i c;have:=amE ns r _ _ h;simp only[wK,wN];rw[this,show k+1=a by omega];omega
  .cases h
def ED(S:List Int)(i:Nat):∀(l:List Int)(a:Int),(∀k∈l,0<=k/\k<(i:Int))->qF (S.take i) l a=qF S l a
 |[],a,_=>rfl
 |k::r,a,h=>by
  have e:=h k bq;have b:(S.take i).getD k.toNat 0=S.getD k.toNat 0:=by
   rw[aD,aD,List.getElem?_take_of_lt (by omega)]
  rw[qF,qF,b,ED S i r _ λd c=>h d (dr _ c)]
def ak7(h:ns[i]?=X N):Wp ns ((i:Int)+1)=Wp ns i+fW N:=by
 unfold Wp;rw[show((i:Int)+1).toNat=i+1 by omega,show((i:Int)).toNat=i by omega,jc,h];simp
structure Jl (ns:List Nd):Prop where
 nb:∀i:Nat,i<ns.length->lh ns i (ab ns i)=M
 at_:∀i:Nat,i<ns.length->wN ns i=fW (ab ns i)+wK ns (ab ns i).ks
 root:wN ns ((ns.length:Int)-1)=Wp ns ns.length
 len:1<=ns.length
def A8(h:(eG ns).1=0):Jl ns:=by
 have o:=ab3 h;have l:=tB h;have v:=h;unfold eG at h;by_cases k:js ns=M
 .rw[ae k]at h;exact absurd h (by decide)
 rw[aa k]at h;have⟨m,p⟩:=aJ (li (gF ns) ns.length 0);rw[p]at h;cases m with
 |some a=>rw[tf2]at h;exact absurd h (by simp)
 |none=>
  rw[tf2]at h;have⟨n,j⟩:=aJ (li (jt (jj ns)) ns.length 0);rw[j]at h;cases n with
  |some a=>rw[tf3]at h;exact absurd h (by simp)
  |none=>
   have q:=oh j;rw[tf3]at h;have t:(jj ns).getD (ns.length-1) 0=(ns.length:Int):=by
    by_cases i:(jj ns).getD (ns.length-1) 0=(ns.length:Int)
    .exact i
    .rw[ae i]at h;exact absurd h (by simp)
   refine⟨o.nb,λa r=>?_,?_,l.len.1⟩
   .have d:ns[a]?=X (ab ns a):=by
     unfold ab;rw[ix,List.getD,az r];rfl
    generalize ab ns a=e at d;have c:=q a (aH _) (by omega);unfold jt at c;have b:=ab2 d;rw[b]at c;unfold oy at c b;cases hw:qF ((jj ns).take a) e.ks.reverse a with
    |none=>rw[hw]at c;simp at c
    |some f=>
     rw[hw]at b;simp only at b;rw[ED (jj ns) a _ _ (λu s=>l.kid a e d u (by simpa using s))]at hw;have g:=amE ns _ _ _ hw;rw[aou]at g;unfold wN;rw[show((a:Int)).toNat=a by omega,b,ak7 d,g,show(a:Int)+1-((a:Int)-f+1)=f by omega];omega
   .unfold wN;rw[show((ns.length:Int)-1).toNat=ns.length-1 by omega,t,show(ns.length:Int)-1+1=ns.length by omega,Int.sub_self];have:Wp ns 0=0:=by unfold Wp;simp
    omega
def aqt(d:Jl ns):∀{i:Nat},i<ns.length->150<=wN ns i:=by
 intro i
 induction i using Nat.strongRecOn with
 |_ i l=>
  intro c;rw[d.at_ i c];have j:∀a:List Int,(∀b∈a,b∈(ab ns i).ks)->0<=wK ns a:=by
   intro a
   induction a with
   |nil=>intro _;exact Int.le_refl _
   |cons o a m=>
    intro g;have⟨n,k,h⟩:=om (g o bq);have⟨p,e⟩:=iJ (d.nb i c) c n k;have:=l p e.lt e.len;have:=m (λb f=>g b (dr _ f));simp only[wK];rw[<-h,e.id];omega
  have:=j _ (λb f=>f);unfold fW;omega
def aov(L:List Nd):Wp L L.length=150*(L.length:Int)+8000*(bigs L:Int):=by
 unfold Wp bigs;rw[show((L.length:Nat):Int).toNat=L.length by omega,cj (af _)]
 induction L with
 |nil=>rfl
 |cons b L a=>
  simp only[dv,List.sum_cons,bB]at a⊢;rw[a];unfold fW;omega
def xD(N:Nd):150<=fW N:=by unfold fW;omega
def Ba:List Int:=[-1,32,9,13,10,41,93,125,44,59]
structure Ag (T:ByteArray) (p:Nat) (x:ByteArray):Prop where
 at_:∀i,i<x.size->aA T (p+i)=aA x i
 le:p+x.size<=T.size
 bl:aA T (p+x.size)∈Ba
section
variable {T x : ByteArray} {p : Nat}
def ah0(T:ByteArray)(a i:Nat):aA (T.extract a T.size) i=aA T (a+i):=by
 rcases bI (a+i) T.size with g|g
 .exact kK T a T.size i (af _)
 .rw[dJ (i:=a+i) (by omega),dJ (by rw[og T a T.size (af _)];omega)]
def Ag.q(h:Ag T p x)(a:Int->Bool)(b:∀c∈Ba,a c=Q)(d:a (-1)=Q)(e:i<=x.size):a (aA T (p+i))=a (aA x i):=by
 rcases bI i x.size with g|g
 .rw[h.at_ i g]
 .obtain rfl:i=x.size:=by omega
  rw[b _ h.bl,dJ,d]
def Ag.eq(h:Ag T p x)(d:c ∉ Ba)(g:c≠ -1)(e:i<=x.size):aA T (p+i)=c↔aA x i=c:=by
 have:=h.q (λa=>decide (a=c)) (λa f=>aE λb=>d (b ▸ f)) (by simp;omega) e;simpa using this
def aow{a:ByteArray}(f:a.size=b.size)(h:∀i,i<a.size->aA a i=aA b i):a=b:=by
 apply kI;refine Array.ext f (λi d e=>?_);have c:=h i d;unfold aA at c;rw[pf (show i<a.size from d),pf (show i<b.size from e)]at c;exact UInt8.toNat_inj.1 (Int.ofNat_inj.1 c)
def Ag.ext(h:Ag T p x){b:Nat}(c:b<=x.size):T.extract (p+a) (p+b)=x.extract a b:=by
 have i:=h.le;have e:=og T (p+a) (p+b) (by omega);have f:=og x a b c;refine aow (by omega) (λd g=>?_);rw[kK T _ _ d (by omega),kK x a b d c,fi,h.at_ _ (by omega)]
def zC(b:Int->Bool)(s:ByteArray):∀(n f p:Nat),(∀i,i<n->b (aA s (p+i))=M)->b (aA s (p+n))=Q->n<f->jD b s f p=p+n
 |n,0,p,_,_,h=>by omega
 |0,f+1,p,c,a,_=>by rw[jD,aa (by rw[iz]at a;rw[a];simp)];rfl
 |n+1,f+1,p,c,a,h=>by
  rw[jD,ae (by have:=c 0 (by omega);rwa [iz]at this)];rw[zC b s n f (p+1) (λi d=>by rw[show p+1+i=p+(i+1) by omega];exact c (i+1) (by omega)) (by rw[show p+1+n=p+(n+1) by omega];exact a) (by omega)];omega
def Ag.run(h:Ag T p x)(b:Int->Bool)(j:∀c∈Ba,b c=Q)(e:b (-1)=Q)(k:a<=x.size):jD b T (T.size+1) (p+a)=p+jD b x (x.size+1) a:=by
 have g:=qi b e x (x.size+1) a k;have f:=we b x (x.size+1) a;have i:=LA b e x (x.size+1) a (by omega);have n:=h.le;obtain⟨d,l⟩:∃d,jD b x (x.size+1) a=d:=⟨_,rfl⟩;rw[l]at g f i⊢;rw[zC b T (d-a) (T.size+1) (p+a) (λo m=>by rw[fi,h.q b j e (by omega)];exact f _ (by omega) (by omega)) (by rw[fi,show a+(d-a)=d by omega,h.q b j e g.2];exact i) (by omega)];omega
def Dc(s:ByteArray):∀f p,rv s f p=jD (λc=>cD c||cJ c) s f p
 |0,p=>rfl
 |f+1,p=>by
  rw[rv,jD,Dc s f (p+1)];by_cases h:cD (aA s p)=M\/cJ (aA s p)=M
  .rw[ae h,ae (by simpa using h)]
  .rw[aa h,aa (by simpa using h)]
def Ag.nm(h:Ag T p x)(c:a<=x.size):rv T (T.size+1) (p+a)=p+rv x (x.size+1) a:=by
 rw[Dc,Dc];exact h.run (λb=>cD b||cJ b) (by decide) (by decide) c
def Ag.dig(h:Ag T p x)(b:a<=x.size):uo T (p+a)=p+uo x a:=h.run cJ (by decide) (by decide) b
def Ag.hx(h:Ag T p x)(b:a<=x.size):hxE T (p+a)=p+hxE x a:=h.run ou (by decide) (by decide) b
def Ag.a0(h:Ag T p x)(f:a<x.size):nA0 T (p+a)=p+nA0 x a:=by
 unfold nA0;have d:=h.eq (c:=48) (by decide) (by decide) (iA f);by_cases b:aA x a=48
 .rw[ae (d.2 b),ae b,fi]
 .rw[aa (λe=>b (d.1 e)),aa b,fi,h.dig (by omega)]
def Ag.a1(h:Ag T p x)(j:a<=x.size):nA1 T (p+a)=p+nA1 x a:=by
 unfold nA1;have g:=h.eq (c:=46) (by decide) (by decide) j;by_cases d:aA x a=46
 .have i:a+1<=x.size:=co d;have f:=h.q cJ (by decide) (by decide) i;rw[<-fi]at f;by_cases e:cJ (aA x (a+1))=M
  .rw[ae ⟨g.2 d,by rw[f];exact e⟩,ae ⟨d,e⟩,fi,h.dig i]
  .rw[aa (λb=>e (by rw[<-f];exact b.2)),aa (λb=>e b.2)]
 .rw[aa (λb=>d (g.1 b.1)),aa (λb=>d b.1)]
def Ag.ex(h:Ag T p x)(k:a<=x.size):qa T (p+a)=(p+(qa x a).1,(qa x a).2):=by
 unfold qa;have f:=h.eq (c:=101) (by decide) (by decide) k;by_cases b:aA x a=101
 .have j:a+1<=x.size:=co b;have d:=h.eq (c:=43) (by decide) (by decide) j;have e:=h.eq (c:=45) (by decide) (by decide) j;rw[<-fi]at d e;have i:nA2 T (p+a)=p+nA2 x a/\nA2 x a<=x.size:=by
   unfold nA2;by_cases g:aA x (a+1)=43\/aA x (a+1)=45
   .have:a+1<x.size:=by rcases g with g|g<;>exact co g
    rw[ae g,ae (by rw[d,e];exact g)];omega
   .rw[aa g,aa (by rw[d,e];exact g)];omega
  rw[ae (f.2 b),ae b,i.1,h.dig i.2];simp
 .rw[aa (λg=>b (f.1 g)),aa b]
def Ag.x2(h:Ag T p x)(b:a<x.size):(aA T (p+a)=48/\aA T (p+a+1)=120)↔(aA x a=48/\aA x (a+1)=120):=by
 rw[h.eq (c:=48) (by decide) (by decide) (iA b),fi,h.eq (c:=120) (by decide) (by decide) (show a+1<=x.size from b)]
def Ag.num(h:Ag T p x)(d:a<x.size):fc T (p+a)=(p+(fc x a).1,(fc x a).2):=by
 unfold fc;by_cases b:aA x a=48/\aA x (a+1)=120
 .rw[ae b,ae ((h.x2 d).2 b)];unfold pv;have:=co b.2;have f:=h.hx (show a+2<=x.size by omega);rw[<-fi]at f;rw[f];by_cases c:a+2+16<hxE x (a+2)
  .rw[ae c,ae (by omega)];simp;omega
  .rw[aa c,aa (by omega)];simp;omega
 .rw[aa b,aa (λc=>b ((h.x2 d).1 c)),h.a0 d];have e:=Eb x a d;have g:=Ec x (nA0 x a) e.2;rw[h.a1 e.2,h.ex g.2]
def Ag.kd(h:Ag T p x)(e:a<x.size):Fz T (p+a)=Fz x a:=by
 unfold Fz;have b:=Eb x a e;have g:=Ec x (nA0 x a) b.2;rw[h.a0 e,h.a1 b.2];have i:=h.eq (c:=46) (by decide) (by decide) b.2;have j:=h.eq (c:=101) (by decide) (by decide) g.2;refine decide_eq_decide.2 ?_;rw[i,j];by_cases f:aA x (nA0 x a)=46
 .have d:=h.q cJ (by decide) (by decide) (show nA0 x a+1<=x.size from co f);rw[<-fi]at d;rw[d]
 .simp[f]
def Ag.dc(h:Ag T p x)(a:Nat):∀n,a+n<=x.size->si T (p+a) n=si x a n
 |0,_=>rfl
 |n+1,b=>by rw[si,si,h.dc a n (by omega),fi,h.at_ (a+n) (by omega)]
def Ag.hv(h:Ag T p x)(a:Nat):∀n,a+n<=x.size->ur T (p+a) n=ur x a n
 |0,_=>rfl
 |n+1,b=>by rw[ur,ur,h.hv a n (by omega),fi,h.at_ (a+n) (by omega)]
def Ag.nu(h:Ag T p x)(c:a<x.size):yk T (p+a)=yk x a:=by
 unfold yk;have e:=xd x a c;rw[h.num c,h.kd c];obtain⟨b,f⟩:∃b,(fc x a).1=b:=⟨_,rfl⟩;simp only[f]at e⊢;by_cases d:aA x a=48/\aA x (a+1)=120
 .rw[ae d,ae ((h.x2 c).2 d),show p+b-(p+a+2)=b-(a+2) by omega,fi];rcases bI (a+2) b with g|g
  .rw[h.hv (a+2) _ (by omega)]
  .rw[show b-(a+2)=0 by omega];rfl
 .rw[aa d,aa (λg=>d ((h.x2 c).1 g)),show p+b-(p+a)=b-a by omega,h.dc a _ (by omega),h.ext e.2]
def adB(h:¬jA (aA s i)<0):i<s.size:=by
 rcases bI i s.size with g|g
 .exact g
 .rw[dJ]at h;exact absurd (by decide) h
def Ag.hexI(h:Ag T p x)(b:(hexI x a).2.2=M):hexI T (p+a)=((hexI x a).1,p+(hexI x a).2.1,M):=by
 unfold Go.Proofs.YthboboahkkhopaaGreatDoor.hexI at b⊢;by_cases c:jA (aA x a)<0
 .rw[ae c]at b;cases b
 rw[aa c]at b;by_cases d:jA (aA x (a+1))<0
 .rw[ae d]at b;cases b
 rw[h.at_ a (adB c),aa c,fi,h.at_ (a+1) (adB d),aa d,aa c,aa d];rfl
def Ag.esc(h:Ag T p x)(b:(mw x a).2.2=M):mw T (p+a)=((mw x a).1,p+(mw x a).2.1,M):=by
 have i:a<x.size:=by
  rcases bI a x.size with g|g
  .exact g
  .unfold mw at b;rw[dJ]at b;revert b;simp
 unfold mw at b⊢;rw[h.at_ a i];by_cases c:aA x a=110
 .rw[ae c,ae c];rfl
 rw[aa c]at b;rw[aa c,aa c];by_cases d:aA x a=116
 .rw[ae d,ae d];rfl
 rw[aa d]at b;rw[aa d,aa d];by_cases e:aA x a=34\/aA x a=92
 .rw[ae e,ae e];rfl
 rw[aa e]at b;rw[aa e,aa e];by_cases f:aA x a=120
 .rw[ae f]at b;rw[ae f,ae f,fi,h.hexI b]
 rw[aa f]at b;cases b
def Ag.str(h:Ag T p x):∀(f g a:Nat)(c:List Int),f<=g->(jv x f a c).1=M->jv T g (p+a) c=(M,p+(jv x f a c).2.1,(jv x f a c).2.2)
 |0,g,a,c,_,b=>by rw[jv]at b;cases b
 |f+1,0,a,c,l,b=>by omega
 |f+1,g+1,a,c,l,b=>by
  have m:=h.le;rw[jv]at b⊢;rw[jv];by_cases k:x.size<=a
  .rw[ae k]at b;cases b
  rw[aa k]at b;rw[aa k,aa (by omega),h.at_ a (by omega)];by_cases e:aA x a=34
  .rw[ae e,ae e];rfl
  rw[aa e]at b;rw[aa e,aa e];by_cases i:aA x a=10
  .rw[ae i]at b;cases b
  rw[aa i]at b;rw[aa i,aa i];by_cases d:aA x a=92
  .rw[ae d]at b;rw[ae d,ae d];by_cases j:(mw x (a+1)).2.2=M
   .rw[ae j]at b;rw[ae j,fi,h.esc j,ae rfl];exact h.str f g _ _ (by omega) b
   .rw[aa j]at b;cases b
  rw[aa d]at b;rw[aa d,aa d,fi];exact h.str f g _ _ (by omega) b
end
def zD(r a:ByteArray):U r.data.toList a.data.toList=M↔∀i,i<a.size->aA r i=aA a i:=by
 unfold U;rw[Ho,List.prefix_iff_getElem?];constructor
 .intro c i b;have d:a.data.toList[i]?=X (a.data.toList[i]'(by rw[iG];exact b)):=az _;rw[((jl _ _ _).1 d).2,((jl _ _ _).1 (c i (by rw[iG];exact b))).2]
 .intro c i b;have f:i<a.size:=by rw[iG]at b;exact b
  have d:a.data.toList[i]?=X a.data.toList[i]:=az _;have e:=((jl _ _ _).1 d).2;refine(jl _ _ _).2 ⟨?_,by rw[c i f,e]⟩;rw[<-c i f]at e;exact co e
def nbS(V:Array Value)(N:Nat):Prop:=∀k:Fin N,∀i:Fin 4,0<i.val->i.val<(dD V k.val).size->aA (dD V k.val) i.val ∉ Ba
def aox:nbS kD 11:=by unfold nbS;decide+kernel
def aoy:nbS ni 18:=by unfold nbS;decide+kernel
section
variable {T x : ByteArray} {p : Nat}
def Ag.pre(h:Ag T p x)(k:a<x.size){c:ByteArray}(m:c.size<=3)(j:∀i:Fin 4,0<i.val->i.val<c.size->aA c i.val ∉ Ba):U (T.extract (p+a) T.size).data.toList c.data.toList=U (x.extract a x.size).data.toList c.data.toList:=by
 have l:=h.le;rw[CI,zD,zD];have e:∀i,a+i<=x.size->aA (T.extract (p+a) T.size) i=aA T (p+(a+i)):=λi b=>by rw[ah0,fi]
 have f:∀i,a+i<x.size->aA (x.extract a x.size) i=aA x (a+i):=λi b=>kK x a _ i (af _) b;constructor
 .intro d i b;rcases bI (a+i) x.size with q|q
  .rw[f i q,<-h.at_ _ q,<-e i (by omega)];exact d i b
  .have:=d (x.size-a) (by omega);rw[e _ (by omega),show a+(x.size-a)=x.size by omega]at this;exact absurd (this ▸ h.bl) (j ⟨x.size-a,by omega⟩ (by show 0<x.size-a;omega) (by show x.size-a<c.size;omega))
 .intro d i b;have g:a+i<x.size:=by
   have:=co (d i b) (oa b).1;rw[og x a _ (af _)]at this;omega
  rw[e i (by omega),h.at_ _ g,<-f i g];exact d i b
def tE(V:Array Value)(base:Int)(r r':ByteArray)(N:Nat)(b:∀k,k<N->U r.data.toList (dD V k).data.toList=U r'.data.toList (dD V k).data.toList):∀(f i:Nat)(a:Int×Nat),i+f<=N->zm V base r f i a=zm V base r' f i a
 |0,i,a,_=>rfl
 |f+1,i,a,h=>by rw[zm,zm,b i (by omega),tE V base r r' N b f (i+1) _ (by omega)]
def Ag.sk(h:Ag T p x)(d:a<x.size):uv (T.extract (p+a) T.size)=uv (x.extract a x.size):=by
 have f:=h.le;have e:aA (T.extract (p+a) T.size) 0=aA (x.extract a x.size) 0:=by rw[kK T _ _ 0 (af _),kK x a _ 0 (af _) d,iz,iz,h.at_ _ d]
 unfold uv;rw[e,tE kD 40 _ (x.extract a x.size) 11 (λc b=>h.pre d (osz ⟨c,b⟩) (aox ⟨c,b⟩)) 11 0 _ (by omega),
  tE ni 61 _ (x.extract a x.size) 18 (λc b=>h.pre d (bsz ⟨c,b⟩) (aoy ⟨c,b⟩)) 18 0 _ (by omega)]
def Ag.rdA(h:Ag T p x)(e:a<x.size)(b:(du x a).ok=M):du T (p+a)=⟨M,p+(du x a).a,(du x a).d,(du x a).k,(du x a).n,(du x a).x⟩:=by
 have l:=h.at_ a e;have o:=h.le;unfold du at b⊢;rw[l];by_cases i:cD (aA x a)=M
 .simp only[ae i];have g:=h.nm (iA e);have m:Ka T (p+a)=Ka x a:=by unfold Ka;rw[g,h.ext (ya x _ a (iA e)).2]
  rw[g,m]
 simp only[aa i]at b⊢;by_cases j:cJ (aA x a)=M
 .simp only[ae j]at b⊢;by_cases f:(fc x a).2=M
  .rw[h.num e,h.nu e];simp only[ae f]
  .rw[aa f]at b;cases b
 simp only[aa j]at b⊢;by_cases f:aA x a=34
 .simp only[ae f]at b⊢;by_cases c:(jv x (x.size+1) (a+1) []).1=M
  .rw[fi,h.str (x.size+1) (T.size+1) (a+1) [] (by omega) c];simp only[ae c,kJ]
  .rw[aa c]at b;cases b
 simp only[aa f,h.sk e]at b⊢;by_cases c:uv (x.extract a x.size)=0
 .rw[ae c]at b;cases b
 .simp only[aa c,fi]
def Ag.rd(h:Ag T p x)(b:0<x.size)(e:(du x 0).ok=M)(c:(du x 0).a=x.size):du T p=⟨M,p+x.size,(du x 0).d,(du x 0).k,(du x 0).n,(du x 0).x⟩:=by
 have:=h.rdA b e
 rwa [c,iz]at this
end
structure Alo (x:ByteArray) (k n:Int) (y:ByteArray):Prop where
 pos:0<x.size
 ok:(du x 0).ok=M
 en:(du x 0).a=x.size
 ki:(du x 0).k=k
 nu:(du x 0).n=n
 tx:(du x 0).x=y
 bl:kC (aA x 0)=Q
 da:aA x 0=45->x.size=1
def aoz:∀k:Fin 79,(dG (k.val:Int)).size≠0->(du (dG (k.val:Int)) 0).ok=M/\(du (dG (k.val:Int)) 0).a=(dG (k.val:Int)).size/\(du (dG (k.val:Int)) 0).k=(k.val:Int)/\(du (dG (k.val:Int)) 0).n=0/\(du (dG (k.val:Int)) 0).x.size=0/\kC (aA (dG (k.val:Int)) 0)=Q/\(aA (dG (k.val:Int)) 0=45->(dG (k.val:Int)).size=1):=by decide+kernel
def aoA{x:ByteArray}(h:x.size=0):x=⟨#[]⟩:=by
 apply kI;exact Array.eq_empty_of_size_eq_zero h
def adC(h:k<0\/78<k):dG k=aa7:=by
 unfold dG;rw[aa (by omega),aa (by omega),aa (by omega),aa (by omega),aa (by omega)]
def ak8(h:(dG k).size≠0):Alo (dG k) k 0 ⟨#[]⟩:=by
 have m:0<=k/\k<=78:=by
  rcases Int.lt_or_le k 0 with g|g
  .rw[adC (.inl g)]at h;exact absurd rfl h
  rcases Int.lt_or_le 78 k with g2|g2
  .rw[adC (.inr g2)]at h;exact absurd rfl h
  .exact⟨g,g2⟩
 have b:((k.toNat:Nat):Int)=k:=by omega
 have a:=aoz ⟨k.toNat,by omega⟩;simp only[b]at a;have⟨c,d,e,f,i,j,l⟩:=a h;exact⟨by omega,c,d,e,f,aoA i,j,l⟩
def ah1{x:ByteArray}(h:jf x=M):Alo x 1 0 x:=by
 unfold jf at h;have⟨i,c,d,b⟩:=aG h;have j:=oD c;have f:0<x.size:=co rfl;have e:Ka x 0=(1,x):=by
  unfold Ka;rw[d,nB];unfold uk at b;cases a:xr gA x 22 0 with
  |none=>rfl
  |some k=>rw[a]at b;cases b
 have a:du x 0=⟨M,x.size,0,1,0,x⟩:=by
  unfold du;rw[ae c,d,e]
 exact⟨f,by rw[a],by rw[a],by rw[a],by rw[a],by rw[a],by simp[kC];omega,λg=>by omega⟩
def ak9{x:ByteArray}(h:fok x=M):Alo x 3 0 x:=by
 unfold fok qD at h;rw[ch]at h;have⟨b,c,d,j⟩:=aG h.2;have n:=kF b;have i:0<x.size:=co rfl;have m:cD (aA x 0)=Q:=by simp[cD];omega
 have k:qa x (nA1 x (nA0 x 0))=(x.size,M):=by rw[<-c];unfold fc;rw[aa d]
 have l:=(I4 x b k).1 j;have f:yk x 0=(3,0,x):=by
  unfold yk;rw[aa d,c];simp only[wF,nB];rcases l with g|g
  .rw[ae g]
  .by_cases e:Fz x 0=M
   .rw[ae e]
   .rw[aa e,g]
 have a:du x 0=⟨M,x.size,0,3,0,x⟩:=by
  unfold du;rw[aa (by rw[m];simp),ae b,c,ae rfl,f]
 exact⟨i,by rw[a],by rw[a],by rw[a],by rw[a],by rw[a],by simp[kC];omega,λg=>by omega⟩
def ala(a:ByteArray):Alo (eD (dA a)) 4 0 a:=by
 have d:=agH a a.size 0 ((eD (dA a)).size+1) (by omega) (by rw[acG];show _<1+_;omega);rw[acG,Hq]at d;have c:=Li a;have f:0<(eD (dA a)).size:=co c;have b:du (eD (dA a)) 0=⟨M,(eD (dA a)).size,0,4,0,a⟩:=by
  unfold du;rw[c,aa (by decide),aa (by decide),ae rfl];show(if(jv (eD (dA a)) ((eD (dA a)).size+1) 1 []).1=M then _ else _)=_;have g:jv (eD (dA a)) ((eD (dA a)).size+1) 1 []=(M,(eD (dA a)).size,pG a):=d;rw[g,ae rfl,abo]
 exact⟨f,by rw[b],by rw[b],by rw[b],by rw[b],by rw[b],by rw[c];decide,λe=>by rw[c]at e;omega⟩
def pJ(u:Nat):ByteArray:=⟨(W u).toArray⟩
def afx(u:Nat):(pJ u).size=Lib.nDigits u:=by
 unfold pJ;show(W u).toArray.size=_;rw[jo,Lib.decDigits_length]
def ab7{u:Nat}(h:u<10):pJ u=⟨#[UInt8.ofNat (48+u)]⟩:=by unfold pJ;rw[W,pf h]
def ah2{u:Nat}(h:¬u<10):pJ u=pJ (u / 10)++⟨#[UInt8.ofNat (48+u%10)]⟩:=by
 unfold pJ;rw[W,dif_neg h];apply kI;rw[lm];apply Array.toList_inj.1;simp
def adD(u:Nat)(h:u<10):aA ⟨#[UInt8.ofNat (48+u)]⟩ 0=48+(u:Int):=by
 iterate 10 (obtain _|u:=u;· decide)
 omega
def adE{t:ByteArray}{p:Nat}:∀n,(∀i,i<n->aA s (p+i)=aA t (p+i))->si s p n=si t p n
 |0,_=>rfl
 |n+1,h=>by rw[si,si,adE n (λi a=>h i (by omega)),h n (by omega)]
def EE(u:Nat):0<(pJ u).size/\(∀i,i<(pJ u).size->cJ (aA (pJ u) i)=M)/\(u≠0->aA (pJ u) 0≠48)/\(u<10->(pJ u).size=1)/\(u<=9223372036854775807->si (pJ u) 0 (pJ u).size=X u):=by
 induction u using Nat.strongRecOn with
 |_ u o=>
  by_cases d:u<10
  .have c:=ab7 d;have e:(pJ u).size=1:=by rw[c];rfl
   have b:aA (pJ u) 0=48+(u:Int):=by rw[c];exact adD u d
   refine⟨by omega,λi f=>?_,λp=>by rw[b];omega,λ_=>e,λ_=>?_⟩
   .obtain rfl:i=0:=by omega
    rw[b];simp[cJ];omega
   .rw[e,si,si];simp only[gu,b];rw[show(48+(u:Int)-48).toNat=u by omega,ae (by omega)];simp
  .have c:=ah2 d;have⟨k,l,n,_,m⟩:=o (u / 10) (by omega);obtain⟨a,h⟩:∃a,(pJ (u / 10)).size=a:=⟨_,rfl⟩;have e:(pJ u).size=a+1:=by rw[c,aq,h];rfl
   have b:∀i,aA (pJ u) i=if i<a then aA (pJ (u / 10)) i else aA ⟨#[UInt8.ofNat (48+u%10)]⟩ (i-a):=λi=>by rw[c,rz,h]
   have j:aA (pJ u) a=48+((u%10:Nat):Int):=by rw[b,aa (by omega),fH];exact adD _ (by omega)
   rw[h]at k l m;refine⟨by omega,λi f=>?_,λ_=>?_,λg=>absurd g d,λq=>?_⟩
   .rcases bI i a with g|g
    .rw[b,ae g];exact l i g
    .obtain rfl:i=a:=by omega
     rw[j];simp[cJ];omega
   .rw[b,ae k];exact n (by omega)
   .rw[e,si,adE (t:=pJ (u / 10)) a (λi f=>by rw[gu,b,ae f]),m (by omega)];simp only[gu,j];rw[show(48+((u%10:Nat):Int)-48).toNat=u%10 by omega,ae (by omega)]
    congr 1
    omega
def alb(u:Nat)(t:u<=9223372036854775807):Alo (pJ u) 2 (u:Int) ⟨#[]⟩:=by
 have⟨h,e,m,n,f⟩:=EE u;have f:=f t;obtain⟨a,v⟩:∃a,pJ u=a:=⟨_,rfl⟩;rw[v]at h e m n f⊢;have k:=e 0 h;have z:=kF k;have s:cD (aA a 0)=Q:=by simp[cD];omega
 have o:¬(aA a 0=48/\aA a (0+1)=120):=λc=>by
  have:=e 1 (co c.2);rw[show(1:Nat)=0+1 from rfl,c.2]at this;exact absurd this (by decide)
 have p:∀b,b<=a.size->uo a b=a.size:=λb x=>by
  unfold uo;rw[zC cJ a (a.size-b) (a.size+1) b (λA y=>e _ (by omega)) (by rw[show b+(a.size-b)=a.size by omega,dJ];decide) (by omega)];omega
 have i:nA0 a 0=a.size:=by
  unfold nA0;by_cases c:aA a 0=48
  .rw[ae c];have:u=0:=by
    rcases nK u with q|q
    .exact q
    .exact absurd c (m (by omega))
   rw[n (by omega)]
  .rw[aa c];exact p _ (by omega)
 have g:aA a a.size= -1:=dJ;have j:nA1 a a.size=a.size:=by unfold nA1;rw[g,aa (by simp)]
 have l:fc a 0=(a.size,M):=by
  unfold fc;rw[aa o,i,j];unfold qa;rw[g,aa (by decide)]
 have w:Fz a 0=Q:=by unfold Fz;rw[i,j,g];simp
 have r:yk a 0=(2,(u:Int),⟨#[]⟩):=by
  unfold yk;rw[aa o,l,w];simp only[wF];rw[aa (by simp),f]
 have d:du a 0=⟨M,a.size,0,2,(u:Int),⟨#[]⟩⟩:=by
  unfold du;rw[aa (by rw[s];simp),ae k,l,ae rfl,r]
 exact⟨h,by rw[d],by rw[d],by rw[d],by rw[d],by rw[d],by simp[kC];omega,λc=>by omega⟩
def Dd(u:Nat):∀r,aA (I5 u r) 0=48/\aA (I5 u r) 1=120/\∀j,j<r->aA (I5 u r) (2+j)=BC u (15-j)
 |0=>⟨rfl,rfl,λj f=>by omega⟩
 |r+1=>by
  have⟨c,d,e⟩:=Dd u r;have h:=tu u r;have b:∀a,aA (I5 u (r+1)) a=if a<r+2 then aA (I5 u r) a else aA (eD [BC u (15-r)]) (a-(r+2)):=λa=>by show aA (I5 u r++_) a=_;rw[rz,h]
  refine⟨by rw[b,ae (by omega)];exact c,by rw[b,ae (by omega)];exact d,λj f=>?_⟩;rcases bI j r with g|g
  .rw[b,ae (by omega)];exact e j g
  .obtain rfl:j=r:=by omega
   rw[b,aa (by omega),show 2+j-(j+2)=0 by omega,ze _ (λk i=>by
    rw[List.mem_singleton.1 i];unfold BC;have:=Iv ((u / 16 ^ (15-j)%16:Nat):Int) (by omega) (by omega);omega)]
   rfl
def amF(u j:Nat):jA (BC u j)=((u / 16 ^ j%16:Nat):Int):=ye _ (by omega) (by omega)
def amG(u:Nat)(a:u<16 ^ 16):∀m,m<=16->ur (I5 u 16) 2 m=u / 16 ^ (16-m)
 |0,_=>by rw[ur];exact(Nat.div_eq_of_lt (by simpa using a)).symm
 |m+1,h=>by
  rw[ur,amG u a m (by omega),(Dd u 16).2.2 m (by omega),amF];have e:16-m=(15-m)+1:=by omega
  rw[e,show 16-(m+1)=15-m by omega,Nat.pow_succ,<-Nat.div_div_eq_div_mul];simp only[ix];omega
def alc(n:Int)(s: -9223372036854775808<=n)(t:n<0):Alo (I5 (n+18446744073709551616).toNat 16) 2 n ⟨#[]⟩:=by
 obtain⟨b,p⟩:∃b,(n+18446744073709551616).toNat=b:=⟨_,rfl⟩;rw[p];have⟨c,g,h⟩:=Dd b 16;have e:=tu b 16;have f:=amG b (by show b<18446744073709551616;omega) 16 (by omega);rw[show 16-16=0 from rfl,Nat.pow_zero,Nat.div_one]at f;obtain⟨a,q⟩:∃a,I5 b 16=a:=⟨_,rfl⟩;rw[q]at c g h e f⊢;have m:hxE a 2=18:=by
  unfold hxE;rw[zC ou a 16 (a.size+1) 2 (λr o=>by rw[h r o];unfold ou;rw[amF];exact aI (by omega)) (by rw[dJ];decide) (by omega)]
 have j:aA a 0=48/\aA a (0+1)=120:=⟨c,g⟩;have i:fc a 0=(a.size,M):=by
  unfold fc;rw[ae j];unfold pv;rw[gu,m,aa (by omega),e];rfl
 have k:yk a 0=(2,n,⟨#[]⟩):=by
  unfold yk;rw[ae j,i];simp only[gu];rw[e,show 16+2-2=16 by rfl,f];have:wrap64 (b:Int)=n:=by unfold wrap64;omega
  rw[this]
 have d:du a 0=⟨M,a.size,0,2,n,⟨#[]⟩⟩:=by
  unfold du;rw[c,aa (by decide),ae (by decide),i,ae rfl,k]
 exact⟨by omega,by rw[d],by rw[d],by rw[d],by rw[d],by rw[d],by rw[c];decide,λl=>by rw[c]at l;omega⟩
def ald(n:Int)(b: -9223372036854775808<=n)(c:n<=9223372036854775807):Alo (tA n) 2 n ⟨#[]⟩:=by
 unfold tA;split
 .rename_i a;exact alc n b a
 .rename_i a;have:=alb n.toNat (by omega);rw[show((n.toNat:Nat):Int)=n by omega]at this;exact this
def Jm(V:Array Value)(base:Int)(r:ByteArray):∀(f i:Nat)(a:Int×Nat),(zm V base r f i a).1=a.1\/(base+i<=(zm V base r f i a).1/\(zm V base r f i a).1<base+i+f)
 |0,i,a=> .inl rfl
 |f+1,i,a=>by
  rw[zm];rcases Jm V base r f (i+1) (if a.2<(dD V i).size/\U r.data.toList (dD V i).data.toList=M then(base+(i:Int),(dD V i).size) else a) with h|h
  .split at h
   .rename_i g;rw[ae g]at *;right;omega
   .rename_i g;rw[aa g]at *;left;exact h
  .right;omega
def ah3(r:ByteArray)(l:0<r.size)(g:uv r≠0):(uv r=5\/uv r=7\/(40<=uv r/\uv r<=78))/\∀i,i<(dG (uv r)).size->aA r i=aA (dG (uv r)) i:=by
 by_cases b:aA r 0=59
 .have a:uv r=5:=by unfold uv;rw[ae b]
  rw[a];exact⟨.inl rfl,λi e=>by
   have:i<1:=e;obtain rfl:i=0:=by omega
   rw[b];decide⟩
 by_cases d:aA r 0=10
 .have a:uv r=7:=by unfold uv;rw[aa b,ae d]
  rw[a];exact⟨.inr (.inl rfl),λi e=>by
   have:i<1:=e;obtain rfl:i=0:=by omega
   rw[d];decide⟩
 have a:uv r=(zm ni 61 r 18 0 (zm kD 40 r 11 0 (0,0))).1:=by unfold uv;rw[aa b,aa d]
 have h:=Jm kD 40 r 11 0 (0,0);have j:=Jm ni 61 r 18 0 (zm kD 40 r 11 0 (0,0));have k:=zn kD 40 r 11 (by omega) ado 11 0 (0,0) (by omega) (.inl ⟨rfl,rfl⟩);have f:=zn ni 61 r 18 (by omega) adp 18 0 _ (by omega) k;rw[<-a]at j f;refine⟨.inr (.inr ?_),?_⟩
 .simp only at h;omega
 .rcases f with⟨c,_⟩|⟨_,_,c,_⟩
  .exact absurd c g
  .exact(zD r _).1 c
def Stn(T:ByteArray)(p:Nat)(x:ByteArray):Prop:=p+x.size<=T.size/\∀i,i<x.size->aA T (p+i)=aA x i
section
variable {T x y w : ByteArray} {p : Nat} {k n : Int}
def Stn.app(h:Stn T p (x++y)):Stn T p x/\Stn T (p+x.size) y:=by
 obtain⟨d,b⟩:=h;rw[aq]at d b;refine⟨⟨by omega,λa c=>?_⟩,by omega,λa c=>?_⟩
 .rw[b a (by omega),rz,ae c]
 .rw[fi,b (x.size+a) (by omega),rz,aa (by omega),show x.size+a-x.size=a by omega]
def Stn.ext(h:Stn T p x):T.extract p (p+x.size)=x:=by
 have c:=h.1;apply kI;apply Array.toList_inj.1;apply List.ext_getElem?;intro a;rcases bI a x.size with g|g
 .have b:x.data.toList[a]?=X (x.data.toList[a]'(by rw[iG];exact g)):=az _;rw[b];refine(jl _ _ _).2 ⟨by rw[tK];omega,?_⟩;rw[kK T p (p+x.size) a (by omega),h.2 a g];exact((jl _ _ _).1 b).2
 .rw[jp (by rw[iG];show(T.extract p (p+x.size)).size<=a;rw[tK];omega),jp (by rw[iG];exact g)]
def nxS(k c:Int):Bool:=if k=40\/k=41\/k=42\/k=43\/k=44\/k=45\/k=46\/k=50 then M else if k=62 then M else if k=69 then decide (c≠61) else if k=48 then decide (c≠46) else decide (c∈Ba)
def Aj(w:ByteArray)(k c:Int):Bool:=if cD (aA w 0)=M then !(alB c) else if cJ (aA w 0)=M\/aA w 0=34 then decide (c∈Ba) else nxS k c&&decide (aA w 0≠45\/c≠45)
def ah4(V:Array Value)(N:Nat):Prop:=∀k:Fin 79,∀y:Fin N,40<=k.val->(dG (k.val:Int)).size≠0->(dG (k.val:Int)).size<(dD V y.val).size->(∀i:Fin 3,i.val<(dG (k.val:Int)).size->aA (dD V y.val) i.val=aA (dG (k.val:Int)) i.val)->nxS (k.val:Int) (aA (dD V y.val) (dG (k.val:Int)).size)=Q
def aqu:ah4 kD 11:=by unfold ah4;decide+kernel
def aqv:ah4 ni 18:=by unfold ah4;decide+kernel
def ah5(g:Stn T p x)(u:0<x.size)(n:∀i,i<x.size->aA x i=aA (dG k) i)(t:(dG k).size=x.size)(v:40<=k/\k<=78)(r:nxS k (aA T (p+x.size))=M){V:Array Value}{N j:Nat}(m:ah4 V N)(o:j<N)(s:(dD V j).size<=3):
  U (T.extract p T.size).data.toList (dD V j).data.toList=U x.data.toList (dD V j).data.toList:=by
 obtain⟨w,g⟩:=g;obtain⟨h,l⟩:∃h,dD V j=h:=⟨_,rfl⟩;have f:=m ⟨k.toNat,by omega⟩ ⟨j,o⟩;simp only[show((k.toNat:Nat):Int)=k by omega]at f;rw[l]at f s⊢;have z:=og T p T.size (af _);rw[CI,zD,zD];have c:∀i,i<x.size->aA (T.extract p T.size) i=aA x i:=λi a=>by rw[kK T p T.size i (af _),g i a]
 constructor
 .intro b i a;rcases bI x.size h.size with q|q
  .exfalso;have d:=b x.size q;have e:=oa q;have y:x.size<(T.extract p T.size).size:=co d e.1;rw[kK T p T.size x.size (af _)]at d;have:=f (by omega) (by omega) (by omega) (λi a=>by rw[<-n i.val (by omega),<-c i.val (by omega)];exact(b i.val (by omega)).symm);rw[t,<-d,r]at this;cases this
  .rw[<-c i (by omega)];exact b i a
 .intro b i a;have e:=oa a;have:=co (b i a) e.1;rw[c i this];exact b i a
def aqw(I:Alo w k n y)(j:Stn T p w)(au:k≠7)(ar:k≠5)(f:Aj w k (aA T (p+w.size))=M):
  (du T p).ok=M/\(du T p).a=p+w.size/\(du T p).k=k/\(du T p).n=n/\(du T p).x=y/\blk T (T.size+1) p=p:=by
 have g:aA T p=aA w 0:=by have:=j.2 0 I.pos;rwa [iz]at this
 obtain⟨u,o,b,d,h,i,L,ad⟩:=I;have A:¬(aA T p=45/\aA T (p+1)=45)->blk T (T.size+1) p=p:=Jc T p (by rw[g,L];simp);unfold Aj at f;by_cases c:cD (aA w 0)=M
 .have ax:=oD c;rw[ae c]at f;have l:rv T (T.size+1) p=p+w.size:=by
   unfold du at b;rw[ae c]at b;simp only at b;rw[Dc]at b⊢;have E:=we (λF=>cD F||cJ F) w (w.size+1) 0;rw[b]at E;have av:=j.1;exact zC _ T w.size (T.size+1) p (λm B=>by rw[j.2 m B];exact E m (aH _) B) (by simpa [alB] using f) (by omega)
  have G:Ka T p=Ka w 0:=by
   unfold du at b;rw[ae c]at b;simp only at b;unfold Ka;rw[l,j.ext,b,nB]
  refine⟨?_,?_,?_,?_,?_,A (by omega)⟩;all_goals (unfold du at o b d h i⊢;rw[ae c]at o b d h i;rw[g,ae c])
  .exact l
  .simp only[G];exact d
  .exact h
  .simp only[G];exact i
 rw[aa c]at f;by_cases e:cJ (aA w 0)=M\/aA w 0=34
 .rw[ae e]at f;have ao:Ag T p w:=⟨j.2,j.1,aG f⟩;have l:=ao.rd u o b;refine⟨by rw[l],by rw[l],by rw[l];exact d,by rw[l];exact h,by rw[l];exact i,A ?_⟩;rcases e with q|q
  .have:=kF q;omega
  .omega
 rw[aa e]at f;have⟨e,r⟩:=not_or.1 e;have⟨f,v⟩:=Bool.and_eq_true_iff.1 f;have v:=aG v;have ap:w.extract 0 w.size=w:=nB w;unfold du at o b d h i;rw[aa c,aa e,aa r,ap]at o b d h i;by_cases z:uv w=0
 .rw[ae z]at o;cases o
 rw[aa z]at b d h i;simp only at b d h i;rw[d]at b;rw[gu]at b;have⟨an,H⟩:=ah3 w u z;rw[d]at an H;have K:40<=k/\k<=78:=by omega
 have J:∀m,m<w.size->aA w m=aA (dG k) m:=λm B=>H m (by omega);have ak:aA (T.extract p T.size) 0=aA w 0:=by have:=j.1;rw[kK T p T.size 0 (af _),iz,g]
 have s:uv (T.extract p T.size)=k:=by
  rw[<-d];unfold uv;rw[ak,tE kD 40 (T.extract p T.size) w 11 (λC t=>ah5 j u J b K f aqu t (osz ⟨C,t⟩)) 11 0 _ (by omega),
   tE ni 61 (T.extract p T.size) w 18 (λC t=>ah5 j u J b K f aqv t (bsz ⟨C,t⟩)) 18 0 _ (by omega)]
 refine⟨?_,?_,?_,?_,?_,A λq=>?_⟩
 .unfold du;rw[g,aa c,aa e,aa r,s,aa (by omega)]
 .unfold du;rw[g,aa c,aa e,aa r,s,aa (by omega)];simp only;rw[b]
 .unfold du;rw[g,aa c,aa e,aa r,s,aa (by omega)]
 .unfold du;rw[g,aa c,aa e,aa r,s,aa (by omega)];exact h
 .unfold du;rw[g,aa c,aa e,aa r,s,aa (by omega)];exact i
 .have w1:=ad (by rw[<-g];exact q.1);rw[w1]at v;rw[<-g]at v;omega
def amH(h:aA T p=c)(d:c=10\/c=59):(du T p).ok=M/\(du T p).a=p+1/\(du T p).k=(if c=10 then 7 else 5)/\blk T (T.size+1) p=p:=by
 have i:p<T.size:=co h;have b:cD c=Q/\cJ c=Q/\kC c=Q:=by rcases d with rfl|rfl<;>decide
 have f:aA (T.extract p T.size) 0=c:=by rw[kK T p T.size 0 (af _),iz,h]
 have g:uv (T.extract p T.size)=if c=10 then 7 else 5:=by unfold uv;rw[f];rcases d with rfl|rfl<;>rfl
 have e:blk T (T.size+1) p=p:=Jc T p (by rw[h,b.2.2];simp) (by rw[h];omega);unfold du;rw[h,aa (by rw[b.1];simp),aa (by rw[b.2.1];simp),aa (by omega),g];rcases d with rfl|rfl
 .exact⟨rfl,rfl,rfl,e⟩
 .exact⟨rfl,rfl,rfl,e⟩
end
inductive Skp (T:ByteArray) (o:Bool):Nat->Nat->Prop where
 |nil {p:Nat}:Skp T o p p
 |bl {p q:Nat}:kC (aA T p)=true->Skp T o (p+1) q->Skp T o p q
 |rem {p q:Nat}:aA T p=45->aA T (p+1)=45->Skp T o (nlE T p) q->Skp T o p q
 |nl {p q:Nat}:o=true->aA T p=10->Skp T o (p+1) q->Skp T o p q
inductive Rz (T:ByteArray):Nat->List Wt->Nat->Prop where
 |nil {p:Nat}:Rz T p [] p
 |bl {p q:Nat}{l:List Wt}:kC (aA T p)=true->Rz T (p+1) l q->Rz T p l q
 |rem {p q:Nat}{l:List Wt}:aA T p=45->aA T (p+1)=45->Rz T (nlE T p) l q->Rz T p l q
 |tok {p r q:Nat}{t:Wt}{l:List Wt}:t.k≠7->t.k≠5->Alo t.w t.k t.n t.x->Stn T p t.w->Aj t.w t.k (aA T (p+t.w.size))=true->Skp T (opn t.k) (p+t.w.size) r->Rz T r l q->Rz T p (t::l) q
 |sep {p q:Nat}{l:List Wt}{c:Int}:aA T p=c->c=10\/c=59->Rz T (p+1) l q->Rz T p (nlW::l) q
def Rz.app{T:ByteArray}{p e r:Nat}{l m:List Wt}(h:Rz T p l e)(g:Rz T e m r):Rz T p (l++m) r:=by
 induction h with
 |nil=>exact g
 |bl a c b=>exact .bl a (b g)
 |rem a c d b=>exact .rem a c (b g)
 |tok a c d f i j k b=>exact .tok a c d f i j (b g)
 |sep a c d b=>exact .sep a c (b g)
def wt(t:Wt):Nat:=if t.k<5 then t.w.size+5 else 11
def cst:List Wt->Nat
 |[]=>0
 |t::l=>wt t+cst l
def lu:∀(a b:List Wt),cst (a++b)=cst a+cst b
 |[],b=>(gu _).symm
 |t::a,b=>by rw[ed,cst,cst,lu a b,fi]
def jw(f:Int->Bool)(x:ByteArray)(l:List Wt):Prop:=∀T p,Stn T p x->f (aA T (p+x.size))=M->Rz T p l (p+x.size)
def qj(c:Int):Bool:=M
def oq(c:Int):Bool:=decide (c∈Ba)
def Cl(c:Int):Bool:=!(alB c)
section
variable {f g : Int → Bool} {x y : ByteArray} {l m : List Wt}
def jw.app(h:jw f x l)(e:jw g y m)(k:0<y.size:=by decide)(i:f (aA y 0)=M:=by decide):jw g (x++y) (l++m):=λa n j c=>by
 have⟨d,b⟩:=j.app;rw[aq,<-fi]at c⊢;exact(h a n d (by have:=b.2 0 k;rw[iz]at this;rw[this];exact i)).app (e a _ b c)
def jw.mono(h:jw f x l)(d:∀c,g c=M->f c=M):jw g x l:=λa i e b=>h a i e (d _ b)
def jw.tt(h:jw qj x l):jw g x l:=h.mono λ_ _=>rfl
def jw.as{k:List Wt}(h:jw f x l)(e:l=k:=by simp):jw f x k:=e ▸ h
def ab8:jw f O []:=λa d c b=> .nil
def zE:jw qj ⟨#[32]⟩ []:=λb d a c=> .bl (by have:=a.2 0 (by decide);rw[iz]at this;rw[this];decide) .nil
def adF:jw qj ⟨#[10]⟩ [nlW]:=λb e a d=> .sep (c:=10) (by have:=a.2 0 (by decide);rw[iz]at this;rw[this];rfl) (.inl rfl) .nil
def ah6:∀t,jw qj (gx t) []
 |0=>ab8
 |t+1=>by
  have a:jw qj ⟨#[9]⟩ []:=λc e b d=> .bl (by have:=b.2 0 (by decide);rw[iz]at this;rw[this];decide) .nil;exact(ah6 t).app a
def adG(t:Nat):jw qj (fD t) [nlW]:=by
 cases t with
 |zero=>
  intro c e b a;have d:fD 0=⟨#[10]⟩:=by decide
  rw[d]at b a⊢;exact adF c e b a
 |succ t=>exact adF.app (ah6 (t+1)) (by rw[qr];omega) rfl
def EF{t:Wt}(b:t.k≠7)(a:t.k≠5)(c:Alo t.w t.k t.n t.x):jw (Aj t.w t.k) t.w [t]:=λf g e d=> .tok b a c e d .nil .nil
def pi(h:jf x=M):jw Cl x [xk x]:=(EF (t:=xk x) (by simp[xk]) (by simp[xk]) (ah1 h)).mono λa b=>by
 have:cD (aA x 0)=M:=by unfold jf at h;exact(aG h).2.1
 show Aj x 1 a=M;unfold Aj;rw[ae this];exact b
def ah7(c:k≠7)(b:k≠5)(a:(dG k).size≠0):jw (Aj (dG k) k) (dG k) [sgF k]:=EF (t:=sgF k) c b (ak8 a)
def itT:List Int->ByteArray
 |[]=>O
 |k::r=>(if k=0 then⟨#[32]⟩ else dG k)++itT r
def itL:List Int->List Wt
 |[]=>[]
 |k::r=>if k=0 then itL r else sgF k::itL r
def itF:List Int->Int->Bool
 |[]=>qj
 |[k]=>if k=0 then qj else Aj (dG k) k
 |_::r=>itF r
def itC:List Int->Bool
 |[]=>M
 |k::r=>(k==0||(k !=7&&k !=5&&(dG k).size !=0&&(r==[]||((itT r).size !=0&&Aj (dG k) k (aA (itT r) 0)))))&&itC r
def ah8:∀r,itC r=M->jw (itF r) (itT r) (itL r)
 |[],_=>ab8
 |[k],h=>by
  simp only[itC,Bool.and_true]at h;unfold itF itT itL itT itL;by_cases e:k=0
  .rw[ae e,ae e,ae e];intro T p d c;have f:(⟨#[32]⟩:ByteArray)++O=⟨#[32]⟩:=by decide
   rw[f]at d c⊢;exact zE T p d c
  .rw[aa e,aa e,aa e];simp[e]at h;have f:dG k++O=dG k:=by apply kI;simp[lm]
   rw[f];exact ah7 h.1.1 h.1.2 (λg=>h.2 (by simpa using g))
 |k::b::r,h=>by
  have j:=ah8 (b::r);simp only[itC]at h j;rw[ch]at h;have i:=j h.2;show jw (itF (b::r)) ((if k=0 then⟨#[32]⟩ else dG k)++itT (b::r)) (if k=0 then itL (b::r) else sgF k::itL (b::r));by_cases e:k=0
  .rw[ae e,ae e];intro T p d c;have⟨l,m⟩:=d.app;rw[aq,<-fi]at c⊢;exact(zE T p l rfl).app (i T _ m c)
  .rw[aa e,aa e];have a:=h.1;simp[e]at a;exact(ah7 a.1.1.1 a.1.1.2 (λg=>a.1.2 (by simpa using g))).app i (by have:=a.2.1;rcases nK (itT (b::r)).size with g|g;exact absurd (by simpa using g) this;exact g) a.2.2
def lit(r:List Int)(h:x=itT r:=by decide+kernel)(a:itC r=M:=by decide+kernel):jw (itF r) x (itL r):=by rw[h];exact ah8 r a
end
def pj(g:Int->Fo):List Int->Fo
 |[]=> .nil
 |k::r=>(g k).app (pj g r)
def shT(ns:List Nd):Nat->Int->Fo
 |0,_=> .nil
 |f+1,i=>one (ab ns i).bare (pj (shT ns f) (ab ns i).ks)
def Sh(ns:List Nd)(i:Int):Fo:=shT ns (i.toNat+1) i
def Bb{g h:Int->Fo}:∀(l:List Int),(∀z∈l,g z=h z)->pj g l=pj h l
 |[],_=>rfl
 |k::r,e=>by rw[pj,pj,e k bq,Bb r λz a=>e z (dr _ a)]
def Jn(g:Int->Fo):∀(a b:List Int),pj g (a++b)=(pj g a).app (pj g b)
 |[],b=>rfl
 |k::r,b=>by rw[ed,pj,pj,Jn g r b,Fo.app_app]
def pm(d:Jl ns)(c:i<ns.length){z:Int}(f:z∈(ab ns i).ks):∃y:Nat,z=(y:Int)/\y<i/\y<ns.length/\∃j,j<(ab ns i).ks.length/\dt (ab ns i) j=z:=by
 have⟨j,e,b⟩:=om f;have⟨y,a⟩:=iJ (d.nb i c) c j e;exact⟨y,by rw[<-b,a.id],a.lt,a.len,j,e,b⟩
def ale(d:Jl ns):∀(i:Nat),i<ns.length->∀f,i<f->shT ns f i=Sh ns i:=by
 intro i
 induction i using Nat.strongRecOn with
 |_ i c=>
  intro h f k;obtain⟨f,rfl⟩:∃g,f=g+1:=⟨f-1,by omega⟩;unfold Sh;rw[shT,show((i:Int)).toNat+1=i+1 by omega,shT]
  congr 1
  refine Bb _ λl j=>?_;obtain⟨e,rfl,a,b,_⟩:=pm d h j;rw[c e a b f (by omega),c e a b i a]
def rB(d:Jl ns)(c:i<ns.length):Sh ns i=one (ab ns i).bare (pj (Sh ns) (ab ns i).ks):=by
 have:Sh ns i=shT ns (i+1) i:=by unfold Sh;rw[show((i:Int)).toNat=i by omega]
 rw[this,shT]
 congr 1
 refine Bb _ λg e=>?_;obtain⟨f,rfl,a,b,_⟩:=pm d c e;exact ale d f b i a
def uA(h:N.ks.length=2):N.ks=[dt N 0,dt N 1]:=by
 unfold dt
 match e:N.ks,h with
 |[a,b],_=>rfl
def mD(h:N.ks.length=1):N.ks=[dt N 0]:=by
 unfold dt
 match e:N.ks,h with
 |[a],_=>rfl
def EG(h:N.ks.length=3):N.ks=[dt N 0,dt N 1,dt N 2]:=by
 unfold dt
 match e:N.ks,h with
 |[a,b,c],_=>rfl
def alf(h:N.ks.length=4):N.ks=[dt N 0,dt N 1,dt N 2,dt N 3]:=by
 unfold dt
 match e:N.ks,h with
 |[a,b,c,d],_=>rfl
def lA(g:Int->Fo)(a:Int):pj g [a]=g a:=Fo.app_nil _
def na(g:Int->Fo)(a b:Int):pj g [a,b]=(g a).app (g b):=by rw[pj,lA]
section
variable {ns : List Nd} {N : Nd}
def alg{a b c e:Bool}(h:aL N a b c e=M):N.bare=bN N.k (if a=M then N.op else 0) (if b=M then N.n else 0) (if c=M then N.x else z0) (if e=M then N.nm else []):=by
 unfold aL vJ at h;simp only[ch,yz,decide_eq_true_eq,mj]at h;obtain⟨⟨⟨f,i⟩,j⟩,l⟩:=h;unfold Nd.bare
 congr 1
 .rcases f with g|g
  .rw[ae g]
  .rw[g];split<;>rfl
 .rcases i with g|g
  .rw[ae g]
  .rw[g];split<;>rfl
 .rcases j with g|g
  .rw[ae g]
  .have d:N.x=z0:=by
    rw[ja]at g;apply kI;apply Array.toList_inj.1;exact g
   rw[d];split<;>rfl
 .rcases l with g|g
  .rw[ae g]
  .rw[jb g];split<;>rfl
def zF(h:lg ns N=M):N.bare=bN N.k (if N.k=30\/N.k=31\/N.k=36 then N.op else 0) (if N.k=5\/N.k=23 then N.n else 0) (if N.k=24\/N.k=25\/N.k=26\/N.k=33\/N.k=42 then N.x else z0) (if N.k=2\/N.k=3\/N.k=4\/N.k=9\/N.k=10\/N.k=14\/N.k=36 then N.nm else []):=by
 have:=alg (Jg h);simpa only[decide_eq_true_eq] using this
def EH(h:lg ns N=M)(i:N.k=2\/N.k=3\/N.k=4\/N.k=9\/N.k=10\/N.k=14):∃x r,N.nm=x::r/\(∀s∈x::r,jf s=M)/\(N.k=3\/N.k=4\/N.k=9->r=[])/\(N.k=14->r.length<=1):=by
 have h:=pA h;unfold stB at h;have a:∀{c b:Int},fj N c b=M->1<=c->(N.k=3\/N.k=4\/N.k=9->b=1)->(N.k=14->b<=2)->∃x r,N.nm=x::r/\(∀s∈x::r,jf s=M)/\(N.k=3\/N.k=4\/N.k=9->r=[])/\(N.k=14->r.length<=1):=λ{c b} j n l m=>by
  have⟨d,f,g⟩:=nE j;cases e:N.nm with
  |nil=>rw[e]at f;simp at f;omega
  |cons x r=>
   rw[e]at d g;simp at g;refine⟨x,r,rfl,d,λk=>jb (by have:=l k;omega),λk=>by have:=m k;omega⟩
 rcases i with e|e|e|e|e|e;all_goals (simp[e]at h)
 .exact a h.1.2 (by decide) (by omega) (by omega)
 .exact a h.1.1.2 (by decide) (by omega) (by omega)
 .exact a h.1.1.2 (by decide) (by omega) (by omega)
 .exact a h.2.1 (by decide) (by omega) (by omega)
 .exact a h.1.1.1.2 (by decide) (by omega) (by omega)
 .exact a h.1.1.1.2 (by decide) (by omega) (by omega)
def Jo(h:lg ns N=M):(N.k=26\/N.k=33\/N.k=42->jf N.x=M)/\(N.k=24->fok N.x=M):=by
 refine⟨λa=>?_,λa=>?_⟩
 .have h:=rA h;unfold gh at h;rcases a with e|e|e<;>simp[e]at h<;>simp[h]
 .have h:=rA h;unfold gh at h;simp[a]at h;simp[h]
def EI(h:lg ns N=M)(a:N.k=32\/N.k=33\/N.k=34):(ab ns (dt N 0)).k≠27:=by
 have h:=rA h;unfold gh at h;rcases a with e|e|e<;>simp[e,mL]at h<;>simp[h]
def alh(h:lg ns N=M)(a:N.k=37):(ab ns (dt N 0)).k=34\/(ab ns (dt N 0)).k=27:=by
 have h:=rA h;unfold gh at h;simp[a,mL]at h;exact h.1.2
def aqx:∀(f j:Nat),BD ns N f j=M->∀q,j<=q->q<j+f->ti (ab ns (dt N q)).k=M
 |0,j,_,q,a,b=>by omega
 |f+1,j,h,q,a,b=>by
  rw[BD,ch]at h;rcases jz a with rfl|h3
  .exact h.1
  .exact aqx f (j+1) h.2 q h3 (by omega)
end
def mBs:List ByteArray->ByteArray
 |[]=>O
 |y::r=>dH++(y++mBs r)
def oJ(a:ByteArray):a++O=a:=by apply kI;simp[lm]
def Jp(a:ByteArray):O++a=a:=by apply kI;simp[lm]
def aar:∀(r:List ByteArray)(a:ByteArray),(r.foldl B5 (M,a)).2=a++mBs r
 |[],a=>(oJ a).symm
 |y::r,a=>by
  rw[jd,mBs,<-aK,<-aK];exact aar r ((a++dH)++y)
def ww(x:ByteArray)(r:List ByteArray):bK (x::r)=x++mBs r:=by
 unfold bK K9;rw[jd];have:B5 (Q,O) x=(M,x):=by unfold B5;simp[Jp]
 rw[this];exact aar r x
def rC(x:ByteArray):bK [x]=x:=by rw[ww,mBs,oJ]
def qk(x a:ByteArray)(r:List ByteArray):bK (x::a::r)=x++(dH++bK (a::r)):=by rw[ww,mBs,ww]
def EJ(x:ByteArray)(r:List ByteArray):gC (x::r)=x++gC r:=by
 have d:∀(r:List ByteArray)(a:ByteArray),r.foldl (· ++·) a=a++r.foldl (· ++·) O:=by
  intro r
  induction r with
  |nil=>intro a;exact(oJ a).symm
  |cons c r b=>intro a;rw[jd,jd,b (a++c),b (O++c),Jp,aK]
 unfold gC;rw[jd,d,Jp]
def eC{a:ByteArray}(h:0<a.size):aA (a++b) 0=aA a 0:=by rw[rz,ae h]
def ay{a:ByteArray}(h:0<a.size:=by decide):0<(a++b).size:=by rw[aq];omega
def Cm{f:Int->Bool}{a:ByteArray}(h:0<a.size:=by decide)(c:f (aA a 0)=M:=by decide):f (aA (a++b) 0)=M:=by rw[eC h];exact c
def vw:(cst []=0/\(∀t l,cst (t::l)=wt t+cst l)/\∀a b,cst (a++b)=cst a+cst b)/\(∀k,wt (sgF k)=if k<5 then(dG k).size+5 else 11)/\(∀x,wt (xk x)=x.size+5)/\wt nlW=11:=⟨⟨rfl,λ_ _=>rfl,lu⟩,λ_=>rfl,λ_=>rfl,rfl⟩
def De(h:oq c=M):Cl c=M:=by
 have:∀c∈Ba,Cl c=M:=by decide
 exact this c (aG h)
def adH(b:k=40\/k=41\/k=42\/k=43\/k=44\/k=45\/k=46\/k=50)(c:Int):Aj (dG k) k c=M:=by
 have d:nxS k c=M:=by unfold nxS;rw[ae b]
 have a:cD (aA (dG k) 0)=Q/\cJ (aA (dG k) 0)=Q/\aA (dG k) 0≠34/\aA (dG k) 0≠45:=by rcases b with rfl|rfl|rfl|rfl|rfl|rfl|rfl|rfl<;>decide+kernel
 unfold Aj;rw[aa (by rw[a.1];simp),aa (by rw[a.2.1];simp[a.2.2.1]),d];simp[a.2.2.2]
def lit1{x:ByteArray}(a:k=40\/k=41\/k=42\/k=43\/k=44\/k=45\/k=46\/k=50:=by decide)(h:x=dG k:=by decide+kernel):jw qj x [sgF k]:=by
 rw[h];exact(ah7 (by omega) (by omega) (by rcases a with rfl|rfl|rfl|rfl|rfl|rfl|rfl|rfl<;>decide+kernel)).mono λb _=>adH a b
def Df:jw qj ⟨#[40]⟩ [sgF 40]:=lit1
def Jq:jw qj ⟨#[41]⟩ [sgF 41]:=lit1
def mH:jw qj dH [sgF 46]:=lit [46,0]
def ah9{x:ByteArray}{l:List Wt}(h:jw oq x l)(a:0<x.size):jw qj (lB x) (sgF 40::(l++[sgF 41])):=by
 have:=(Df.app h a rfl).app Jq;simpa only[lB,ed,dI] using this
def Dg(x:ByteArray):0<(lB x).size/\aA (lB x) 0=40:=by
 unfold lB;have a:0<(⟨#[40]⟩++x:ByteArray).size:=ay;exact⟨ay a,by rw[eC a,eC (by decide)];rfl⟩
def kdK(k:Int):Nat:=if k=26 then 0 else if k=34 then 2 else if k=37 then 3 else 1
structure EL (ns:List Nd) (z:Nat) (x:ByteArray) (l:List Wt):Prop where
 pos:0<x.size
 fb:11<=ij (ab ns z).k (ab ns z).op->aA x 0≠61/\(aA x 0=45->vp (ab ns z)=M)
 rd:jw oq x l
 ba:lF (ab ns z).k=M->jw Cl x l/\yj l (Sh ns z) (kdK (ab ns z).k)
 un:11<=ij (ab ns z).k (ab ns z).op->AH l (Sh ns z)
 ex:oe l (Sh ns z) (ij (ab ns z).k (ab ns z).op)
 sh:∃K,Sh ns z=one (ab ns z).bare K
 cs:(cst l:Int)+32<=wN ns z
def FC(ns:List Nd)(z:Nat)(x:ByteArray):Prop:=∃l,EL ns z x l
def aia(op:Int):3<=(qL op).1/\(qL op).1<=(qL op).2/\(qL op).2<=11:=by
 unfold qL
 (repeat' split)
 all_goals decide
def pK(k op:Int):1<=ij k op/\(ij k op<11->k=28\/k=29\/k=31)/\(ij k op=11->k=30\/k=31):=by
 have:=aia op;unfold ij
 (repeat' split)
 all_goals omega
def aib{op:Int}(h:lF k=M):ij k op=12:=by
 unfold lF at h;simp at h;unfold ij;rw[aa (by omega),aa (by omega),aa (by omega),aa (by omega)]
def aic(h:lF N.k=M):vp N=Q:=by
 unfold lF at h;simp at h;unfold vp;have:(N.k==30)=Q:=by rw[eJ];omega
 rw[this];rfl
section
variable {ns : List Nd} {E : Int → ByteArray} {S : Int → Nat → ByteArray} {z : Nat} {x : ByteArray} {l : List Wt}
def EL.par(h:EL ns z x l)(a:(ab ns z).k≠34)(b:(ab ns z).k≠27):jw qj (lB x) (sgF 40::(l++[sgF 41]))/\yj (sgF 40::(l++[sgF 41])) (Sh ns z) 3/\(cst (sgF 40::(l++[sgF 41])):Int)+10<=wN ns z:=by
 refine⟨ah9 h.rd h.pos,?_,by have:=h.cs;simp only[cst,lu,wt,sgF,Int.reduceLT,reduceIte];omega⟩;have⟨d,c⟩:=h.sh;have:=h.ex.le (r:=0) (by have:=pK (ab ns z).k (ab ns z).op;omega);rw[c]at this⊢;exact this.par a b
def adI{least:Int}(h:FC ns z (E z))(e:least<=11):∃l,0<(iL ns E z least).size/\jw oq (iL ns E z least) l/\oe l (Sh ns z) least/\(cst l:Int)+10<=wN ns z:=by
 obtain⟨l,h⟩:=h;have f:=pK (ab ns z).k (ab ns z).op;unfold iL;split
 .rename_i d;have⟨a,b,c⟩:=h.par (by omega) (by omega);exact⟨_,(Dg _).1,a.tt,b.un.ex _,c⟩
 .rename_i d;exact⟨l,h.pos,h.rd,h.ex.le (by omega),by have:=h.cs;omega⟩
def ali(h:FC ns z (E z)):∃l,0<(iL ns E z 11).size/\jw oq (iL ns E z 11) l/\AH l (Sh ns z)/\aA (iL ns E z 11) 0≠61/\(aA (iL ns E z 11) 0=45->vp (ab ns z)=M)/\(cst l:Int)+10<=wN ns z:=by
 obtain⟨l,h⟩:=h;have e:=pK (ab ns z).k (ab ns z).op;unfold iL;split
 .rename_i a;have⟨b,c,d⟩:=h.par (by omega) (by omega);have:=Dg (E z);exact⟨_,this.1,b.tt,c.un,by rw[this.2];decide,λa=>(by rw[this.2]at a;cases a),d⟩
 .rename_i a;have:=h.fb (by omega);exact⟨l,h.pos,h.rd,h.un (by omega),this.1,this.2,by have:=h.cs;omega⟩
def aid(h:FC ns z (E z))(i:(ab ns z).k≠27):∃l e,e<4/\(0<(El ns E z).size/\aA (El ns E z) 0≠61/\aA (El ns E z) 0≠45)/\jw Cl (El ns E z) l/\yj l (Sh ns z) e/\(cst l:Int)+10<=wN ns z:=by
 obtain⟨l,h⟩:=h;unfold El;split
 .rename_i a;have d:=h.fb (by rw[aib a];decide);have⟨b,c⟩:=h.ba a;refine⟨l,_,?_,⟨h.pos,d.1,λm=>?_⟩,b,c,by have:=h.cs;omega⟩
  .unfold kdK;(repeat' split);all_goals omega
  .have:=d.2 m;rw[aic a]at this;cases this
 .rename_i a;have j:(ab ns z).k≠34:=λg=>a (by rw[g];decide);have⟨b,c,f⟩:=h.par j i;have:=Dg (E z);exact⟨_,3,by decide,⟨this.1,by rw[this.2];decide,by rw[this.2];decide⟩,b.tt,c,f⟩
def EL.of_ba(j:lF (ab ns z).k=M)(d:0<x.size)(f:aA x 0≠61)(e:aA x 0≠45)(b:jw Cl x l)(a:yj l (Sh ns z) (kdK (ab ns z).k))(h:Sh ns z=one (ab ns z).bare K)(g:(cst l:Int)+32<=wN ns z):FC ns z x:=
 ⟨l,d,λ_=>⟨f,λc=>absurd c e⟩,b.mono λi=>De,λ_=>⟨b,a⟩,λ_=>a.un,a.un.ex _,⟨K,h⟩,g⟩
def EL.of_un(g:lF (ab ns z).k=Q)(c:0<x.size)(e:aA x 0≠61)(d:aA x 0=45->vp (ab ns z)=M)(h:jw oq x l)(b:AH l (Sh ns z))(i:Sh ns z=one (ab ns z).bare K)(f:(cst l:Int)+32<=wN ns z):FC ns z x:=
 ⟨l,c,λ_=>⟨e,d⟩,h,λa=>(by rw[g]at a;cases a),λ_=>b,b.ex _,⟨K,i⟩,f⟩
def EL.of_ex(e:lF (ab ns z).k=Q)(b:0<x.size)(h:ij (ab ns z).k (ab ns z).op<11)(f:jw oq x l)(c:oe l (Sh ns z) (ij (ab ns z).k (ab ns z).op))(g:Sh ns z=one (ab ns z).bare K)(d:(cst l:Int)+32<=wN ns z):FC ns z x:=
 ⟨l,b,λa=>by omega,f,λa=>(by rw[e]at a;cases a),λa=>by omega,c,⟨K,g⟩,d⟩
def KE(ns:List Nd)(E:Int->ByteArray)(z:Int):Prop:=∃y:Nat,z=(y:Int)/\FC ns y (E y)
def xh:∀(r:List Int)(z:Int),(∀y∈z::r,KE ns E y)->∃l,0<(bK ((z::r).map E)).size/\jw oq (bK ((z::r).map E)) l/\ESc l (pj (Sh ns) (z::r))/\(cst l:Int)+21<=wK ns (z::r)
 |[],z,h=>by
  obtain⟨y,rfl,l,a⟩:=h z bq;refine⟨l,?_⟩;rw[dv,List.map_nil,rC,lA];exact⟨a.pos,a.rd,(a.ex.le (by have:=pK (ab ns y).k (ab ns y).op;omega)).es,by have:=a.cs;simp only[wK];omega⟩
 |z2::r,z,h=>by
  obtain⟨y,rfl,l,a⟩:=h z bq;obtain⟨d,e,f,g,i⟩:=xh r z2 λy c=>h y (dr _ c);refine⟨l++(sgF 46::d),?_⟩;rw[dv,dv,qk,<-dv,pj];have b:0<(dH++bK ((z2::r).map E)).size:=ay;refine⟨ay a.pos,?_,ESc.cons (a.ex.le (by have:=pK (ab ns y).k (ab ns y).op;omega)) g,by have:=a.cs;simp only[lu,cst,wt,sgF,Int.reduceLT,reduceIte];rw[wK];omega⟩;have:=a.rd.app (mH.app f e rfl) b Cm;exact this
def aie{b:Nat}{t L R:Int}{sign:ByteArray}(f:FC ns a (E a))(g:FC ns b (E b))(h:jw qj sign [sgF t])(s0:0<sign.size)(u:aA sign 0=32)(d:L=lkw t)(e:R=rpw t)(ht:jx t=M)(i:t<100)(j:t≠7)(k:yK t=Q):
  ∃l,0<(iL ns E a L++sign++iL ns E b R).size/\jw oq (iL ns E a L++sign++iL ns E b R) l/\oe l (one (afk t) ((Sh ns a).app (Sh ns b))) (C0 t)/\(cst l:Int)<=wN ns a+wN ns b:=by
 subst d e;obtain⟨l,m,n,o,w⟩:=adI (least:=lkw t) f (by have:=zl t;omega);obtain⟨p,q,r,s,x⟩:=adI (least:=rpw t) g (adi t).2;refine⟨l++(sgF t::p),ay (ay m),?_,oe.bin o s ht i j k,by have c:wt (sgF t)=11:=aa (show ¬t<5 from λv=>by unfold jx at ht;have:=aG ht;omega);simp only[lu,cst,c];omega⟩;have:=(n.app h s0 (by rw[u];decide)).app r q rfl;exact this.as
def alj:∀op:Fin 19,1<=op.val->C0 (60+(op.val:Int))=(qL op.val).1/\rpw (60+(op.val:Int))=(qL op.val).2/\lkw (60+(op.val:Int))=(if(qL op.val).2=(qL op.val).1 then(qL op.val).1+1 else(qL op.val).1)/\jx (60+(op.val:Int))=M/\yK (60+(op.val:Int))=Q/\Am (60+(op.val:Int))=dG (60+(op.val:Int))/\itC [0,60+(op.val:Int),0]=M:=by decide+kernel
end
def SCl(ns:List Nd)(z:Nat)(x:ByteArray):Prop:=∃l,0<x.size/\jw oq x l/\FA l (Sh ns z)/\(cst l:Int)+14<=wN ns z
def KS(ns:List Nd)(S:Int->Nat->ByteArray)(t:Nat)(z:Int):Prop:=∃y:Nat,z=(y:Int)/\SCl ns y (S y t)
def ab9(t:Nat):0<(fD t).size/\aA (fD t) 0=10:=by
 unfold fD;exact⟨ay,by rw[eC (by decide)];rfl⟩
def su{x:ByteArray}(h:jf x=M):0<x.size/\cD (aA x 0)=M:=by
 unfold jf at h;have⟨b,a,c,d⟩:=aG h;have e:=oD a;exact⟨co rfl,a⟩
def adJ:∀(r:List ByteArray)(x:ByteArray),(∀s∈x::r,jf s=M)->jw Cl (bK (x::r)) (nmL (x::r))/\0<(bK (x::r)).size
 |[],x,h=>by
  have a:=h x bq;rw[rC];exact⟨pi a,(su a).1⟩
 |y::r,x,h=>by
  have a:=h x bq;obtain⟨c,d⟩:=adJ r y λs b=>h s (dr _ b);rw[qk];exact⟨(pi a).app (mH.app c d rfl) ay Cm,ay (su a).1⟩
def amI:∀(r:List ByteArray)(x:ByteArray),(∀s∈x::r,s.size<=3)->cst (nmL (x::r))<=19*(r.length+1)
 |[],x,h=>by
  have:=h x bq;simp only[nmL,cst,wt,xk,Int.reduceLT,reduceIte];simp;omega
 |y::r,x,h=>by
  have:=h x bq;have:=amI r y λs a=>h s (dr _ a);rw[nmL]
  .simp only[cst,wt,xk,sgF,Int.reduceLT,reduceIte,bB];omega
  .simp
def aif:∀(nm:List ByteArray)(t:Bool),(∀s∈nm,s.size<=3)->cst (Ee nm t)<=19*nm.length+11
 |[],false,_=>aH _
 |[],true,_=>by decide
 |x::r,t,h=>by
  have:=h x bq;have:=aif r t λs a=>h s (dr _ a);rw[Ee];split
  .simp only[cst,wt,xk,Int.reduceLT,reduceIte,bB];omega
  .simp only[cst,wt,xk,sgF,Int.reduceLT,reduceIte,bB];omega
def x19(h:C9 N)(a:N.k≠25):N.x.size<=19:=by
 rcases h.x with g|g
 .exact g.2.1
 .exact absurd g.1 a
def aig(h:cD c=M):Aj (dG 48) 48 c=M:=by
 have b:=oD h;have a:cD (aA (dG 48) 0)=Q/\cJ (aA (dG 48) 0)=Q/\aA (dG 48) 0≠34/\aA (dG 48) 0≠45:=by decide+kernel
 unfold Aj nxS;rw[aa (by rw[a.1];simp),aa (by rw[a.2.1];simp[a.2.2.1])];simp[a.2.2.2];omega
def prT(nm:List ByteArray)(r:Bool):ByteArray:=bK nm++(if r=M then(if nm=[] then⟨#[46,46,46]⟩ else dH++⟨#[46,46,46]⟩) else O)
def Jr:jw oq ⟨#[46,46,46]⟩ [sgF 49]:=(lit [49]).mono λa b=>by
 have:∀a∈Ba,itF [49] a=M:=by decide+kernel
 exact this a (aG b)
def aih:∀(nm:List ByteArray)(r:Bool),(∀s∈nm,jf s=M)->(nm≠[]\/r=M)->jw oq (prT nm r) (Ee nm r)/\0<(prT nm r).size
 |[],false,_,h=>by simp at h
 |[],true,_,_=>by
  have e:prT [] M=⟨#[46,46,46]⟩:=by decide
  rw[e];exact⟨Jr,by decide⟩
 |[x],false,h,_=>by
  have a:=h x bq;have e:prT [x] Q=x:=by unfold prT;rw[rC];exact oJ x
  rw[e];exact⟨(pi a).mono λj=>De,(su a).1⟩
 |[x],true,h,_=>by
  have a:=h x bq;have e:prT [x] M=x++(dH++⟨#[46,46,46]⟩):=by unfold prT;rw[rC];rfl
  rw[e];exact⟨(pi a).app (mH.app Jr) (by decide) (by decide),ay (su a).1⟩
 |x::b::r,c,h,_=>by
  have a:=h x bq;obtain⟨g,i⟩:=aih (b::r) c (λs f=>h s (dr _ f)) (.inl (by simp));have e:prT (x::b::r) c=x++(dH++prT (b::r) c):=by
   unfold prT;rw[qk,aa (show ¬x::b::r=[] by simp),aa (show ¬b::r=[] by simp)];simp only[aK]
  have d:Ee (x::b::r) c=xk x::sgF 46::Ee (b::r) c:=by rw[Ee,aa (by simp)]
  rw[e,d];exact⟨(pi a).app (mH.app g i rfl) ay Cm,ay (su a).1⟩
def alk(N:Nd)(h:∀s∈N.nm,jf s=M):jw qj (Cg N) (sgF 40::(Ee N.nm (decide (N.op=1))++[sgF 41])):=by
 have c:jw qj ⟨#[41,32]⟩ [sgF 41]:=lit [41,0];have d:Cg N=⟨#[40]⟩++prT N.nm (decide (N.op=1))++⟨#[41,32]⟩:=by
  unfold Cg prT;simp only[decide_eq_true_eq,aK]
 rw[d];by_cases b:N.nm≠[]\/decide (N.op=1)=M
 .obtain⟨i,j⟩:=aih N.nm _ h b;have:=(Df.app i j rfl).app c;exact this.as
 .have f:N.nm=[]:=by by_cases a:N.nm=[];exact a;exact absurd (.inl a) b
  have g:decide (N.op=1)=Q:=by cases a:decide (N.op=1) with
   |true=>exact absurd (.inr a) b
   |false=>rfl
  rw[f,g];have e:prT [] Q=O:=by decide
  rw[e,oJ];exact Df.app c
section
variable {ns : List Nd} {E : Int → ByteArray} {S : Int → Nat → ByteArray} {i tab q : Nat}
def adK:∀(ks:List Int),(∀z∈ks,KS ns S (tab+1) z)->∃m,0<(gC (ks.map λk=>fD (tab+1)++S k (tab+1))++fD tab).size/\aA (gC (ks.map λk=>fD (tab+1)++S k (tab+1))++fD tab) 0=10/\jw qj (gC (ks.map λk=>fD (tab+1)++S k (tab+1))++fD tab) m/\SLc m (pj (Sh ns) ks)/\(cst m:Int)<=wK ns ks+11
 |[],_=>by
  refine⟨[nlW],?_⟩;have e:gC (([]:List Int).map λk=>fD (tab+1)++S k (tab+1))++fD tab=fD tab:=Jp _;rw[e];exact⟨(ab9 tab).1,(ab9 tab).2,adG tab,SLc.nil,by show(11:Int)<=0+11;decide⟩
 |z::p,b=>by
  obtain⟨c,rfl,f,g,h,i,q⟩:=b z bq;obtain⟨m,j,l,n,o,r⟩:=adK p λc d=>b c (dr _ d);refine⟨nlW::(f++m),?_⟩;rw[dv,EJ,pj];simp only[aK];have a:=ab9 (tab+1);refine⟨ay a.1,by rw[eC a.1];exact a.2,?_,SLc.cons i o,by simp only[cst,lu,wt,sgF,xk,nlW,Int.reduceLT,reduceIte];rw[wK];omega⟩;exact(adG (tab+1)).app (h.app n j (by rw[l];decide)) (ay g) rfl
def asw(ks:List Int)(h:∀z∈ks,KS ns S (tab+1) z):∃l,0<(xe S ks tab).size/\jw qj (xe S ks tab) l/\I7 l (one (bN 1 0 0 z0 []) (pj (Sh ns) ks))/\(cst l:Int)<=wK ns ks+33:=by
 unfold xe;split
 .rename_i b;subst b;exact⟨[sgF 42,sgF 43],by decide,(lit [42,43]).mono λa _=>(show Aj (dG 43) 43 a=M from adH (by decide) a),an7,by show(22:Int)<=0+33;decide⟩
 .obtain⟨d,e,j,f,g,k⟩:=adK ks h;have b:(⟨#[123]⟩:ByteArray)++gC (ks.map λc=>fD (tab+1)++S c (tab+1))++fD tab++⟨#[125]⟩=⟨#[123]⟩++(gC (ks.map λc=>fD (tab+1)++S c (tab+1))++fD tab)++⟨#[125]⟩:=by simp only[aK]
  rw[b];have i:jw qj (⟨#[123]⟩:ByteArray) [sgF 42]:=lit1;have a:jw qj (⟨#[125]⟩:ByteArray) [sgF 43]:=lit1;refine⟨sgF 42::(d++[sgF 43]),ay ay,?_,SLc.bl g,by simp[vw];omega⟩;have:=(i.app f e rfl).app a;exact this.as
structure JzE (ns:List Nd) (E:Int->ByteArray) (S:Int->Nat->ByteArray) (i:Nat) (tab:Nat):Prop where
 e:∀z:Nat,z<i->z<ns.length->fy (ab ns z).k=M->FC ns z (E z)
 s:∀z:Nat,z<i->z<ns.length->eA (ab ns z).k=M->SCl ns z (S z (tab+1))
 b:∀z:Nat,z<ns.length->C9 (ab ns z)
def JzE.blk(h:JzE ns E S i tab)(d:Jl ns)(v:q<=i)(a:q<ns.length)(b:(ab ns q).k=1):∃l,0<(xe S (ab ns q).ks tab).size/\jw qj (xe S (ab ns q).ks tab) l/\I7 l (Sh ns q)/\(cst l:Int)+117<=wN ns q:=by
 have c:=(jg (d.nb q a)).1;obtain⟨l,o,p,r,w⟩:=asw (ns:=ns) (S:=S) (tab:=tab) (ab ns q).ks λx m=>by
  obtain⟨f,rfl,t,j,n,u,g⟩:=pm d a m;have e:=Ey _ 0 (tD c b) n (by omega) (by omega);rw[g]at e;exact⟨f,rfl,h.s f (by omega) j e⟩
 refine⟨l,o,p,?_,by rw[d.at_ q a];have:=xD (ab ns q);omega⟩;rw[rB d a,zF c,b];exact r
def JzE.bod(h:JzE ns E S i tab)(d:Jl ns)(F:q<=i)(c:q<ns.length)(p:(ab ns q).k=36):∃l,(0<(zu ns S (ab ns q) tab).size/\aA (zu ns S (ab ns q) tab) 0=40)/\jw qj (zu ns S (ab ns q) tab) l/\BDc l (Sh ns q)/\(cst l:Int)+170<=wN ns q:=by
 have e:=(jg (d.nb q c)).1;have⟨m,n,C,v⟩:=ady e p;have⟨B,a⟩:=iJ (d.nb q c) c 0 (by omega);rw[a.id]at n;obtain⟨l,x,y,z,G⟩:=h.blk d (by have:=a.lt;omega) a.len n;have w:=alk (ab ns q) (amD e);unfold zu;rw[a.id];have j:0<(Cg (ab ns q)).size/\aA (Cg (ab ns q)) 0=40:=by
  unfold Cg;have u:∀r:ByteArray,0<(⟨#[40]⟩++r:ByteArray).size:=λr=>ay;simp only[aK];exact⟨u _,by rw[eC (by decide)];rfl⟩
 have o:=h.b q c;refine⟨_,⟨ay j.1,by rw[eC j.1];exact j.2⟩,w.app y x rfl,?_,by
  rw[d.at_ q c,mD m,a.id];have:=aif (ab ns q).nm (decide ((ab ns q).op=1)) λA e=>(o.s A e).sz;have:=o.nm;have:=xD (ab ns q);simp only[cst,lu,wt,sgF,Int.reduceLT,reduceIte,wK];omega⟩
 have:=I7.body z (ab ns q).nm (decide ((ab ns q).op=1));rw[rB d c,zF e,p,mD m,lA,a.id];have s:(if decide ((ab ns q).op=1)=M then(1:Int) else 0)=(ab ns q).op:=by
  rcases v with g|g<;>rw[g]<;>rfl
 rw[s]at this;have t:∀f:List Wt,(sgF 40::(f++[sgF 41]))++l=sgF 40::(f++(sgF 41::l)):=λf=>by simp
 rw[t];exact this
def JzE.ent(h:JzE ns E S i tab)(d:Jl ns)(ak:q<=i)(c:q<ns.length)(ad:40<=(ab ns q).k/\(ab ns q).k<=42):∃l,0<(sj ns E (ab ns q)).size/\jw oq (sj ns E (ab ns q)) l/\ENc l (Sh ns q)/\(cst l:Int)+100<=wN ns q:=by
 have n:=(jg (d.nb q c)).1;have u:=λK J=>iJ (d.nb q c) c K J;have w:=λG:Nat=>(pK (ab ns G).k (ab ns G).op).1;have al:=xD (ab ns q);unfold sj;rw[rB d c,zF n,d.at_ q c];by_cases p:(ab ns q).k=41
 .obtain⟨t,z,_⟩:=mC n;have⟨f,b⟩:=u 0 (by omega);have⟨y,g⟩:=u 1 (by omega);have j:=gD 2 0 z 0 (by omega) (by omega);have C:=gD 2 0 z 1 (by omega) (by omega);rw[b.id]at j;rw[g.id]at C;have:=b.lt;have:=g.lt;have⟨l,a⟩:=h.e f (by omega) b.len j;have⟨L,m⟩:=h.e y (by omega) g.len C;rw[ae p,b.id,g.id,uA t,na,b.id,g.id,p];have v:jw qj (⟨#[91]⟩:ByteArray) [sgF 44]:=lit1;have o:jw qj (⟨#[93,32,61,32]⟩:ByteArray) [sgF 45,sgF 47]:=lit [45,0,47,0];refine⟨sgF 44::(l++(sgF 45::sgF 47::L)),ay (ay ay),?_,oe.pair (a.ex.le (by have:=w f;omega)) (m.ex.le (by have:=w y;omega)),by have:=a.cs;have:=m.cs;simp only[cst,lu,wt,sgF,xk,nlW,Int.reduceLT,reduceIte];simp only[wK];omega⟩;have:=((v.app a.rd a.pos rfl).app o).app m.rd m.pos rfl;exact this.as
 rw[aa p];have⟨t,j,_⟩:=oI n;have⟨f,b⟩:=u 0 (by omega);rw[b.id]at j;have:=b.lt;have⟨l,a⟩:=h.e f (by omega) b.len j;have B:=a.ex.le (r:=0) (by have:=w f;omega);rw[b.id,mD t,lA,b.id];by_cases s:(ab ns q).k=42
 .have A:=(Jo n).1 (by omega);have F:=su A;rw[ae s,s];have v:jw (Aj (dG 48) 48) (⟨#[46]⟩:ByteArray) [sgF 48]:=lit [48];have o:jw qj (⟨#[32,61,32]⟩:ByteArray) [sgF 47]:=lit [0,47,0];have I:Aj (dG 48) 48 (aA (ab ns q).x 0)=M:=aig F.2;refine⟨sgF 48::xk (ab ns q).x::sgF 47::l,ay (ay ay),?_,oe.named B,by have:=a.cs;have:=x19 (h.b q c) (by omega);simp only[cst,lu,wt,sgF,xk,nlW,Int.reduceLT,reduceIte];simp only[wK];omega⟩;exact((v.app (pi A) F.1 I).app o).app a.rd a.pos rfl
 .have H:(ab ns q).k=40:=by omega
  rw[aa s,H];exact⟨l,a.pos,a.rd,oe.item B,by have:=a.cs;simp only[wK];omega⟩
end
def aca{w:ByteArray}(h:cJ (aA w 0)=M\/aA w 0=34)(a:oq c=M):Aj w k c=M:=by
 have b:cD (aA w 0)=Q:=by
  rcases h with g|g
  .have:=kF g;simp[cD];omega
  .rw[g];decide
 unfold Aj;rw[aa (by rw[b];simp),ae h];exact a
def aii(h:C9 N)(b:N.k=25):((eD (dA N.x)).size:Int)+37<=fW N:=by
 have c:=xD N;rcases h.x with g|⟨_,g|g⟩
 .exact absurd b g.1
 .have:=adr N.x;have:=g.1;omega
 .have:=ak0 N.x g.1.dg;have a:bgN N=1:=by unfold bgN;rw[ae (by have:=g.1.lo;omega)]
  unfold fW;rw[a];have:=g.2;omega
def aoB(n:Int)(a:n<=9223372036854775807):(tA n).size<=20:=by
 unfold tA;split
 .rw[tu];decide
 .show(pJ n.toNat).size<=20;rw[afx];exact Lib.nDigits_le20 _ (by omega)
def alm(n:Int):cJ (aA (tA n) 0)=M:=by
 unfold tA;split
 .rw[(Dd _ 16).1];decide
 .have:=EE n.toNat;exact this.2.1 0 this.1
section
variable {ns : List Nd} {E : Int → ByteArray} {S : Int → Nat → ByteArray} {i tab q : Nat}
def JzE.tbl(h:JzE ns E S i tab)(d:Jl ns):∀(r:List Int)(z:Int),(∀y∈z::r,∃k:Nat,y=(k:Int)/\k<=i/\k<ns.length/\40<=(ab ns k).k/\(ab ns k).k<=42)->∃l,0<(bK ((z::r).map λk=>sj ns E (ab ns k))).size/\jw oq (bK ((z::r).map λk=>sj ns E (ab ns k))) l/\TBc l (pj (Sh ns) (z::r))/\(cst l:Int)<=wK ns (z::r)
 |[],z,g=>by
  obtain⟨y,rfl,a,b,c⟩:=g z bq;have⟨l,e,j,m,o⟩:=h.ent d a b c;refine⟨l,?_⟩;rw[dv,List.map_nil,rC,lA];exact⟨e,j,m.last,by simp only[wK];omega⟩
 |z2::r,z,g=>by
  obtain⟨y,rfl,a,b,c⟩:=g z bq;have⟨l,e,j,m,o⟩:=h.ent d a b c;obtain⟨p,q,s,t,u⟩:=h.tbl d r z2 λy n=>g y (dr _ n);refine⟨l++(sgF 46::p),?_⟩;rw[dv,dv,qk,<-dv (f:=λk=>sj ns E (ab ns k)),pj];exact⟨ay e,j.app (mH.app s q rfl) ay Cm,m.cons t,by simp only[cst,lu,wt,sgF,xk,nlW,Int.reduceLT,reduceIte];rw[wK];omega⟩
def aln(d:Jl ns)(q:i<ns.length)(m:C9 (ab ns i))(F:20<=(ab ns i).k/\(ab ns i).k<=27):FC ns i (Cf (ab ns i)):=by
 have p:=(jg (d.nb i q)).1;have E:=ahK p F;have u:(ab ns i).ks=[]:=jb E;have f:=rB d q;have c:=f;rw[zF p,u,pj]at c;have w:=d.at_ i q;have I:=xD (ab ns i);have x:=x19 m;rw[u]at w;simp only[wK]at w;have r:∀(s:ByteArray)(k:Int),s=itT [k]->itC [k]=M->k≠0->(∀j∈Ba,Aj (dG k) k j=M)->jw oq s [sgF k]:=λs k z A B C=>by
  have:=lit [k] z A;simp only[itF,itL,aa B]at this;exact this.mono λj h=>C j (aG h)
 rcases(show(ab ns i).k=20\/(ab ns i).k=21\/(ab ns i).k=22\/(ab ns i).k=23\/(ab ns i).k=24\/(ab ns i).k=25\/(ab ns i).k=26\/(ab ns i).k=27 by omega) with e|e|e|e|e|e|e|e;all_goals (simp only[e]at c)
 .rw[show Cf (ab ns i)=⟨#[110,105,108]⟩ by unfold Cf;simp[e]];exact EL.of_un (l:=[sgF 24]) (by rw[e];decide) (by decide) (by decide) (λa=>absurd a (by decide)) (r _ 24 (by decide+kernel) (by decide+kernel) (by decide) (by decide+kernel)) (by rw[c];exact an2) f (by simp[vw];omega)
 .rw[show Cf (ab ns i)=⟨#[116,114,117,101]⟩ by unfold Cf;simp[e]];exact EL.of_un (l:=[sgF 29]) (by rw[e];decide) (by decide) (by decide) (λa=>absurd a (by decide)) (r _ 29 (by decide+kernel) (by decide+kernel) (by decide) (by decide+kernel)) (by rw[c];exact an4) f (by simp[vw];omega)
 .rw[show Cf (ab ns i)=⟨#[102,97,108,115,101]⟩ by unfold Cf;simp[e]];exact EL.of_un (l:=[sgF 17]) (by rw[e];decide) (by decide) (by decide) (λa=>absurd a (by decide)) (r _ 17 (by decide+kernel) (by decide+kernel) (by decide) (by decide+kernel)) (by rw[c];exact an5) f (by simp[vw];omega)
 .rw[show Cf (ab ns i)=tA (ab ns i).n by unfold Cf;simp[e]];have g:=ald (ab ns i).n m.int.n.1 m.int.n.2;have H:=aoB (ab ns i).n m.int.n.2;have b:=alm (ab ns i).n;exact EL.of_un (l:=[⟨2,(ab ns i).n,⟨#[]⟩,tA (ab ns i).n⟩]) (by rw[e];decide) g.pos (λa=>by rw[a]at b;exact absurd b (by decide)) (λa=>by rw[a]at b;exact absurd b (by decide)) ((EF (t:=⟨2,(ab ns i).n,⟨#[]⟩,tA (ab ns i).n⟩) (by simp) (by simp) g).mono λj h=>aca (.inl b) h) (by rw[c];exact anL) f (by simp[vw,wt];omega)
 .rw[show Cf (ab ns i)=(ab ns i).x by unfold Cf;simp[e]];have o:=(Jo p).2 e;have g:=ak9 o;have b:cJ (aA (ab ns i).x 0)=M:=by unfold fok qD at o;rw[ch]at o;exact(aG o.2).1
  exact EL.of_un (l:=[⟨3,0,(ab ns i).x,(ab ns i).x⟩]) (by rw[e];decide) g.pos (λa=>by rw[a]at b;exact absurd b (by decide)) (λa=>by rw[a]at b;exact absurd b (by decide)) ((EF (t:=⟨3,0,(ab ns i).x,(ab ns i).x⟩) (by simp) (by simp) g).mono λj h=>aca (.inl b) h) (by rw[c];exact an0) f (by have:=x (by omega);simp[vw,wt];omega)
 .rw[show Cf (ab ns i)=eD (dA (ab ns i).x) by unfold Cf;simp[e]];have g:=ala (ab ns i).x;have b:=Li (ab ns i).x;exact EL.of_un (l:=[⟨4,0,(ab ns i).x,eD (dA (ab ns i).x)⟩]) (by rw[e];decide) g.pos (by rw[b];decide) (λa=>by rw[b]at a;cases a) ((EF (t:=⟨4,0,(ab ns i).x,eD (dA (ab ns i).x)⟩) (by simp) (by simp) g).mono λj h=>aca (.inr b) h) (by rw[c];exact an1) f (by have:=aii m e;simp[vw,wt];omega)
 .rw[show Cf (ab ns i)=(ab ns i).x by unfold Cf;simp[e]];have v:=(Jo p).1 (by omega);have y:=su v;have G:=oD y.2;exact EL.of_ba (l:=[xk (ab ns i).x]) (by rw[e];decide) y.1 (by omega) (by omega) (pi v) (by rw[c,e];exact akw) f (by have:=x (by omega);simp[vw];omega)
 .rw[show Cf (ab ns i)=⟨#[46,46,46]⟩ by unfold Cf;simp[e]];exact EL.of_un (l:=[sgF 49]) (by rw[e];decide) (by decide) (by decide) (λa=>absurd a (by decide)) Jr (by rw[c];exact an6) f (by simp[vw];omega)
def asx(d:Jl ns)(p:i<ns.length)(j:(ab ns i).k=30)(h:dt (ab ns i) 0=(a:Int))(I:FC ns a (E a)):FC ns i (unB ns E (ab ns i)):=by
 have u:=(jg (d.nb i p)).1;have⟨r,_,t⟩:=oI u;have t:=t j;have v:=rB d p;have q:=v;rw[zF u,mD r,lA,h]at q;simp only[j]at q;have⟨l,K,L,ad,ak,al,ao⟩:=ali I;have w:=d.at_ i p;have ap:=xD (ab ns i);rw[mD r,h]at w;simp only[wK]at w;have J:lF (ab ns i).k=Q:=by rw[j];decide
 unfold unB;rw[h];have g:∀(k:Int)(f:ByteArray)(o:Int->Bool),unS ns (ab ns i)=f->0<f.size->aA f 0≠61->(aA f 0=45->vp (ab ns i)=M)->jw o f [sgF k]->o (aA (iL ns E a 11) 0)=M->qh k=M->k≠7->k<100->aka k=(ab ns i).op->FC ns i (unS ns (ab ns i)++iL ns E a 11):=λk f o x m z A B C n F G y=>by
  rw[x];refine EL.of_un (l:=sgF k::l) J (ay m) (by rw[eC m];exact z) (by rw[eC m];exact A) (B.app L K C) ?_ v (by
   have e:wt (sgF k)=11:=aa (show ¬k<5 from λb=>by unfold qh at n;have:=aG n;omega);simp only[cst,e];omega)
  rw[q,<-y];exact ad.pre n F G
 rcases(show(ab ns i).op=19\/(ab ns i).op=20\/(ab ns i).op=21\/(ab ns i).op=22 by omega) with e|e|e|e
 .have s:vp (ab ns i)=M:=by unfold vp;rw[j,e];rfl
  by_cases b:vp (ab ns a)=M
  .refine g 62 (⟨#[45]⟩++⟨#[32]⟩) qj (by unfold unS;rw[e,h,ae b];rfl) (by decide) (by decide) (λ_=>s) (lit [62,0]) rfl (by decide) (by decide) (by decide) (by rw[e];decide)
  .refine g 62 ⟨#[45]⟩ (Aj (dG 62) 62) (by unfold unS;rw[e,h,aa b];rfl) (by decide) (by decide) (λ_=>s) (lit [62]) ?_ (by decide) (by decide) (by decide) (by rw[e];decide);have c:cD (aA (dG 62) 0)=Q/\cJ (aA (dG 62) 0)=Q/\aA (dG 62) 0≠34:=by decide+kernel
   have H:aA (iL ns E a 11) 0≠45:=λan=>b (al an);unfold Aj nxS;rw[aa (by rw[c.1];simp),aa (by rw[c.2.1];simp[c.2.2])];simp[H]
 .refine g 69 ⟨#[126]⟩ (Aj (dG 69) 69) (by unfold unS;rw[e];rfl) (by decide) (by decide) (λb=>absurd b (by decide)) (lit [69]) ?_ (by decide) (by decide) (by decide) (by rw[e];decide);have c:cD (aA (dG 69) 0)=Q/\cJ (aA (dG 69) 0)=Q/\aA (dG 69) 0≠34/\aA (dG 69) 0≠45:=by decide+kernel
  unfold Aj nxS;rw[aa (by rw[c.1];simp),aa (by rw[c.2.1];simp[c.2.2.1])];simp[c.2.2.2,ak]
 .exact g 25 ⟨#[110,111,116,32]⟩ qj (by unfold unS;rw[e];rfl) (by decide) (by decide) (λb=>absurd b (by decide)) (lit [25,0]) rfl (by decide) (by decide) (by decide) (by rw[e];decide)
 .exact g 50 ⟨#[35]⟩ qj (by unfold unS;rw[e];rfl) (by decide) (by decide) (λb=>absurd b (by decide)) (lit1) rfl (by decide) (by decide) (by decide) (by rw[e];decide)
def aoC(h:JzE ns E S i tab)(d:Jl ns)(u:i<ns.length)(bE:fy (ab ns i).k=M):FC ns i (prE ns E S (ab ns i) tab):=by
 have y:=(jg (d.nb i u)).1;have bE:=aG bE;have ad:=λa8 bn=>iJ (d.nb i u) u a8 bn;have v:=rB d u;have b:=v;rw[zF y]at b;have m:=d.at_ i u;have cn:=xD (ab ns i);have bd:∀(bo:(ab ns i).k=28\/(ab ns i).k=29\/(ab ns i).k=31\/(ab ns i).k=32),∃a p:Nat,dt (ab ns i) 0=(a:Int)/\dt (ab ns i) 1=(p:Int)/\(ab ns i).ks=[(a:Int),(p:Int)]/\FC ns a (E a)/\FC ns p (E p):=λbo=>by
  have⟨av,a6,_⟩:=mC y;have⟨a,f⟩:=ad 0 (by omega);have⟨p,a7⟩:=ad 1 (by omega);have G:=gD 2 0 a6 0 (by omega) (by omega);have b2:=gD 2 0 a6 1 (by omega) (by omega);rw[f.id]at G;rw[a7.id]at b2;exact⟨a,p,f.id,a7.id,by rw[uA av,f.id,a7.id],h.e a f.lt f.len G,h.e p a7.lt a7.len b2⟩
 have bw:∀(bo:(ab ns i).k=30\/(ab ns i).k=33\/(ab ns i).k=37),∃a:Nat,dt (ab ns i) 0=(a:Int)/\(ab ns i).ks=[(a:Int)]/\FC ns a (E a):=λbo=>by
  have⟨av,G,_⟩:=oI y;have⟨a,f⟩:=ad 0 (by omega);rw[f.id]at G;exact⟨a,f.id,by rw[mD av,f.id],h.e a f.lt f.len G⟩
 unfold prE;by_cases ao:(ab ns i).k=28
 .obtain⟨a,p,n,K,j,x,B⟩:=bd (by omega);rw[ae ao];unfold AL wh;rw[n,K];simp only[ao,j,na]at b⊢;rw[j]at m;simp only[wK]at m;obtain⟨l,e,q,o,z⟩:=aie (t:=10) (sign:=⟨#[32,97,110,100,32]⟩) x B (lit [0,10,0]) (by decide) (by decide) rfl rfl (by decide) (by decide) (by decide) (by decide);exact EL.of_ex (l:=l) (by rw[ao];decide) e (by rw[ao];show(2:Int)<11;decide) q (by rw[b,ao];exact o) v (by omega)
 rw[aa ao];by_cases ap:(ab ns i).k=29
 .obtain⟨a,p,n,K,j,x,B⟩:=bd (by omega);rw[ae ap];unfold AL wh;rw[n,K];simp only[ap,j,na]at b⊢;rw[j]at m;simp only[wK]at m;obtain⟨l,e,q,o,z⟩:=aie (t:=26) (sign:=⟨#[32,111,114,32]⟩) x B (lit [0,26,0]) (by decide) (by decide) rfl rfl (by decide) (by decide) (by decide) (by decide);exact EL.of_ex (l:=l) (by rw[ap];decide) e (by rw[ap];show(1:Int)<11;decide) q (by rw[b,ap];exact o) v (by omega)
 rw[aa ap];by_cases I:(ab ns i).k=31
 .obtain⟨a,p,n,K,j,x,B⟩:=bd (by omega);have⟨_,_,bp⟩:=mC y;have bp:=bp I;rw[ae I];unfold AL wh;rw[n,K];simp only[I,j,na]at b⊢;obtain⟨c,br⟩:∃c,(ab ns i).op=c:=⟨_,rfl⟩;rw[br]at bp b⊢;have cd:((c.toNat:Nat):Int)=c:=by omega
  have⟨b5,b6,b7,b8,b9,ca,cb⟩:=alj ⟨c.toNat,by omega⟩ (by simp only;omega);simp only[cd]at b5 b6 b7 b8 b9 ca cb;have s:rL 31 c=(qL c).2:=rfl;have bk:ij 31 c=(qL c).1:=rfl;have cl:jw qj (⟨#[32]⟩++Am (60+c)++⟨#[32]⟩) [sgF (60+c)]:=by
   have:=ah8 [0,60+c,0] cb;have w:(60+c:Int)≠0:=by omega
   simp only[itT,itL,itF,aa w,kJ,oJ]at this;rw[ca,aK];exact this
  rw[j]at m;simp only[wK]at m;obtain⟨l,e,q,o,z⟩:=aie (t:=60+c) (L:=if rL 31 c=ij 31 c then ij 31 c+1 else ij 31 c) (R:=rL 31 c) x B cl (ay ay) (by rw[eC ay,eC (by decide)];decide) (by rw[s,bk,b7]) (by rw[s,b6]) b8 (by omega) (by omega) b9;refine EL.of_ex (l:=l) (by rw[I];decide) e (by rw[I,br,bk];have:=aia c;have:=AG (60+c);omega) q ?_ v (by omega);rw[b,I,br,bk,<-b5];have B:afk (60+c)=bN 31 c 0 z0 []:=by unfold afk;rw[aa (by omega),aa (by omega),show 60+c-60=c by omega]
  rw[B]at o;exact o
 rw[aa I];by_cases bj:(ab ns i).k=30
 .obtain⟨a,n,j,x⟩:=bw (by omega);rw[ae bj];exact asx d u bj n x
 rw[aa bj];by_cases a3:(ab ns i).k=32
 .obtain⟨a,p,n,K,j,x,B⟩:=bd (by omega);have F:=EI y (by omega);rw[n]at F;obtain⟨l,ad,a0,⟨e,z,ak⟩,q,o,b3⟩:=aid x F;obtain⟨ba,bc⟩:=B;rw[ae a3,n,K];simp only[a3,j,na]at b;have H:jw qj (⟨#[91]⟩:ByteArray) [sgF 44]:=lit1;have al:jw qj (⟨#[93]⟩:ByteArray) [sgF 45]:=lit1;have r:=((q.app H).app bc.rd bc.pos rfl).app al;refine EL.of_ba (l:=l++(sgF 44::(ba++[sgF 45]))) (by rw[a3];decide) (ay (ay (ay e))) (by rw[eC (ay (ay e)),eC (ay e),eC e];exact z) (by rw[eC (ay (ay e)),eC (ay e),eC e];exact ak) ?_ ?_ v (by rw[j]at m;simp only[wK]at m;have:=bc.cs;simp[vw];omega)
  .have:=r.tt (g:=Cl);exact this.as
  .rw[b,a3];exact o.index a0 (bc.ex.le (by have:=pK (ab ns p).k (ab ns p).op;omega))
 rw[aa a3];by_cases a4:(ab ns i).k=33
 .obtain⟨a,n,j,x⟩:=bw (by omega);have F:=EI y (by omega);rw[n]at F;have bF:=(Jo y).1 (by omega);have b4:=su bF;obtain⟨l,ad,a0,⟨e,z,ak⟩,q,o,b3⟩:=aid x F;rw[ae a4,n];simp only[a4,j,lA]at b;have H:jw (Aj (dG 48) 48) (⟨#[46]⟩:ByteArray) [sgF 48]:=lit [48];have r:=q.app (H.app (pi bF) b4.1 (aig b4.2)) ay Cm;refine EL.of_ba (l:=l++[sgF 48,xk (ab ns i).x]) (by rw[a4];decide) (ay e) (by rw[eC e];exact z) (by rw[eC e];exact ak) r ?_ v (by rw[j]at m;simp only[wK]at m;have:=x19 (h.b i u) (by omega);simp[vw];omega);rw[b,a4];exact o.field a0
 rw[aa a4];by_cases C:(ab ns i).k=34
 .obtain⟨av,a6⟩:=Da y C;have⟨a,f⟩:=ad 0 (by omega);have G:=gD _ 0 a6 0 (by omega) (by omega);have F:=EI y (by omega);rw[f.id]at G F;obtain⟨l,ad,a0,⟨e,z,ak⟩,q,o,b3⟩:=aid (h.e a f.lt f.len G) F;have j:(ab ns i).ks=(a:Int)::(ab ns i).ks.drop 1:=by
   cases an:(ab ns i).ks with
   |nil=>rw[an]at av;simp at av
   |cons cp r=>have:=f.at_;rw[an]at this;simp at this;rw[this];rfl
  have b0:∀w∈(ab ns i).ks.drop 1,KE ns E w:=λw ax=>by
   obtain⟨bf,rfl,a1,A,a8,bn,an⟩:=pm d u (List.mem_of_mem_drop ax);have a9:=gD _ 0 a6 a8 (by omega) (by omega);rw[an]at a9;exact⟨bf,rfl,h.e bf a1 A a9⟩
  rw[ae C,f.id];rw[j,pj]at b;rw[j,wK]at m;simp only[C]at b;have J:∀a1 A a2:ByteArray,0<(El ns E a++a1++A++a2).size/\aA (El ns E a++a1++A++a2) 0=aA (El ns E a) 0:=λa1 A a2=>⟨ay (ay (ay e)),by rw[eC (ay (ay e)),eC (ay e),eC e]⟩;have cc:=q.app Df;cases s:(ab ns i).ks.drop 1 with
  |nil=>
   rw[s]at b;have bh:bK (([]:List Int).map E)=O:=rfl;rw[bh];obtain⟨bl,a5⟩:=J ⟨#[40]⟩ O ⟨#[41]⟩;refine EL.of_ba (l:=l++[sgF 40,sgF 41]) (by rw[C];decide) bl (by rw[a5];exact z) (by rw[a5];exact ak) ?_ ?_ v (by rw[s]at m;simp only[wK]at m;simp[vw];omega)
   .rw[oJ];have:=(cc.app Jq).tt (g:=Cl);exact this.as
   .rw[b,C,pj,Fo.app_nil];exact o.call0 a0
  |cons w r=>
   rw[s]at b b0;have⟨ba,bs,bt,bv,ck⟩:=xh r w b0;obtain⟨bl,a5⟩:=J ⟨#[40]⟩ (bK ((w::r).map E)) ⟨#[41]⟩;refine EL.of_ba (l:=l++(sgF 40::(ba++[sgF 41]))) (by rw[C];decide) bl (by rw[a5];exact z) (by rw[a5];exact ak) ?_ ?_ v (by rw[s]at m;simp[vw];omega)
   .have:=((cc.app bt bs rfl).app Jq).tt (g:=Cl);exact this.as
   .rw[b,C];exact o.call a0 bv
 rw[aa C];by_cases ar:(ab ns i).k=35
 .rw[ae ar];unfold abI;have cf:=zx y ar;simp only[ar]at b;have ax:∀w∈(ab ns i).ks,∃k:Nat,w=(k:Int)/\k<=i/\k<ns.length/\40<=(ab ns k).k/\(ab ns k).k<=42:=λw ax=>by
   obtain⟨bf,rfl,a1,A,a8,bn,an⟩:=pm d u ax;have a9:=aap _ 0 cf a8 (by omega) (by omega);rw[an]at a9;exact⟨bf,rfl,by omega,A,a9⟩
  have H:jw qj (⟨#[123]⟩:ByteArray) [sgF 42]:=lit1;have al:jw qj (⟨#[125]⟩:ByteArray) [sgF 43]:=lit1;have J:∀A a2:ByteArray,aA ((⟨#[123]⟩:ByteArray)++A++a2) 0=123:=λA a2=>by rw[eC ay,eC (by decide)];decide
  cases s:(ab ns i).ks with
  |nil=>
   rw[s]at b;have bh:bK (([]:List Int).map λk=>sj ns E (ab ns k))=O:=rfl;rw[bh];refine EL.of_un (l:=[sgF 42,sgF 43]) (by rw[ar];decide) (ay ay) (by rw[J];decide) (λg=>by rw[J]at g;cases g) ?_ ?_ v (by rw[s]at m;simp only[wK]at m;simp[vw];omega)
   .rw[oJ];exact(H.app al).tt
   .rw[b];exact TBc.nil.un
  |cons w r=>
   rw[s]at b ax;have⟨ba,bs,bt,bv,ck⟩:=h.tbl d r w ax;refine EL.of_un (l:=sgF 42::(ba++[sgF 43])) (by rw[ar];decide) (ay ay) (by rw[J];decide) (λg=>by rw[J]at g;cases g) ?_ ?_ v (by rw[s]at m;simp[vw];omega)
   .have:=((H.app bt bs rfl).app al).tt (g:=oq);exact this.as
   .rw[b];exact bv.un
 rw[aa ar];by_cases bb:(ab ns i).k=36
 .rw[ae bb];obtain⟨l,⟨e,z⟩,q,o,ak⟩:=h.bod d (af _) u bb;have H:jw Cl (⟨#[102,110]⟩:ByteArray) [sgF 18]:=(lit [18]).mono λal ce=>by
   show Aj (dG 18) 18 al=M;unfold Aj;rw[ae (by decide+kernel)];exact ce
  exact EL.of_un (l:=sgF 18::l) (by rw[bb];decide) ay (by rw[eC (by decide)];decide) (λg=>by rw[eC (by decide)]at g;exact absurd g (by decide)) (H.app q e (by rw[z];decide)).tt o.un v (by simp[vw];omega)
 rw[aa bb];by_cases au:(ab ns i).k=37
 .obtain⟨a,n,j,l,f⟩:=bw (by omega);have bD:=alh y au;rw[n]at bD;rw[ae au,n];simp only[au,j,lA]at b;have⟨cm,bA⟩:=f.sh;have bx:=Dg (E a);refine EL.of_ba (l:=sgF 40::(l++[sgF 41])) (by rw[au];decide) bx.1 (by rw[bx.2];decide) (by rw[bx.2];decide) (ah9 f.rd f.pos).tt ?_ v (by rw[j]at m;simp only[wK]at m;have:=f.cs;simp[vw];omega);have b1:=f.ex.le (r:=0) (by have:=pK (ab ns a).k (ab ns a).op;omega);rw[bA]at b1;rw[b,au,bA];exact b1.held bD
 rw[aa au];exact aln d u (h.b i u) (by omega)
end
def aas:jw qj (⟨#[32,61,32]⟩:ByteArray) [sgF 47]:=lit [0,47,0]
section
variable {ns : List Nd} {E : Int → ByteArray} {S : Int → Nat → ByteArray} {i tab q : Nat}
def adL:∀(r:List Int),(∀y∈r,∃k:Nat,y=(k:Int)/\FC ns k (E k)/\ti (ab ns k).k=M)->∃l,jw Cl (mBs (r.map E)) l/\(r≠[]->0<(mBs (r.map E)).size/\aA (mBs (r.map E)) 0=44)/\TMc l (pj (Sh ns) r)/\(r=[]->l=[])/\(cst l:Int)<=wK ns r
 |[],_=>⟨[],ab8,λh=>absurd rfl h,TMc.nil,λ_=>rfl,Int.le_refl _⟩
 |z::r,h=>by
  obtain⟨y,rfl,⟨l,a⟩,ht⟩:=h z bq;obtain⟨m,n,o,p,q,t⟩:=adL r λy j=>h y (dr _ j);have ht:=aG ht;have g:lF (ab ns y).k=M:=by rcases ht with e|e|e<;>rw[e]<;>decide
  have i:kdK (ab ns y).k<2:=by rcases ht with e|e|e<;>rw[e]<;>decide
  have⟨b,c⟩:=a.ba g;refine⟨sgF 46::(l++m),?_,λ_=>?_,TMc.cons c i p,λf=>(by cases f),by have:=a.cs;simp only[cst,lu,wt,sgF,xk,nlW,Int.reduceLT,reduceIte];rw[wK];omega⟩
  .rw[dv,mBs];cases r with
   |nil=>
    have e:mBs (([]:List Int).map E)=O:=rfl;have d:=q rfl;rw[e,oJ,d,dC];exact mH.app b a.pos rfl
   |cons u r=>
    have⟨s,p2⟩:=o (by simp);exact mH.app (b.app n s (by rw[p2];decide)) (ay a.pos) rfl
  .rw[dv,mBs];exact⟨ay,by rw[eC (by decide)];rfl⟩
def BCl(ns:List Nd)(z:Nat)(x:ByteArray):Prop:=∃l,0<x.size/\jw oq x l/\BRc l (Sh ns z)/\(cst l:Int)+25<=wN ns z
def asy(h:JzE ns E S i tab)(d:Jl ns)(l:i<ns.length)(J:(ab ns i).k=7)
  (ak:∀z:Nat,z<i->z<ns.length->(ab ns z).k=7->∃y,BCl ns z y/\∀w,Br z w=w++y):∃y,BCl ns i y/\∀w,wj ns E S Br (ab ns i) w tab=w++y:=by
 have K:=(jg (d.nb i l)).1;have t:=λao al=>iJ (d.nb i l) l ao al;have⟨av,ax,G,H,ad⟩:=adz K J;have⟨e,b⟩:=t 0 (by omega);have⟨n,c⟩:=t 1 (by omega);rw[b.id]at G;rw[c.id]at H;have⟨u,f⟩:=h.e e b.lt b.len G;have⟨v,ap,ar,x,a2⟩:=h.blk d (iA c.lt) c.len H;have a0:=f.cs;have p:=d.at_ i l;have a1:=xD (ab ns i);have s:=f.ex.le (r:=0) (by have:=pK (ab ns e).k (ab ns e).op;omega);have m:=rB d l;rw[zF K]at m;simp only[J]at m;have o:=(f.rd.app zE).app ar ap rfl;rw[dC]at o;unfold wj;rw[b.id,c.id];rcases bI (ab ns i).ks.length 3 with g|g
 .refine⟨E e++⟨#[32]⟩++xe S (ab ns n).ks tab,⟨u++v,ay (ay f.pos),o.tt,?_,by rw[uA (by omega),b.id,c.id]at p;simp only[wK]at p;simp only[lu];omega⟩,λw=>?_⟩
  .rw[m,uA (by omega),na,b.id,c.id];exact oe.br0 s x
  .rw[ae g,oJ];simp only[aK]
 .obtain⟨j,a⟩:=t 2 (by omega);rw[a.id]at ad;rw[EG (by omega),b.id,c.id,a.id]at p;simp only[wK]at p;have I:pj (Sh ns) (ab ns i).ks=((Sh ns e).app (Sh ns n)).app (Sh ns j):=by rw[EG (by omega),pj,na,b.id,c.id,a.id,Fo.app_app]
  by_cases q:(ab ns j).k=7
  .obtain⟨y,⟨B,C,F,p2,au⟩,an⟩:=ak j a.lt a.len q;have A:jw qj (⟨#[32,101,108,105,102,32]⟩:ByteArray) [sgF 15]:=lit [0,15,0];refine⟨(E e++⟨#[32]⟩++xe S (ab ns n).ks tab)++(⟨#[32,101,108,105,102,32]⟩++y),⟨u++(v++(sgF 15::B)),ay (ay (ay f.pos)),?_,?_,by simp[vw];omega⟩,λw=>?_⟩
   .have:=o.app (A.app F C rfl) ay rfl;exact this.as
   .rw[m,I];exact oe.br2 s x p2
   .rw[aa (by omega),a.id,ae q,an];simp only[aK]
  .have L:(ab ns j).k=1:=by omega
   have⟨B,C,F,p2,au⟩:=h.blk d (iA a.lt) a.len L;have A:jw qj (⟨#[32,101,108,115,101,32]⟩:ByteArray) [sgF 16]:=lit [0,16,0];refine⟨(E e++⟨#[32]⟩++xe S (ab ns n).ks tab)++(⟨#[32,101,108,115,101,32]⟩++xe S (ab ns j).ks tab),⟨u++(v++(sgF 16::B)),ay (ay (ay f.pos)),?_,?_,by simp[vw];omega⟩,λw=>?_⟩
   .have:=o.app (A.app F C rfl) ay rfl;have:=this.tt (g:=oq);exact this.as
   .rw[m,I];exact oe.br1 s x p2
   .rw[aa (by omega),a.id,aa q];simp only[aK]
def aoD(h:JzE ns E S i tab)(d:Jl ns)(a0:i<ns.length)(a2:eA (ab ns i).k=M)
  (cv:(ab ns i).k=7->∃y,BCl ns i y/\Br (-1) ⟨#[105,102,32]⟩=⟨#[105,102,32]⟩++y):SCl ns i (prS ns E S Br (ab ns i) tab):=by
 have u:=(jg (d.nb i a0)).1;have a2:=aG a2;have x:=λH a1=>iJ (d.nb i a0) a0 H a1;have f:=rB d a0;rw[zF u]at f;have m:=d.at_ i a0;have dn:=xD (ab ns i);have ce:=h.b i a0;have au:∀{n:ByteArray}{r:List ByteArray},(ab ns i).nm=n::r->n.size<=3/\cst (nmL (n::r))<=57:=λ{n r} o=>by
  have w:=ce.nm;have bb:∀b9∈n::r,b9.size<=3:=λb9 u=>(ce.s b9 (by rw[o];exact u)).sz;have:=amI r n bb;rw[o,bB]at w;exact⟨bb n bq,by omega⟩
 have a6:∀j:Nat,Kid ns i (ab ns i) 0 j->fy (ab ns j).k=M->∃b,EL ns j (E j) b/\oe b (Sh ns j) 0:=λj a bx=>by
  have⟨b,c⟩:=h.e j a.lt a.len bx;exact⟨b,c,c.ex.le (by have:=pK (ab ns j).k (ab ns j).op;omega)⟩
 have cm:∀{bs H:Nat},jF ns (ab ns i) bs H=M->∀v,H<=v->v<H+bs->v<(ab ns i).ks.length->KE ns E (dt (ab ns i) v):=λ{bs H} C v c9 da dc=>by
  have⟨y,G⟩:=x v dc;have:=gD bs H C v c9 da;rw[G.id]at this⊢;exact⟨y,rfl,h.e y G.lt G.len this⟩
 have ck:jF ns (ab ns i) (ab ns i).ks.length 0=M->∀ad∈(ab ns i).ks,KE ns E ad:=λC ad bb=>by
  obtain⟨H,a1,rfl⟩:=om bb;exact cm C H (by omega) (by omega) a1
 unfold prS;by_cases bd:(ab ns i).k=1
 .rw[ae bd];obtain⟨b,K,L,t,bc⟩:=h.blk d (af _) a0 bd;exact⟨b,K,L.tt,t.st,by omega⟩
 rw[aa bd];by_cases al:(ab ns i).k=2
 .rw[ae al];have⟨n,r,o,J,_⟩:=EH u (by omega);have⟨ap,ar⟩:=adJ r n J;have s:jw qj (⟨#[108,101,116,32]⟩:ByteArray) [sgF 22]:=lit [22,0];simp only[al,o]at f⊢;have C:=ck (ab4 u al).1;cases er:(ab ns i).ks with
  |nil=>
   rw[er]at f;rw[ae rfl,oJ];refine⟨sgF 22::nmL (n::r),ay,(s.app ap ar rfl).mono λax=>De,?_,by have:=(au o).2;rw[er]at m;simp only[wK]at m;simp[vw];omega⟩;rw[f];exact akx
  |cons ad v=>
   rw[er]at f C;rw[aa (by simp)];have⟨b,K,L,t,bc⟩:=xh v ad C;refine⟨sgF 22::(nmL (n::r)++(sgF 47::b)),ay ay,?_,?_,by have:=(au o).2;rw[er]at m;simp[vw];omega⟩
   .have:=(s.app ap ar rfl).app (aas.app L K rfl) ay Cm;exact this.as
   .rw[f];exact t.let_
 rw[aa al];by_cases a8:(ab ns i).k=3
 .rw[ae a8];have⟨p,l,_⟩:=zz u a8;have⟨n,r,o,J,a3,_⟩:=EH u (by omega);obtain rfl:=a3 (by omega);have C:=J n bq;have⟨j,a⟩:=x 0 (by omega);rw[a.id]at l⊢;have⟨b,c,t⟩:=a6 j a l;have b7:nm0 (ab ns i)=n:=by unfold nm0;rw[o];rfl
  simp only[a8,o,mD p,lA,a.id]at f;rw[b7];have s:jw qj (⟨#[99,111,110,115,116,32]⟩:ByteArray) [sgF 13]:=lit [13,0];refine⟨sgF 13::xk n::sgF 47::b,ay (ay ay),?_,?_,by have:=(au o).1;have:=c.cs;rw[mD p,a.id]at m;simp only[wK]at m;simp[vw];omega⟩
  .exact((s.app (pi C) (su C).1 rfl).app aas).app c.rd c.pos rfl
  .rw[f];exact t.const
 rw[aa a8];by_cases a9:(ab ns i).k=4
 .rw[ae a9];have⟨p,l,_⟩:=Jh u a9;have⟨n,r,o,J,a3,_⟩:=EH u (by omega);obtain rfl:=a3 (by omega);have C:=J n bq;have⟨j,a⟩:=x 0 (by omega);rw[a.id]at l⊢;obtain⟨b,⟨K,bc⟩,L,t,dg⟩:=h.bod d (iA a.lt) a.len l;have b7:nm0 (ab ns i)=n:=by unfold nm0;rw[o];rfl
  simp only[a9,o,mD p,lA,a.id]at f;rw[b7];have s:jw qj (⟨#[102,110,32]⟩:ByteArray) [sgF 18]:=lit [18,0];refine⟨sgF 18::xk n::b,ay ay,?_,?_,by have:=(au o).1;rw[mD p,a.id]at m;simp only[wK]at m;simp[vw];omega⟩
  .exact((s.app (pi C) (su C).1 rfl).app L K (by rw[bc];decide)).tt
  .rw[f];exact t.fn
 rw[aa a9];by_cases bp:(ab ns i).k=5
 .rw[ae bp];have⟨p,l,w,cd⟩:=ab5 u bp;obtain⟨A,J⟩:∃A,(ab ns i).n.toNat=A:=⟨_,rfl⟩;rw[J]at w cd;have o:(ab ns i).n=(A:Int):=by omega
  simp only[bp,o]at f;rw[J];have ao:∀y∈(ab ns i).ks.take A,∃k:Nat,y=(k:Int)/\FC ns k (E k)/\ti (ab ns k).k=M:=λy G=>by
   have⟨H,a1,e⟩:=iw G;rw[eE]at a1;rw[List.getElem_take]at e;have⟨k,a2⟩:=x H (by omega);have:=aqx _ 0 w H (by omega) (by omega);have al:y=(k:Int):=by rw[<-e,wv (by omega),a2.id]
   rw[a2.id]at this;exact⟨k,al,h.e k a2.lt a2.len (Ha this),this⟩
  have cx:∀ad∈(ab ns i).ks.drop A,KE ns E ad:=λad bb=>by
   have⟨H,a1,e⟩:=iw bb;rw[fJ]at a1;rw[List.getElem_drop]at e;rw[<-e,wv (by omega)];exact cm cd (A+H) (by omega) (by omega) (by omega)
  have B:pj (Sh ns) (ab ns i).ks=(pj (Sh ns) ((ab ns i).ks.take A)).app (pj (Sh ns) ((ab ns i).ks.drop A)):=by rw[<-Jn,ud]
  have cp:((ab ns i).ks.take A).length=A:=by rw[eE];omega
  have c0:((ab ns i).ks.drop A).length=(ab ns i).ks.length-A:=fJ;have ct:wK ns (ab ns i).ks=wK ns ((ab ns i).ks.take A)+wK ns ((ab ns i).ks.drop A):=by rw[<-ahL,ud]
  rw[B]at f;rw[ct]at m;generalize (ab ns i).ks.take A=ak at *;generalize (ab ns i).ks.drop A=bE at *;cases ak with
  |nil=>simp at cp;omega
  |cons ad ak=>
  cases bE with
  |nil=>simp at c0;omega
  |cons y bE=>
   obtain⟨k,rfl,⟨b,c⟩,bt⟩:=ao ad bq;obtain⟨F,a4,a5,bA,c1,dq⟩:=adL ak λy G=>ao y (dr _ G);have⟨bk,bl,a7,p2,cq⟩:=xh bE y cx;have bt:=aG bt;have q:lF (ab ns k).k=M:=by rcases bt with e|e|e<;>rw[e]<;>decide
   have cy:kdK (ab ns k).k<2:=by rcases bt with e|e|e<;>rw[e]<;>decide
   have⟨bF,av⟩:=c.ba q;have cz:(((Sh ns k).app (pj (Sh ns) ak)).len:Int)=A:=by
    have:∀(b:List Int),(∀y∈b,∃k:Nat,y=(k:Int)/\FC ns k (E k)/\ti (ab ns k).k=M)->(pj (Sh ns) b).len=b.length:=by
     intro b
     induction b with
     |nil=>intro _;rfl
     |cons j b cI=>
      intro c;obtain⟨k,rfl,⟨_,c4⟩,_⟩:=c j bq;have⟨df,cw⟩:=c4.sh;rw[pj,Fo.len_app,cI λy G=>c y (dr _ G),cw,bB];show 1+b.length=_;omega
    have:=this ((k:Int)::ak) ao;rw[pj]at this;rw[this,cp]
   have cF:jw oq (bK (((k:Int)::ak).map E)) (b++F):=by
    rw[dv,ww];cases ak with
    |nil=>
     have e:mBs (([]:List Int).map E)=O:=rfl;have cu:=c1 rfl;rw[e,oJ,cu,dC];exact c.rd
    |cons d0 r=>
     have⟨a7,p2⟩:=a5 (by simp);exact(bF.app a4 a7 (by rw[p2];decide)).mono λax=>De
   have cB:0<(bK (((k:Int)::ak).map E)).size:=by rw[dv,ww];exact ay c.pos
   refine⟨b++(F++(sgF 47::bk)),ay (ay cB),?_,?_,by have:=c.cs;rw[wK]at m;simp[vw];omega⟩
   .have:=(cF.app aas).app a7 bl rfl;exact this.as
   .rw[f,pj,<-cz];exact av.set cy bA p2
 rw[aa bp];by_cases b4:(ab ns i).k=6
 .rw[ae b4];have⟨p,l⟩:=BE u (by omega);have⟨j,a⟩:=x 0 (by omega);rw[a.id]at l⊢;have⟨b,c,_⟩:=a6 j a (by rw[l];decide);have⟨bF,av⟩:=c.ba (by rw[l];decide);simp only[b4,mD p,lA,a.id]at f;rw[l]at av;exact⟨b,c.pos,c.rd,by rw[f];exact av.do_,by have:=c.cs;rw[mD p,a.id]at m;simp only[wK]at m;omega⟩
 rw[aa b4];by_cases b5:(ab ns i).k=7
 .rw[ae b5];obtain⟨y,⟨b,K,L,t,bc⟩,G⟩:=cv b5;rw[G];have s:jw qj (⟨#[105,102,32]⟩:ByteArray) [sgF 20]:=lit [20,0];exact⟨sgF 20::b,ay,s.app L K rfl,t.st,by simp[vw];omega⟩
 rw[aa b5];by_cases br:(ab ns i).k=8
 .rw[ae br];have⟨p,l,w⟩:=zA u br;have⟨j,a⟩:=x 0 (by omega);have⟨z,q⟩:=x 1 (by omega);rw[a.id]at l⊢;rw[q.id]at w⊢;have⟨b,c,t⟩:=a6 j a l;have⟨F,bj,a4,a5,bA⟩:=h.blk d (iA q.lt) q.len w;simp only[br,uA p,na,a.id,q.id]at f;have s:jw qj (⟨#[119,104,105,108,101,32]⟩:ByteArray) [sgF 31]:=lit [31,0];refine⟨sgF 31::(b++F),ay (ay ay),?_,by rw[f];exact t.while_ a5,by have:=c.cs;rw[uA p,a.id,q.id]at m;simp only[wK]at m;simp[vw];omega⟩;have:=(((s.app c.rd c.pos rfl).app zE).app a4 bj rfl).tt (g:=oq);exact this.as
 rw[aa br];by_cases b6:(ab ns i).k=9\/(ab ns i).k=10
 .rw[ae b6];have⟨n,r,o,J,a3,_⟩:=EH u (by omega);have⟨ap,ar⟩:=adJ r n J;have s:jw qj (⟨#[102,111,114,32]⟩:ByteArray) [sgF 19]:=lit [19,0];rcases b6 with e|e
  .obtain⟨p,l,w,_⟩:=Ji u e;obtain rfl:=a3 (by omega);have⟨j,a⟩:=x 0 (by omega);have⟨z,q⟩:=x 1 (by omega);have bx:=gD _ 0 l 0 (by omega) (by omega);have cl:=gD _ 0 l 1 (by omega) (by omega);rw[a.id]at bx;rw[q.id]at cl;have⟨b,c,t⟩:=a6 j a bx;have⟨F,an⟩:=h.e z q.lt q.len cl;have bv:=an.ex.le (r:=0) (by have:=pK (ab ns z).k (ab ns z).op;omega);simp only[e,o,kJ]at f⊢;rcases p with g|g
   .obtain⟨ax,I⟩:=x 2 (by omega);rw[g,I.id]at w;have⟨bk,bl,a7,p2,cq⟩:=h.blk d (iA I.lt) I.len w;have B:=EG g;rw[a.id,q.id,I.id]at B;rw[B,pj,na,<-Fo.app_app]at f;have bh:(ab ns i).ks.take ((ab ns i).ks.length-1)=[(j:Int),(z:Int)]:=by rw[B];rfl
    rw[bh,g,I.id];obtain⟨ds,dd,dx,_⟩:=xh (ns:=ns) (E:=E) [(z:Int)] j (λy G=>by
     simp at G;rcases G with rfl|rfl
     .exact⟨j,rfl,b,c⟩
     .exact⟨z,rfl,F,an⟩)
    have b8:jw oq (bK ([(j:Int),(z:Int)].map E)) (b++(sgF 46::F)):=by
     rw[dv,dv,List.map_nil,qk,rC];exact c.rd.app (mH.app an.rd an.pos rfl) ay Cm
    refine⟨sgF 19::xk n::sgF 47::((b++(sgF 46::F))++bk),ay (ay (ay (ay ay))),?_,by rw[f];exact oe.for_ t bv.es p2 (akz bv),by have:=(au o).1;have:=c.cs;have:=an.cs;rw[B]at m;simp only[wK]at m;simp[vw];omega⟩;have:=(((((s.app ap ar rfl).app aas).app b8 dd rfl).app zE).app a7 bl rfl).tt (g:=oq);simpa only[dj,ed,dI,nmL] using this
   .obtain⟨v,ao⟩:=x 2 (by omega);have⟨ax,I⟩:=x 3 (by omega);have cn:=gD _ 0 l 2 (by omega) (by omega);rw[ao.id]at cn;rw[g,I.id]at w;have⟨ca,bw⟩:=h.e v ao.lt ao.len cn;have cf:=bw.ex.le (r:=0) (by have:=pK (ab ns v).k (ab ns v).op;omega);have⟨bk,bl,a7,p2,cq⟩:=h.blk d (iA I.lt) I.len w;have B:=alf g;rw[a.id,q.id,ao.id,I.id]at B;rw[B,pj,pj,na,<-Fo.app_app (Sh ns z),<-Fo.app_app]at f;have bh:(ab ns i).ks.take ((ab ns i).ks.length-1)=[(j:Int),(z:Int),(v:Int)]:=by rw[B];rfl
    rw[bh,g,I.id];have c7:jw oq (bK ([(z:Int),(v:Int)].map E)) (F++(sgF 46::ca)):=by
     rw[dv,dv,List.map_nil,qk,rC];exact an.rd.app (mH.app bw.rd bw.pos rfl) ay Cm
    have c8:0<(bK ([(z:Int),(v:Int)].map E)).size:=by rw[dv,dv,List.map_nil,qk];exact ay an.pos
    have b8:jw oq (bK ([(j:Int),(z:Int),(v:Int)].map E)) (b++(sgF 46::(F++(sgF 46::ca)))):=by
     rw[dv,dv,qk,<-dv];exact c.rd.app (mH.app c7 c8 rfl) ay Cm
    have c6:0<(bK ([(j:Int),(z:Int),(v:Int)].map E)).size:=by rw[dv,dv,qk];exact ay c.pos
    refine⟨sgF 19::xk n::sgF 47::((b++(sgF 46::(F++(sgF 46::ca))))++bk),ay (ay (ay (ay ay))),?_,by rw[f];exact oe.for_ t (ESc.cons bv cf.es) p2 (afl bv cf),by have:=(au o).1;have:=c.cs;have:=an.cs;have:=bw.cs;rw[B]at m;simp only[wK]at m;simp[vw];omega⟩;have:=(((((s.app ap ar rfl).app aas).app b8 c6 rfl).app zE).app a7 bl rfl).tt (g:=oq);simpa only[dj,ed,dI,nmL] using this
  .obtain⟨p,l,w,_⟩:=Db u e;have⟨j,a⟩:=x 0 (by omega);have⟨z,q⟩:=x 1 (by omega);rw[a.id]at l;rw[q.id]at w;have⟨b,c,t⟩:=a6 j a l;have⟨F,bj,a4,a5,bA⟩:=h.blk d (iA q.lt) q.len w;have B:=uA p;rw[a.id,q.id]at B;simp only[e,o,B,na]at f;have bh:(ab ns i).ks.take ((ab ns i).ks.length-1)=[(j:Int)]:=by rw[B];rfl
   have cr:dt (ab ns i) ((ab ns i).ks.length-1)=(z:Int):=by rw[p];exact q.id
   rw[bh,cr,aa (by omega),o,dv,List.map_nil,rC];have c3:jw qj (⟨#[32,105,110,32]⟩:ByteArray) [sgF 21]:=lit [0,21,0];refine⟨sgF 19::(nmL (n::r)++(sgF 21::(b++F))),ay (ay (ay (ay ay))),?_,by rw[f];exact t.each a5,by have:=(au o).2;have:=c.cs;rw[B]at m;simp only[wK]at m;simp[vw];omega⟩;have:=(((((s.app ap ar rfl).app c3).app c.rd c.pos rfl).app zE).app a4 bj rfl).tt (g:=oq);exact this.as
 rw[aa b6];have cb:∀(n:ByteArray)(k:Int),n=itT [k]->itC [k]=M->k≠0->(∀ax∈Ba,Aj (dG k) k ax=M)->jw oq n [sgF k]:=λn k bd al a8 a9=>by
  have:=lit [k] bd al;simp only[itF,itL,aa a8]at this;exact this.mono λax I=>a9 ax (aG I)
 have bD:(ab ns i).k=11\/(ab ns i).k=12->(ab ns i).ks=[]:=λg=>by
  have:=pA u;unfold stB at this;rcases g with e|e<;>simp[e]at this<;>exact this.2
 by_cases b0:(ab ns i).k=11
 .rw[ae b0];simp only[b0,bD (by omega),pj]at f;exact⟨[sgF 11],by decide,cb _ 11 (by decide+kernel) (by decide+kernel) (by decide) (by decide+kernel),by rw[f];exact adk (.inl ⟨rfl,rfl⟩),by rw[bD (by omega)]at m;simp only[wK]at m;simp[vw];omega⟩
 rw[aa b0];by_cases b3:(ab ns i).k=12
 .rw[ae b3];simp only[b3,bD (by omega),pj]at f;exact⟨[sgF 23],by decide,cb _ 23 (by decide+kernel) (by decide+kernel) (by decide) (by decide+kernel),by rw[f];exact adk (.inr ⟨rfl,rfl⟩),by rw[bD (by omega)]at m;simp only[wK]at m;simp[vw];omega⟩
 rw[aa b3];by_cases bn:(ab ns i).k=13
 .rw[ae bn];simp only[bn]at f;have C:=ck (ab6 u bn);have s:=cb (⟨#[114,101,116,117,114,110]⟩:ByteArray) 27 (by decide+kernel) (by decide+kernel) (by decide) (by decide+kernel);cases er:(ab ns i).ks with
  |nil=>
   rw[er]at f;rw[ae rfl,oJ];exact⟨[sgF 27],by decide,s,by rw[f];exact aky,by rw[er]at m;simp only[wK]at m;simp[vw];omega⟩
  |cons ad v=>
   rw[er]at f C;rw[aa (by simp)];have⟨b,K,L,t,bc⟩:=xh v ad C;exact⟨sgF 27::b,ay,s.app (zE.app L K rfl) ay Cm,by rw[f];exact t.ret,by rw[er]at m;simp[vw];omega⟩
 rw[aa bn];by_cases bf:(ab ns i).k=14
 .rw[ae bf];have⟨p,l,w,_⟩:=Jj u bf;have⟨n,r,o,J,_,a3⟩:=EH u (by omega);have⟨ap,ar⟩:=adJ r n J;have⟨j,a⟩:=x 0 (by omega);have⟨z,q⟩:=x 1 (by omega);rw[a.id]at l⊢;rw[q.id]at w⊢;have⟨b,K,L,t,bc⟩:=h.blk d (iA a.lt) a.len l;have⟨F,bj,a4,a5,bA⟩:=h.blk d (iA q.lt) q.len w;simp only[bf,o,uA p,na,a.id,q.id]at f;rw[o];have s:jw qj (⟨#[116,114,121,32]⟩:ByteArray) [sgF 30]:=lit [30,0];have c2:jw qj (⟨#[32,99,97,116,99,104,32]⟩:ByteArray) [sgF 12]:=lit [0,12,0];refine⟨sgF 30::(b++(sgF 12::(nmL (n::r)++F))),ay (ay (ay (ay ay))),?_,by rw[f];exact t.try_ a5 (a3 bf),by have:=(au o).2;rw[uA p,a.id,q.id]at m;simp only[wK]at m;simp[vw];omega⟩;have:=(((((s.app L K rfl).app c2).app ap ar rfl).app zE).app a4 bj rfl).tt (g:=oq);exact this.as
 rw[aa bf];by_cases bo:(ab ns i).k=15
 .rw[ae bo];have⟨p,l⟩:=zB u bo;have⟨j,a⟩:=x 0 (by omega);rw[a.id]at l⊢;have⟨b,c,t⟩:=a6 j a l;simp only[bo,mD p,lA,a.id]at f;have s:jw qj (⟨#[116,104,114,111,119,32]⟩:ByteArray) [sgF 28]:=lit [28,0];exact⟨sgF 28::b,ay,s.app c.rd c.pos rfl,by rw[f];exact t.throw,by have:=c.cs;rw[mD p,a.id]at m;simp only[wK]at m;simp[vw];omega⟩
 rw[aa bo];have cc:(ab ns i).k=16:=by omega
 rw[ae cc];have⟨p,l⟩:=BE u (by omega);have⟨j,a⟩:=x 0 (by omega);rw[a.id]at l⊢;have⟨b,c,_⟩:=a6 j a (by rw[l];decide);have⟨bF,av⟩:=c.ba (by rw[l];decide);rw[l]at av;simp only[cc,mD p,lA,a.id]at f;have s:jw qj (⟨#[100,101,102,101,114,32]⟩:ByteArray) [sgF 14]:=lit [14,0];exact⟨sgF 14::b,ay,s.app c.rd c.pos rfl,by rw[f];exact av.defer,by have:=c.cs;rw[mD p,a.id]at m;simp only[wK]at m;simp[vw];omega⟩
end
