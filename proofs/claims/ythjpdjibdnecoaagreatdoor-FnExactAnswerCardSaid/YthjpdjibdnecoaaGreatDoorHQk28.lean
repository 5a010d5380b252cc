import Derived.Deep.Strs
import Derived.OpenShut
import Derived.Lib.ItoaLen
import Derived.Test.YthjpdjibdnecoaaGreatDoorHQk25
import Derived.Test.YthjpdjibdnecoaaGreatDoorHQk08
import Derived.WalkSmall
set_option linter.all false
set_option maxRecDepth 100000
set_option maxHeartbeats 25600000
open Option renaming some->M,none->O
open Bool renaming true->Q,false->Z
open Go renaming World->T,Value->A0,ownsRow_succ->A4,Calls->A7,maxLen->B0,TypeId->B1
open Go.Value renaming ownBlock->U,int->V,slice->A3,int->A5,slice->A6,pointer->Bs
open Go.IntKind renaming i64->X
open Go.World renaming setCell->Y,news_of_block->A2
open Go.RowKit renaming Below->Ax,Hid->A9,intOf->B2
open Go.Proofs.Tryz renaming prog->A1
open Go.Obj renaming cells->A8
namespace Go.Proofs.YthjpdjibdnecoaaGreatDoor
open Go.RowKit
def abB:List Nd->Nat
 |[]=>0
 |N::l=>Ds N+abB l
open Go.ChangeShapes Go.WideShapes Go.ChangeAt Go.WideMaps Go.WideElems Go.Deep
structure xG (N:Nd):Prop where
 k: -9223372036854775808<=N.k/\N.k<=9223372036854775807
 f: -9223372036854775808<=N.f/\N.f<=9223372036854775807
 t: -9223372036854775808<=N.t/\N.t<=9223372036854775807
 l: -9223372036854775808<=N.l/\N.l<=9223372036854775807
 op: -9223372036854775808<=N.op/\N.op<=9223372036854775807
 n: -9223372036854775808<=N.n/\N.n<=9223372036854775807
 ks:∀z∈N.ks, -9223372036854775808<=z/\z<=9223372036854775807
end Go.Proofs.YthjpdjibdnecoaaGreatDoor
namespace Go.Proofs.YthjpdjibdnecoaaGreatDoor
open Go.RowKit Go.Maps Go.WideMaps
def bB(n:Int):ByteArray:=⟨(Lib.itoa n).toArray⟩
def jm:ByteArray:=⟨#[32]⟩
def Ag:ByteArray:=⟨#[10]⟩
def dI:List ByteArray->ByteArray
 |[]=>⟨#[]⟩
 |s::l=>(jm++s)++dI l
theorem uq(x:ByteArray):(⟨#[]⟩:ByteArray)++x=x:=ByteArray.empty_append
theorem pG(x:ByteArray):x++(⟨#[]⟩:ByteArray)=x:=ByteArray.append_empty
theorem ur(a b:List ByteArray):dI (a++b)=dI a++dI b:=by
 induction a with
 |nil=>exact(uq _).symm
 |cons d c e=>show(jm++d)++dI (c++b)=((jm++d)++dI c)++dI b;rw[e,jv (b:=dI c)]
theorem we(l:List ByteArray)(k:Nat)(s:ByteArray)(h:l[k]?=M s):dI (l.take (k+1))=dI (l.take k)++(jm++s):=by
 rw[fK,h,ur];show dI (l.take k)++((jm++s)++⟨#[]⟩)=_;rw[pG]
def lK:List ByteArray->Nat
 |[]=>0
 |s::l=>s.size+lK l
theorem wf(l:List ByteArray):(dI l).size=l.length+lK l:=by
 induction l with
 |nil=>rfl
 |cons a l b=>show((jm++a)++dI l).size=_;rw[cL,cL,b];show 1+a.size+_=(l.length+1)+(a.size+lK l);omega
theorem mK(l:List ByteArray)(k:Nat):(dI (l.take k)).size<=(dI l).size:=by
 have:=congrArg ByteArray.size (ur (l.take k) (l.drop k));rw[An,cL]at this;omega
def zq(N:Nd):ByteArray:=
 (((((((⟨#[]⟩:ByteArray)++(bB N.k++jm))++(bB N.f++jm))++(bB N.t++jm))++(bB N.l++jm))++(bB N.op++jm))++(bB N.n++jm))
def wg(s:ByteArray):ByteArray:=ic (EB s)
def lL(N:Nd):ByteArray:=
 (((zq N++((wg N.x++jm)++bB N.nm.length))++dI N.nm)++(jm++bB N.ks.length))++dI (N.ks.map bB)
def gy:List Nd->ByteArray
 |[]=>⟨#[]⟩
 |N::l=>(lL N++Ag)++gy l
theorem DI(a b:List Nd):gy (a++b)=gy a++gy b:=by
 induction a with
 |nil=>exact(uq _).symm
 |cons d c e=>show(lL d++Ag)++gy (c++b)=((lL d++Ag)++gy c)++gy b;rw[e,jv (b:=gy c)]
theorem B7(l:List Nd)(k:Nat)(N:Nd)(h:l[k]?=M N):gy (l.take (k+1))=gy (l.take k)++(lL N++Ag):=by
 rw[fK,h,DI];show gy (l.take k)++((lL N++Ag)++⟨#[]⟩)=_;rw[pG]
theorem rI(l:List Nd)(k:Nat):(gy (l.take k)).size<=(gy l).size:=by
 have:=congrArg ByteArray.size (DI (l.take k) (l.drop k));rw[An,cL]at this;omega
def sL(N:Nd):List ByteArray:=[bB N.k,bB N.f,bB N.t,bB N.l,bB N.op,bB N.n,wg N.x,bB N.nm.length]++(N.nm++(bB N.ks.length::N.ks.map bB))
theorem DJ(x:ByteArray)(l:List ByteArray):(⟨(Lib.join ((x::l).map (·.data.toList)) [32]).toArray⟩:ByteArray)=x++dI l:=by
 rw[wK,Lib.join_cons];have d:∀l:List ByteArray,Lib.joinTail [32] (l.map (·.data.toList))=(dI l).data.toList:=by
  intro l
  induction l with
  |nil=>rfl
  |cons a l c=>
   have b:Lib.joinTail [32] ((a::l).map (·.data.toList))=([32]++a.data.toList)++Lib.joinTail [32] (l.map (·.data.toList)):=by simp[Lib.joinTail]
   rw[b,c];show _=(((jm++a)++dI l).data).toList;rw[me,me];simp[jm]
 rw[d];apply re;rw[me];simp
theorem J9(N:Nd):(⟨(Lib.join ((sL N).map (·.data.toList)) [32]).toArray⟩:ByteArray)=lL N:=by
 have a:sL N=bB N.k::([bB N.f,bB N.t,bB N.l,bB N.op,bB N.n,wg N.x,bB N.nm.length]++(N.nm++(bB N.ks.length::N.ks.map bB))):=rfl;rw[a,DJ,ur,ur];unfold lL zq;simp only[dI,uq,pG,jv]
theorem fe(n:Int)(a: -9223372036854775808<=n)(b:n<=9223372036854775807):(bB n).size<=21:=by
 show(Lib.itoa n).toArray.size<=21;rw[gi];exact Lib.itoa_length_le n a b
theorem Ka(x:List Int):(ic x).size=x.length:=by
 have d:∀(x:List Int)(a:ByteArray),(x.foldl (fun b n=>b.push (UInt8.ofNat n.toNat)) a).size=a.size+x.length:=by
  intro x
  induction x with
  |nil=>intro a;rfl
  |cons e b c=>intro a;show(b.foldl _ (a.push _)).size=_;rw[c];simp;omega
 have:=d x ByteArray.empty;unfold ic;rw[this];simp
theorem DK(s:ByteArray):(wg s).size<=2+4*s.size:=by
 unfold wg;rw[Ka];unfold EB;have:=EA s s.size (ae _);simp;omega
theorem ag7(l:List ByteArray):lK l=abc l:=by
 induction l with
 |nil=>rfl
 |cons a l b=>show a.size+lK l=a.size+abc l;rw[b]
theorem ad3(l:List Int)(h:∀z∈l, -9223372036854775808<=z/\z<=9223372036854775807):lK (l.map bB)<=21*l.length:=by
 induction l with
 |nil=>exact ae _
 |cons a l c=>
  have d:=c fun z b=>h z (dC _ b);have e:=fe a (h a (bK)).1 (h a (bK)).2;show(bB a).size+lK (l.map bB)<=21*(l.length+1);omega
theorem abC{N:Nd}(h:xG N)(u:N.nm.length<=1048576)(s:N.ks.length<=1048576):(lL N).size<=220+22*Ds N:=by
 have b:=fe _ h.k.1 h.k.2;have c:=fe _ h.f.1 h.f.2;have d:=fe _ h.t.1 h.t.2;have e:=fe _ h.l.1 h.l.2;have g:=fe _ h.op.1 h.op.2;have i:=fe _ h.n.1 h.n.2;have j:=fe (N.nm.length:Int) (by omega) (by omega);have m:=fe (N.ks.length:Int) (by omega) (by omega);have o:=DK N.x;have p:=wf N.nm;have a:=wf (N.ks.map bB);have q:=ad3 N.ks h.ks;have r:=ag7 N.nm;have v:jm.size=1:=rfl;have s0:(⟨#[]⟩:ByteArray).size=0:=rfl;rw[dc]at a;unfold lL zq Ds acD;simp only[cL];omega
theorem Kb(l:List Nd)(h:∀N∈l,xG N)(a:∀N∈l,N.nm.length<=1048576/\N.ks.length<=1048576):(gy l).size<=221*l.length+22*abB l:=by
 induction l with
 |nil=>exact ae _
 |cons N l d=>
  have e:=d (fun c b=>h c (dC _ b)) fun c b=>a c (dC _ b);have f:=abC (h N (bK)) (a N (bK)).1 (a N (bK)).2;have g:Ag.size=1:=rfl;show((lL N++Ag)++gy l).size<=221*(l.length+1)+22*(Ds N+abB l);rw[cL,cL];omega
theorem Fc.pos{tk:Nat->Tk}{n k j:Nat}{ns:List ByteArray}(h:Fc tk n k ns j):k<=j/\j<n:=by
 induction h with
 |stop _ h=>exact⟨ae _,h⟩
 |go _ _ _ _ a=>omega
theorem Prm.pos{tk:Nat->Tk}{n k j:Nat}{ns:List ByteArray}{r:Bool}(h:Prm tk n k ns r j):k+1<=j/\j<n:=by
 induction h with
 |close _ h=>omega
 |rest _ _ h=>omega
 |last _ _ h=>omega
 |go _ _ _ _ a=>omega
def eK:wF->Nat
 | .more _ _ _=>0
 | .post _ _=>0
 | .moreE=>0
 | .moreB=>0
 | .stats=>0
 | .entries=>0
 |_=>1
def slk:wF->Nat
 | .more _ _ _=>0
 | .post _ _=>0
 | .moreE=>0
 | .moreB=>0
 | .stats=>0
 | .entries=>0
 | .entry=>1
 | .stat=>1
 | .branch=>1
 |_=>2
def bas:wF->Nat
 | .more _ _ x=>x.sz
 | .post _ x=>x.sz
 |_=>0
theorem ag8(N:Nd)(ks:Fo)(s:Tk)(e:Int):(jn N ks s e).sz<=(one N ks).sz+1:=by
 unfold jn;split
 ·rw[aA];omega
 ·omega
theorem P.pos{tk:Nat->Tk}{n i j:Nat}{t:wF}{R:Fo}(h:P tk n t i R j):i+eK t<=j/\j<n/\R.sz+slk t+3*i<=bas t+3*j:=by
 induction h
 case bopen i k j N ks R h1 h2 h3 h4 h5 h6 ih1 ih2=>
  have:=ag8 N ks (tk i) (tk k).t;simp only[eK,slk,bas,aA,Fo.sz_app,Fo.sz]at *;omega
 case body h1 h2 h3 h4 ih=>
  have:=h3.pos;simp only[eK,slk,bas,aA,Fo.sz_app,Fo.sz]at *;omega
 case tlet0 h1 h2 h3 h4 h5=>have:=h4.pos;simp only[eK,slk,bas,aA,Fo.sz_app,Fo.sz]at *;omega
 case tlet h1 h2 h3 h4 h5 h6 ih=>have:=h4.pos;simp only[eK,slk,bas,aA,Fo.sz_app,Fo.sz]at *;omega
 case tfor h1 h2 h3 h4 h5 h6 h7 ih1 ih2=>have:=h4.pos;simp only[eK,slk,bas,aA,Fo.sz_app,Fo.sz]at *;omega
 case teach h1 h2 h3 h4 h5 h6 h7 h8 h9 ih1 ih2=>have:=h4.pos;simp only[eK,slk,bas,aA,Fo.sz_app,Fo.sz]at *;omega
 case ttry h1 h2 h3 h4 h5 h6 h7 h8 ih1 ih2=>have:=h7.pos;simp only[eK,slk,bas,aA,Fo.sz_app,Fo.sz]at *;omega
 all_goals
  simp only[eK,slk,bas,aA,Fo.sz_app,Fo.sz]at *;omega
inductive D (tk:Nat->Tk) (n:Nat):Nat->List Int->Nat->Nat->Prop where
 |nil {i:Nat}:D tk n 0 [] i i
 |tok {m:Nat}{s:Int}{r:List Int}{i j:Nat}:s<100->(tk i).k=s->i<n->D tk n m r (i+1) j->D tk n (m+1) (s::r) i j
 |exp {m:Nat}{s:Int}{r:List Int}{i j:Nat}:100<=s->i<n->(xE s (tk i).k).2=true->D tk n m ((xE s (tk i).k).1++r) i j->D tk n (m+1) (s::r) i j
section
variable {tk : Nat → Tk} {n : Nat}
theorem D.split{m:Nat}{st:List Int}{i j:Nat}(h:D tk n m st i j):∀(a b:List Int),st=a++b->∃d e k,D tk n d a i k/\D tk n e b k j/\d+e=m:=by
 induction h with
 |nil=>
  intro a b c;obtain⟨rfl,rfl⟩:a=[]/\b=[]:=by simpa using c.symm
  exact⟨0,0,_,.nil,.nil,rfl⟩
 |@tok m o t i j f g l r s=>
  intro a b c;cases a with
  |nil=>
   rw[de]at c;exact⟨0,m+1,i,.nil,by rw[<-c];exact .tok f g l r,by omega⟩
  |cons u a=>
   obtain⟨rfl,rfl⟩:o=u/\t=a++b:=by simpa using c
   obtain⟨d,e,k,p,q,v⟩:=s a b rfl;exact⟨d+1,e,k,.tok f g l p,q,by omega⟩
 |@exp m o t i j f g l r s=>
  intro a b c;cases a with
  |nil=>
   rw[de]at c;exact⟨0,m+1,i,.nil,by rw[<-c];exact .exp f g l r,by omega⟩
  |cons u a=>
   obtain⟨rfl,rfl⟩:o=u/\t=a++b:=by simpa using c
   obtain⟨d,e,k,p,q,v⟩:=s ((xE o (tk i).k).1++a) b (by rw[dh]);exact⟨d+1,e,k,.exp f g l p,q,by omega⟩
theorem D.cut{m:Nat}{s:Int}{r:List Int}{i j:Nat}(h:D tk n m (s::r) i j):∃a b k,D tk n a [s] i k/\D tk n b r k j/\a+b=m:=h.split [s] r rfl
theorem D.nils{m:Nat}{i j:Nat}(h:D tk n m [] i j):i=j:=by cases h;rfl
theorem D.toks{m:Nat}{s:Int}{r:List Int}{i j:Nat}(h:D tk n m (s::r) i j)(f:s<100):(tk i).k=s/\i<n/\∃d,D tk n d r (i+1) j/\d<m:=by
 cases h with
 |tok e a b c=>exact⟨a,b,_,c,by omega⟩
 |exp e a b c=>omega
theorem D.exps{m:Nat}{s:Int}{r:List Int}{i j:Nat}(h:D tk n m (s::r) i j)(f:100<=s):i<n/\(xE s (tk i).k).2=Q/\∃d,D tk n d ((xE s (tk i).k).1++r) i j/\d<m:=by
 cases h with
 |tok e a b c=>omega
 |exp e a b c=>exact⟨a,b,_,c,by omega⟩
theorem D.row{m:Nat}{s:Int}{i j:Nat}(h:D tk n m [s] i j)(g:100<=s){x:List Int×Bool}(e:xE s (tk i).k=x):i<n/\x.2=Q/\∃a,D tk n a x.1 i j/\a<m:=by
 obtain⟨d,c,a,b,f⟩:=h.exps g;rw[e]at c b;rw[da]at b;exact⟨d,c,a,b,f⟩
structure Ex (tk:Nat->Tk) (n m:Nat):Prop where
 unit:∀{i j:Nat},D tk n m [120] i j->j<n->∃N ks,P tk n .unit i (one N ks) j
 expr:∀{i j:Nat},D tk n m [119] i j->j<n->∃N ks,P tk n (.expr 0) i (one N ks) j
 exprs:∀{i j:Nat},D tk n m [124] i j->j<n->∃R,P tk n .exprs i R j
 moreE:∀{i j:Nat},D tk n m [125] i j->j<n->∃R,P tk n .moreE i R j
 block:∀{i j:Nat},D tk n m [132] i j->j<n->∃N ks,P tk n .block i (one N ks) j
 stats:∀{i j:Nat},D tk n m [100] i j->j<n->(tk j).k=43\/(tk j).k=6->∃R,P tk n .stats i R j
 body:∀{i j:Nat}(s:Tk),D tk n m [133] i j->j<n->∃N ks,P tk n (.body s) i (one N ks) j
 entries:∀{i j:Nat},D tk n m [129] i j->j<n->(tk j).k=43->∃R,P tk n .entries i R j
 entry:∀{i j:Nat},D tk n m [131] i j->j<n->∃N ks,P tk n .entry i (one N ks) j
 els:∀{i j k k1:Nat}{x b:Fo},(tk i).k=20\/(tk i).k=15->i<n->P tk n (.expr 0) (i+1) x k->P tk n .block k b k1->D tk n m [105] k1 j->j<n->∃N ks,P tk n .branch i (one N ks) j
theorem ag9(k:Int):1<=Gn k:=by
 unfold Gn
 repeat' split
 all_goals omega
theorem D.lt{m:Nat}{s:Int}{r:List Int}{i j:Nat}(h:D tk n m (s::r) i j):i<n:=by cases h<;>assumption
theorem qC{t:Int}(h:dG t=Q):t≠6/\t≠41/\t≠43/\t≠5/\t≠44/\t≠48/\t≠46:=by
 refine⟨?_,?_,?_,?_,?_,?_,?_⟩;all_goals
  rintro rfl;revert h;decide
theorem alc(F:∀i,(tk i).k<100):∀(m:Nat),(∀a,a<m->Ex tk n a)->∀{k j:Nat},D tk n m [121] k j->j<n->∀(p:Int)(s:Tk)(N:Nd)(ks:Fo),∃q ak d a,P tk n (.more p s (one N ks)) k (one q ak) d/\D tk n a [121] d j/\a<=m/\(ia (tk d).k=Q->Gn (tk d).k<p):=by
 intro m
 induction m using Nat.strongRecOn with
 |_ m o=>
  intro f k j e l p s N ks;by_cases c:ia (tk k).k=Q/\p<=Gn (tk k).k
  ·obtain⟨H,_,a7,w,a0⟩:=e.row (by omega) (x:=([(tk k).k,119],Q)) (by simp[xE,age,c.1]);obtain⟨_,_,a8,y,a1⟩:=w.toks (F k);obtain⟨z,G,a9,A,a2⟩:=y.row (by omega) (x:=([120,121],dG (tk (k+1)).k)) (by simp[xE,agd]);obtain⟨ao,ap,a6,B,h,a3⟩:=A.cut;obtain⟨v,an,L⟩:=(f ao (by omega)).unit B h.lt;obtain⟨r,al,ad,ar,I,C,a4,_⟩:=o ap (by omega) (fun a b=>f a (by omega)) h l (rpw (tk k).k) (tk (k+1)) v an;obtain⟨u,am,af,av,J,E,a5,K⟩:=o ar (by omega) (fun a b=>f a (by omega)) C l p s (qx (tk k).k s (tk (ad-1)).t) ((one N ks).app (one r al));exact⟨u,am,af,av,.mgo H c.1 c.2 (.ex (qC G).1 z L I) J,E,by omega,K⟩
  ·exact⟨N,ks,k,m,.mstop e.lt (fun b=>by rcases Int.lt_or_le (Gn (tk k).k) p with g|g;exact g;exact absurd ⟨b,g⟩ c),e,ae _,fun b=>by rcases Int.lt_or_le (Gn (tk k).k) p with g|g;exact g;exact absurd ⟨b,g⟩ c⟩
theorem aha(p:∀i,(tk i).k<100){m:Nat}(e:∀a,a<m->Ex tk n a){i j:Nat}(r:D tk n m [119] i j)(u:j<n):∃N ks,P tk n (.expr 0) i (one N ks) j:=by
 obtain⟨t,q,F,g,C⟩:=r.row (by omega) (x:=([120,121],dG (tk i).k)) (by simp[xE,agd]);obtain⟨A,B,k,h,d,E⟩:=g.cut;obtain⟨N,ks,y⟩:=(e A (by omega)).unit h d.lt;obtain⟨f,z,b,a,v,l,_,w⟩:=alc p B (fun a c=>e a (by omega)) d u 0 (tk i) N ks;have s:ia (tk b).k=Z:=by
  cases c:ia (tk b).k with
  |false=>rfl
  |true=>have:=w c;have:=ag9 (tk b).k;omega
 obtain⟨_,_,G,o,_⟩:=l.row (by omega) (x:=([],Q)) (by simp[xE,age,s]);obtain rfl:=o.nils;exact⟨f,z,.ex (qC q).1 t y v⟩
def fam(S:Int):Int:=if S<=112 then 1 else if S<=115 then 2 else if S<=118 then 3 else 4
theorem ahb{S t:Int}(hS:S=110\/S=111\/S=112\/S=114\/S=115\/S=117\/S=118\/S=122)(h:J0 t=Q):∃a c,xE S t=(pz t a c,Q)/\(a=110\/a=114\/a=117\/a=122)/\(c=111\/c=115\/c=118\/c=122)/\fam a=fam S/\fam c=fam S:=by
 have b:t=48\/t=44\/t=40:=aC h;rcases hS with rfl|rfl|rfl|rfl|rfl|rfl|rfl|rfl
 ·exact⟨110,111,by rcases b with rfl|rfl|rfl<;>decide,by omega,by omega,rfl,rfl⟩
 ·exact⟨110,111,by rcases b with rfl|rfl|rfl<;>decide,by omega,by omega,rfl,rfl⟩
 ·exact⟨110,111,by rcases b with rfl|rfl|rfl<;>decide,by omega,by omega,rfl,rfl⟩
 ·exact⟨114,115,by rcases b with rfl|rfl|rfl<;>decide,by omega,by omega,rfl,rfl⟩
 ·exact⟨114,115,by rcases b with rfl|rfl|rfl<;>decide,by omega,by omega,rfl,rfl⟩
 ·exact⟨117,118,by rcases b with rfl|rfl|rfl<;>decide,by omega,by omega,rfl,rfl⟩
 ·exact⟨117,118,by rcases b with rfl|rfl|rfl<;>decide,by omega,by omega,rfl,rfl⟩
 ·exact⟨122,122,by rcases b with rfl|rfl|rfl<;>decide,by omega,by omega,rfl,rfl⟩
theorem ald:∀(m:Nat),(∀a,a<m->Ex tk n a)->∀{S:Int},(S=110\/S=111\/S=112\/S=114\/S=115\/S=117\/S=118\/S=122)->∀{k j:Nat},D tk n m [S] k j->j<n->∀(s:Tk)(N:Nd)(ks:Fo),∃av a9 ad a b,P tk n (.post s (one N ks)) k (one av a9) ad/\D tk n a [b] ad j/\a<=m/\J0 (tk ad).k=Z/\(b=110\/b=111\/b=112\/b=114\/b=115\/b=117\/b=118\/b=122)/\fam b=fam S:=by
 intro m
 induction m using Nat.strongRecOn with
 |_ m F=>
  intro r S hS k j K E s N ks;cases hf:J0 (tk k).k with
  |false=>exact⟨N,ks,k,m,S,.pstop K.lt hf,K,ae _,hf,hS,rfl⟩
  |true=>
   obtain⟨v,z,a8,bh,bk,al,am⟩:=ahb hS hf;obtain⟨a3,_,br,p,bl⟩:=K.row (by omega) a8;have a7:(tk k).k=48\/(tk k).k=44\/(tk k).k=40:=aC hf;rcases a7 with e|e|e
   ·rw[show(pz (tk k).k v z,Q).1=[48,1,v] by rw[e];rfl]at p;obtain⟨_,_,ar,w,an⟩:=p.toks (by omega);obtain⟨a2,a4,G,q,ao⟩:=w.toks (by omega);obtain⟨c,o,l,ak,d,p2,f,bn,g,h,i⟩:=F G (by omega) (fun a I=>r a (by omega)) (by omega) q E s (nd 33 s (tk (k+1)).t 0 0 (tk (k+1)).x []) (one N ks);exact⟨c,o,l,ak,d,.pdot e a2 a4 p2,f,by omega,g,h,by rw[i,al]⟩
   ·rw[show(pz (tk k).k v z,Q).1=[44,119,45,v] by rw[e];rfl]at p;obtain⟨_,_,ar,w,an⟩:=p.toks (by omega);obtain⟨G,ak,af,q,B,ao⟩:=w.cut;obtain⟨a0,bb,L⟩:=(r G (by omega)).expr q B.lt;obtain⟨A,y,H,C,a6⟩:=B.toks (by omega);obtain⟨c,o,l,u,d,p2,f,ap,g,h,i⟩:=F H (by omega) (fun a I=>r a (by omega)) (by omega) C E s (fp 32 s (tk af).t) ((one N ks).app (one a0 bb));exact⟨c,o,l,u,d,.psq e a3 L A y p2,f,by omega,g,h,by rw[i,al]⟩
   ·rw[show(pz (tk k).k v z,Q).1=[40,123,41,z] by rw[e];rfl]at p;obtain⟨_,_,ar,w,an⟩:=p.toks (by omega);obtain⟨G,ak,af,q,B,ao⟩:=w.cut;obtain⟨A,y,H,C,a6⟩:=B.toks (by omega);cases hb:dG (tk (k+1)).k with
    |false=>
     obtain⟨_,_,u,J,_⟩:=q.row (by omega) (x:=([],Q)) (by simp[xE,agh,hb]);obtain rfl:=J.nils;obtain⟨c,o,l,u,d,p2,f,ap,g,h,i⟩:=F H (by omega) (fun a I=>r a (by omega)) (by omega) C E s (fp 34 s (tk (k+1)).t) (one N ks);exact⟨c,o,l,u,d,.pcall0 e A y p2,f,by omega,g,h,by rw[i,am]⟩
    |true=>
     obtain⟨a5,_,u,J,ap⟩:=q.row (by omega) (x:=([124],Q)) (by simp[xE,agh,hb]);obtain⟨a1,L⟩:=(r u (by omega)).exprs J y;obtain⟨c,o,l,bd,d,p2,f,bo,g,h,i⟩:=F H (by omega) (fun a I=>r a (by omega)) (by omega) C E s (fp 34 s (tk af).t) ((one N ks).app a1);exact⟨c,o,l,bd,d,.pcall e a5 (qC hb).2.1 L A y p2,f,by omega,g,h,by rw[i,am]⟩
theorem aae{t a c:Int}(h:J0 t=Z):pz t a c=[]:=by
 have h:=iw h;unfold pz;rw[aa (by omega),aa (by omega),aa (by omega)]
theorem D.join{o c:Nat}{a b:List Int}{i k j:Nat}(h:D tk n o a i k)(l:D tk n c b k j):D tk n (o+c) (a++b) i j:=by
 induction h with
 |nil=>rw[pu];exact l
 |@tok d q r i j e f g p m=>rw[show d+1+c=(d+c)+1 by omega];exact .tok e f g (m l)
 |@exp d q r i j e f g p m=>rw[show d+1+c=(d+c)+1 by omega];exact .exp (r:=r++b) e f g (by rw[<-dh];exact m l)
theorem ad4(N:Nd)(ks:Fo)(s:Tk)(e:Int):∃a b,jn N ks s e=one a b:=by unfold jn;split<;>exact⟨_,_,rfl⟩
theorem H7{m:Nat}(p:∀b,b<m->Ex tk n b){S:Int}(hS:S=110\/S=111\/S=112\/S=114\/S=115\/S=117\/S=118\/S=122){i j:Nat}(w:j<n)(hd:D tk n m [1,S] i j\/D tk n m [40,119,41,S] i j):∃A al r b a,P tk n .base i (one A al) r/\D tk n b [a] r j/\b<m/\J0 (tk r).k=Z/\(a=110\/a=111\/a=112\/a=114\/a=115\/a=117\/a=118\/a=122)/\fam a=fam S:=by
 rcases hd with hd|hd
 ·obtain⟨f,q,z,o,K⟩:=hd.toks (by omega);obtain⟨c,u,s,v,d,p2,e,L,g,h,l⟩:=ald z (fun b G=>p b (by omega)) hS o w (tk i) (nd 26 (tk i) (tk i).t 0 0 (tk i).x []) .nil;exact⟨c,u,s,v,d,.bname f q p2,e,by omega,g,h,l⟩
 ·obtain⟨f,q,z,o,K⟩:=hd.toks (by omega);obtain⟨v,av,af,H,I,L⟩:=o.cut;obtain⟨E,y,an,J,ap⟩:=I.toks (by omega);obtain⟨C,am,ad⟩:=(p v (by omega)).expr H y;obtain⟨B,ak,F⟩:=ad4 C am (tk i) (tk af).t;obtain⟨c,u,s,ao,d,p2,e,ar,g,h,l⟩:=ald an (fun b G=>p b (by omega)) hS J w (tk i) B ak;rw[<-F]at p2;exact⟨c,u,s,ao,d,.bopen f q ad E y p2,e,by omega,g,h,l⟩
theorem D.names:∀(m:Nat){k j:Nat},D tk n m [104] k j->j<n->∃ns,Fc tk n k ns j/\(tk j).k≠46:=by
 intro m
 induction m using Nat.strongRecOn with
 |_ m q=>
  intro k j c d;by_cases a:(tk k).k=46
  ·obtain⟨i,_,r,b,o⟩:=c.row (by omega) (x:=([46,1,104],Q)) (by simp[xE,af8,a]);obtain⟨_,_,v,f,t⟩:=b.toks (by omega);obtain⟨e,l,s,g,u⟩:=f.toks (by omega);obtain⟨ns,p,h⟩:=q s (by omega) g d;exact⟨_,.go a l e p,h⟩
  ·obtain⟨i,_,r,b,o⟩:=c.row (by omega) (x:=([],Q)) (by simp[xE,af8,a]);obtain rfl:=b.nils;exact⟨[],.stop a d,a⟩
theorem params:∀(m:Nat){S:Int},S=126\/S=128->∀{k j:Nat},D tk n m [S,41] k j->j<n->∃ns r,Prm tk n k ns r j:=by
 intro m
 induction m using Nat.strongRecOn with
 |_ m B=>
  intro S hS k j v f;obtain⟨L,E,C,c,l,J⟩:=v.cut;obtain⟨g,I,ad,u,_⟩:=l.toks (by omega);obtain rfl:=u.nils;by_cases b:(tk k).k=1
  ·obtain⟨p,_,s,a,q⟩:=c.row (by omega) (x:=([1,127],Q)) (by rcases hS with rfl|rfl<;>simp[xE,acz,acA,b]);obtain⟨_,_,F,d,y⟩:=a.toks (by omega);by_cases i:(tk (k+1)).k=46
   ·obtain⟨w,_,G,h,z⟩:=d.row (by omega) (x:=([46,128],Q)) (by simp[xE,agj,i]);obtain⟨_,_,H,o,K⟩:=h.toks (by omega);obtain⟨ns,r,A⟩:=B (H+E) (by omega) (.inr rfl) (k:=k+2) (j:=C+1) (D.join o l) f;exact⟨_,_,.go b i o.lt A⟩
   ·obtain⟨w,_,G,h,z⟩:=d.row (by omega) (x:=([],Q)) (by simp[xE,agj,i]);obtain rfl:=h.nils;exact⟨_,_,.last b g f⟩
  ·by_cases e:(tk k).k=49
   ·obtain⟨p,_,s,a,q⟩:=c.row (by omega) (x:=([49],Q)) (by rcases hS with rfl|rfl<;>simp[xE,acz,acA,e]);obtain⟨_,_,F,d,y⟩:=a.toks (by omega);obtain rfl:=d.nils;exact⟨_,_,.rest e g f⟩
   ·rcases hS with rfl|rfl
    ·obtain⟨p,_,s,a,q⟩:=c.row (by omega) (x:=([],Q)) (by simp[xE,acz,b,e]);obtain rfl:=a.nils;exact⟨_,_,.close g f⟩
    ·obtain⟨_,t,_⟩:=c.row (by omega) (x:=([],Z)) (by simp[xE,acA,b,e]);cases t
theorem ad5{m:Nat}(e:∀h,h<m->Ex tk n h){i j:Nat}(d:D tk n m [125] i j)(g:j<n):∃R,P tk n .moreE i R j:=by
 by_cases a:(tk i).k=46
 ·obtain⟨f,_,r,b,p⟩:=d.row (by omega) (x:=([46,119,125],Q)) (by simp[xE,agi,a]);obtain⟨_,_,A,k,v⟩:=b.toks (by omega);obtain⟨s,t,y,l,c,w⟩:=k.cut;obtain⟨u,z,q⟩:=(e s (by omega)).expr l c.lt;obtain⟨R,o⟩:=(e t (by omega)).moreE c g;exact⟨_,.ego a f q o⟩
 ·obtain⟨f,_,r,b,p⟩:=d.row (by omega) (x:=([],Q)) (by simp[xE,agi,a]);obtain rfl:=b.nils;exact⟨_,.estop a g⟩
theorem ad6{m:Nat}(b:∀c,c<m->Ex tk n c){i j:Nat}(g:D tk n m [124] i j)(h:j<n):∃R,P tk n .exprs i R j:=by
 obtain⟨q,_,v,d,r⟩:=g.row (by omega) (x:=([119,125],dG (tk i).k)) (by simp[xE,aiC]);obtain⟨l,o,t,e,a,s⟩:=d.cut;obtain⟨p,u,k⟩:=(b l (by omega)).expr e a.lt;obtain⟨R,f⟩:=(b o (by omega)).moreE a h;exact⟨_,.es k f⟩
theorem H8{m:Nat}(o:∀b,b<m->Ex tk n b){i j:Nat}(l:D tk n m [132] i j)(q:j<n):∃N ks,P tk n .block i (one N ks) j:=by
 obtain⟨p,k,z,c,u⟩:=l.row (by omega) (x:=([42,100,43],decide ((tk i).k=42))) (by simp[xE,acC]);obtain⟨_,_,A,d,v⟩:=c.toks (by omega);obtain⟨s,B,y,e,f,w⟩:=d.cut;obtain⟨a,r,C,g,_⟩:=f.toks (by omega);obtain rfl:=g.nils;obtain⟨t,h⟩:=(o s (by omega)).stats e r (.inl a);exact⟨_,_,.block (aC k) p h a q⟩
theorem ahc{m:Nat}(k:∀b,b<m->Ex tk n b){i j:Nat}(s:Tk)(h:D tk n m [133] i j)(o:j<n):∃N ks,P tk n (.body s) i (one N ks) j:=by
 obtain⟨l,g,y,c,t⟩:=h.row (by omega) (x:=([40,126,41,132],decide ((tk i).k=40))) (by simp[xE,agm]);obtain⟨_,_,z,d,u⟩:=c.toks (by omega);obtain⟨q,r,w,e,a,v⟩:=d.split [126,41] [132] rfl;obtain⟨N,ks,f⟩:=(k r (by omega)).block a o;obtain⟨A,B,p⟩:=params q (.inl rfl) e a.lt;exact⟨_,_,.body (aC g) l p f⟩
theorem ahd(q:∀i,(tk i).k<100){m:Nat}(l:∀f,f<m->Ex tk n f){i j:Nat}(J:D tk n m [120] i j)(b:j<n):∃N ks,P tk n .unit i (one N ks) j:=by
 obtain⟨o,c,E,a,af⟩:=J.row (by omega) (x:=GH (tk i).k) (by simp[xE,aky]);unfold GH at c a;split at a
 ·rename_i h;obtain⟨_,_,e,d,p⟩:=a.toks (q i);obtain⟨N,ks,v⟩:=(l e (by omega)).unit d b;exact⟨_,_,.upre h o v⟩
 rename_i C;rw[aa C]at c;split at a
 ·rename_i h;obtain⟨N,ks,k,e,S,p2,r,p,s,t,u⟩:=H7 (m:=E) (S:=122) (fun f h=>l f (by omega)) (by omega) b (.inl (by rw[h]at a;exact a));obtain rfl:S=122:=by rcases t with rfl|rfl|rfl|rfl|rfl|rfl|rfl|rfl<;>first|rfl|(revert u;decide)
  obtain⟨_,_,F,g,_⟩:=r.row (by omega) (x:=([],Q)) (by simp[xE,agf,aae s]);obtain rfl:=g.nils;exact⟨N,ks,.ubas (.inl h) o p2⟩
 rename_i y;rw[aa y]at c;split at a
 ·rename_i h;obtain⟨N,ks,k,e,S,p2,r,p,s,t,u⟩:=H7 (m:=E) (S:=122) (fun f h=>l f (by omega)) (by omega) b (.inr (by rw[h]at a;exact a));obtain rfl:S=122:=by rcases t with rfl|rfl|rfl|rfl|rfl|rfl|rfl|rfl<;>first|rfl|(revert u;decide)
  obtain⟨_,_,F,g,_⟩:=r.row (by omega) (x:=([],Q)) (by simp[xE,agf,aae s]);obtain rfl:=g.nils;exact⟨N,ks,.ubas (.inr h) o p2⟩
 rename_i z;rw[aa z]at c;split at a
 ·rename_i h;obtain⟨_,_,e,d,p⟩:=a.toks (q i);obtain⟨L,al,k,G,H,ak⟩:=d.cut;obtain⟨w,K,F,g,_⟩:=H.toks (by omega);obtain rfl:=g.nils;obtain⟨ad,I⟩:=(l L (by omega)).entries G K w;exact⟨_,_,.utab h o I w b⟩
 rename_i A;rw[aa A]at c;split at a
 ·rename_i h;obtain⟨_,_,e,d,p⟩:=a.toks (q i);obtain⟨N,ks,v⟩:=(l e (by omega)).body (tk i) d b;exact⟨N,ks,.ufn h o v⟩
 rename_i B;rw[aa B]at c;obtain⟨_,_,e,d,p⟩:=a.toks (q i);obtain rfl:=d.nils;simp only[dG,C,xh,decide_eq_true_eq]at c;rcases c with h|h|h|h|h|h|h|h|h|h|h
 ·exact absurd h y
 ·exact⟨_,_,.uint h b⟩
 ·exact⟨_,_,.uflt h b⟩
 ·exact⟨_,_,.ustr h b⟩
 ·exact⟨_,_,.unil h b⟩
 ·exact⟨_,_,.utru h b⟩
 ·exact⟨_,_,.ufls h b⟩
 ·exact⟨_,_,.urst h b⟩
 ·exact absurd h B
 ·exact absurd h z
 ·exact absurd h A
theorem ad7{m:Nat}(f:∀r,r<m->Ex tk n r){i j:Nat}(l:D tk n m [131] i j)(o:j<n):∃N ks,P tk n .entry i (one N ks) j:=by
 by_cases d:(tk i).k=48
 ·obtain⟨g,_,p,a,q⟩:=l.row (by omega) (x:=([48,1,47,119],Q)) (by simp[xE,acB,d]);obtain⟨_,_,I,h,F⟩:=a.toks (by omega);obtain⟨u,_,s,k,G⟩:=h.toks (by omega);obtain⟨v,C,t,c,L⟩:=k.toks (by omega);obtain⟨N,ks,b⟩:=(f t (by omega)).expr c o;exact⟨_,_,.named d u v C b⟩
 by_cases e:(tk i).k=44
 ·obtain⟨g,_,p,a,q⟩:=l.row (by omega) (x:=([44,119,45,47,119],Q)) (by simp[xE,acB,e]);obtain⟨_,_,I,h,F⟩:=a.toks (by omega);obtain⟨s,t,ak,k,c,G⟩:=h.cut;obtain⟨N,ks,b⟩:=(f s (by omega)).expr k c.lt;obtain⟨w,_,am,z,ad⟩:=c.toks (by omega);obtain⟨y,E,J,A,af⟩:=z.toks (by omega);obtain⟨K,al,H⟩:=(f J (by omega)).expr A o;exact⟨_,_,.pair e g b w y E H⟩
 ·obtain⟨g,B,p,a,q⟩:=l.row (by omega) (x:=([119],dG (tk i).k)) (by simp[xE,acB,d,e]);obtain⟨N,ks,b⟩:=(f p (by omega)).expr a o;exact⟨_,_,.item d e (qC B).1 g b⟩
theorem Kc{m:Nat}(q:∀s,s<m->Ex tk n s){i j:Nat}(p:D tk n m [129] i j)(h:j<n)(f:(tk j).k=43):∃R,P tk n .entries i R j:=by
 by_cases hb:dG (tk i).k=Q\/(tk i).k=48\/(tk i).k=44
 ·obtain⟨g,_,z,b,w⟩:=p.row (by omega) (x:=([131,130],Q)) (by rcases hb with hb|hb|hb<;>simp[xE,agk,hb]);have o:(tk i).k≠43:=by rcases hb with hb|hb|hb;exact(qC hb).2.2.1;omega;omega
  obtain⟨A,I,k,t,d,F⟩:=b.cut;obtain⟨E,H,r⟩:=(q A (by omega)).entry t d.lt;by_cases c:(tk k).k=46
  ·obtain⟨l,_,B,e,y⟩:=d.row (by omega) (x:=([46,129],Q)) (by simp[xE,agl,c]);obtain⟨_,_,C,u,G⟩:=e.toks (by omega);obtain⟨R,v⟩:=(q C (by omega)).entries u h f;exact⟨_,.ncom o g r c l v⟩
  ·obtain⟨l,_,B,e,y⟩:=d.row (by omega) (x:=([],Q)) (by simp[xE,agl,c]);obtain rfl:=e.nils;exact⟨_,.nlast o g r c l (.nstop f h)⟩
 ·have b:dG (tk i).k=Z:=by cases a:dG (tk i).k with|false=>rfl|true=>exact absurd (.inl a) hb
  obtain⟨g,_,z,b,w⟩:=p.row (by omega) (x:=([],Q)) (by simp only[xE,agk,b];rw[aa (by simp),aa (fun a=>hb (.inr (.inl a))),aa (fun a=>hb (.inr (.inr a)))];rfl);obtain rfl:=b.nils;exact⟨_,.nstop f h⟩
theorem ajb{m:Nat}(f:∀y,y<m->Ex tk n y){i j k g:Nat}{x b:Fo}(l:(tk i).k=20\/(tk i).k=15)(r:i<n)(s:P tk n (.expr 0) (i+1) x k)(o:P tk n .block k b g)(q:D tk n m [105] g j)(v:j<n):∃N ks,P tk n .branch i (one N ks) j:=by
 by_cases d:(tk g).k=15
 ·obtain⟨a,_,z,c,w⟩:=q.row (by omega) (x:=([15,119,132,105],Q)) (by simp[xE,acu,d]);obtain⟨_,_,A,h,F⟩:=c.toks (by omega);obtain⟨J,ao,al,C,t,af⟩:=h.cut;obtain⟨N,ks,G⟩:=(f J (by omega)).expr C t.lt;obtain⟨K,L,am,E,u,ak⟩:=t.cut;obtain⟨B,I,p⟩:=(f K (by omega)).block E u.lt;obtain⟨ad,an,H⟩:=(f L (by omega)).els (.inr d) a G p u v;exact⟨_,_,.belif l r s o d a H⟩
 by_cases e:(tk g).k=16
 ·obtain⟨a,_,z,c,w⟩:=q.row (by omega) (x:=([16,132],Q)) (by simp[xE,acu,e]);obtain⟨_,_,A,h,F⟩:=c.toks (by omega);obtain⟨B,I,p⟩:=(f A (by omega)).block h v;exact⟨_,_,.belse l r s o e a p⟩
 ·obtain⟨a,_,z,c,w⟩:=q.row (by omega) (x:=([],Q)) (by simp[xE,acu,d,e]);obtain rfl:=c.nils;exact⟨_,_,.bno l r s o d e a⟩
theorem ahe:∀(m:Nat),(∀a,a<m->Ex tk n a)->∀{i j:Nat},D tk n m [113] i j->j<n->∃N ks R k o a,P tk n .base i (one N ks) k/\P tk n .moreB k R o/\(tk o).k=47/\o<n/\D tk n a [124] (o+1) j/\a<m:=by
 intro m
 induction m using Nat.strongRecOn with
 |_ m ak=>
  intro w i j d y;have K:∃b,b<m/\∃S:Int,(S=114\/S=115)/\(D tk n b [1,S] i j\/D tk n b [40,119,41,S] i j):=by
   by_cases u:(tk i).k=1
   ·obtain⟨L,_,b,e,l⟩:=d.row (by omega) (x:=([1,114],Q)) (by simp[xE,acw,u]);exact⟨b,l,114,by omega,.inl e⟩
   ·by_cases v:(tk i).k=40
    ·obtain⟨L,_,b,e,l⟩:=d.row (by omega) (x:=([40,119,41,115],Q)) (by simp[xE,acw,v]);exact⟨b,l,115,by omega,.inr e⟩
    ·obtain⟨_,c,_⟩:=d.row (by omega) (x:=([],Z)) (by simp[xE,acw,u,v]);cases c
  obtain⟨b,l,s,J,e⟩:=K;obtain⟨N,ks,k,a2,S,p2,f,av,G,H,t⟩:=H7 (m:=b) (S:=s) (fun a c=>w a (by omega)) (by omega) y e;have I:fam s=2:=by rcases J with rfl|rfl<;>rfl
  rw[I]at t;have z:(tk k).k≠48/\(tk k).k≠44/\(tk k).k≠40:=by have:=iw G;omega
  have hS:S=114\/S=115:=by rcases H with rfl|rfl|rfl|rfl|rfl|rfl|rfl|rfl<;>first|omega|(revert t;decide)
  rcases hS with rfl|rfl
  ·by_cases g:(tk k).k=46
   ·obtain⟨h,_,am,p,ad⟩:=f.row (by omega) (x:=([46,113],Q)) (by simp[xE,acx,g]);obtain⟨_,_,r,q,af⟩:=p.toks (by omega);obtain⟨ao,a1,ap,a0,al,an,A,B,C,E,F,ar⟩:=ak r (by omega) (fun a c=>w a (by omega)) q y;exact⟨N,ks,_,k,al,an,p2,.bgo g h A B,C,E,F,by omega⟩
   ·by_cases d:(tk k).k=47
    ·obtain⟨h,_,am,p,ad⟩:=f.row (by omega) (x:=([47,124],Q)) (by simp[xE,acx,d]);obtain⟨_,_,r,q,af⟩:=p.toks (by omega);exact⟨N,ks,.nil,k,k,r,p2,.bstop g h,d,h,q,by omega⟩
    ·obtain⟨_,c,_⟩:=f.row (by omega) (x:=([],Z)) (by simp[xE,acx,z,g,d]);cases c
  ·obtain⟨_,c,_⟩:=f.row (by omega) (x:=([],Z)) (by simp[xE,aiz,z]);cases c
theorem D.blk{m:Nat}{r:List Int}{i j:Nat}(h:D tk n m (132::r) i j):(tk i).k=42/\i<n:=by
 obtain⟨f,g,k,a,d,e⟩:=h.cut;obtain⟨c,b,_⟩:=a.row (by omega) (x:=([42,100,43],decide ((tk i).k=42))) (by simp[xE,acC]);exact⟨aC b,c⟩
theorem ajc{m:Nat}(a:∀K,K<m->Ex tk n K){i j:Nat}(p:(tk i).k=19)(ao:D tk n m [19,1,106] i j)(E:j<n):∃N ks,P tk n .stat i (one N ks) j:=by
 obtain⟨_,_,bD,am,bk⟩:=ao.toks (by omega);obtain⟨l,bh,b0,B,bo⟩:=am.toks (by omega);by_cases e:(tk (i+2)).k=47
 ·obtain⟨t,_,a8,q,ar⟩:=B.row (by omega) (x:=([47,119,46,119,107,132],Q)) (by simp[xE,af9,e]);obtain⟨_,_,L,r,av⟩:=q.toks (by omega);obtain⟨ad,a9,k,b,c,br⟩:=r.cut;obtain⟨ak,a4,h⟩:=(a ad (by omega)).expr b c.lt;obtain⟨y,H,af,s,a0⟩:=c.toks (by omega);obtain⟨v,b1,J,d,C,bt⟩:=s.cut;obtain⟨bb,bx,I⟩:=(a v (by omega)).expr d C.lt;obtain⟨bE,a5,bw,z,A,bl⟩:=C.cut;obtain⟨w,G⟩:=A.blk;obtain⟨Nb,a3,f⟩:=(a a5 (by omega)).block A E;by_cases g:(tk J).k=46
  ·obtain⟨u,_,a6,o,ap⟩:=z.row (by omega) (x:=([46,119],Q)) (by simp[xE,aga,g]);obtain⟨_,_,a7,an,bn⟩:=o.toks (by omega);obtain⟨bd,bA,a2⟩:=(a a7 (by omega)).expr an G;exact⟨_,_,.tfor p (by omega) l (.stop (by omega) t) e (.es h (.ego y H I (.ego g u a2 (.estop (by omega) G)))) f⟩
  ·obtain⟨u,_,a6,o,ap⟩:=z.row (by omega) (x:=([],Q)) (by simp[xE,aga,g]);obtain rfl:=o.nils;exact⟨_,_,.tfor p (by omega) l (.stop (by omega) t) e (.es h (.ego y H I (.estop g u))) f⟩
 ·obtain⟨t,_,a8,q,ar⟩:=B.row (by omega) (x:=([104,21,119,132],decide ((tk (i+2)).k=46\/(tk (i+2)).k=21))) (by simp[xE,af9,e]);obtain⟨L,ad,k,r,b,av⟩:=q.cut;obtain⟨b2,a1,_⟩:=D.names L r b.lt;obtain⟨al,_,a9,c,bs⟩:=b.toks (by omega);obtain⟨af,v,J,s,d,a0⟩:=c.cut;obtain⟨w,F⟩:=d.blk;obtain⟨ak,a4,h⟩:=(a af (by omega)).expr s F;obtain⟨Nb,a3,f⟩:=(a v (by omega)).block d E;exact⟨_,_,.teach p (by omega) l a1 al h w F f⟩
theorem aaf{m:Nat}(l:∀o,o<m->Ex tk n o){i j:Nat}{a:Int}(I:a=110\/a=112)(p:(tk i).k=1\/(tk i).k=40)(s:i<n)(d:D tk n m [1,a] i j\/D tk n m [40,119,41,a] i j)(e:j<n)(ak:(tk j).k=5\/(tk j).k=6\/(tk j).k=43):∃N ks,P tk n .stat i (one N ks) j:=by
 obtain⟨N,ks,k,ap,S,p2,b,al,G,H,v⟩:=H7 (m:=m) (S:=a) l (by omega) e d;rw[show fam a=1 by rcases I with rfl|rfl<;>rfl]at v;have t:(tk k).k≠48/\(tk k).k≠44/\(tk k).k≠40:=by have:=iw G;omega
 have hS:S=110\/S=111\/S=112:=by rcases H with rfl|rfl|rfl|rfl|rfl|rfl|rfl|rfl<;>first|omega|(revert v;decide)
 rcases hS with rfl|rfl|rfl
 ·by_cases h:(tk k).k=46
  ·obtain⟨f,_,y,c,w⟩:=b.row (by omega) (x:=([46,113],Q)) (by simp[xE,acv,h]);obtain⟨_,_,u,q,J⟩:=c.toks (by omega);obtain⟨L,ao,ad,am,an,K,A,B,C,E,F,af⟩:=ahe u (fun o g=>l o (by omega)) q e;obtain⟨z,r⟩:=(l K (by omega)).exprs F e;exact⟨_,_,.tset p s p2 (.bgo h f A B) C E r⟩
  ·by_cases d:(tk k).k=47
   ·obtain⟨f,_,y,c,w⟩:=b.row (by omega) (x:=([47,124],Q)) (by simp[xE,acv,d]);obtain⟨_,_,u,q,J⟩:=c.toks (by omega);obtain⟨z,r⟩:=(l u (by omega)).exprs q e;exact⟨_,_,.tset p s p2 (.bstop h f) d f r⟩
   ·obtain⟨_,g,_⟩:=b.row (by omega) (x:=([],Z)) (by simp[xE,acv,t,h,d]);cases g
 ·obtain⟨f,_,y,c,w⟩:=b.row (by omega) (x:=([],Q)) (by simp[xE,aix,t]);obtain rfl:=c.nils;exact⟨_,_,.tdo p s p2 (by omega) (by omega) e⟩
 ·obtain⟨_,g,_⟩:=b.row (by omega) (x:=([],Z)) (by simp[xE,aiy,t]);cases g
theorem aag{m:Nat}(f:∀G,G<m->Ex tk n G){i j:Nat}(r:i<n)(E:(ik (tk i).k).2=Q)(a:D tk n m (ik (tk i).k).1 i j)(g:j<n)(L:(tk j).k=5\/(tk j).k=6\/(tk j).k=43):(∃N ks,P tk n .stat i (one N ks) j)/\(tk i).k≠5/\(tk i).k≠6/\(tk i).k≠43:=by
 have ad:(tk i).k=22\/(tk i).k=13\/(tk i).k=18\/(tk i).k=20\/(tk i).k=31\/(tk i).k=19\/(tk i).k=11\/(tk i).k=23\/(tk i).k=27\/(tk i).k=30\/(tk i).k=28\/(tk i).k=14\/(tk i).k=42\/(tk i).k=1\/(tk i).k=40:=by
  refine Decidable.byContradiction fun a2=>?_;simp only[not_or]at a2;simp[ik,a2]at E
 refine⟨?_,by omega,by omega,by omega⟩;rcases ad with e|e|e|e|e|e|e|e|e|e|e|e|e|e|e
 ·rw[show(ik (tk i).k).1=[22,1,104,103] by rw[e];rfl]at a;obtain⟨_,_,o,b,p⟩:=a.toks (by omega);obtain⟨z,bD,d,c,s⟩:=b.toks (by omega);obtain⟨w,H,k,l,t,av⟩:=c.cut;obtain⟨b4,B,_⟩:=D.names w l t.lt;by_cases y:(tk k).k=47
  ·obtain⟨v,_,I,u,a1⟩:=t.row (by omega) (x:=([47,124],Q)) (by simp[xE,af7,y]);obtain⟨_,_,a4,C,bo⟩:=u.toks (by omega);obtain⟨a5,K⟩:=(f a4 (by omega)).exprs C g;exact⟨_,_,.tlet e (by omega) z B y K⟩
  ·obtain⟨v,_,I,u,a1⟩:=t.row (by omega) (x:=([],Q)) (by simp[xE,af7,y]);obtain rfl:=u.nils;exact⟨_,_,.tlet0 e (by omega) z B y⟩
 ·rw[show(ik (tk i).k).1=[13,1,47,119] by rw[e];rfl]at a;obtain⟨_,_,o,b,p⟩:=a.toks (by omega);obtain⟨z,_,d,c,s⟩:=b.toks (by omega);obtain⟨a7,af,w,l,av⟩:=c.toks (by omega);obtain⟨N,ks,h⟩:=(f w (by omega)).expr l g;exact⟨_,_,.tcon e z a7 af h⟩
 ·rw[show(ik (tk i).k).1=[18,1,133] by rw[e];rfl]at a;obtain⟨_,_,o,b,p⟩:=a.toks (by omega);obtain⟨z,_,d,c,s⟩:=b.toks (by omega);obtain⟨af,bl,_⟩:=c.row (by omega) (x:=([40,126,41,132],decide ((tk (i+2)).k=40))) (by simp[xE,agm]);obtain⟨N,ks,h⟩:=(f d (by omega)).body (tk (i+2)) c g;exact⟨_,_,.tfn e z (aC bl) af h⟩
 ·rw[show(ik (tk i).k).1=[20,119,132,105] by rw[e];rfl]at a;obtain⟨_,_,o,b,p⟩:=a.toks (by omega);obtain⟨d,w,k,c,l,s⟩:=b.cut;obtain⟨N,ks,h⟩:=(f d (by omega)).expr c l.lt;obtain⟨H,I,bt,t,u,a0⟩:=l.cut;obtain⟨ak,a3,q⟩:=(f H (by omega)).block t u.lt;obtain⟨bA,b1,bs⟩:=(f I (by omega)).els (.inl e) r h q u g;exact⟨_,_,.tif e r bs⟩
 ·rw[show(ik (tk i).k).1=[31,119,132] by rw[e];rfl]at a;obtain⟨_,_,o,b,p⟩:=a.toks (by omega);obtain⟨d,w,k,c,l,s⟩:=b.cut;obtain⟨N,ks,h⟩:=(f d (by omega)).expr c l.lt;obtain⟨ak,a3,q⟩:=(f w (by omega)).block l g;exact⟨_,_,.twhile e r h q⟩
 ·rw[show(ik (tk i).k).1=[19,1,106] by rw[e];rfl]at a;exact ajc f e a g
 ·rw[show(ik (tk i).k).1=[11] by rw[e];rfl]at a;obtain⟨_,_,o,b,p⟩:=a.toks (by omega);obtain rfl:=b.nils;exact⟨_,_,.tbreak e g⟩
 ·rw[show(ik (tk i).k).1=[23] by rw[e];rfl]at a;obtain⟨_,_,o,b,p⟩:=a.toks (by omega);obtain rfl:=b.nils;exact⟨_,_,.tnext e g⟩
 ·rw[show(ik (tk i).k).1=[27,108] by rw[e];rfl]at a;obtain⟨_,_,o,b,p⟩:=a.toks (by omega);cases q:dG (tk (i+1)).k with
  |true=>
   obtain⟨v,_,d,c,s⟩:=b.row (by omega) (x:=([124],Q)) (by simp[xE,agb,q]);obtain⟨a5,K⟩:=(f d (by omega)).exprs c g;exact⟨_,_,.tret e v q K⟩
  |false=>
   obtain⟨v,_,d,c,s⟩:=b.row (by omega) (x:=([],Q)) (by simp[xE,agb,q]);obtain rfl:=c.nils;exact⟨_,_,.tret0 e v L⟩
 ·rw[show(ik (tk i).k).1=[30,132,12,1,109,132] by rw[e];rfl]at a;obtain⟨_,_,o,b,p⟩:=a.toks (by omega);obtain⟨d,w,k,c,l,s⟩:=b.cut;obtain⟨N,ks,h⟩:=(f d (by omega)).block c l.lt;obtain⟨am,_,H,t,a0⟩:=l.toks (by omega);obtain⟨an,ar,I,u,a1⟩:=t.toks (by omega);obtain⟨a4,bw,bt,C,ao,bo⟩:=u.cut;obtain⟨a8,ap⟩:=ao.blk;obtain⟨ak,a3,q⟩:=(f bw (by omega)).block ao g;by_cases F:(tk (k+2)).k=46
  ·obtain⟨v,_,bx,J,br⟩:=C.row (by omega) (x:=([46,1],Q)) (by simp[xE,agc,F]);obtain⟨_,_,b3,bk,b0⟩:=J.toks (by omega);obtain⟨a6,bn,b2,bh,bE⟩:=bk.toks (by omega);obtain rfl:=bh.nils;exact⟨_,_,.ttry e r h am ar an (.go F bn a6 (.stop (fun A=>by have e:(tk (k+2+2)).k=42:=a8;omega) ap)) q⟩
  ·obtain⟨v,_,bx,J,br⟩:=C.row (by omega) (x:=([],Q)) (by simp[xE,agc,F]);obtain rfl:=J.nils;exact⟨_,_,.ttry e r h am ar an (.stop F ap) q⟩
 ·rw[show(ik (tk i).k).1=[28,119] by rw[e];rfl]at a;obtain⟨_,_,o,b,p⟩:=a.toks (by omega);obtain⟨N,ks,h⟩:=(f o (by omega)).expr b g;exact⟨_,_,.tthrow e r h⟩
 ·rw[show(ik (tk i).k).1=[14,116] by rw[e];rfl]at a;obtain⟨_,_,o,b,p⟩:=a.toks (by omega);have ad:∃d,d<m/\(D tk n d [1,117] (i+1) j\/D tk n d [40,119,41,117] (i+1) j):=by
   by_cases y:(tk (i+1)).k=1
   ·obtain⟨_,_,d,c,s⟩:=b.row (by omega) (x:=([1,117],Q)) (by simp[xE,acy,y]);exact⟨d,by omega,.inl c⟩
   ·by_cases E:(tk (i+1)).k=40
    ·obtain⟨_,_,d,c,s⟩:=b.row (by omega) (x:=([40,119,41,117],Q)) (by simp[xE,acy,E]);exact⟨d,by omega,.inr c⟩
    ·obtain⟨_,A,_⟩:=b.row (by omega) (x:=([],Z)) (by simp[xE,acy,y,E]);cases A
  obtain⟨d,s,c⟩:=ad;obtain⟨N,ks,k,w,S,p2,al,av,a9,bb,bd⟩:=H7 (m:=d) (S:=117) (fun G A=>f G (by omega)) (by omega) g c;have B:(tk k).k≠48/\(tk k).k≠44/\(tk k).k≠40:=by have:=iw a9;omega
  have hS:S=117\/S=118:=by rcases bb with rfl|rfl|rfl|rfl|rfl|rfl|rfl|rfl<;>first|omega|(revert bd;decide)
  rcases hS with rfl|rfl
  ·obtain⟨_,A,_⟩:=al.row (by omega) (x:=([],Z)) (by simp[xE,aiA,B]);cases A
  ·obtain⟨v,_,H,t,a0⟩:=al.row (by omega) (x:=([],Q)) (by simp[xE,aiB,B]);obtain rfl:=t.nils;exact⟨_,_,.tdefer e r p2⟩
 ·rw[show(ik (tk i).k).1=[132] by rw[e];rfl]at a;obtain⟨_,_,o,b,p⟩:=a.row (by omega) (x:=([42,100,43],decide ((tk i).k=42))) (by simp[xE,acC]);obtain⟨N,ks,h⟩:=H8 f a g;exact⟨N,ks,.tblock e r h⟩
 ·rw[show(ik (tk i).k).1=[1,110] by rw[e];rfl]at a;exact aaf f (.inl rfl) (.inl e) r (.inl a) g L
 ·rw[show(ik (tk i).k).1=[40,119,41,112] by rw[e];rfl]at a;exact aaf f (.inr rfl) (.inr e) r (.inr a) g L
theorem ad8{m:Nat}(g:∀b,b<m->Ex tk n b){i j:Nat}(r:D tk n m [100] i j)(l:j<n)(h:(tk j).k=43\/(tk j).k=6):∃R,P tk n .stats i R j:=by
 by_cases e:(tk i).k=5
 ·obtain⟨a,_,z,c,y⟩:=r.row (by omega) (x:=([5,100],Q)) (by simp[xE,aba,e]);obtain⟨_,_,A,d,F⟩:=c.toks (by omega);obtain⟨R,q⟩:=(g A (by omega)).stats d l h;exact⟨R,.ssep e a q⟩
 cases hb:(ik (tk i).k).2 with
 |false=>
  obtain⟨a,_,z,c,y⟩:=r.row (by omega) (x:=([],Q)) (by simp[xE,aba,e,hb]);obtain rfl:=c.nils;exact⟨_,.sstop h l⟩
 |true=>
  obtain⟨a,_,z,c,y⟩:=r.row (by omega) (x:=((ik (tk i).k).1++[101],Q)) (by simp[xE,aba,e,hb]);obtain⟨A,L,k,d,w,F⟩:=c.split _ _ rfl;by_cases f:(tk k).k=5
  ·obtain⟨o,_,I,p,G⟩:=w.row (by omega) (x:=([5,100],Q)) (by simp[xE,af6,f]);obtain⟨_,_,J,E,K⟩:=p.toks (by omega);obtain⟨R,q⟩:=(g J (by omega)).stats E l h;obtain⟨⟨B,H,s⟩,t,u,v⟩:=aag (fun b C=>g b (by omega)) a hb d o (.inl f);exact⟨_,.sgo t u v a s (.ssep f o q)⟩
  ·obtain⟨o,_,I,p,G⟩:=w.row (by omega) (x:=([],Q)) (by simp[xE,af6,f]);obtain rfl:=p.nils;obtain⟨⟨B,H,s⟩,t,u,v⟩:=aag (fun b C=>g b (by omega)) a hb d o (by omega);exact⟨_,.sgo t u v a s (.sstop h l)⟩
theorem ahf(b:∀i,(tk i).k<100)(m:Nat):Ex tk n m:=by
 induction m using Nat.strongRecOn with
 |_ m a=>exact⟨ahd b a,aha b a,ad6 a,ad5 a,H8 a,ad8 a,fun c=>ahc a c,Kc a,ad7 a,ajb a⟩
end
theorem abD{w c:T}{r:List Int×Bool}{e:Ending}{b:T}(a:Ax w.heap.size w c)(h:jj c r e b):jj w r e b:=by
 obtain⟨d,f,rfl,i,g⟩:=h;exact⟨d,f,rfl,iE i a.size,a.trans (g.mono a.size)⟩
theorem ahg{p:Prop}[Decidable p] {a b:List Int×Bool}(c:a.1.length<=6) (d:b.1.length<=6):(if p then a else b).1.length<=6:=by split<;>assumption
theorem abE(t:Int):(ik t).1.length<=6:=by
 unfold ik
 repeat' (first|(apply ahg<;>skip)|exact Nat.le_of_ble_eq_true rfl)
theorem B9(w:T)(t:Int):A7 A1 60 #[.int .i64 100,.int .i64 t] w (jj w (aba t)):=by
 unfold aba;by_cases d:t=5
 ·subst d;show A7 _ _ _ _ (jj w ([5,100],Q));go_in;go_wp2_with (go_at_call 96;refine dK (ui _ _) ?_);go_ret2;exact qr w [5,100] Q (by simp)
 ·rw[aa d];have a:=fun w=>JE w t;have e:=abE t;have B:(t==5)=Z:=beq_eq_false_iff_ne.2 d;generalize ik t=A at a e⊢;obtain⟨z,k⟩:=A;simp only at e⊢;obtain⟨n,c⟩:=ay z.length;obtain⟨s,u,v,x,y⟩:=dt rl;cases k with
  |true=>
   rw[ab rfl];unfold jj at a⊢;simp only at a⊢;rw[aH,ee];rw[c]at a e⊢;clear c;go_in;go_wp2_with (first|(go_at_call 97;refine(a _).mono ?_;rintro m g ⟨j,l,rfl,f,b⟩;have r:=b.size)|(at_builtin;refine ng _ rfl _ _ 51 rfl w.heap.size 3 s _ 1 8 Tryz.underlying51 u v x y rfl (by decide) _ _ _ rfl (f.alloc _) ⟨g.heap.size,0,O⟩ 1 1 [.int .i64 101] rfl rfl (A2 (cs:=#[.int .i64 101]) (fr:=(0,0)) (aj g _)) (by intro G i;simp at i;subst i;rfl) (by unfold B0;omega) (by omega) (by simp;omega) ?_;intro H I h q F;obtain⟨E,C,rfl⟩:=A4 h));go_ret2;exact⟨_,_,rfl,h,(b.alloc r _).grown q (by simp;omega) (fun o p=>(f.lt o p).1)⟩
  |false=>
   rw[aa (by decide)];unfold jj at a;simp only at a;rw[c]at a;clear c;go_in;go_wp2_with (go_at_call 97;refine(a _).mono ?_;rintro m g ⟨j,l,rfl,f,b⟩);go_ret2;exact abD b (Bc _ Q)
theorem Ia(w:T)(s t:Int)(b:101<=s)(c:s<=133):A7 A1 60 #[V X s,V X t] w (jj w (xE s t)):=by
 have f:=fun w=>ry w t;have g:=fun w=>zl w t;have h:=fun w=>JF w t;obtain rfl|rfl|rfl|rfl|rfl|rfl|rfl|rfl|rfl|rfl|rfl|rfl|rfl|rfl|rfl|rfl|rfl|rfl|rfl|rfl|rfl|rfl|rfl|rfl|rfl|rfl|rfl|rfl|rfl|rfl|rfl|rfl|rfl:s=101\/s=102\/s=103\/s=104\/s=105\/s=106\/s=107\/s=108\/s=109\/s=110\/s=111\/s=112\/s=113\/s=114\/s=115\/s=116\/s=117\/s=118\/s=119\/s=120\/s=121\/s=122\/s=123\/s=124\/s=125\/s=126\/s=127\/s=128\/s=129\/s=130\/s=131\/s=132\/s=133:=by omega
 all_goals
  clear b c;go_in;go_wp2_with (first|(go_at_call 96;refine dK (ui _ _) ?_)|(go_at_call 98;refine dK (f _) ?_)|(go_at_call 158;refine dK (g _) ?_)|(go_at_call 157;refine(h _).mono ?_;rintro a k ⟨i,j,rfl,e,d⟩)|go_in);all_goals
   go_ret2;first
    |exact⟨_,_,rfl,e,d⟩
    |(go_tidy
      simp only[xE,pz,af6,akx,af7,af8,acu,af9,aga,agb,agc,acv,aix,aiy,acw,acx,aiz,acy,aiA,aiB,agd,age,agf,agh,aiC,agi,acz,agj,acA,agk,agl,acB,acC,agm,ieq, *];simp[*];first|exact qr w _ _ (by simp)|exact Bc w _|(by_cases a:t=21<;>simp_all<;>(try rw[show(t==46||t==21)=Z by simp[*]])<;>exact qr w _ _ (by simp))|(by_cases a:t=44<;>simp_all<;>exact qr w _ _ (show 2<=100 by decide)))
theorem Fj(w:T)(s t:Int)(c:100<=s)(b:s<=133):A7 A1 60 #[V X s,V X t] w (jj w (xE s t)):=by
 by_cases a:s=100
 ·subst a;exact B9 w t
 ·exact Ia w s t (by omega) b
theorem ad9:(Tryz.prog.info? 131).map (fun i=>(i.zero,i.size,i.bytes))=M (M (.agg #[V X 0,V X 0]),2,16):=by kernel_rfl
def cCl(C:List (Int×Int)):List A0:=C.flatMap fun a=>[V X a.1,V X a.2]
theorem aah(C:List (Int×Int)):(cCl C).length=C.length*2:=by
 induction C with
 |nil=>rfl
 |cons b c a=>simp only[cCl,xg,aH,bv,dd]at a⊢;omega
theorem aai(C D:List (Int×Int)):cCl (C++D)=cCl C++cCl D:=by simp[cCl]
theorem aea:∀(C:List (Int×Int))(i:Nat)(c:Int×Int),C[i]?=M c->(cCl C)[i*2]?=M (V X c.1)/\(cCl C)[i*2+1]?=M (V X c.2)
 |[],i,c,h=>by simp at h
 |a::r,0,c,h=>by
  obtain rfl:a=c:=by simpa using h
  exact⟨rfl,rfl⟩
 |a::r,i+1,c,h=>by
  have e:=aea r i c (by simpa using h);have d:∀b,(cCl (a::r))[b+2]?=(cCl r)[b]?:=fun b=>rfl;rw[show(i+1)*2=i*2+2 by omega,show i*2+2+1=(i*2+1)+2 by omega,d,d];exact e
structure td (W:T) (base mb:Nat) (C:List (Int×Int)):Prop where
 ex:∃v,W.heap[mb]?=M (.cells #[v] 78 (0,0))/\W.ownsRow base 131 2 v C.length (cCl C)
 lo:base<=mb
structure Kp (mb:Nat) (w w':T):Prop where
 os:w'.os=w.os
 tape:w'.tape=w.tape
 output:w'.output=w.output
 size:w.heap.size<=w'.heap.size
 block:∀k,k<w.heap.size->k≠mb->(∀cs fr,w.heap[k]?≠M (.cells cs 131 fr))->w'.heap[k]?=w.heap[k]?
theorem Kp.refl(mb:Nat)(w:T):Kp mb w w:=⟨rfl,rfl,rfl,ae _,fun _ _ _ _=>rfl⟩
theorem Kp.trans{mb:Nat}{x e z:T}(h:Kp mb x e)(k:Kp mb e z):Kp mb x z:=
 ⟨k.os.trans h.os,k.tape.trans h.tape,k.output.trans h.output,bF h.size k.size,fun d b c a=>
  (k.block d (eF b h.size) c (fun f g=>by rw[h.block d b c a];exact a f g)).trans (h.block d b c a)⟩
theorem Kp.of_below{mb:Nat}{w a:T}(h:Ax w.heap.size w a):Kp mb w a:=⟨h.os,h.tape,h.output,h.size,fun c b _ _=>h.block c b⟩
theorem Kp.blk{mb:Nat}{w c:T}(h:Kp mb w c){k:Nat}{cs:Array A0}{t:B1}{fr:Nat×Nat}(a:w.heap[k]?=M (A8 cs t fr))(e:t≠131)(d:k≠mb):c.heap[k]?=M (A8 cs t fr):=
 (h.block k (ah a) d (fun f g b=>by rw[a]at b;cases b;exact e rfl)).trans a
theorem Kp.row{mb:Nat}{w c:T}(h:Kp mb w c){t:A0}{i:Nat×Nat}(l:w.heap[mb]?=M (A8 #[t] 78 i)){base e size n:Nat}{v:A0}{d:List A0}(o:w.ownsRow base e size v n d)(m:e≠131)(p:e≠78):c.ownsRow base e size v n d:=by
 obtain⟨k,b⟩:=o;refine⟨k,?_⟩;rcases b with b|⟨j,f,g,r,q,a,s⟩
 ·exact .inl b
 ·refine .inr ⟨j,f,g,r,q,h.blk a m ?_,s⟩;rintro rfl;rw[l]at a;simp only[dr,gE]at a;exact p a.2.1.symm
theorem td.below{W a:T}{base mb:Nat}{C:List (Int×Int)}(h:td W base mb C)(c:Ax W.heap.size W a):td a base mb C:=by
 obtain⟨e,b,d⟩:=h.ex;exact⟨⟨e,(c.block _ (ah b)).trans b,aE d c⟩,h.lo⟩
theorem td.alloc{W:T}{base mb:Nat}{C:List (Int×Int)}(h:td W base mb C)(o:Obj):td (W.alloc o) base mb C:=h.below (bg W o)
def lr(C:List (Int×Int)):Int->List Int->Prop
 |top,[]=>top= -1
 |top,s::r=>∃(i:Nat) (b:Int),top=(i:Int)/\C[i]?=M (s,b)/\lr C b r
theorem lr.app{C:List (Int×Int)}(D:List (Int×Int)):∀{st:List Int}{a:Int},lr C a st->lr (C++D) a st
 |[],a,h=>h
 |s::r,a,⟨i,b,d,c,e⟩=>⟨i,b,d,by rw[ie (List.getElem?_eq_some_iff.1 c).1];exact c,e.app D⟩
theorem lr.push{C:List (Int×Int)}{st:List Int}{a:Int}(h:lr C a st)(s:Int):lr (C++[(s,a)]) (C.length:Int) (s::st):=
 ⟨C.length,a,rfl,by rw[fJ (ae _),eB];rfl,h.app _⟩
theorem lr.lt{C:List (Int×Int)}:∀{st:List Int}{a:Int},lr C a st-> -1<=a/\a<(C.length:Int)
 |[],a,h=>by obtain rfl:a= -1:=h;omega
 |s::g,a,⟨f,c,d,b,e⟩=>by have:=(List.getElem?_eq_some_iff.1 b).1;omega
theorem Ca(w:T)(base mb:Nat)(C:List (Int×Int))(o m:Int)(h:td w base mb C)(ad:C.length<=100000000):
  A7 A1 61 #[.pointer (M ⟨mb,0,O⟩),.int .i64 o,.int .i64 m] w fun e y=>e= .returned (.int .i64 (C.length:Nat))/\td y base mb (C++[(m,o)])/\Kp mb w y/\Ax base w y:=by
 obtain⟨a3,f,g⟩:=h.ex;have F:=h.lo;obtain⟨n,u⟩:=ay C.length;rw[u]at g ad⊢;obtain⟨j,k,rfl⟩:=bz g;obtain⟨al,am,an,ao,ap⟩:=dt ad9;have af:=ah f;have a0:mb≠w.heap.size:=by omega
 have ar:w.cell? ⟨mb,0,O⟩=M (.slice j n k):=by rw[aq _ _ _ _ _ _ f];rfl
 have G:∀c,(A3 j n k).ownBlock=M c->c≠mb/\base<=c:=fun c l=>by
  refine⟨?_,(g.lt c l).1⟩;rintro rfl;rcases g.2 with⟨a,_⟩|⟨r,A,B,a,_,d,_⟩
  ·rw[a]at l;simp[U]at l
  ·rw[a]at l;obtain rfl:r=c:=by simpa [U] using l
   rw[d]at f;cases f
 have p:=iD g f u;clear g f u h;go_in;go_wp2_with (at_builtin;refine ng _ rfl _ _ 76 rfl base 131 al _ 2 16 Tryz.underlying76 am an ao ap rfl (by decide) _ _ _ rfl (p.out.1.alloc _) ⟨w.heap.size,0,O⟩ 1 1 [.int .i64 m,.int .i64 o] rfl rfl (A2 (cs:=#[.int .i64 m,.int .i64 o]) (fr:=(0,0)) (aj w _)) (by intro a2 H;simp at H;rcases H with rfl|rfl<;>rfl) (by unfold B0;omega) (by omega) (by simp;omega) ?_;intro a4 z x b a1;obtain⟨E,J,rfl⟩:=A4 x;have s:z.heap[mb]?=M (.cells #[.slice j n k] 78 (0,0)):=(b.block mb (by simp;omega) (fun e=>(G mb e.symm).1 rfl)).trans ((bm _ _ _ af).trans p.out.2.1);have a5:z.cell? ⟨mb,0,O⟩=M (.slice j n k):=(by rw[aq _ _ _ _ _ _ s];rfl);have av:z.frozen? ⟨mb,0,O⟩=Z:=cC _ _ _ _ _ s);go_ret;have ak:=b.size;rw[aF]at ak;refine⟨by go_num,⟨⟨.slice (M ⟨E,0,O⟩) (n+1) J,bi _ mb 0 _ _ _ s,?_⟩,F⟩,?_,?_⟩
 ·rw[aH,p.out.2.2,aai];refine x.kept (row:=M mb) ⟨rfl,rfl,rfl,by simp[Y],fun i t v=>aD _ _ _ _ (fun e=>v (by rw[e]))⟩ ?_;refine .inr ?_;intro e;obtain rfl:E=mb:=by simpa [U] using e
  rcases x.2 with⟨a,_⟩|⟨r,A,B,a,_,d,_⟩
  ·cases a
  ·cases a;rw[s]at d;cases d
 ·refine⟨b.os,b.tape,b.output,by simp[Y];omega,fun i t v L=>?_⟩;rw[aD _ _ _ _ v];refine(b.block i (by simp;omega) (fun e=>?_)).trans (bm _ _ _ t);have q:(A3 j n k).ownBlock=M i:=e.symm;rcases p.out.1.2 with⟨a,_⟩|⟨r,A,B,a,_,d,_⟩
  ·rw[a]at q;simp[U]at q
  ·rw[a]at q;obtain rfl:r=i:=by simpa [U] using q
   exact L _ _ d
 ·have K:base<=w.heap.size:=by omega
  have I:Ax base w (w.alloc (.cells #[.int .i64 m,.int .i64 o] 131)):=(ag _ w).alloc K _;exact(I.grown b (by simp;omega) (fun i t=>(G i t).2)).setCell F _
theorem yE:∀{f:Nat}{st:List Int}{t:Int}{n:Nat}{lo:List Int}{b:Option Bool}{m:Nat},eD f st t n=M (lo,b,m)->n<=m
 |0,_,_,_,_,_,_,h=>by simp[eD]at h
 |f+1,[],t,n,lo,b,m,h=>by
  simp only[eD,dr,gw]at h;omega
 |f+1,s::r,t,n,lo,b,m,h=>by
  by_cases c:s<100
  ·have:=(qw h c).2.2;omega
  ·rcases jl h (by omega) with⟨_,a⟩|⟨_,_,_,a⟩
   ·have:=yE a;omega
   ·omega
structure Cb (w:T) (base mb:Nat) (C:List (Int×Int)) (t:Int) (Res:List Int×Bool) (k:Nat) (stk:List Int) (top:Int) (D:List (Int×Int)) (W:T):Prop where
 m:td W base mb (C++D)
 s:lr (C++D) top stk
 o:Be stk
 kp:Kp mb w W
 bl:Ax base w W
 d:D.length<=20
 ph:(D=[]/\feedL stk t=Res/\stk.length+9<=k)\/∃cur r f lo b m,stk=cur++r/\eD f cur t D.length=M (lo,M b,m)/\(lo++r,b)=Res/\m<=20/\f<=k
theorem Cb.nil{w:T}{base mb:Nat}{C:List (Int×Int)}{t:Int}{a:List Int×Bool}{k:Nat}{i:Int}{D:List (Int×Int)}{W:T}(h:Cb w base mb C t a k [] i D W):a=([],Z):=by
 rcases h.ph with⟨_,e,_⟩|⟨d,o,c,l,j,m,f,b,_⟩
 ·rw[<-e];rfl
 ·have g:d=[]:=(List.append_eq_nil_iff.1 f.symm).1;subst g;cases c with
  |zero=>simp[eD]at b
  |succ c=>simp[eD]at b
theorem Cb.tok{w:T}{base mb:Nat}{C:List (Int×Int)}{t:Int}{c:List Int×Bool}{k:Nat}{s:Int}{f:List Int}{m:Int}{D:List (Int×Int)}{W:T}(h:Cb w base mb C t c k (s::f) m D W)(e:s<100):c=(f,decide (s=t)):=by
 rcases h.ph with⟨_,g,_⟩|⟨d,r,b,p,o,q,i,a,j,_⟩
 ·rw[<-g];exact il e
 ·cases d with
  |nil=>
   cases b with
   |zero=>simp[eD]at a
   |succ b=>simp[eD]at a
  |cons u d=>
   obtain⟨rfl,rfl⟩:=po i;cases b with
   |zero=>simp[eD]at a
   |succ b=>
    obtain⟨rfl,l,_⟩:=qw a e;rw[<-j,bu l];rfl
theorem Cb.no{w:T}{base mb:Nat}{C:List (Int×Int)}{t:Int}{i:List Int×Bool}{k:Nat}{s:Int}{m:List Int}{z:Int}{D:List (Int×Int)}{W:T}(h:Cb w base mb C t i k (s::m) z D W)(x:1<=t)(y:t<=78)(d:100<=s)(g:(xE s t).2=Z):i=(m,Z):=by
 rcases h.ph with⟨_,q,_⟩|⟨j,B,c,v,p,A,r,a,u,_⟩
 ·have l:¬((xE s t).1=[]/\(xE s t).2=Q):=by rw[g];simp
  obtain⟨v,p,n,a,_⟩:=sF d (h.o s (bK ..)) x y l;rw[<-q,jG d l a];rcases jl a d with⟨b,_⟩|⟨_,e,f,_⟩
  ·rw[g]at b;cases b
  ·rw[e,bu f];rfl
 ·cases j with
  |nil=>
   cases c with
   |zero=>simp[eD]at a
   |succ c=>simp[eD]at a
  |cons E j=>
   obtain⟨rfl,rfl⟩:=po r;cases c with
   |zero=>simp[eD]at a
   |succ c=>
    rcases jl a d with⟨b,_⟩|⟨_,e,f,_⟩
    ·rw[g]at b;cases b
    ·rw[<-u,e,bu f];rfl
theorem Cb.step{w:T}{base mb:Nat}{C:List (Int×Int)}{t:Int}{A:List Int×Bool}{k:Nat}{s:Int}{c:List Int}{a0:Int}{D:List (Int×Int)}{W:T}(h:Cb w base mb C t A k (s::c) a0 D W)(G:1<=t)(H:t<=78)(e:100<=s)(hx:(xE s t).2=Q){E:List (Int×Int)}{z:Int}{f:T}(r:E.length=(xE s t).1.length)
  (al:td f base mb (C++D++E)) (ao:lr (C++D++E) z ((xE s t).1++c)) (v:Kp mb w f) (u:Ax base w f):D.length+(xE s t).1.length<=20/\∃F,F<k/\Cb w base mb C t A F ((xE s t).1++c) z (D++E) f:=by
 have B:=h.o s (bK ..);have ap:=(LL e B G H).1;have l:Be ((xE s t).1++c):=fun I hx=>by
  rcases List.mem_append.1 hx with hx|hx
  ·exact ap I hx
  ·exact h.o I (dC _ hx)
 have x:td f base mb (C++(D++E)):=by rw[<-dh];exact al
 have j:lr (C++(D++E)) z ((xE s t).1++c):=by rw[<-dh];exact ao
 have g:(D++E).length=D.length+(xE s t).1.length:=by rw[aH,r]
 rcases h.ph with⟨ad,q,ak⟩|⟨p,av,d,y,m,ar,J,b,K,L,a1⟩
 ·subst ad;by_cases i:(xE s t).1=[]/\(xE s t).2=Q
  ·rw[i.1]at r j l g⊢;have af:E=[]:=jK (by simpa using r);subst af;refine⟨by simp,c.length+9,by simp only[bv]at ak;omega,x,j,l,v,u,by simp,.inl ⟨rfl,?_,ae _⟩⟩;rw[de,<-q,jF e i]
  ·obtain⟨y,m,n,b,an⟩:=sF e B G H i;rw[jG e i b]at q;rcases jl b e with⟨_,a⟩|⟨a,_⟩
   ·rw[da]at a;have am:=yE a;refine⟨by simp only[dd];omega,7,by omega,x,j,l,v,u,by rw[g];simp only[dd];omega,.inr ⟨(xE s t).1,c,7,y,m,n,rfl,?_,q,an,ae _⟩⟩;rw[g];exact a
   ·rw[hx]at a;cases a
 ·cases p with
  |nil=>
   cases d with
   |zero=>simp[eD]at b
   |succ d=>simp[eD]at b
  |cons a2 p=>
   obtain⟨rfl,rfl⟩:=po J;cases d with
   |zero=>simp[eD]at b
   |succ d=>
    rcases jl b e with⟨_,a⟩|⟨a,_⟩
    ·have am:=yE a;refine⟨by omega,d,by omega,x,j,l,v,u,by rw[g];omega,.inr ⟨(xE s t).1++p,av,d,y,m,ar,by rw[dh];rfl,?_,K,L,ae _⟩⟩;rw[g];exact a
    ·rw[hx]at a;cases a
def tg(w:T)(base mb:Nat)(C:List (Int×Int))(b:List Int×Bool)(e:Ending)(a:T):Prop:=
 ∃(c:Int) (D:List (Int×Int)),e= .returned (.tuple #[V X c,.bool b.2])/\td a base mb (C++D)/\lr (C++D) c b.1/\D.length<=20/\Kp mb w a/\Ax base w a
theorem xH(w:T)(base mb:Nat)(C:List (Int×Int))(st:List Int)(ad t:Int)(h:td w base mb C)(bA:lr C ad st)(bw:Be st)(a4:1<=t)(a5:t<=78)(c8:C.length<=50000000):
  A7 A1 30 #[Bs (M ⟨mb,0,O⟩),V X ad,V X t] w (tg w base mb C (feedL st t)):=by
 obtain⟨E,an⟩:=ay (feedL st t);rw[an];have ct:base<=w.heap.size:=by obtain⟨b4,cc,_⟩:=h.ex;have:=ah cc;have:=h.lo;omega
 have bb:A9 (Cb w base mb C t E (st.length+9) st ad [] w):=⟨by rw[da];exact h,by rw[da];exact bA,bw,Kp.refl _ _,ag _ _,by simp,.inl ⟨rfl,an,ae _⟩⟩;clear h bA bw an;go_in;go_wp2_with fail;go_loopg [1] (st.length+9) (fun cv a9 wr=>∃(a3:List Int) (r:Int) (D:List (Int×Int)),a9= V X r/\A9 (Cb w base mb C t E cv a3 r D wr))
 case atStart=>exact⟨st,ad,[],rfl,bb⟩
 case round=>
  obtain⟨a3,r,D,rfl,a⟩:=hrel;clear bb;cases a3 with
  |nil=>
   have am:r= -1:=a.out.s;subst am;have k:=aw a.out.nil;go_wp2_with fail;go_ret2;refine⟨-1,D,?_,a.out.m,?_,a.out.d,a.out.kp,a.out.bl⟩
   ·rw[k.out];rfl
   ·rw[k.out];exact a.out.s
  |cons e a6=>
   obtain⟨f,l,cl,ao,s⟩:=a.out.s;subst cl;obtain⟨b4,x,J⟩:=a.out.m.ex;have cm:=(List.getElem?_eq_some_iff.1 ao).1;obtain⟨g,al,rfl⟩:∃g al,b4= A6 (M ⟨g,0,O⟩) (C++D).length al:=by
    rcases bp J with⟨hz,_⟩|hz
    ·omega
    ·exact hz
   have ap:=aea _ f _ ao;have cg:=aah (C++D);have bh:wr.cell? ⟨g,f*2,O⟩=M (V X e):=by rw[J.cellAt (f*2) (by omega)];exact ap.1
   have bk:wr.cell? ⟨g,f*2+1,O⟩=M (V X l):=by rw[J.cellAt (f*2+1) (by omega)];exact ap.2
   obtain⟨n,I⟩:=ay ((C++D).length);have c2:=a.out.d;have dn:n<=50000020:=by rw[<-I,aH];omega
   rw[I]at x cm;have bd:wr.cell? ⟨mb,0,O⟩=M (A6 (M ⟨g,0,O⟩) n al):=by rw[aq _ _ _ _ _ _ x];rfl
   obtain⟨v,H⟩:∃v:Addr,(⟨g,0,O⟩:Addr)=v:=⟨_,rfl⟩;have ca:wr.cell? (v.add (f*2))=M (V X e):=by rw[<-H,show((⟨g,0,O⟩:Addr).add (f*2))=⟨g,f*2,O⟩ by unfold Addr.add;split<;>simp_all];exact bh
   have cb:wr.cell? ⟨(v.add (f*2)).block,(v.add (f*2)).off+1,O⟩=M (V X l):=by rw[<-H,show((⟨g,0,O⟩:Addr).add (f*2))=⟨g,f*2,O⟩ by unfold Addr.add;split<;>simp_all];exact bk
   rw[H]at bd;have c4:(f:Int)<(n:Int):=by omega
   have c3:(0:Int)<=(f:Int):=by omega
   have c9:=ah x;have cI:base<=wr.heap.size:=bF ct a.out.bl.size;have B:=iD I x s;clear bh bk ap cg J x I H ao s;by_cases cr:e<100
   ·have k:A9 (E=(a6,decide (e=t))):=a.out.tok cr;have ch:∀a1,Ax base wr (wr.alloc a1).drew:=fun a1=>cj ((ag _ wr).alloc (by omega) a1);have c1:(wr.alloc (A8 #[V X e,V X l] 131)).cell? ⟨wr.heap.size,0,O⟩=M (V X e):=by rw[aq _ _ _ _ _ _ (aj wr _)];rfl
    go_wp2_with fail;go_region_held3 (fun cy=>cy.cell? ⟨wr.heap.size,0,O⟩=M (V X e)) (go_keep) (fail)
    go_wp2_with fail;go_ret2;have q:Ax wr.heap.size wr (wr.alloc (A8 #[V X e,V X l] 131)).drew:=cj (bg wr _);refine⟨l,D,?_,a.out.m.below q,?_,a.out.d,a.out.kp.trans (Kp.of_below q),a.out.bl.trans (ch _)⟩
    ·rw[k.out];rfl
    ·rw[k.out];exact B.out.2.2
   ·have L:100<=e:=by omega
    have bD:e<=133:=a.out.o e (bK ..);have y:=fun w=>Fj w e t L bD;have bE:=(LL L bD a4 a5).2;obtain⟨u,K⟩:=ay ((xE e t).1);obtain⟨cx,av⟩:=ay ((xE e t).2);unfold jj at y;rw[K,av]at y;rw[K]at bE;obtain⟨i,ar⟩:=ay u.length;rw[ar]at y bE;have p:=iD K av ar;clear K av ar;have q:=bg wr (A8 #[V X e,V X l] 131);go_wp2_with fail;have b6:=aw q;refine(y _).mono ?_;rintro am z ⟨a2,rc,rfl,bx,bo⟩;have F:Ax wr.heap.size wr z:=q.trans (bo.mono q.size);have dq:=F.size;have o:A9 (td z base mb (C++D)/\Kp mb w z/\Ax base w z/\z.ownsRow base 3 1 (A6 a2 i rc) i (u.map (A5 X))):=
     ⟨a.out.m.below F,a.out.kp.trans (Kp.of_below F),a.out.bl.trans (F.mono (by omega)),iE bx (by simp;omega)⟩
    clear y q b6 bx bo bd ca cb;cases cx with
    |false=>
     have k:A9 (E=(a6,Z)):=a.out.no a4 a5 L p.out.2.1;go_wp2_with fail;go_ret2;refine⟨l,D,?_,o.out.1,?_,a.out.d,o.out.2.1,o.out.2.2.1⟩
     ·rw[k.out];rfl
     ·rw[k.out];exact B.out.2.2
    |true=>
     have df:(C++D).length<=50000020:=by rw[B.out.1];omega
     go_wp2_with fail;go_loopw [1,11] (fun a9 a8 af=>∃(b:Nat) (r:Int) (j:List (Int×Int)),b<=i/\a8= V X ((b:Int)-1)/\a9= V X r/\A9 (j.length=i-b/\td af base mb (C++D++j)/\lr (C++D++j) r (u.drop b++a6)/\Kp mb w af/\Ax base w af/\af.ownsRow base 3 1 (A6 a2 i rc) i (u.map (A5 X)))) (fun _ a8 _=>(B2 a8+1).toNat)
     case atStart=>
      refine⟨i,l,[],ae _,rfl,rfl,by simp,?_,?_,o.out.2.1,o.out.2.2.1,o.out.2.2.2⟩
      ·rw[da];exact o.out.1
      ·rw[da,ju (by rw[p.out.2.2];exact ae _)];exact B.out.2.2
     case round=>
      obtain⟨b,a7,j,c5,rfl,rfl,c⟩:=hrel;cases b with
      |zero=>
       have dk:¬(0:Int)<=((0:Nat):Int)-1:=by omega
       have s:=c.out.2.2.1;rw[pn,<-p.out.1]at s;obtain⟨_,cw,cn,b3⟩:=a.out.step a4 a5 L p.out.2.1 (by rw[p.out.1,p.out.2.2];exact c.out.1) c.out.2.1 s c.out.2.2.2.1 c.out.2.2.2.2.1;have b7:=aw b3;clear b3 s;go_wp2_with fail;go_roundg cw
       case measure=>exact cn
       case rel=>exact⟨_,a7,_,rfl,b7⟩
      |succ b=>
       have b9:(((b+1:Nat)):Int)-1=(b:Int):=by omega
       rw[b9];have c6:(0:Int)<=(b:Int):=by omega
       have c7:(b:Int)<(i:Int):=by omega
       obtain⟨A,hz⟩:=bL p.out.2.2 (show b<i by omega);obtain⟨G,ck⟩:∃G,a2=M ⟨G,0,O⟩:=by
        rcases bp c.out.2.2.2.2.2 with⟨h,_⟩|⟨G,cB,h⟩
        ·omega
        ·cases h;exact⟨_,rfl⟩
       subst ck;have cF:wr.cell? ⟨G,b,O⟩=M (V X A):=by rw[c.out.2.2.2.2.2.cellAt b (by omega),cA,hz];rfl
       have ce:(C++D++j).length<=100000000:=by rw[aH,c.out.1];omega
       have b0:=Ca wr base mb (C++D++j) a7 A c.out.2.1 ce;have a0:=c.out.2.2.1.push A;have br:u.drop b=A::u.drop (b+1):=by
        have bs:=List.getElem?_eq_some_iff.1 hz;rw[je bs.1,bs.2]
       have b5:=aw br;obtain⟨ak,bn⟩:∃ak:Int,(((C++D++j).length:Nat):Int)=ak:=⟨_,rfl⟩;rw[bn]at b0 a0;have b8:=aw a0;clear a0 br bn hz;go_wp2_with (go_at_call 61;refine b0.mono ?_;rintro am dz ⟨rfl,cq,bt,cf⟩);refine⟨⟨b,ak,j++[(A,a7)],by omega,rfl,rfl,?_,?_,?_,c.out.2.2.2.1.trans bt,c.out.2.2.2.2.1.trans cf,?_⟩,by simp[B2]⟩
       ·rw[aH,c.out.1];simp;omega
       ·rw[<-dh];exact cq
       ·rw[<-dh,b5.out];exact b8.out
       ·obtain⟨ds,cs,_⟩:=c.out.2.1.ex;exact bt.row cs c.out.2.2.2.2.2 (by decide) (by decide)
theorem aaj{w:T}{base:Nat}{e:B1}{size g cap n b:Nat}{a i:List A0}(f:a.length=n*size)
  (h:w.ownsRow base e size (A6 (M ⟨g,0,O⟩) (n+b) cap) (n+b) (a++i)):w.ownsRow base e size (A6 (M ⟨g,0,O⟩) n cap) n a:=by
 obtain⟨_,k⟩:=h;rcases k with⟨j,_⟩|⟨t,s,c,r,m,o,u,l,p,q⟩
 ·cases j
 ·cases r;refine⟨f,.inr ⟨g,cap,c,rfl,m,o,by omega,l,p,?_⟩⟩;have d:(c.toList.take ((n+b)*size)).take (n*size)=(a++i).take (n*size):=by rw[q]
  rw[List.take_take,Et (Nat.mul_le_mul_right _ (by omega))]at d;rw[d,<-f];exact take_len _ _
theorem Fk{w:T}{base:Nat}{e:B1}{size g cap n:Nat}{d:List A0}(h:w.ownsRow base e size (A6 (M ⟨g,0,O⟩) n cap) n d):n<=cap:=by
 rcases h.2 with⟨a,_⟩|⟨j,f,i,c,l,m,b,k,o,p⟩
 ·cases a
 ·cases c;exact b
def jH(st:List Int):Nat->List Int
 |0=>[]
 |j+1=>if(feedL st ((j:Int)+1)).2=Q then jH st j++[(j:Int)+1] else jH st j
def wh(st:List Int):List Int:=jH st 78
theorem ut(st:List Int):∀j,(jH st j).length<=j
 |0=>ae _
 |j+1=>by
  have:=ut st j;rw[jH];split
  ·rw[aH];simp;omega
  ·omega
theorem td.put{W:T}{base mb:Nat}{C:List (Int×Int)}{h:A0}(e:W.heap[mb]?=M (A8 #[h] 78 (0,0)))(lo:base<=mb){v:A0}(c:W.ownsRow base 131 2 v C.length (cCl C)):td (W.setCell ⟨mb,0,O⟩ v) base mb C:=by
 refine⟨⟨v,bi _ mb 0 _ _ _ e,?_⟩,lo⟩;refine c.kept (row:=M mb) ⟨rfl,rfl,rfl,by simp[Y],fun o m g=>aD _ _ _ _ (fun a=>g (by rw[a]))⟩ ?_;rcases bp c with⟨_,rfl⟩|⟨f,i,rfl⟩
 ·exact .inl rfl
 ·refine .inr ?_;intro a;obtain rfl:f=mb:=by simpa [U] using a
  rcases c.2 with⟨b,_⟩|⟨l,j,k,b,_,d,_⟩
  ·cases b
  ·cases b;rw[e]at d;cases d
theorem Kp.put{mb:Nat}{w W:T}(h:Kp mb w W)(j:Nat)(v:A0):Kp mb w (W.setCell ⟨mb,j,O⟩ v):=
 h.trans ⟨rfl,rfl,rfl,by simp[Y],fun b _ a _=>aD _ _ _ _ a⟩
theorem abF(w:T)(base mb:Nat)(h:td w base mb []):
  A7 A1 55 #[Bs (M ⟨mb,0,O⟩)] w fun e a=>e= .returned (V X 1)/\td a base mb [(6, -1),(100,0)]/\Kp mb w a/\Ax base w a:=by
 have b:=Ca w base mb [] (-1) 6 h (by simp);go_in;go_wp2_with fail;refine b.mono ?_;rintro e k ⟨rfl,g,j,d⟩;have c:=Ca k base mb [(6, -1)] 0 100 g (by simp);clear b;simp only[dd,Int.natCast_zero];go_wp2_with fail;refine c.mono ?_;rintro e l ⟨rfl,i,p2,f⟩;clear c;simp only[bv,dd,pu,Int.natCast_one];go_wp2_with fail;go_ret;exact⟨rfl,i,j.trans p2,d.trans f⟩
structure ahh (w:T) (base mb:Nat) (C:List (Int×Int)) (st:List Int) (j:Nat) (vo:A0) (W:T):Prop where
 m:td W base mb C
 kp:Kp mb w W
 bl:Ax base w W
 row:W.ownsRow w.heap.size 3 1 vo (jH st j).length ((jH st j).map (A5 .i64))
theorem aak(w:T)(base mb:Nat)(C:List (Int×Int))(st:List Int)(a4:Int)(h:td w base mb C)(bs:lr C a4 st)(bk:Be st)(ck:0<C.length)(bh:C.length<=50000000):
  A7 A1 59 #[.pointer (M ⟨mb,0,O⟩),.int .i64 a4] w fun e I=>∃a c,e= .returned (.slice a (wh st).length c)/\I.ownsRow w.heap.size 3 1 (.slice a (wh st).length c) (wh st).length ((wh st).map (A5 .i64))/\td I base mb C/\Kp mb w I/\Ax base w I:=by
 obtain⟨c5,an,bo⟩:=h.ex;have d1:base<=w.heap.size:=by have:=ah an;have:=h.lo;omega
 have ap:=h.lo;obtain⟨n,F⟩:=ay C.length;obtain⟨u,t,rfl⟩:∃u t,c5= .slice (M ⟨u,0,O⟩) n t:=by
  rcases bp bo with⟨hz,_⟩|hz
  ·omega
  ·rw[<-F];exact hz
 have ce:w.cell? ⟨mb,0,O⟩=M (.slice (M ⟨u,0,O⟩) n t):=by rw[aq _ _ _ _ _ _ an];rfl
 have b5:ahh w base mb C st 0 (.slice O 0 0) w:=⟨h,Kp.refl _ _,ag _ _,bc _ _ _ _⟩;have p:=iD F bs bk;have a7:=aw b5;rw[F]at ck bh;obtain⟨cz,cB,cF,cI,c1⟩:=dt rl;clear h bo an b5 F bs bk;go_in;go_wp2_with fail;go_loopw [5,7] (fun b7 a5 wr=>∃(b:Nat),b<=78/\a5= .int .i64 ((b:Int)+1)/\(∃a c,∃c2:Nat,b7= .slice a c2 c)/\A9 (ahh w base mb C st b b7 wr)) (fun _ a5 _=>(79-B2 a5).toNat)
 case atStart=>exact⟨0,aL _,rfl,⟨_,_,_,rfl⟩,a7⟩
 case round=>
  obtain⟨b,dq,rfl,⟨z,A,s,rfl⟩,g⟩:=hrel;clear a7 ce;by_cases ds:b<78
  ·have G:((b:Int)+1)<=78:=by omega
   have r:=xH wr base mb C st a4 ((b:Int)+1) g.out.m p.out.2.1 p.out.2.2 (by omega) G (by rw[p.out.1];exact bh);obtain⟨cb,al⟩:=ay (feedL st ((b:Int)+1));rw[al]at r;obtain⟨b1,a0⟩:=ay cb.2;unfold tg at r;rw[a0]at r;have a6:A9 ((feedL st ((b:Int)+1)).2=b1):=by show _=_;rw[al];exact a0
   obtain⟨m,am⟩:∃m:Int,(b:Int)+1=m:=⟨_,rfl⟩;have K:=aw am;have dk:m<=78:=by omega
   have df:1<=m:=by omega
   rw[am]at r⊢;clear al a0 am G;go_wp2_with fail;refine r.mono ?_;rintro e j ⟨d2,D,rfl,bD,_,cl,p2,a8⟩;obtain⟨c6,x,y⟩:=bD.ex;rw[aH,p.out.1,aai]at y;obtain⟨o,k,rfl⟩:∃u t,c6= .slice (M ⟨u,0,O⟩) (n+D.length) t:=by
    rcases bp y with⟨hz,_⟩|hz
    ·omega
    ·exact hz
   have hcut:=aaj (by rw[aah,p.out.1]) y;have dn:=Fk hcut;have cn:=Fk y;have z0:j.cell? ⟨mb,0,O⟩=M (.slice (M ⟨o,0,O⟩) (n+D.length) k):=by rw[aq _ _ _ _ _ _ x];rfl
   have d6:j.frozen? ⟨mb,0,O⟩=Z:=cC _ _ _ _ _ x;have bE:td (j.setCell ⟨mb,0,O⟩ (.slice (M ⟨o,0,O⟩) n k)) base mb C:=td.put x ap (by rw[p.out.1];exact hcut);obtain⟨d5,bw,_⟩:=g.out.m.ex;have b3:=p2.row bw g.out.row (by decide) (by decide);have b4:(j.setCell ⟨mb,0,O⟩ (.slice (M ⟨o,0,O⟩) n k)).ownsRow w.heap.size 3 1 (.slice z s A) (jH st b).length ((jH st b).map (A5 .i64)):=
    ((Kp.refl mb j).put 0 _).row x b3 (by decide) (by decide)
   have f:A9 (ahh w base mb C st b (.slice z s A) (j.setCell ⟨mb,0,O⟩ (.slice (M ⟨o,0,O⟩) n k))):=
    ⟨bE,(g.out.kp.trans p2).put _ _,(g.out.bl.trans a8).setCell ap _,b4⟩
   have dz:(0:Int)<=(n:Int):=by omega
   have d0:(n:Int)<=(k:Int):=by omega
   obtain⟨c8,cm⟩:=ay (n+D.length);rw[cm]at z0;clear r bD y x hcut bE b3 b4 bw p2 a8 g cl cn;have cr:=ut st b;cases b1 with
   |false=>
    have e:jH st (b+1)=jH st b:=by rw[jH,a6.out,aa (by decide)]
    go_wp2_with fail;refine⟨⟨b+1,by omega,?_,⟨_,_,_,rfl⟩,⟨f.out.m,f.out.kp,f.out.bl,by rw[e];exact f.out.row⟩⟩,?_⟩
    ·have:=K.out;congr 1;push_cast;omega
    ·simp[B2];omega
   |true=>
    have e:jH st (b+1)=jH st b++[(b:Int)+1]:=by rw[jH,a6.out,ab rfl]
    have b8:A9 (jH st (b+1)=jH st b++[m]):=by show _=_;rw[e,K.out]
    obtain⟨cc,cf,ad⟩:=bz f.out.row;cases ad;obtain⟨s,E⟩:=ay ((jH st b).length);have b9:=aw E;rw[E]at cr⊢;have a2:=f.out.row;rw[E]at a2;have q:=aw a2;clear e E a2;have cx:w.heap.size<=(j.setCell ⟨mb,0,O⟩ (.slice (M ⟨o,0,O⟩) n k)).heap.size:=f.out.kp.size;have v:A9 ((j.setCell ⟨mb,0,O⟩ (.slice (M ⟨o,0,O⟩) n k)).heap.size=j.heap.size):=by show _=_;simp[Y]
    go_wp2_with (at_builtin;rw[<-v.out];generalize j.setCell ⟨mb,0,O⟩ (.slice (M ⟨o,0,O⟩) n k)=L at f q cx⊢;refine ng _ rfl _ _ 51 rfl w.heap.size 3 cz _ 1 8 Tryz.underlying51 cB cF cI c1 rfl (by decide) _ _ _ rfl (q.out.alloc _) ⟨L.heap.size,0,O⟩ 1 1 [.int .i64 m] rfl rfl (A2 (cs:=#[.int .i64 m]) (fr:=(0,0)) (aj L _)) (by intro d3 bt;simp at bt;subst bt;rfl) (by unfold B0;omega) (by omega) (by simp;omega) ?_;intro d4 J ar l ct;obtain⟨ch,cg,rfl⟩:=A4 ar);obtain⟨c7,bx,br⟩:=f.out.m.ex;have bn:∀d,(A3 z s A).ownBlock=M d->w.heap.size<=d:=fun d i=>(q.out.lt d i).1;have a1:∀(d:Nat)(cs:Array A0)(H:B1)(fr:Nat×Nat),L.heap[d]?=M (.cells cs H fr)->H≠3->J.heap[d]?=M (.cells cs H fr):=fun d cs H fr i G=>by
     refine(l.block d (by simp;have:=ah i;omega) (fun e=>?_)).trans ((bm _ _ _ (ah i)).trans i);have B:(A3 z s A).ownBlock=M d:=e.symm;rcases q.out.2 with⟨ak,_⟩|⟨af,bb,bd,ak,_,v,_⟩
     ·rw[ak]at B;simp[U]at B
     ·rw[ak]at B;obtain rfl:af=d:=by simpa [U] using B
      rw[i]at v;simp only[dr,gE]at v;exact G v.2.1
    have bA:Kp mb w J:=⟨l.os.trans f.out.kp.os,l.tape.trans f.out.kp.tape,l.output.trans f.out.kp.output,by have:=l.size;simp at this;omega,fun d i cw ao=>
     (l.block d (by simp;omega) (fun e=>by have:=bn d e.symm;omega)).trans ((bm _ _ _ (by omega)).trans (f.out.kp.block d i cw ao))⟩
    have b0:td J base mb C:=by
     refine⟨⟨c7,a1 _ _ _ _ bx (by decide),?_⟩,ap⟩;obtain⟨c3,a3⟩:=br;refine⟨c3,?_⟩;rcases a3 with a3|⟨af,bb,bd,cy,cq,ao,c4⟩
     ·exact .inl a3
     ·exact .inr ⟨af,bb,bd,cy,cq,a1 _ _ _ _ ao (by decide),c4⟩
    have b6:ahh w base mb C st (b+1) (.slice (M ⟨ch,0,O⟩) (s+1) cg) J:=by
     refine⟨b0,bA,?_,?_⟩
     ·exact(f.out.bl.alloc (by omega) _).grown l (by simp;omega) (fun d i=>by have:=(q.out.lt d i).1;omega)
     ·rw[b8.out,aH,b9.out,ee];exact ar
    have ca:=aw b6;clear b6 b0 bA bx br bn a1 ar l ct f q;refine⟨⟨b+1,by omega,?_,⟨_,_,_,rfl⟩,ca⟩,?_⟩
    ·have:=K.out;congr 1;push_cast;omega
    ·simp[B2];omega
  ·obtain rfl:b=78:=by omega
   obtain⟨cc,cf,ad⟩:=bz g.out.row;cases ad;go_wp2_with fail;go_ret;exact⟨_,_,rfl,g.out.row,g.out.m,g.out.kp,g.out.bl⟩
theorem ahi:(Tryz.prog.info? 146).map (fun i=>(i.zero,i.size,i.bytes))=M (M (V .u8 0),1,1):=by kernel_rfl
def cSy(st:List Int):List A0:=st.reverse.map (A5 .u8)
theorem Ib(a:Int)(st:List Int):cSy (a::st)=cSy st++[V .u8 a]:=by simp[cSy]
theorem Fl(st:List Int):(cSy st).length=st.length:=by simp[cSy]
structure Db (W:T) (base gb:Nat) (mv:A0) (st:List Int):Prop where
 ex:∃v,W.heap[gb]?=M (.cells #[mv,v] 144 (0,0))/\W.ownsRow base 146 1 v st.length (cSy st)
 lo:base<=gb
theorem Db.below{W a:T}{base b:Nat}{e:A0}{st:List Int}(h:Db W base b e st)(d:Ax W.heap.size W a):Db a base b e st:=by
 obtain⟨g,c,f⟩:=h.ex;exact⟨⟨g,(d.block _ (ah c)).trans c,aE f d⟩,h.lo⟩
structure Gp (gb:Nat) (w w':T):Prop where
 os:w'.os=w.os
 tape:w'.tape=w.tape
 output:w'.output=w.output
 size:w.heap.size<=w'.heap.size
 block:∀k,k<w.heap.size->k≠gb->(∀cs fr,w.heap[k]?≠M (.cells cs 146 fr))->w'.heap[k]?=w.heap[k]?
theorem Gp.refl(a:Nat)(w:T):Gp a w w:=⟨rfl,rfl,rfl,ae _,fun _ _ _ _=>rfl⟩
theorem Gp.trans{a:Nat}{x f z:T}(h:Gp a x f)(k:Gp a f z):Gp a x z:=
 ⟨k.os.trans h.os,k.tape.trans h.tape,k.output.trans h.output,bF h.size k.size,fun e c d b=>
  (k.block e (eF c h.size) d (fun g i=>by rw[h.block e c d b];exact b g i)).trans (h.block e c d b)⟩
theorem Gp.of_below{b:Nat}{w a:T}(h:Ax w.heap.size w a):Gp b w a:=⟨h.os,h.tape,h.output,h.size,fun d c _ _=>h.block d c⟩
theorem Db.put{W:T}{base a:Nat}{g j:A0}(f:W.heap[a]?=M (A8 #[g,j] 144 (0,0)))(lo:base<=a){v:A0}{st:List Int}(d:W.ownsRow base 146 1 v st.length (cSy st)):Db (W.setCell ⟨a,1,O⟩ v) base a g st:=by
 refine⟨⟨v,bi _ a 1 _ _ _ f,?_⟩,lo⟩;refine d.kept (row:=M a) ⟨rfl,rfl,rfl,by simp[Y],fun q p i=>aD _ _ _ _ (fun b=>i (by rw[b]))⟩ ?_;rcases bp d with⟨_,rfl⟩|⟨h,k,rfl⟩
 ·exact .inl rfl
 ·refine .inr ?_;intro b;obtain rfl:h=a:=by simpa [U] using b
  rcases d.2 with⟨c,_⟩|⟨o,l,m,c,_,e,_⟩
  ·cases c
  ·cases c;rw[f]at e;cases e
theorem yF(w:T)(base b:Nat)(r:A0)(st:List Int)(a:Int)(h:Db w base b r st)(af:st.length<=100000000):
  A7 A1 69 #[.pointer (M ⟨b,1,O⟩),.int .u8 a] w fun e A=>e= .returned (.tuple #[])/\Db A base b r (a::st)/\Gp b w A/\Ax base w A:=by
 obtain⟨a6,g,i⟩:=h.ex;have B:=h.lo;obtain⟨n,z⟩:=ay st.length;rw[z]at i af;obtain⟨k,l,rfl⟩:=bz i;obtain⟨an,ao,ap,ar,a0⟩:=dt ahi;have ak:=ah g;have a3:b≠w.heap.size:=by omega
 have a1:w.cell? ⟨b,1,O⟩=M (.slice k n l):=by rw[aq _ _ _ _ _ _ g];rfl
 have C:∀f,(A3 k n l).ownBlock=M f->f≠b/\base<=f:=fun f m=>by
  refine⟨?_,(i.lt f m).1⟩;rintro rfl;rcases i.2 with⟨c,_⟩|⟨u,H,I,c,_,v,_⟩
  ·rw[c]at m;simp[U]at m
  ·rw[c]at m;obtain rfl:u=f:=by simpa [U] using m
   rw[v]at g;cases g
 have p:=iD i g z;clear i g z h;go_in;go_wp2_with (at_builtin;refine ng _ rfl _ _ 140 rfl base 146 an _ 1 1 Tryz.underlying140 ao ap ar a0 rfl (by decide) _ _ _ rfl (p.out.1.alloc _) ⟨w.heap.size,0,O⟩ 1 1 [.int .u8 a] rfl rfl (A2 (cs:=#[.int .u8 a]) (fr:=(0,0)) (aj w _)) (by intro a5 F;simp at F;subst F;rfl) (by unfold B0;omega) (by omega) (by simp;omega) ?_;intro a7 j E d a4;obtain⟨t,s,rfl⟩:=A4 E;have x:j.heap[b]?=M (.cells #[r,.slice k n l] 144 (0,0)):=(d.block b (by simp;omega) (fun e=>(C b e.symm).1 rfl)).trans ((bm _ _ _ ak).trans p.out.2.1);have a8:j.cell? ⟨b,1,O⟩=M (.slice k n l):=(by rw[aq _ _ _ _ _ _ x];rfl);have a2:j.frozen? ⟨b,1,O⟩=Z:=cC _ _ _ _ _ x);have am:=d.size;rw[aF]at am;have L:Db (j.setCell ⟨b,1,O⟩ (.slice (M ⟨t,0,O⟩) (n+1) s)) base b r (a::st):=Db.put x B (by rw[bv,p.out.2.2,Ib];exact E);have K:Gp b w (j.setCell ⟨b,1,O⟩ (.slice (M ⟨t,0,O⟩) (n+1) s)):=by
  refine⟨d.os,d.tape,d.output,by simp[Y];omega,fun o y al ad=>?_⟩;rw[aD _ _ _ _ al];refine(d.block o (by simp;omega) (fun e=>?_)).trans (bm _ _ _ y);have q:(A3 k n l).ownBlock=M o:=e.symm;rcases p.out.1.2 with⟨c,_⟩|⟨u,H,I,c,_,v,_⟩
  ·rw[c]at q;simp[U]at q
  ·rw[c]at q;obtain rfl:u=o:=by simpa [U] using q
   exact ad _ _ v
 have J:Ax base w (j.setCell ⟨b,1,O⟩ (.slice (M ⟨t,0,O⟩) (n+1) s)):=by
  have G:Ax base w (w.alloc (.cells #[.int .u8 a] 146)):=(ag _ w).alloc (by omega) _;exact(G.grown d (by simp;omega) (fun o y=>(C o y).2)).setCell B _
 go_end0
 exact⟨rfl,L,K,J⟩
theorem Ic(w:T)(base b:Nat)(j:A0)(st:List Int)(a:Int)(h:Db w base b j (a::st))(p:st.length<=100000000):
  A7 A1 132 #[Bs (M ⟨b,1,O⟩)] w fun e k=>e= .returned (V .u8 a)/\Db k base b j st/\Gp b w k/\Ax base w k:=by
 obtain⟨E,f,d⟩:=h.ex;have m:=h.lo;obtain⟨n,c⟩:=ay st.length;rw[bv,Ib,c]at d;rw[c]at p;obtain⟨i,g,rfl⟩:=A4 d;have hcut:=aaj (by rw[Fl,c,rj]) d;have x:=Fk d;have r:w.cell? ⟨b,1,O⟩=M (A6 (M ⟨i,0,O⟩) (n+1) g):=by rw[aq _ _ _ _ _ _ f];rfl
 have s:w.cell? ⟨i,n,O⟩=M (V .u8 a):=by
  rw[d.cellAt n (by omega),fJ (by rw[Fl];omega),Fl,c,eB];rfl
 have u:w.frozen? ⟨b,1,O⟩=Z:=cC _ _ _ _ _ f;have l:Db (w.setCell ⟨b,1,O⟩ (A6 (M ⟨i,0,O⟩) n g)) base b j st:=Db.put f m (by rw[c];exact hcut);have o:=aw l;have t:((n+1:Nat):Int)-1=(n:Int):=by omega
 have z:(0:Int)<=(n:Int):=by omega
 have A:(n:Int)<(n:Int)+1:=by omega
 have B:(n:Int)<=(g:Int):=by omega
 clear h d hcut l f c;go_in;go_wp2_with fail;go_ret;refine⟨rfl,o.out,⟨rfl,rfl,rfl,by simp[Y],fun C y q v=>aD _ _ _ _ q⟩,(ag _ w).setCell m _⟩
