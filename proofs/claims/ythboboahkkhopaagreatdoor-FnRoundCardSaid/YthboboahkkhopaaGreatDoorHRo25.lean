import Derived.Test.YthboboahkkhopaaGreatDoorHRo22
import Derived.Test.YthboboahkkhopaaGreatDoorHRo24
set_option linter.all false
set_option maxRecDepth 100000
set_option maxHeartbeats 25600000
open Go.Value renaming slice->O,int->Z,string->A2,ownBlock->A5,int->A9
open Option renaming none->U,some->Y
open Go.IntKind renaming i64->V
open Go.Obj renaming cells->Ax
open Go.RowKit renaming intOf->A0,Below->B0
namespace Go.Proofs.YthboboahkkhopaaGreatDoor
open Go.RowKit Go.Maps Go.WideMaps
variable{Br:Int->ByteArray->ByteArray}{F:Fo}{L ns:List Nd}{N:Nd}{T:ByteArray}{b ce d k m me s z:Int}{c:Cr}{f:FuncId}{i:Nat}{ks:List Int}{l:List Wt}{ts:List Tk}
def ajm(d:Jl ns)(p:∀i:Nat,i<ns.length->C9 (ab ns i)):∀(f i tab:Nat),i<f->i<ns.length->
  (fy (ab ns i).k=true->FC ns i (qv ns f i tab))/\(eA (ab ns i).k=true->SCl ns i (pI ns f i tab))/\((ab ns i).k=7->∃y,BCl ns i y/\∀w,sr ns f i w tab=w++y)
 |0,i,tab,r,_=>by omega
 |f+1,i,tab,r,l=>by
  have m:=λ(b g:Nat) (e:b<i) (c:b<ns.length)=>ajm d p f b g (by omega) c;have n:JzE ns (λk=>qv ns f k tab) (λk g=>pI ns f k g) i tab:=⟨λb e c a=>(m b tab e c).1 a,λb e c a=>(m b (tab+1) e c).2.1 a,p⟩;have o:(ab ns i).k=7->∃y,BCl ns i y/\∀w,wj ns (λk=>qv ns f k tab) (λk g=>pI ns f k g) (λk w=>sr ns f k w tab) (ab ns i) w tab=w++y:=λa=>
   asy n d l a λb e c a=>(m b tab e c).2.2 a
  refine⟨λa=>?_,λa=>?_,λa=>?_⟩
  .rw[qv];exact aoC n d l a
  .rw[pI];exact aoD n d l a λq=>by
    have⟨y,h,j⟩:=o q;exact⟨y,h,j _⟩
  .obtain⟨y,h,j⟩:=o a;exact⟨y,h,λw=>by rw[sr];exact j w⟩
def aa0(l:List Wt)(F:Fo):Prop:=∀(c:Nat->Tk)(b a:Nat),a<b->qc c b 0 l a->(c a).k=6->∃d:Fo,d.bare=F/\P c b .stats 0 d a/\DD c b [100,6] 0 (a+1)
def ajn:aa0 [] .nil:=λf e d b c a=>by
 obtain rfl:=c.nils;exact⟨.nil,rfl,.sstop (.inr a) b,DD.exp a (by decide:xE 100 6=([],true)) b (DD.tok a b ⟨0,.nil⟩)⟩
inductive StL:List Wt->List (List Wt×Fo)->Prop where
 |nil:StL [nlW] []
 |cons {l m:List Wt}{F:Fo}{cs:List (List Wt×Fo)}:FA l F->StL m cs->StL (nlW::(l++m)) ((l,F)::cs)
inductive Rts:List Wt->List (List Wt×Fo)->Prop where
 |nil:Rts [] []
 |cons {l m:List Wt}{F:Fo}{cs:List (List Wt×Fo)}:FA l F->StL m cs->Rts (l++m) ((l,F)::cs)
def csF:List (List Wt×Fo)->Fo
 |[]=> .nil
 |x::r=>x.2.app (csF r)
def StL.slc{m:List Wt}{cs:List (List Wt×Fo)}(h:StL m cs):SLc m (csF cs):=by
 induction h with
 |nil=>exact SLc.nil
 |cons a c b=>exact SLc.cons a b
def Rts.root{cs:List (List Wt×Fo)}(h:Rts l cs):aa0 l (csF cs):=by
 cases h with
 |nil=>exact ajn
 |cons a b=>exact an8 a b.slc
def Hj{S:Int->ByteArray}:∀(ks:List Int),(∀z∈ks,∃y:Nat,z=(y:Int)/\SCl ns y (S y))->∃m cs,jw qj (⟨#[10]⟩++gC (ks.map λk=>S k++⟨#[10]⟩)) m/\StL m cs/\csF cs=pj (Sh ns) ks/\(cst m:Int)<=wK ns ks+11
 |[],_=>⟨[nlW],[],adF,.nil,rfl,by show(11:Int)<=0+11;decide⟩
 |z::r,h=>by
  obtain⟨y,rfl,l,b,c,d,i⟩:=h z bq;obtain⟨m,cs,e,f,g,j⟩:=Hj r λy a=>h y (dr _ a);refine⟨nlW::(l++m),_,?_,.cons d f,by rw[csF,g];rfl,by simp only[cst,lu,wt,sgF,xk,nlW,Int.reduceLT,reduceIte];rw[wK];omega⟩;rw[dv,EJ,aK];exact adF.app (c.app e ay Cm) (ay b) rfl
def alH(h:(eG ns).1=0)(p:∀i:Nat,i<ns.length->C9 (ab ns i)):
  ∃l cs,Rz (fa ns) 0 l (fa ns).size/\Rts l cs/\csF cs=pj (Sh ns) (ab ns ((ns.length:Int)-1)).ks/\(cst l:Int)<=Wp ns ns.length:=by
 have b:=A8 h;have C:=b.len;have n:((ns.length:Int)-1)=((ns.length-1:Nat):Int):=by omega
 have g:=(JA h).2.2;have k:=b.root;unfold fa;rw[n]at g k⊢;rw[<-k,b.at_ (ns.length-1) (by omega)];have G:=xD (ab ns ((ns.length-1:Nat):Int));have q:=(jg (b.nb (ns.length-1) (by omega))).1;have c:∀d∈(ab ns ((ns.length-1:Nat):Int)).ks,∃a:Nat,d=(a:Int)/\SCl ns a (pI ns ns.length a 0):=λd c=>by
  obtain⟨a,rfl,z,f,s,B,o⟩:=pm b (by omega) c;have j:=Ey _ 0 (tD q g) s (by omega) (by omega);rw[o]at j;exact⟨a,rfl,(ajm b p ns.length a 0 f f).2.1 j⟩
 cases er:(ab ns ((ns.length-1:Nat):Int)).ks with
 |nil=>
  exact⟨[],[],.nil,.nil,rfl,by simp only[cst,wK];omega⟩
 |cons d m=>
  rw[er]at c;obtain⟨a,rfl,l,E,t,u,F⟩:=c d bq;obtain⟨v,cs,w,x,y,H⟩:=Hj (S:=λe=>pI ns ns.length e 0) m λa r=>c a (dr _ r);refine⟨l++v,_,?_,.cons u x,by rw[csF,y];rfl,by rw[lu,wK];omega⟩;rw[dv,EJ,aK];have:=(t.app w ay Cm) (pI ns ns.length a 0++(⟨#[10]⟩++gC (m.map λe=>pI ns ns.length e 0++⟨#[10]⟩))) 0 ⟨by omega,λi A=>by rw[gu]⟩ rfl;rw[gu]at this;exact this
inductive Kd:List Wt->List Wt->Prop where
 |nil:Kd [] []
 |tok {t:Wt}{l e:List Wt}:t.k≠7->Kd l e->Kd (t::l) (t::e)
 |sep {t u:Wt}{l e:List Wt}:t.k=7->u.k=7->Kd l e->Kd (t::l) (u::e)
 |more {t u:Wt}{l e:List Wt}:t.k=7->u.k=7->Kd (t::l) e->Kd (t::l) (u::e)
def Kd.refl:∀(l:List Wt),Kd l l
 |[]=> .nil
 |t::l=>by
  by_cases h:t.k=7
  .exact .sep h h (Kd.refl l)
  .exact .tok h (Kd.refl l)
def Kd.seg{e:List Wt}(h:Kd l e):∀{tk:Nat->Tk}{n i:Nat},i+e.length<=n->(∀q t,e[q]?=Y t->(tk (i+q)).k=Gf t/\(t.k≠7->(tk (i+q)).n=t.n/\(tk (i+q)).x=t.x))->qc tk n i l (i+e.length):=by
 induction h with
 |nil=>intro tk n i _ _;exact .nil
 |@tok t l e b m j=>
  intro tk n i f c;rw[bB]at f⊢;have⟨a,d⟩:=c 0 t rfl;rw[iz]at a d;unfold Gf at a;rw[aa b]at a;have:=j (tk:=tk) (n:=n) (i:=i+1) (by omega) λq t g=>by have:=c (q+1) t g;rw[show i+1+q=i+(q+1) by omega];exact this
  rw[show i+(e.length+1)=i+1+e.length by omega];exact .tok b a (d b).1 (d b).2 (by omega) this
 |@sep t o l e b m p j=>
  intro tk n i f c;rw[bB]at f⊢;have⟨a,d⟩:=c 0 o rfl;rw[iz]at a d;unfold Gf at a;rw[ae m]at a;have:=j (tk:=tk) (n:=n) (i:=i+1) (by omega) λq t g=>by have:=c (q+1) t g;rw[show i+1+q=i+(q+1) by omega];exact this
  rw[show i+(e.length+1)=i+1+e.length by omega];exact .sep b a (by omega) this
 |@more t o l e b m p j=>
  intro tk n i f c;rw[bB]at f⊢;have⟨a,d⟩:=c 0 o rfl;rw[iz]at a d;unfold Gf at a;rw[ae m]at a;have:=j (tk:=tk) (n:=n) (i:=i+1) (by omega) λq t g=>by have:=c (q+1) t g;rw[show i+1+q=i+(q+1) by omega];exact this
  rw[show i+(e.length+1)=i+1+e.length by omega];exact .more b a (by omega) this
def arf{w c:ByteArray}{n:Int}(h:Alo w k n c):1<=k/\k<=78/\k≠6:=by
 have b:=ad1 w 0 h.ok;have a:=ad2 w 0 h.ok;unfold zH at a;rw[ae h.ok]at a;rw[h.ki]at b a;exact⟨b.1,b.2,a⟩
def atc{p g:Nat}{us:List Tk}(h:Ge T p l us g):∀t∈l,1<=Gf t/\Gf t<=78/\Gf t≠6:=by
 induction h with
 |nil=>intro t f;cases f
 |bl b c a=>exact a
 |rem b c d a=>exact a
 |tok b c d i j k _ _ _ m a=>
  intro e hu;rcases List.mem_cons.1 hu with rfl|hu
  .unfold Gf;rw[aa b];exact arf d
  .exact a e hu
 |sep b c _ d a=>
  intro e hu;rcases List.mem_cons.1 hu with rfl|hu
  .decide
  .exact a e hu
def Ge.at_{p z:Nat}{e:List Wt}(h:Ge T p e ts z):ts.length=e.length/\∀(q:Nat) t,e[q]?=Y t->∃X:Tk,ts[q]?=Y X/\X.k=Gf t/\(t.k≠7->X.n=t.n/\X.x=t.x):=by
 induction h with
 |nil=>exact⟨rfl,λq t h=>by simp at h⟩
 |bl _ _ a=>exact a
 |rem _ _ _ a=>exact a
 |@tok _ _ _ t m X ts d i f r s u j l v _ a=>
  refine⟨by simp[a.1],λq c b=>?_⟩;cases q with
  |zero=>
   obtain rfl:t=c:=by simpa using b
   exact⟨X,rfl,by unfold Gf;rw[aa d];exact j,λ_=>l⟩
  |succ q=>exact a.2 q c (by simpa using b)
 |@sep _ _ m o X ts d i f _ a=>
  refine⟨by simp[a.1],λq c b=>?_⟩;cases q with
  |zero=>
   obtain rfl:nlW=c:=by simpa using b
   exact⟨X,rfl,f,λg=>absurd rfl g⟩
  |succ q=>exact a.2 q c (by simpa using b)
def Bj(T:ByteArray)(a:Int):Tk:=⟨6,(T.size:Nat),(T.size:Nat),a,0,⟨#[]⟩⟩
def J1{X E:Tk}{a:Nat}(h:ts[a]?=Y X):xH (ts++[E]) a=X:=Be (by rw[gq (List.getElem?_eq_some_iff.1 h).1];exact h)
def J2(ts:List Tk)(E:Tk):xH (ts++[E]) ts.length=E:=Be (by rw[dE (af _),fH];rfl)
def arh{e:List Wt}{us:List Tk}(o:Ge T 0 e us T.size)(j:Kd l e)(J:aa0 l F):∃ts c d,rD T=(ts++[Bj T c],d, -1)/\(dz d 6).2=true/\Ge T 0 e ts T.size/\(∀X∈ts,X.k≠6)/\Smp us ts/\ts.length=e.length/\∀q t,e[q]?=Y t->(xH (ts++[Bj T c]) q).k=Gf t/\(t.k≠7->(xH (ts++[Bj T c]) q).n=t.n/\(xH (ts++[Bj T c]) q).x=t.x):=by
 have m:=atc o;obtain⟨f,s⟩:∃f:List Tk,f=e.map λt=>(⟨Gf t,0,0,0,t.n,t.x⟩:Tk):=⟨_,rfl⟩;have ad:f.length=e.length:=by rw[s,bC]
 have p:∀q t,e[q]?=Y t->xH (f++[Bj T 0]) q=⟨Gf t,0,0,0,t.n,t.x⟩:=λq t b=>J1 (by rw[s,ci,b];rfl);have r:xH (f++[Bj T 0]) e.length=Bj T 0:=by rw[<-ad];exact J2 _ _
 have u:=j.seg (tk:=xH (f++[Bj T 0])) (n:=e.length+1) (i:=0) (by omega) λq t b=>by rw[gu,p q t b];exact⟨rfl,λ_=>⟨rfl,rfl⟩⟩
 rw[gu]at u;obtain⟨_,_,_,ak,y⟩:=J _ _ _ (Nat.lt_succ_self _) u (by rw[r];rfl);obtain⟨ap,h⟩:=amK (e.map Gf++[6]) [100,6] 0 ak _ y (by simp) (λx j=>by simp at j;omega) λq k a=>by
  rw[gu];rcases bI q e.length with g|g
  .rw[gq (by rw[bC];exact g),ci,az g]at a;obtain rfl:Gf e[q]=k:=by simpa using a
   rw[p q e[q] (az g)];have:=m e[q] (iB g);exact⟨rfl,this.1,this.2.1⟩
  .rw[dE (by rw[bC];exact g),bC]at a;have B:q-e.length=0:=by
    rcases nK (q-e.length) with z|z
    .exact z
    .rw[jp (by simp;omega)]at a;cases a
   rw[B]at a;obtain rfl:(6:Int)=k:=by simpa using a
   rw[show q=e.length by omega,r];exact⟨rfl,by decide,by decide⟩
 rw[ad7]at h;cases hf:fdK [100,6] (e.map Gf) with
 |none=>rw[hf]at h;cases h
 |some d=>
  rw[hf]at h;have H:(dz d 6).2=true:=by
   by_cases g:(dz d 6).2=true
   .exact g
   .simp[fdK,g]at h
  have⟨ts,c,L,b,K⟩:=alt o hf;have⟨al,v⟩:=b.at_;refine⟨ts,c,d,L,H,b,λX I=>?_,K,al,λq t a=>?_⟩
  case refine_2=>
   have⟨X,C,E,G⟩:=v q t a;rw[J1 C];exact⟨E,G⟩
  have⟨q,a,A⟩:=iw I;obtain⟨ao,w,an,_⟩:=v q e[q] (az (by omega));rw[az a,A]at w;obtain rfl:=bz w;rw[an];exact(m _ (iB _)).2.2
def ajo{e:List Wt}(c:Rz T 0 e T.size)(f:Kd l e)(d:aa0 l F):∃ts a b,rD T=(ts++[Bj T a],b, -1)/\(dz b 6).2=true/\Ge T 0 e ts T.size/\(∀X∈ts,X.k≠6)/\∃X:Fo,X.bare=F/\P (xH (ts++[Bj T a])) (ts.length+1) .stats 0 X ts.length:=by
 have⟨w,c⟩:=c.tks;have⟨ts,a,b,h,j,m,o,_,p,q⟩:=arh c f d;refine⟨ts,a,b,h,j,m,o,?_⟩;have g:=f.seg (tk:=xH (ts++[Bj T a])) (n:=ts.length+1) (i:=0) (by omega) λu v t=>by rw[gu];exact q u v t
 rw[gu,<-p]at g;obtain⟨X,s,r,_⟩:=d _ _ _ (Nat.lt_succ_self _) g (by rw[J2];rfl);exact⟨X,s,r⟩
section
variable {T A x y : ByteArray} {p : Nat} {o : Bool}
end
def ajp{n:Nat}(h:TkO n ts){a r:Nat}(c:a<=r)(b:r<ts.length):0<=(xH ts a).f/\(xH ts a).f<=(xH ts r).t/\0<=(xH ts a).l:=by
 rw[Be (az (show a<ts.length by omega)),Be (az b)];have d:=h.each ts[a] (iB _);have e:=h.each ts[r] (iB _);rcases jz c with rfl|g
 .omega
 .have:=(List.pairwise_iff_getElem.1 h.next) a r (by omega) b g;omega
structure Gt (l:List Wt) (F:Fo) (ns:List Nd):Prop where
 rt:∃cs,Rts l cs/\csF cs=F
 ok:(eG ns).1=0
 bk:∀(y:ByteArray)(X:Fo),X.bare=F->(nsF y X).map Nd.bk=ns.map Nd.bk
def Gt.rc(g:Gt l F ns):aa0 l F:=by
 obtain⟨b,a,rfl⟩:=g.rt;exact a.root
def apf(f:∀N∈ns,C9 N)(n:Wp ns ns.length<=65536)(h:(eG ns).1=0):∃l F,Gt l F ns/\cst l<=65536/\Rz (fa ns) 0 l (fa ns).size:=by
 have a:=A8 h;have p:=a.len;obtain⟨l,d,j,g,e,o⟩:=alH h λq i=>f _ (by unfold ab;rw[ix,List.getD,az i];exact iB _);refine⟨l,_,⟨⟨d,g,e⟩,h,λr m b=>?_⟩,by omega,j⟩;have k:=(jg (a.nb (ns.length-1) (by omega))).1;have c:=(JA h).2.2;rw[show((ns.length:Int)-1)=((ns.length-1:Nat):Int) by omega]at b c;unfold nsF;rw[<-Bf,dl,b,<-alv h,rB a (by omega),zF k,c];rfl
section
variable {l e : List Wt} {F : Fo} {ns : List Nd} {s y : ByteArray}
def Gt.acc(g:Gt l F ns)(d:Rz y 0 e y.size)(c:Kd l e):Acc y:=by
 have⟨i,f,h,a,b,_⟩:=ajo d c g.rc;exact⟨by rw[a],by rw[a];exact b⟩
def Gt.outV(g:Gt l F ns)(k:y.size<=65536)(n:Rz y 0 e y.size)(j:Kd l e):∃ms,afF y ms/\ms.map Nd.bk=ns.map Nd.bk:=by
 have⟨p,o,C,m,r,z,u,a,t,f⟩:=ajo n j g.rc;have h:afE y=(p++[Bj y o], -1):=by unfold afE;rw[m,aa (by simp),ae r]
 have F:=aqC k m (by simp) (J2 p (Bj y o)) f λx b=>by rw[J1 (az b)];exact u _ (iB _)
 have d:=aqH y;rw[h]at d;have v:=(P.pl (λx B b w=>ajp d b (by simpa using w)) f).2 trivial;have i:=g.bk y a t;exact⟨_,⟨_,_,a,_,k,g.acc n j,h,F,alw i g.ok λc s=>(Dh Pln (λc A q=>q) _ 0 ((cH _ _ a).2 ⟨⟨Int.le_refl 0,by show(0:Int)<=(y.size:Nat);omega,by show(0:Int)<=1;decide⟩,v⟩) c s).1,rfl⟩,i⟩
end
def Ad(ns:List Nd)(i:Int):ab (ns.map Nd.bk) i=(ab ns i).bk:=by
 unfold ab;rw[aD,aD,ci];cases ns[i.toNat]?<;>rfl
section
variable (ns : List Nd) (E : Int → ByteArray) (S : Int → Nat → ByteArray) (Br : Int → ByteArray → ByteArray) (N : Nd) (w : ByteArray) (tab : Nat)
def alI(k least:Int):iL (ns.map Nd.bk) E k least=iL ns E k least:=by unfold iL;rw[Ad];rfl
def ari(k:Int):El (ns.map Nd.bk) E k=El ns E k:=by unfold El;rw[Ad];rfl
def apg(X:Nd):sj (ns.map Nd.bk) E X.bk=sj ns E X:=rfl
def aph:prE (ns.map Nd.bk) E S N.bk tab=prE ns E S N tab:=by
 unfold prE AL unB unS abI zu;simp only[alI,ari,Ad,apg];rfl
def aer:wj (ns.map Nd.bk) E S Br N.bk w tab=wj ns E S Br N w tab:=by
 unfold wj;simp only[Ad];rfl
def api:prS (ns.map Nd.bk) E S Br N.bk tab=prS ns E S Br N tab:=by
 unfold prS zu;simp only[Ad];rfl
end
def arj(ns:List Nd):∀f,(∀i tab,qv (ns.map Nd.bk) f i tab=qv ns f i tab)/\(∀i tab,pI (ns.map Nd.bk) f i tab=pI ns f i tab)/\∀i w tab,sr (ns.map Nd.bk) f i w tab=sr ns f i w tab:=by
 intro f
 induction f with
 |zero=>exact⟨λ_ _=>rfl,λ_ _=>rfl,λ_ _ _=>rfl⟩
 |succ f d=>
  obtain⟨a,b,c⟩:=d;refine⟨λi tab=>?_,λi tab=>?_,λi w tab=>?_⟩
  .rw[qv,qv,Ad,aph];simp only[a,b]
  .rw[pI,pI,Ad,api];simp only[a,b,c,aer]
  .rw[sr,sr,Ad,aer];simp only[a,b,c]
def Hk(ns:List Nd):fa (ns.map Nd.bk)=fa ns:=by
 unfold fa;rw[bC,Ad];simp only[(arj ns _).2.1];rfl
def af2(h:eG ns=(0,0))(g:1<ns.length):(ab ns ((ns.length:Int)-1)).ks≠[]:=by
 have f:=ajg h;obtain⟨a,b⟩:∃a,ns[ns.length-1]?=Y a:=⟨_,az (by omega)⟩;have d:ab ns ((ns.length:Int)-1)=a:=by
  unfold ab;rw[show((ns.length:Int)-1).toNat=ns.length-1 by omega,aD,b];rfl
 rw[d];intro e;have c:=f.l;rw[ai8 b,e]at c;simp[oy,qF]at c;omega
def alJ{l:List ByteArray}(h:l≠[])(c:∀x∈l,0<x.size):0<(gC l).size:=by
 have e:∀(l:List ByteArray)(a:ByteArray),a.size<=(l.foldl (· ++·) a).size:=by
  intro l
  induction l with
  |nil=>exact λa=>af _
  |cons x b d=>intro a;have:=d (a++x);rw[aq]at this;rw[jd];omega
 match l,h with
 |x::b,_=>
  have:=e b (ByteArray.empty++x);have:=c x (by simp);rw[aq]at *;unfold gC;rw[jd];omega
def ajq(h:eG L=(0,0))(a:(fa L).size<=65536):sy L=fa L:=by unfold sy abJ;rw[ae (by rw[h]),aa (by omega)]
def alK(c:∀N∈L,C9 N)(d:Wp L L.length<=65536)(h:eG L=(0,0))(i:(fa L).size<=65536):∃ms,afF (fa L) ms/\ms.map Nd.bk=L.map Nd.bk/\fa ms=fa L/\(1<L.length->(fa L).size≠0):=by
 obtain⟨j,l,b,_,f⟩:=apf c d (by rw[h]);obtain⟨ms,k,a⟩:=b.outV i f (Kd.refl j);refine⟨ms,k,a,by rw[<-Hk ms,a,Hk],λe=>?_⟩;unfold fa;exact Nat.pos_iff_ne_zero.1 (alJ (by simpa using af2 h e) λn g=>by
  obtain⟨m,_,rfl⟩:=List.mem_map.1 g;rw[aq];exact iu (by decide:0<1) (Nat.le_add_left _ _))
def J3:∀F:Fo,F.bare.bd=F.bd
 | .nil=>rfl
 | .cons N k r=>by rw[Fo.bare,Fo.bd,Fo.bd,J3 k,J3 r];rfl
def ajr:∀a c:Fo,(a.app c).bd=max a.bd c.bd
 | .nil,c=>(Nat.zero_max _).symm
 | .cons N k r,c=>by rw[Fo.app,Fo.bd,Fo.bd,ajr r c,Nat.max_assoc]
def ajs(g:Int->Fo):∀(ks:List Int)(z:Int),z∈ks->(g z).bd<=(pj g ks).bd
 |k::r,z,h=>by
  rw[pj,ajr];rcases List.mem_cons.1 h with rfl|h
  .exact Nat.le_max_left _ _
  .exact di (ajs g r z h) (Nat.le_max_right _ _)
def alL(h:ns[i]?=Y N):ab ns (i:Int)=N:=by
 unfold ab;rw[ix,aD,h];rfl
def ajt(d:Jl ns):∀(F:Fo)(b:Nat),(∀j,j<(F.flat b).length->ns[b+j]?=(F.flat b)[j]?)->pj (Sh ns) (F.tops b)=F.bare
 | .nil,b,_=>rfl
 | .cons N k r,b,h=>by
  obtain⟨f,a,e⟩:=Fg (A:=k.flat b) (B:=r.flat (b+k.sz+1)) rfl h;rw[k.flat_len]at a e;have c:=rB d (i:=b+k.sz) (List.getElem?_eq_some_iff.1 a).1;rw[alL a,ajt d k b f]at c;rw[Fo.tops,pj,c,ajt d r _ e];rfl
structure Tz (ns:List Nd):Prop where
 d:Tzd ns
 w:Jl ns
 b:∀i:Nat,i<ns.length->C9 (ab ns i)
def J4(d:Jl ns)(a:i<ns.length)(b:z∈(ab ns i).ks):(Sh ns z).bd+(if(ab ns i).k=1 then 1 else 0)<=(Sh ns i).bd:=by
 have c:=ajs (Sh ns) _ z b;rw[rB d a];show _<=max ((pj (Sh ns) (ab ns i).ks).bd+if(ab ns i).k=1 then 1 else 0) 0;omega
def al0{F:Int->Nat}{d:Nat}(a:d<=32):∀{ls:List Int},(∀z∈ls,F z+32<=wM ns z)->(ls.map λz=>F z+d).sum<=wMK ns ls
 |[],_=>af _
 |z::r,h=>by
  have e:=h z bq;have f:=al0 a λc b=>h c (dr _ b);rw[dv,List.sum_cons,wMK];omega
def Hl{E:Int->ByteArray}{ls:List Int}(h:∀z∈ls,(E z).size+32<=wM ns z):(bK (ls.map E)).size<=wMK ns ls:=by
 refine di (A6 _) ?_;rw[List.map_map];exact al0 (F:=λz=>(E z).size) (by decide) h
def ark(h:C9 N):(bK N.nm).size<=15:=by
 have i:∀a:List ByteArray,(∀b∈a,b.size<=3)->(a.map λc=>c.size+2).sum<=5*a.length:=λa=>by
  induction a with
  |nil=>exact λ_=>af _
  |cons c k g=>
   intro d;have:=g λj f=>d j (dr _ f);have:=d c bq;rw[dv,List.sum_cons,bB];omega
 have:=i N.nm λb e=>(h.s b e).sz;have:=A6 N.nm;have:=h.nm;omega
def atd(h:C9 N):(nm0 N).size<=3:=by
 unfold nm0;rw[aD];cases e:N.nm[0]? with
 |none=>exact aH _
 |some a=>exact(h.s a (cG e)).sz
def ate(h:C9 N):(Cg N).size<=30:=by
 have:=ark h;have a:(if N.op=1 then(if N.nm=[] then(⟨#[46,46,46]⟩:ByteArray) else dH++⟨#[46,46,46]⟩) else ByteArray.empty).size<=5:=by
  (repeat' split)<;>decide
 unfold Cg;simp only[aq];show 1+_+_+2<=_;omega
def xT(h:C9 N)(b:N.k≠25):N.x.size<=19:=by
 rcases h.x with⟨_,a,_⟩|⟨a,_⟩
 .exact a
 .exact absurd a b
structure SzT (ns:List Nd) (E:Int->ByteArray) (S:Int->Nat->ByteArray) (i tab:Nat):Prop where
 e:∀z:Nat,z<i->tab+(Sh ns z).bd<=6->(E z).size+32<=wM ns z
 s:∀z:Nat,z<i->tab+1+(Sh ns z).bd<=6->(S z (tab+1)).size+32<=wM ns z
section
variable {ns : List Nd} {E : Int → ByteArray} {S : Int → Nat → ByteArray} {i tab q : Nat}
def SzT.kid(h:SzT ns E S i tab)(t:Tz ns)(j:q<=i)(a:q<ns.length)(g:tab+(Sh ns q).bd<=6):∀z∈(ab ns q).ks,(E z).size+32<=wM ns z:=λz b=>by
 obtain⟨c,rfl,d,f,_⟩:=pm t.w a b;have:=J4 t.w a b;exact h.e c (by omega) (by omega)
def SzT.blk(h:SzT ns E S i tab)(t:Tz ns)(u:q<=i)(e:q<ns.length)(r:tab+(Sh ns q).bd<=6)(j:(ab ns q).k=1):(xe S (ab ns q).ks tab).size+100<=wM ns q:=by
 rw[t.d.at_ q e];unfold xe;by_cases c:(ab ns q).ks=[]
 .rw[ae c];show 2+_<=_;omega
 .have b:∀a∈(ab ns q).ks,tab+1<=6/\(S a (tab+1)).size+32<=wM ns a:=λa b=>by
   obtain⟨m,rfl,n,o,_⟩:=pm t.w e b;have:=J4 t.w e b;rw[ae j]at this;exact⟨by omega,h.s m (by omega) (by omega)⟩
  obtain⟨a,l⟩:=List.exists_mem_of_ne_nil _ c;have p:=(b a l).1;have f:((ab ns q).ks.map (ByteArray.size ∘ λk=>fD (tab+1)++S k (tab+1)))=(ab ns q).ks.map λa=>(S a (tab+1)).size+(tab+2):=by
   apply List.map_congr_left;intro a b;simp only[Function.comp];rw[aq,nj];omega
  rw[aa c,aq,aq,aq,Hb,nj,List.map_map,f];have:=al0 (F:=λa=>(S a (tab+1)).size) (d:=tab+2) (by omega) λa g=>(b a g).2;show 1+_+(tab+1)+1+_<=_;omega
def SzT.at_(h:SzT ns E S i tab)(t:Tz ns)(c:i<ns.length)(g:tab+(Sh ns i).bd<=6)(j:Nat)(f:j<(ab ns i).ks.length):∃q:Nat,dt (ab ns i) j=(q:Int)/\q<i/\q<ns.length/\tab+(Sh ns q).bd<=6/\(E q).size+32<=wM ns q/\((ab ns q).k=1->(xe S (ab ns q).ks tab).size+100<=wM ns q):=by
 obtain⟨q,a⟩:=iJ (t.d.nb i c) c j f;have:=J4 t.w c (cG a.at_);have b:tab+(Sh ns q).bd<=6:=by omega
 exact⟨q,a.id,a.lt,a.len,b,h.e q a.lt b,h.blk t (iA a.lt) a.len b⟩
def SzT.bod(h:SzT ns E S i tab)(t:Tz ns)(u:q<=i)(a:q<ns.length)(n:tab+(Sh ns q).bd<=6)(o:(ab ns q).k=36):(zu ns S (ab ns q) tab).size+60<=wM ns q:=by
 have⟨l,f,_⟩:=ady (jg (t.d.nb q a)).1 o;have⟨w,g,r,v,p,_,m⟩:=SzT.at_ (i:=q) ⟨λc j=>h.e c (by omega),λc j=>h.s c (by omega)⟩ t a n 0 (by omega);have:=ate (t.b q a);rw[g]at f;have:=m f;unfold zu;rw[aq,t.d.at_ q a,Fl ns l,g];omega
def atf(h:SzT ns E S i tab)(t:Tz ns)(w:q<=i)(a:q<ns.length)(f:tab+(Sh ns q).bd<=6)(v:40<=(ab ns q).k/\(ab ns q).k<=42):(sj ns E (ab ns q)).size+32<=wM ns q:=by
 have m:=(jg (t.d.nb q a)).1;have g:=SzT.at_ (i:=q) (E:=E) (S:=S) (tab:=tab) ⟨λj p=>h.e j (by omega),λj p=>h.s j (by omega)⟩ t a f;rw[t.d.at_ q a];unfold sj;by_cases l:(ab ns q).k=41
 .rw[ae l];have⟨b,_,_⟩:=mC m;have⟨n,c,_,_,_,o,_⟩:=g 0 (by omega);have⟨r,f,_,_,_,u,_⟩:=g 1 (by omega);rw[Bi ns b,c,f];simp only[aq];show 1+_+4+_+_<=_;omega
 .rw[aa l];have⟨b,_,_⟩:=oI m (show _ by omega);have⟨n,c,_,_,_,o,_⟩:=g 0 (by omega);rw[Fl ns b,c];split
  .have:=xT (t.b q a) (by omega);simp only[aq];show 1+_+3+_+_<=_;omega
  .omega
def atg(h:SzT ns E S i tab)(t:Tz ns)(j:i<ns.length)(f:tab+(Sh ns i).bd<=6):(prE ns E S (ab ns i) tab).size+32<=wM ns i:=by
 have k:=(jg (t.d.nb i j)).1;have g:=h.at_ t j f;have F:=t.b i j;have bd:=λe=>h.bod t (af _) j f e;have K:=λ(w:Nat) (L:w<i) (q:w<ns.length) (r:tab+(Sh ns w).bd<=6)=>atf h t (iA L) q r;have ap:=h.kid t (af _) j f;have wi:=t.d.at_ i j;have u:∀(x:ByteArray)(v:Int),x.size<=60->((ab ns i).k=28\/(ab ns i).k=29\/(ab ns i).k=31\/(ab ns i).k=32\/(ab ns i).k=41)->(AL ns E (ab ns i) x v).size+32<=wM ns i:=by
  intro x v au al;have⟨c,_,_⟩:=mC k al;have⟨a,b,_,_,_,p,_⟩:=g 0 (by omega);have⟨y,f,_,_,_,J,_⟩:=g 1 (by omega);rw[Bi ns c,b,f]at wi;unfold AL;rw[b,f];have:=A7 ns E a (wh (ab ns i) v);have:=A7 ns E y (rL (ab ns i).k (ab ns i).op);simp only[aq];omega
 unfold prE;by_cases z:(ab ns i).k=28
 .rw[ae z];exact u _ _ (by decide) (by omega)
 rw[aa z];by_cases A:(ab ns i).k=29
 .rw[ae A];exact u _ _ (by decide) (by omega)
 rw[aa A];by_cases l:(ab ns i).k=31
 .rw[ae l];have:=EC ((mC k).2.2 l);exact u _ _ (by simp only[aq];show 1+_+1<=_;omega) (by omega)
 rw[aa l];by_cases I:(ab ns i).k=30\/(ab ns i).k=33\/(ab ns i).k=37
 .have⟨c,_,_⟩:=oI k;have⟨a,b,_,_,_,p,_⟩:=g 0 (by omega);rw[Fl ns c,b]at wi;have:=A7 ns E a 11;have:=Jk ns E a;have:=ak6 ns (ab ns i);have:=xT F (by omega);rcases I with e|e|e
  .rw[ae e];unfold unB;rw[b];simp only[aq];omega
  .rw[aa (by omega),aa (by omega),ae e,b];simp only[aq];show _+(1+_)+_<=_;omega
  .rw[aa (by omega),aa (by omega),aa (by omega),aa (by omega),aa (by omega),aa (by omega),ae e,xg,b];omega
 rw[aa (by omega)];by_cases B:(ab ns i).k=32
 .rw[ae B];have⟨c,_,_⟩:=mC k;have⟨a,b,_,_,_,p,_⟩:=g 0 (by omega);have⟨y,f,_,_,_,J,_⟩:=g 1 (by omega);rw[Bi ns c,b,f]at wi;rw[b,f];have:=Jk ns E a;simp only[aq];show _+1+_+1+_<=_;omega
 rw[aa B,aa (by omega)];by_cases m:(ab ns i).k=34
 .rw[ae m];have⟨c,_⟩:=Da k m;have⟨a,b,_,_,_,p,_⟩:=g 0 (by omega);have e:wMK ns (ab ns i).ks=wM ns (dt (ab ns i) 0)+wMK ns ((ab ns i).ks.drop 1):=by
   unfold dt
   match (ab ns i).ks,c with
   |a::av,_=>rfl
  rw[e,b]at wi;rw[b];have:=Jk ns E a;have:=Hl (ls:=(ab ns i).ks.drop 1) λH s=>ap H (List.mem_of_mem_drop s);simp only[aq];show _+1+_+1+_<=_;omega
 rw[aa m];by_cases n:(ab ns i).k=35
 .rw[ae n];unfold abI;have c:=zx k n;have:=Hl (E:=λao=>sj ns E (ab ns ao)) (ls:=(ab ns i).ks) λH s=>by
   obtain⟨G,ak,rfl⟩:=om s;have⟨ar,an,ad,q,r,_⟩:=g G ak;have C:=aap _ 0 c G (by omega) (by omega);rw[an]at C⊢;exact K ar ad q r C
  simp only[aq];show 1+_+1+_<=_;omega
 rw[aa n];by_cases o:(ab ns i).k=36
 .rw[ae o];have:=bd o;simp only[aq];show 2+_+_<=_;omega
 rw[aa o,aa (by omega)];have:=ajj F;omega
def arl(h:SzT ns E S i tab)(t:Tz ns)(e:i<ns.length)(a:tab+(Sh ns i).bd<=6)(v:(ab ns i).k=7)
  (s:∀(z:Nat)(w:ByteArray),z<i->tab+(Sh ns z).bd<=6->(ab ns z).k=7->w.size<=6->(Br z w).size+32<=wM ns z) (n:ByteArray) (G:n.size<=6):(wj ns E S Br (ab ns i) n tab).size+32<=wM ns i:=by
 have f:=h.at_ t e a;have⟨B,C,F,m,r⟩:=adz (jg (t.d.nb i e)).1 v;have⟨x,c,_,_,_,A,_⟩:=f 0 (by omega);have⟨y,a,_,_,_,_,l⟩:=f 1 (by omega);rw[a]at m;have l:=l m;unfold wj;rw[c,a,t.d.at_ i e];simp only[aq];rcases bI (ab ns i).ks.length 3 with g|g
 .rw[ae g,Bi ns (by omega),c,a];show _+_+1+_+0+_<=_;omega
 .rw[aa (by omega),aji ns (by omega),c,a];have⟨j,u,p,_,q,_,o⟩:=f 2 (by omega);rw[u]at r⊢;by_cases b:(ab ns j).k=7
  .rw[ae b];have:=s j ⟨#[32,101,108,105,102,32]⟩ p q b (by decide);show _+_+1+_+_+_<=_;omega
  .rw[aa b];have:=o (by omega);rw[aq];show _+_+1+_+(6+_)+_<=_;omega
def ath(h:SzT ns E S i tab)(t:Tz ns)(m:i<ns.length)(b:tab+(Sh ns i).bd<=6)
  (a0:(ab ns i).k=7->(Br (-1) ⟨#[105,102,32]⟩).size+32<=wM ns i):(prS ns E S Br (ab ns i) tab).size+32<=wM ns i:=by
 have j:=(jg (t.d.nb i m)).1;have o:=h.at_ t m b;have s:=h.kid t (af _) m b;have ar:=h.blk t (af _) m b;have au:=λ(H:Nat) (av:H<i) (F:H<ns.length) (G:tab+(Sh ns H).bd<=6)=>h.bod t (iA av) F G;have nm0:=atd (t.b i m);have a2:=ark (t.b i m);have a3:=Hl s;have wi:=t.d.at_ i m;have one:(ab ns i).ks.length=1->∃c:Nat,dt (ab ns i) 0=(c:Int)/\(E c).size+32+150<=wM ns i:=λf=>by
  have⟨c,a,_,_,_,C,_⟩:=o 0 (by omega);rw[Fl ns f,a]at wi;exact⟨c,a,by omega⟩
 unfold prS;by_cases u:(ab ns i).k=1
 .rw[ae u];have:=ar u;omega
 rw[aa u];by_cases ak:(ab ns i).k=2
 .rw[ae ak];simp only[aq];split
  .show 4+_+0+_<=_;omega
  .rw[aq];show 4+_+(3+_)+_<=_;omega
 rw[aa ak];by_cases x:(ab ns i).k=3
 .rw[ae x];have⟨c,a,_⟩:=one (zz j x).1;rw[a];simp only[aq];show 6+_+3+_+_<=_;omega
 rw[aa x];by_cases y:(ab ns i).k=4
 .rw[ae y];have⟨f,l,g⟩:=Jh j y;have⟨c,a,ax,F,G,_⟩:=o 0 (by omega);rw[Fl ns f,a]at wi;rw[a]at l⊢;have:=au c ax F G l;simp only[aq];show 3+_+_+_<=_;omega
 rw[aa y];by_cases al:(ab ns i).k=5
 .rw[ae al];have e:=acp ns ((ab ns i).ks.take (ab ns i).n.toNat) ((ab ns i).ks.drop (ab ns i).n.toNat);rw[ud]at e;have:=Hl (ls:=(ab ns i).ks.take (ab ns i).n.toNat) λr q=>s r (CJ q);have:=Hl (ls:=(ab ns i).ks.drop (ab ns i).n.toNat) λr q=>s r (List.mem_of_mem_drop q);simp only[aq];show _+3+_+_<=_;omega
 rw[aa al];by_cases an:(ab ns i).k=6
 .rw[ae an];have⟨c,a,_⟩:=one (BE j (by omega)).1;rw[a];omega
 rw[aa an];by_cases z:(ab ns i).k=7
 .rw[ae z];exact a0 z
 rw[aa z];by_cases A:(ab ns i).k=8
 .rw[ae A];have⟨f,l,g⟩:=zA j A;have⟨c,a,_,_,_,C,_⟩:=o 0 (by omega);have⟨I,b,_,_,_,_,p⟩:=o 1 (by omega);rw[Bi ns f,a,b]at wi;rw[b]at g;have:=p g;rw[a,b];simp only[aq];show 6+_+1+_+_<=_;omega
 rw[aa A];by_cases B:(ab ns i).k=9\/(ab ns i).k=10
 .rw[ae B];have ap:0<(ab ns i).ks.length/\(ab ns (dt (ab ns i) ((ab ns i).ks.length-1))).k=1:=by
   rcases B with e|e
   .obtain⟨f,l,g,ao⟩:=Ji j e;exact⟨by omega,g⟩
   .obtain⟨f,l,g,ao⟩:=Db j e;rw[f];exact⟨by omega,g⟩
  have⟨I,b,_,_,_,_,p⟩:=o ((ab ns i).ks.length-1) (by omega);have e:=acp ns ((ab ns i).ks.take ((ab ns i).ks.length-1)) ((ab ns i).ks.drop ((ab ns i).ks.length-1));rw[ud,mI (by omega),wv,ma (by omega),b]at e;simp only[wMK]at e;rw[b]at ap⊢;have:=p ap.2;have:=Hl (ls:=(ab ns i).ks.take ((ab ns i).ks.length-1)) λr q=>s r (CJ q);have a1:(if(ab ns i).k=9 then(⟨#[32,61,32]⟩:ByteArray) else⟨#[32,105,110,32]⟩).size<=4:=by
   split<;>decide
  simp only[aq];show 4+_+_+_+1+_+_<=_;omega
 rw[aa B];by_cases J:(ab ns i).k=11
 .rw[ae J];show 5+_<=_;omega
 rw[aa J];by_cases K:(ab ns i).k=12
 .rw[ae K];show 4+_<=_;omega
 rw[aa K];by_cases L:(ab ns i).k=13
 .rw[ae L];simp only[aq];split
  .show 6+0+_<=_;omega
  .rw[aq];show 6+(1+_)+_<=_;omega
 rw[aa L];by_cases v:(ab ns i).k=14
 .rw[ae v];have⟨f,l,g,ao⟩:=Jj j v;have⟨c,a,_,_,_,_,C⟩:=o 0 (by omega);have⟨I,b,_,_,_,_,p⟩:=o 1 (by omega);rw[Bi ns f,a,b]at wi;rw[a]at l;rw[b]at g;have:=C l;have:=p g;rw[a,b];simp only[aq];show 4+_+7+_+1+_+_<=_;omega
 rw[aa v];by_cases w:(ab ns i).k=15
 .rw[ae w];have⟨c,a,_⟩:=one (zB j w).1;rw[a];simp only[aq];show 6+_+_<=_;omega
 rw[aa w];by_cases ad:(ab ns i).k=16
 .rw[ae ad];have⟨c,a,_⟩:=one (BE j (by omega)).1;rw[a];simp only[aq];show 6+_+_<=_;omega
 rw[aa ad];show 0+_<=_;omega
end
def txT(t:Tz ns):∀(f i tab:Nat),i<ns.length->tab+(Sh ns i).bd<=6->
  (qv ns f i tab).size+32<=wM ns i/\(pI ns f i tab).size+32<=wM ns i/\((ab ns i).k=7->∀w:ByteArray,w.size<=6->(sr ns f i w tab).size+32<=wM ns i)
 |0,i,tab,g,ht=>by
  have:=t.d.at_ i g;refine⟨?_,?_,λ_ w _=>?_⟩;all_goals (first|rw[qv]|rw[pI]|rw[sr]);show 0+_<=_;omega
 |f+1,i,tab,g,ht=>by
  have j:=λ(a n:Nat) (c:a<i) (o:n+(Sh ns a).bd<=6)=>txT t f a n (by omega) o;have l:SzT ns (λk=>qv ns f k tab) (λk t=>pI ns f k t) i tab:=⟨λa c e=>(j a tab c e).1,λa c e=>(j a (tab+1) c e).2.1⟩;have m:(ab ns i).k=7->∀w:ByteArray,w.size<=6->(wj ns (λk=>qv ns f k tab) (λk t=>pI ns f k t) (λk w=>sr ns f k w tab) (ab ns i) w tab).size+32<=wM ns i:=λb w h=>
   arl l t g ht b (λa w c e b h=>(j a tab c e).2.2 b w h) w h
  refine⟨?_,?_,?_⟩
  .rw[qv];exact atg l t g ht
  .rw[pI];exact ath l t g ht λb=>m b _ (by decide)
  .intro b w h;rw[sr];exact m b w h
def af3{s:Int}(h:(eG ns).1=0)(o:∀N∈ns,C9 N)(v:Wp ns ns.length<=65536)(hS:Sd [] ns [z] [1] s 6):(fa ns).size<=65536:=by
 have c:=A8 h;have j:Tz ns:=⟨apc h,c,λi p=>o _ (by unfold ab;rw[ix,List.getD,az p];exact iB _)⟩;have x:=c.len;obtain⟨F,k,e,m,_,_,_,t⟩:=hS;have f:=ajt c F 0 (by rw[k];intro y _;rw[gu];rfl);rw[show F.tops 0=[z] from e,pj,pj,Fo.app_nil]at f;have a:z=((ns.length-1:Nat):Int):=by
  match F,m with
  | .cons N b .nil,_=>
   have g:ns.length=b.sz+1:=by rw[k,dI,Fo.flat_len];rfl
   have:[((0+b.sz:Nat):Int)]=[z]:=e;rw[<-List.head_eq_of_cons_eq this,g];simp
  | .cons N b (.cons _ _ _),g=>simp[Fo.kds]at g
 rw[a]at f;have w:(Sh ns ((ns.length-1:Nat):Int)).bd<=6:=by rw[f,J3];omega
 have q:=j.d.root;have l:((ns.length:Int)-1)=((ns.length-1:Nat):Int):=by omega
 rw[l,j.d.at_ _ (by omega)]at q;unfold fa;rw[Hb,List.map_map,l];have e:((ab ns ((ns.length-1:Nat):Int)).ks.map (ByteArray.size ∘ λb=>pI ns ns.length b 0++⟨#[10]⟩))=(ab ns ((ns.length-1:Nat):Int)).ks.map λz=>(pI ns ns.length z 0).size+1:=by
  apply List.map_congr_left;intro z a;simp only[Function.comp];rw[aq];rfl
 rw[e];have:=al0 (ns:=ns) (F:=λz=>(pI ns ns.length z 0).size) (d:=1) (by decide) (ls:=(ab ns ((ns.length-1:Nat):Int)).ks) λz a=>by
  obtain⟨r,rfl,u,n,_⟩:=pm c (by omega) a;have:=J4 c (i:=ns.length-1) (by omega) a;exact(txT j ns.length r 0 n (by omega)).2.1
 omega
def Fq(w:d<=0):FB 105 d 2 1 1 0 Ek 3 0:=by
 intro i g m j f;have⟨r,n,k,l,x,q⟩:=am6 f i (by decide);refine⟨r,n,k,l,?_,q d⟩;have b:(j.length<=25000/\ -100000<=g/\g<=100000)/\m.p<=20000000:=f.mv.len f (by decide);intro s u t p;have a:=p.at
 have c:=a.cs;go_in
 repeat' (go_wp2_with (at_builtin;with_reducible refine At.app a rfl (by simp) rfl _ _ rfl rfl rfl ?_;clear a c;intro h v e a;have c:=a.cs);first
  |(go_at_call 35;(first|with_reducible refine At.runC a (by assumption) ?_|with_reducible refine At.runC a.lit2 (by assumption) ?_|with_reducible refine At.runC a.lit1 (by assumption) ?_);clear a c;intro e a _;have c:=a.cs)
  |(go_at_call 102;with_reducible refine At.runR a (by assumption) ?_;clear a c;intro e h o a;have c:=a.cs)
  |(go_at_call 103;with_reducible refine At.runR a (by assumption) ?_;clear a c;intro e h o a;have c:=a.cs)
  |(go_at_call 101;(first|with_reducible refine At.kids a.lit1 b.1.2 b.1.1 ?_|with_reducible refine At.kids a.lit2 b.1.2 b.1.1 ?_|with_reducible refine At.kids a.nilI b.1.2 b.1.1 ?_);clear a c;intro e a;have c:=a.cs)
  |(go_at_call 104;(first|with_reducible refine At.add a.lit1.nilS b.1.2 b.1.1 ?_|with_reducible refine At.add a.lit2.nilS b.1.2 b.1.1 ?_|with_reducible refine At.add a.lit1.swap b.1.2 b.1.1 ?_|with_reducible refine At.add a.lit2.swap b.1.2 b.1.1 ?_|with_reducible refine At.add a.swap b.1.2 b.1.1 ?_|with_reducible refine At.add a b.1.2 b.1.1 ?_|with_reducible refine At.add a.nilS b.1.2 b.1.1 ?_|with_reducible refine At.add a.nilI.nilS b.1.2 b.1.1 ?_);clear a c;intro e a;have c:=a.cs)
  |(go_ret;exact⟨rfl,a.bd,a.bel⟩)
  |(with_reducible refine At.run a (by assumption) ?_;clear a c;intro e a;have c:=a.cs))
def apj{mb mc cb cc:Int}(a9:1<=d/\d<=1000)(bb:(1<=me/\me+1<=m)/\(1<=mb/\mb+1<=m)/\(1<=mc/\mc+1<=m))(a8:1<=ce/\ce<=cb/\cb+1<=cc/\cc<=3800)(z:FB 105 (d-1) me 1 ce 0 Ek 3 0)(an:FB 162 (d-1) mb 2 cb 0 Bk 4 0)
  (ao:FB 100 d mc 12 cc 100 (· =34) 0 (-1)) (a7:FB 165 d mc 12 cc 100 (· =35) 0 (-1)) (hF:FB 106 d mc 12 cc 100 (· =36) 3 0):FB 105 d m 1 (cc+1) 0 Ek 3 0:=by
 intro f H a5 K c;have bv:=w1 (d:=d) (by omega);have ba:=c.lo;have bc:=c.m0;have bs:¬d<=0:=by omega
 by_cases bt:H-K.length<5
 case' pos=>
  obtain⟨p,ak,a0,a,bj,bl⟩:=am6 c f (by have:=c.m0;omega);have e:(K.length<=25000/\ -100000<=H/\H<=100000)/\a5.p<=20000000:=c.mv.len c (by decide);refine⟨p,ak,a0,⟨a.nx,a.n,a.z,a.p,a.p0,by have:=a.lf;omega⟩,?_,bl d⟩;clear a
 case' neg=>
  obtain⟨n,ak,bf,l,bj⟩:=c.mv.pick c f 14;rcases(show(n=0\/n=1\/n=2\/n=3)\/n=4\/(n=5\/n=6)\/n=7\/n=8\/(n=9\/n=10)\/n=11\/n=12\/n=13 by omega) with bh|rfl|hn2|rfl|rfl|hn2|rfl|rfl|rfl
  case' inl=>
   obtain⟨p,s,q,v,u,g,w,i⟩:=l.sub c f z;obtain⟨au,I,L,F,B,o,J,G⟩:=g.sub c f z;obtain⟨x,al,E,r,ar⟩:=o.pick c f 18;have e:=r.len c;have ap:=wi (a:=1+x) (by omega);refine⟨_,_,_,r.fin c (k:=31) (op:=1+x) (n:=0) (t:=⟨#[]⟩) (jH (by decide) (by omega) (by decide) (lJ (by decide)) (by decide) lC (by simp) (pl2 v F)),?_,i.fin2 G (by omega) (λy ax h C=>kf2 (by omega) (by omega) h C) (by decide)⟩;clear g o r u B E
  case' inr.inl=>
   obtain⟨p,s,q,v,u,g,w,i⟩:=l.sub c f z;obtain⟨au,I,L,F,B,o,J,G⟩:=g.sub c f z;obtain⟨x,al,E,r,ar⟩:=o.pick c f 2;have e:=r.len c;have ap:=wi (a:=28+x) (by omega);refine⟨_,_,_,r.fin c (k:=28+x) (op:=0) (n:=0) (t:=⟨#[]⟩) (jH (by omega) (by decide) (by decide) (lJ (by omega)) (by decide) lC (by simp) (pl2 v F)),?_,i.fin2 G (by omega) (λy ax h C=>kf2 (by omega) (by omega) h C) (by omega)⟩;clear g o r u B E
  case' inr.inr.inl=>
   obtain⟨p,s,q,v,u,g,w,i⟩:=l.sub c f z;obtain⟨x,al,E,r,ar⟩:=g.pick c f 4;have e:=r.len c;have ap:=wi (a:=19+x) (by omega);refine⟨_,_,_,r.fin c (k:=30) (op:=19+x) (n:=0) (t:=⟨#[]⟩) (jH (by decide) (by omega) (by decide) (lJ (by decide)) (by decide) lC (by simp) (pl1 v)),?_,i.fin1 (λy h=>kf1 (.inl ⟨rfl,by omega,by omega⟩) (.inl rfl) (.inr (.inr rfl)) h) (by decide)⟩;clear g r u E
  case' inr.inr.inr.inl=>
   obtain⟨p,s,q,v,u,g,w,i⟩:=l.sub c f an;obtain⟨au,I,L,F,B,o,J,G⟩:=g.sub c f z;have e:=o.len c;refine⟨_,_,_,o.fin c (k:=32) (op:=0) (n:=0) (t:=⟨#[]⟩) (jH (by decide) (by decide) (by decide) (lJ (by decide)) (by decide) lC (by simp) (pl2 v F)),?_,i.fin2 G (by omega) (λy ax h C=>kf2 (by omega) (by omega) h.1 C) (by decide)⟩;clear g o u B
  case' inr.inr.inr.inr.inl=>
   obtain⟨p,s,q,v,u,g,w,i⟩:=l.sub c f an;obtain⟨t,I,ht,o,J,bk⟩:=g.short c f;have e:=o.len c;refine⟨_,_,_,o.fin c (k:=33) (op:=0) (n:=0) (t:=t) (jH (by decide) (by decide) (by decide) (ahv (by decide) ht) (by decide) lC (by simp) (pl1 v)) (ht:=by have:=ht.sz;omega),?_,i.fin1 (λy h=>kf1 (.inr (.inl ⟨rfl,h.2,bk⟩)) (.inr rfl) (.inl rfl) h.1) (by decide)⟩;clear g o u ht
  case' inr.inr.inr.inr.inr.inl=>
   obtain⟨p,s,q,a,w,i⟩:=l.tail c f ao;have e:=l.len c;refine⟨p,s,q,⟨a.nx,a.n,a.z,a.p,a.p0,by have:=a.lf;omega⟩,?_,i.up (λy h=>by omega)⟩;clear a
  case' inr.inr.inr.inr.inr.inr.inl=>
   obtain⟨p,s,q,a,w,i⟩:=l.tail c f a7;have e:=l.len c;refine⟨p,s,q,⟨a.nx,a.n,a.z,a.p,a.p0,by have:=a.lf;omega⟩,?_,i.up (λy h=>by omega)⟩;clear a
  case' inr.inr.inr.inr.inr.inr.inr.inl=>
   obtain⟨p,s,q,a,w,i⟩:=l.tail c f hF;have e:=l.len c;refine⟨p,s,q,⟨a.nx,a.n,a.z,a.p,a.p0,by have:=a.lf;omega⟩,?_,i.up (λy h=>by omega)⟩;clear a
  case' inr.inr.inr.inr.inr.inr.inr.inr=>
   obtain⟨p,s,q,v,u,g,w,i⟩:=l.sub c f ao;have e:=g.len c;refine⟨_,_,_,g.fin c (k:=37) (op:=0) (n:=0) (t:=⟨#[]⟩) (jH (by decide) (by decide) (by decide) (lJ (by decide)) (by decide) lC (by simp) (pl1 v)),?_,i.fin1 (λy h=>aqL (.inl h)) (by decide)⟩;clear g u
  all_goals clear l bf
  all_goals (try rcases bh with rfl|rfl|rfl|rfl)
  all_goals (try rcases hn2 with rfl|rfl)
 all_goals
  clear c ba bc a8 bb a9;intro bn bp bo h;have b:=h.at
  have j:=b.cs;clear h;go_in
  repeat' (go_wp2_with (at_builtin;with_reducible refine At.app b rfl (by simp) rfl _ _ rfl rfl rfl ?_;clear b j;intro ad br A b;have j:=b.cs);first
   |(go_at_call 35;(first|with_reducible refine At.runC b (by assumption) ?_|with_reducible refine At.runC b.lit2 (by assumption) ?_|with_reducible refine At.runC b.lit1 (by assumption) ?_);clear b j;intro A b _;have j:=b.cs)
   |(go_at_call 102;with_reducible refine At.runR b (by assumption) ?_;clear b j;intro A ad a6 b;have j:=b.cs)
   |(go_at_call 103;with_reducible refine At.runR b (by assumption) ?_;clear b j;intro A ad a6 b;have j:=b.cs)
   |(go_at_call 101;(first|with_reducible refine At.kids b.lit1 e.1.2 e.1.1 ?_|with_reducible refine At.kids b.lit2 e.1.2 e.1.1 ?_|with_reducible refine At.kids b.nilI e.1.2 e.1.1 ?_);clear b j;intro A b;have j:=b.cs)
   |(go_at_call 104;(first|with_reducible refine At.add b.lit1.nilS e.1.2 e.1.1 ?_|with_reducible refine At.add b.lit2.nilS e.1.2 e.1.1 ?_|with_reducible refine At.add b.lit1.swap e.1.2 e.1.1 ?_|with_reducible refine At.add b.lit2.swap e.1.2 e.1.1 ?_|with_reducible refine At.add b.swap e.1.2 e.1.1 ?_|with_reducible refine At.add b e.1.2 e.1.1 ?_|with_reducible refine At.add b.nilS e.1.2 e.1.1 ?_|with_reducible refine At.add b.nilI.nilS e.1.2 e.1.1 ?_);clear b j;intro A b;have j:=b.cs)
   |(go_ret;exact⟨rfl,b.bd,b.bel⟩)
   |(with_reducible refine At.run b (by assumption) ?_;clear b j;intro A b;have j:=b.cs))
inductive Xsc (C:Cd) (T:Int) (f:FuncId) (d:Int):Nat->Cr->List Nd->List Int->Cr->List Nd->Prop
 |nil (c:Cr) (L:List Nd):Xsc C T f d 0 c L [] c L
 |cons {n:Nat}{c c1 c2:Cr}{L L1 L2:List Nd}{z:Int}{l:List Int}:Rb C T f [.int .i64 d] c L (.int .i64 z) c1 L1->Xsc C T f d n c1 L1 l c2 L2->Xsc C T f d (n+1) c L (z::l) c2 L2
section
variable {T : Int} {c0 c : Cr} {L0 L : List Nd} {y m : Int}
def xsc(p:Pd T c0 L0 m)(C:Cd){Q:Int->Prop}{e:Int}(I:0<=e)(G:0<=max d 0+b)(F:FB f d me s ce 0 Q e b)(au:1<=me/\me+1<=m)(H:1<=s/\s<=4/\0<=ce/\ce<=3950):∀(n:Nat)(c:Cr)(L:List Nd),Mv T c0 L0 c L y->y<=500->n<=8-> -20000+12*me+s*n<=T-L.length->∃(l:List Int) (h:Cr) (a:List Nd),l.length=n/\Pl l/\(L.length<=a.length/\Lf (s*n) (ce+s*n) (T-L.length) (T-a.length)/\(n=0->a.length=L.length)/\(1<=n->5<=T-L.length->5-ce-s*n+s<=T-a.length))/\Mv T c0 L0 h a y/\Xsc C T f d n c L l h a/\Sl Q d e b T L a l:=by
 intro n;have av:=p.m0
 induction n with
 |zero=>exact λc L g _ _ _=>⟨[],c,L,rfl,pl0,⟨af _,by simp;omega,λ_=>rfl,λar=>by omega⟩,g,.nil c L,Sl.nil Q L I G⟩
 |succ n j=>
  intro c L g J ax i;have x:s*((n+1:Nat):Int)=s*n+s:=by rw[show((n+1:Nat):Int)=n+1 by omega,Int.mul_add,Int.mul_one]
  have z:s*(n:Int)<=4*8:=Int.mul_le_mul H.2.1 (by omega) (by omega) (by decide);have A:0<=s*(n:Int):=Int.mul_nonneg (by omega) (by omega);rw[x]at i⊢;generalize s*(n:Int)=a0 at j i z A⊢;have⟨an,v,q,K,ao,t,o,ad⟩:=g.sub p C F;have⟨l,w,r,B,E,ap,u,k,ak⟩:=j v q (by simpa using t) J (by omega) (by omega);exact⟨an::l,w,r,by simp[B],λal hx=>by rcases List.mem_cons.1 hx with rfl|hx;exact K;exact E al hx,⟨by omega,by omega,by omega,by omega⟩,u,.cons o k,Sl.cons ad ak (by omega)⟩
def Mv.exprs(p:Pd T c0 L0 m)(a:Mv T c0 L0 c L y)(C:Cd)(ar:FB 105 d me 1 ce 0 Ek 3 0)(n:Nat)(ax:n<=8:=by omega)(a0:y<=500:=by omega)(A:1<=me/\me+1<=m:=by omega)(a7:0<=ce/\ce<=3950:=by omega)(z: -20000+12*me+8<=T-L.length:=by omega):
  ∃(ks:List Int) (s:Cr) (h:List Nd),ks.length=n/\Pl ks/\(L.length<=h.length/\Lf n (ce+n) (T-L.length) (T-h.length))/\Mv T c0 L0 s h y/\Rr C T 103 [Z V n,Z V d] c L 3 n (ks.map (A9 V)) s h/\Sl Ek d 3 0 T L h ks:=by
 have⟨ks,t,q,v,w,u,K,b,a3⟩:=xsc p C (by decide) (by omega) ar A (by omega) n c L a a0 ax (by omega);refine⟨ks,t,q,v,w,⟨u.1,by simpa using u.2.1⟩,K,λF J I ap=>?_,a3⟩;have f:=ap.at.nilI;go_in;go_wp2;go_loopw [1,7] (λo a4 wr=>∃(m i:Nat) (g l:List Int) (k:Cr) (j:List Nd),o= Z V m/\m+i=n/\g.length=i/\At C T F J wr k j (rI a4 g::I)/\Xsc C T 105 d m k j l t q/\g++l=ks) (λo _ _=>(A0 o).toNat)
 case atStart=>exact⟨n,0,[],ks,c,L,rfl,rfl,rfl,f,b,rfl⟩
 case round=>
  obtain⟨m,i,g,l,k,j,rfl,au,z,f,B,ao⟩:=hrel;have e:=mo au z ao;have a8:m<=n:=by omega
  cases B with
  |@cons m _ al _ _ H _ a5 a1 G E=>
   have A:(0:Int)<((m+1:Nat):Int):=by omega
   have a9:IntKind.i64.wrap (((m+1:Nat):Int)-1)=(m:Int):=by rw[fh];omega
   go_wp2_with fail;refine f.run G λw1 ad=>?_;have b:=am ad;go_wp2_with (at_builtin;refine b.out.app e.2.1 (by have:=e.1;omega) rfl _ _ rfl rfl rfl ?_;intro r a6 ba ak);go_roundw
   case rel=>exact⟨m,i+1,g++[a5],a1,al,H,by go_num,by have:=e.1;omega,by simp[e.2.1],ak,E,by rw[dj];exact e.2.2⟩
   case measure=>simp[A0]
  |nil=>
   have⟨v,w,x⟩:=e.out;rw[dC]at x;subst x;obtain⟨r,an,rfl⟩:=f.form;rw[bC,show g.length=n by omega]at f⊢;have b:=am f;go_wp2;go_ret;exact⟨r,an,rfl,b.out.bd,b.out.bel⟩
end
def At.intAt{C:Cd}{T:Int}{E:Bs}{W w:World}{R:List Rwx}{r:Rwx}{a:Option Addr}{n j:Nat}(h:At C T E W w c L (r::rI (O a n j) ks::R))(e:ks[i]?=Y z):∃g,a=Y ⟨g,0,U⟩/\w.cell? ⟨g,i,U⟩=Y (Z V z):=by
 obtain⟨⟨k,_,f⟩,_⟩:=h;have b:=(f.rows _ (dr _ bq)).2;simp only[bC]at b;have o:=(List.getElem?_eq_some_iff.1 e).1;rcases bJ b with⟨m,_⟩|⟨g,l,d⟩
 .omega
 .simp at d;obtain⟨rfl,rfl,rfl⟩:=d;refine⟨g,rfl,?_⟩;rw[b.cellAt i (by omega),ci,e];rfl
def am7{mb cb:Int}(bn:1<=d)(a0:1<=mb/\mb+1<=m/\1<=me/\me+2<=m)(ar:0<=ce/\ce<=cb/\cb<=3900)(z: -1000<=d/\d<=1000)(ao:FB 162 (d-1) mb 2 cb 0 Bk 4 0)(ap:FB 105 (d-1) me 1 ce 0 Ek 3 0):FB 100 d m 5 (cb+3) 100 (· =34) 0 (-1):=by
 intro h H bf bb c;have ax:=c.lo;have a4:=c.m0;have bt:=w1 z;have⟨f,bh,bc,B,al,q,a5,a8⟩:=c.mv.sub c h ao;have⟨n,K,A,j,a6⟩:=q.pick c h 3;obtain⟨n,rfl⟩:=lr A.1;have⟨ks,L,F,bl,x,an,l,a7,a9⟩:=j.exprs c h ap n;have y:=l.len c;refine⟨_,_,_,l.fin c (k:=34) (op:=0) (n:=0) (t:=⟨#[]⟩) (nm:=[]) (ks:=f::ks) (jH (by decide) (by decide) (by decide) (lJ (by decide)) (by decide) lC (by simp;omega) (λg hx=>by rcases List.mem_cons.1 hx with rfl|hx;exact B;exact x g hx)),λC I G i=>?_,a8.finL a9 (by omega) (by omega) (λbE bv i w=>as1 i w) rfl⟩;have bs:n<3:=by omega
 clear q j l al an c ax a4 ar a0 z A B x;have b:=i.at
 clear i;go_in;go_wp2_with fail;refine b.run a5 λw1 o=>?_;clear b;have ak:=o.cs;go_wp2_with fail;refine o.lit1.runC a6 λbw s _=>?_;clear o ak;go_wp2_with fail;refine s.runR a7 λbx r ad u=>?_;have e:=am u.swap;clear s u;go_wp2;go_loopw [6,25] (λba p wr=>∃(a:Nat),p= Z V a/\a<=n/\At h H C I wr L F (rI ba (f::ks.take a)::rI (O r n ad) ks::G)) (λ_ p _=>n-(A0 p).toNat)
 case atStart=>exact⟨0,rfl,aH _,e.out⟩
 case round=>
  obtain⟨a,rfl,br,b⟩:=hrel;by_cases bo:a<n
  .obtain⟨g,hx⟩:∃g,ks[a]?=Y g:=⟨_,az (by omega)⟩;obtain⟨w,rfl,bk⟩:=b.intAt hx;have bp:(0:Int)<=(a:Int):=by omega
   have au:(a:Int)<(n:Int):=by omega
   have e:=iK b (show(f::ks.take a).length=a+1 by simp;omega);have E:=am (show f::ks.take (a+1)=f::ks.take a++[g] by rw[jc,hx];rfl);go_wp2_with (at_builtin;refine e.1.app e.2 (by omega) rfl _ _ rfl rfl rfl ?_;intro r bj bA J);go_roundw
   case rel=>exact⟨a+1,by go_num,by omega,by rw[E.out];exact J⟩
   case measure=>simp[A0];omega
  .obtain⟨j,K,rfl⟩:=b.form;have au:¬(a:Int)<(n:Int):=by omega
   rw[bC,show(f::ks.take a).length=a+1 by simp;omega]at b⊢;rw[cj (by omega)]at b;have e:=am (b.swap.drop.nilS);go_wp2_with fail;refine e.out.add y.1.2 y.1.1 λbD v=>?_;go_wp2;go_ret;exact⟨rfl,v.bd,v.bel⟩
inductive Bkc (C:Cd) (T:Int) (d:Int):Nat->Cr->List Nd->List Int->Cr->List Nd->Prop
 |stop {n:Nat}{c:Cr}{L:List Nd}:n=0\/¬5<T-L.length->Bkc C T d n c L [] c L
 |cons {n:Nat}{c c1 c2:Cr}{L L1 L2:List Nd}{z:Int}{l:List Int}:5<T-L.length->Rb C T 36 [.int .i64 d] c L (.int .i64 z) c1 L1->Bkc C T d n c1 L1 l c2 L2->Bkc C T d (n+1) c L (z::l) c2 L2
section
variable {T : Int} {c0 c : Cr} {L0 L : List Nd} {y m : Int}
def bkc(p:Pd T c0 L0 m)(C:Cd){ms cs:Int}(hS:FB 36 d ms 6 cs 0 Sk 6 0)(G:1<=ms/\ms+1<=m)(F:0<=cs/\cs<=3900)(I:y<=500):∀(n:Nat)(c:Cr)(L:List Nd),Mv T c0 L0 c L y->∃(l:List Int) (e:Cr) (a:List Nd),l.length<=n/\Pl l/\((T-L.length<5->a.length=L.length)/\(5<=T-L.length->5-cs<=T-a.length))/\Mv T c0 L0 e a y/\Bkc C T d n c L l e a/\Sl Sk d 6 0 T L a l:=by
 intro n;have H:=p.m0
 induction n with
 |zero=>exact λc L b=>⟨[],c,L,af _,pl0,by omega,b,.stop (.inl rfl),Sl.nil Sk L (by decide)⟩
 |succ n v=>
  intro c L b;by_cases f:5<T-L.length
  .obtain⟨A,q,i,u,B,k,h,w⟩:=b.sub p C hS;have⟨l,r,j,s,t,E,o,g,x⟩:=v q i (by simpa using k);exact⟨A::l,r,j,by simp[s],λz hx=>by rcases List.mem_cons.1 hx with rfl|hx;exact u;exact t z hx,by omega,o,.cons f h g,Sl.cons w x (by omega)⟩
  .exact⟨[],c,L,aH _,pl0,by omega,b,.stop (.inr f),Sl.nil Sk L (by decide)⟩
end
def aju{ms cs:Int}(G:1<=ms/\ms+1<=m)(F:0<=cs/\cs<=3900)(hS:FB 36 d ms 6 cs 0 Sk 6 0):FB 109 d m 1 (cs+1) 100 (· =1) 7 1:=by
 intro g o bb v c;have a0:=c.lo;have a3:=c.m0;have⟨n,B,H,x,a6⟩:=c.mv.pick c g 4;obtain⟨n,rfl⟩:=lr H.1;have⟨ks,ap,w,ax,C,au,p,e,a8⟩:=bkc c g hS G F (by decide) n B v x;have E:=p.len c;refine⟨_,_,_,p.fin c (k:=1) (op:=0) (n:=0) (t:=⟨#[]⟩) (nm:=[]) (ks:=ks) (jH (by decide) (by decide) (by decide) (lJ (by decide)) (by decide) lC (by omega) C),λK al ak i=>?_,a8.finB (by omega) (λbo _ i=>aq0 i) rfl⟩;have bl:n<=3:=by omega
 have b:=i.at.nilI;have cs:=b.cs;clear x p au c a0 a3 F G H C i ax hS;go_in;go_wp2_with fail;refine b.runC a6 λw1 y _=>?_;clear b cs;go_wp2;go_loopw [5,6] (λa9 u wr=>∃(a:Nat) (f s:List Int) (q:Cr) (l:List Nd),u= Z V a/\f.length+a<=3/\At g o K al wr q l (rI a9 f::ak)/\Bkc g o d a q l s ap w/\f++s=ks) (λ_ u _=>(A0 u).toNat)
 case atStart=>exact⟨n,[],ks,B,v,rfl,by simp;omega,y,e,rfl⟩
 case round=>
  clear y e;obtain⟨a,f,s,q,l,rfl,r,b,I,h⟩:=hrel;have cs:=b.cs;cases I with
  |@cons a _ ar _ _ ad _ ba a7 bh L J=>
   have bj:(0:Int)<((a+1:Nat):Int):=by omega
   have bn:IntKind.i64.wrap (((a+1:Nat):Int)-1)=(a:Int):=by rw[fh];omega
   have j:=iK r h;have bk:a<=3:=by omega
   clear r h;go_wp2_with fail;refine b.run L λbr z=>?_;have e:=am z;clear b z cs;go_wp2_with (at_builtin;refine e.out.app rfl (by have:=j.1;omega) rfl _ _ rfl rfl rfl ?_;intro an bf bs ao);go_roundw
   case rel=>exact⟨a,f++[ba],a7,ar,ad,by go_num,by have:=j.1;simp;omega,ao,J,by rw[dj];exact j.2⟩
   case measure=>simp[A0]
  |stop a5=>
   rw[dC]at h;subst h;obtain⟨an,bc,rfl⟩:=b.form;rw[bC]at b⊢;have e:=am b.nilS;clear b;have a4:(0<(a:Int)/\¬5<o-w.length)\/¬0<(a:Int):=by omega
   clear a5 r;rcases a4 with⟨q1,bp⟩|q1;all_goals
    go_wp2_with fail;refine e.out.add E.1.2 E.1.1 λbt A=>?_;go_wp2;go_ret;exact⟨rfl,A.bd,A.bel⟩
inductive Tbc (C:Cd) (T:Int) (d:Int):Nat->Cr->List Nd->List Int->Cr->List Nd->Prop
 |nil (c:Cr) (L:List Nd):Tbc C T d 0 c L [] c L
 |item {n:Nat}{c c1 c2 c3:Cr}{L L1 L3:List Nd}{z:Int}{l:List Int}:Rb C T 105 [.int .i64 d] c L (.int .i64 z) c1 L1->Rc C 35 [.int .i64 3] c1 (.int .i64 0) c2->L1.length<=25000->Tbc C T d n c2 (L1++[dN 40 0 0 ⟨#[]⟩ [] [z]]) l c3 L3->Tbc C T d (n+1) c L ((L1.length:Nat)::l) c3 L3
 |pair {n:Nat}{c c1 c2 c3 c4:Cr}{L L1 L2 L3:List Nd}{z y:Int}{l:List Int}:Rb C T 105 [.int .i64 d] c L (.int .i64 z) c1 L1->Rc C 35 [.int .i64 3] c1 (.int .i64 1) c2->Rb C T 105 [.int .i64 d] c2 L1 (.int .i64 y) c4 L2->L2.length<=25000->Tbc C T d n c4 (L2++[dN 41 0 0 ⟨#[]⟩ [] [z,y]]) l c3 L3->Tbc C T d (n+1) c L ((L2.length:Nat)::l) c3 L3
 |named {n:Nat}{c c1 c2 c3 c4:Cr}{L L1 L3:List Nd}{z o:Int}{t:ByteArray}{l:List Int}:Rb C T 105 [.int .i64 d] c L (.int .i64 z) c1 L1->Rc C 35 [.int .i64 3] c1 (.int .i64 o) c2->((o==0)=false/\(o==1)=false)->Rb C T 163 [] c2 L1 (.string t) c4 L1->L1.length<=25000->Tbc C T d n c4 (L1++[dN 42 0 0 t [] [z]]) l c3 L3->Tbc C T d (n+1) c L ((L1.length:Nat)::l) c3 L3
section
variable {T : Int} {c0 c : Cr} {L0 L : List Nd} {y m : Int}
def tbc(p:Pd T c0 L0 m)(C:Cd)(al:FB 105 d me 1 ce 0 Ek 3 0)(bh:1<=me/\me+1<=m)(bd:0<=ce/\ce<=3900):∀(n:Nat)(c:Cr)(L:List Nd)(y:Int),Mv T c0 L0 c L y->y<=400->n<=3-> -20000+12*me+3*n<=T-L.length->∃(l:List Int) (ad:Cr) (i:List Nd) (b:Int),b<=y/\l.length=n/\Pl l/\(L.length<=i.length/\Lf (3*n) (ce+3*n) (T-L.length) (T-i.length))/\Mv T c0 L0 ad i b/\Tbc C T d n c L l ad i/\Sl Nk d 4 0 T L i l:=by
 intro n;have bj:=p.m0
 induction n with
 |zero=>exact λc L y x _ _ _=>⟨[],c,L,y,Int.le_refl _,rfl,pl0,⟨af _,by simp;omega⟩,x,.nil c L,Sl.nil Nk L (by decide)⟩
 |succ n E=>
  intro c L y x bn bk bf;have⟨J,ba,a8,B,bb,ar,F,I⟩:=x.sub p C al;have⟨w,au,bl,v,G⟩:=ar.pick p C 3;have g:∀{K:List Nd}{N:Nd},((K++[N]).length:Int)=K.length+1:=by simp
  rcases(show w=0\/w=1\/(w≠0/\w≠1) by omega) with rfl|rfl|⟨av,ax⟩
  .have t:=v.len p;have e:=v.on (N:=dN 40 0 0 ⟨#[]⟩ [] [J]) (jH (by decide) (by decide) (by decide) (lJ (by decide)) (by decide) lC (by simp) (pl1 B)) (aH 19) (by omega);obtain⟨l,o,j,b,ak,r,s,a,k,h,u⟩:=E au _ _ e (by omega) (by omega) (by rw[g];omega);rw[g]at a;exact⟨_::l,o,j,b,by omega,by simp[r],λf hx=>by rcases List.mem_cons.1 hx with rfl|hx;exact⟨by omega,by omega⟩;exact s f hx,⟨by have:=a.1;simp at this;omega,by omega⟩,k,.item F G t.1.1 h,Sl.cons (I.fin1 (λap q=>kf1 (by omega) (.inr rfl) (.inr (.inr rfl)) q) (by decide)) u (by simp;omega)⟩
  .obtain⟨f,A,a9,hx,bc,e,H,a7⟩:=v.sub p C al;have t:=e.len p;have z:=e.on (N:=dN 41 0 0 ⟨#[]⟩ [] [J,f]) (jH (by decide) (by decide) (by decide) (lJ (by decide)) (by decide) lC (by simp) (pl2 B hx)) (aH 19) (by omega);obtain⟨l,o,j,b,ak,r,s,a,k,h,u⟩:=E A _ _ z (by omega) (by omega) (by rw[g];omega);rw[g]at a;exact⟨_::l,o,j,b,by omega,by simp[r],λf hx=>by rcases List.mem_cons.1 hx with rfl|hx;exact⟨by omega,by omega⟩;exact s f hx,⟨by have:=a.1;simp at this;omega,by omega⟩,k,.pair F G H t.1.1 h,Sl.cons (I.fin2 a7 (by omega) (λap bo q a0=>kf2 (by omega) (by omega) q a0) (by decide)) u (by simp;omega)⟩
  .obtain⟨ao,A,an,e,H,a6⟩:=v.short p C;have t:=e.len p;have z:=e.on (N:=dN 42 0 0 ao [] [J]) (jH (by decide) (by decide) (by decide) (ahv (by decide) an) (by decide) lC (by simp) (pl1 B)) (by have:=an.sz;show ao.size<=19;omega) (by omega);obtain⟨l,o,j,b,ak,r,s,a,k,h,u⟩:=E A _ _ z (by omega) (by omega) (by rw[g];omega);rw[g]at a;exact⟨_::l,o,j,b,by omega,by simp[r],λf hx=>by rcases List.mem_cons.1 hx with rfl|hx;exact⟨by omega,by omega⟩;exact s f hx,⟨by have:=a.1;simp at this;omega,by omega⟩,k,.named F G ⟨by simpa using av,by simpa using ax⟩ H t.1.1 h,Sl.cons (I.fin1 (λap q=>kf1 (.inr (.inr (.inr (.inl ⟨rfl,a6⟩)))) (.inr rfl) (.inr (.inl rfl)) q) (by decide)) u (by simp;omega)⟩
end
def apk(b0:1<=d)(a4:1<=me/\me+1<=m)(au:0<=ce/\ce<=3900)(ax: -1000<=d/\d<=1000)(ar:FB 105 (d-1) me 1 ce 0 Ek 3 0):FB 165 d m 10 (ce+10) 100 (· =35) 0 (-1):=by
 intro x L bE J j;have bs:=j.lo;have bt:=j.m0;have ca:=w1 ax;have⟨n,al,a5,ad,bw⟩:=j.mv.pick j x 4;obtain⟨n,rfl⟩:=lr a5.1;obtain⟨ks,bn,bj,cf,bv,br,ap,bp,B,e,bx⟩:=tbc j x ar a4 au n al J _ ad (by decide) (by omega) (by omega);have F:=B.len j;have G:=F.1.2;refine⟨_,_,_,B.fin j (k:=35) (op:=0) (n:=0) (t:=⟨#[]⟩) (nm:=[]) (ks:=ks) (jH (by decide) (by decide) (by decide) (lJ (by decide)) (by decide) lC (by omega) ap),λbh bl bk y=>?_,bx.fin (by omega) (λcb _ y=>as2 y) rfl⟩;have b8:n<=3:=by omega
 have b:=y.at.nilI;have l:=b.cs;clear ad B bp j bs bt au a4 a5 ap y br ar ax bv;go_in;go_wp2_with fail;refine b.runC bw λw1 ak _=>?_;clear b l;go_wp2;go_loopw [5,6] (λbA I wr=>∃(a:Nat) (o H:List Int) (E:Cr) (A:List Nd),I= Z V a/\o.length+a<=3/\At x L bh bl wr E A (rI bA o::bk)/\Tbc x L (d-1) a E A H bn bj/\o++H=ks) (λ_ I _=>(A0 I).toNat)
 case atStart=>exact⟨n,[],ks,al,J,rfl,by simp;omega,ak,e,rfl⟩
 case round=>
  clear ak e;obtain⟨a,o,H,E,A,rfl,a0,b,bf,u⟩:=hrel;have f:=iK a0 u;have b7:a<=3:=by omega
  clear a0 u;cases bf with
  |nil=>
   have u:=f.2;rw[dC]at u;subst u;obtain⟨C,bF,rfl⟩:=b.form;rw[bC]at b⊢;have e:=am b.nilS;clear b;go_wp2_with fail;refine e.out.add F.1.2 F.1.1 λba i=>?_;go_wp2;go_ret;exact⟨rfl,i.bd,i.bel⟩
  |@item a _ an c5 _ _ K _ bc w q r v p=>
   have a3:(0:Int)<((a+1:Nat):Int):=by omega
   have a6:IntKind.i64.wrap (((a+1:Nat):Int)-1)=(a:Int):=by rw[fh];omega
   go_wp2_with fail;refine b.run q λa7 c=>?_;clear b;have l:=c.cs;go_wp2_with fail;refine c.runC r λa8 g _=>?_;clear c l;go_wp2_with fail;refine g.lit1.kids G v λa9 h=>?_;have e:=am h;clear g h;go_wp2_with (at_builtin;refine e.out.app rfl (by have:=f.1;omega) rfl _ _ rfl rfl rfl ?_;intro C ao bb s);go_roundw
   case rel=>exact⟨a,o++[_],w,_,_,by go_num,by have:=f.1;simp;omega,s,p,by rw[dj];exact f.2⟩
   case measure=>simp[A0]
  |@pair a _ an c5 _ bo _ K bD _ bc cd w q r z v p=>
   have a3:(0:Int)<((a+1:Nat):Int):=by omega
   have a6:IntKind.i64.wrap (((a+1:Nat):Int)-1)=(a:Int):=by rw[fh];omega
   go_wp2_with fail;refine b.run q λa7 c=>?_;clear b;have l:=c.cs;go_wp2_with fail;refine c.runC r λa8 g _=>?_;clear c l;go_wp2_with fail;refine g.run z λa9 h=>?_;clear g;go_wp2_with fail;refine h.lit2.kids G v λba i=>?_;have e:=am i;clear h i;go_wp2_with (at_builtin;refine e.out.app rfl (by have:=f.1;omega) rfl _ _ rfl rfl rfl ?_;intro C ao bb s);go_roundw
   case rel=>exact⟨a,o++[_],w,_,_,by go_num,by have:=f.1;simp;omega,s,p,by rw[dj];exact f.2⟩
   case measure=>simp[A0]
  |@named a _ an c5 _ bo _ K _ bc cc t w q r b9 z v p=>
   have a3:(0:Int)<((a+1:Nat):Int):=by omega
   have a6:IntKind.i64.wrap (((a+1:Nat):Int)-1)=(a:Int):=by rw[fh];omega
   go_wp2_with fail;refine b.run q λa7 c=>?_;clear b;have l:=c.cs;go_wp2_with fail;refine c.runC r λa8 g _=>?_;clear c l;go_wp2_with fail;refine g.run z λa9 h=>?_;clear g;go_wp2_with fail;refine h.lit1.nilS.add G v λba i=>?_;have e:=am i;clear h i;go_wp2_with (at_builtin;refine e.out.app rfl (by have:=f.1;omega) rfl _ _ rfl rfl rfl ?_;intro C ao bb s);go_roundw
   case rel=>exact⟨a,o++[_],w,_,_,by go_num,by have:=f.1;simp;omega,s,p,by rw[dj];exact f.2⟩
   case measure=>simp[A0]
def FBl(f:FuncId)(d m s k b:Int)(h:Int->Prop)(e i:Int):Prop:=∀ ⦃C:Cd⦄ ⦃T:Int⦄ ⦃c:Cr⦄ ⦃L:List Nd⦄,Pd T c L m->T-L.length<=b->∃z g a,An T c L g a z s k 100/\Rb C T f [Z V d] c L (Z V z) g a/\Sx h d e i T L a z
def FBl.all{e c:Int}{a:Int->Prop}(h:FBl f d m s k 140 a e c):FB f d m s k 100 a e c:=λ_ _ _ _ b=>h b (by have:=b.sum;omega)
def Mv.subL{T:Int}{o:Cr}{l:List Nd}{q:Int}(p:Pd T o l m)(a:Mv T o l c L q)(C:Cd){j e r:Int}{h:Int->Prop}(hF:FBl f d j s k b h e r)(A:T-L.length<=b)(ad:1<=j/\j+1<=m)(al:q<=500)(B: -20000+12*j<=T-L.length)(ak:s<=12/\k<=4000):
  ∃(z:Int) (i:Cr) (g:List Nd),(0<=z/\z<=100000)/\(L.length<g.length/\z=g.length-1/\Lf s k (T-L.length) (T-g.length))/\Mv T o l i g (q-100)/\Rb C T f [Z V d] c L (Z V z) i g/\Sx h d e r T L g z:=by
 have K:=a.len p;have F:=p.hx;have G:=a.p;have y:=a.p0;have H:=p.m0;have I:=a.n;have J:=p.sum;obtain⟨z,i,g,b,h⟩:=@hF C T c L ⟨p.sum,B,by omega,by omega,y⟩ A;obtain⟨t,u,v,E,w,x⟩:=b;exact⟨z,i,g,by omega,⟨u,v,x⟩,⟨a.nx.trans t,by omega,by omega,w,by omega⟩,h⟩
def J5{mk mr ck cr p er o br:Int}(bw:(d<=0/\(p=8/\er=8)/\o=1/\br=1)\/(d=1/\(p=6/\er=8)/\o=0/\br=1)\/(2<=d/\(p=6/\er=6)/\o=0/\br=0))(K: -1000<=d/\d<=1000)(L:(1<=me/\me+1<=m)/\(1<=mk/\mk+1<=m)/\(1<=mr/\mr+1<=m))(ax:(0<=ce/\ce+3<=k)/\(0<=ck/\ck+3<=k)/\(0<=cr/\cr+1<=k)/\k<=3800)(au:FB 105 d me 1 ce 0 Ek 3 0)(I:FB 109 (d-1) mk 1 ck 0 (· =1) 7 1)
  (J:10<b->FBl 108 (d-1) mr 4 cr (b-2) (· =7) er br):FBl 108 d m 4 k b (· =7) p o:=by
 intro l al bl bf c a0;have bx:=w1 K;have a5:=c.lo;have a6:=c.m0;obtain⟨b0,bn,bh,y,ap,C,bA,q⟩:=c.mv.sub c l au;obtain⟨bF,bo,ad,x,ar,E,bD,r⟩:=C.sub c l I;obtain⟨n,bp,a7,i,bE⟩:=E.pick c l 3;have v:=jH (k:=7) (op:=0) (n:=0) (t:=⟨#[]⟩) (by decide) (by decide) (by decide) (lJ (by decide)) (by decide) lC (by simp) (pl2 y x);have a:=i.len c;rcases(show n=0\/n=1\/(n≠0/\n≠1) by omega) with rfl|rfl|⟨G,H⟩
 case' inl=>
  obtain⟨a9,an,ak,w,u,g,a8,z⟩:=i.sub c l I;have a:=g.len c;refine⟨_,_,_,g.fin c (jH (k:=7) (op:=0) (n:=0) (t:=⟨#[]⟩) (by decide) (by decide) (by decide) (lJ (by decide)) (by decide) lC (by simp) ((pl2 y x).add w)),?_,q.fin3 r z (by omega) (by omega) (λA B ba f h s=>by rw[h,s];exact kf7 f (by simp)) rfl⟩;clear g u
 case' inr.inl=>
  by_cases bv:10<al-ad.length
  case' pos=>
   obtain⟨a9,an,ak,w,u,g,a8,z⟩:=i.subL c l (J (by omega)) (by omega) L.2.2 (by omega) (by omega) (by omega);have a:=g.len c;refine⟨_,_,_,g.fin c (jH (k:=7) (op:=0) (n:=0) (t:=⟨#[]⟩) (by decide) (by decide) (by decide) (lJ (by decide)) (by decide) lC (by simp) ((pl2 y x).add w)),?_,q.fin3 r z (by omega) (by omega) (λA B ba f h s=>by rw[h,s];exact kf7 f (by simp)) rfl⟩;clear g u
  case' neg=>refine⟨_,_,_,i.fin c v,?_,q.fin2 r (by omega) (λA B f h=>by rw[h];exact kf7 f (.inl rfl)) rfl⟩
 case' inr.inr=>
  refine⟨_,_,_,i.fin c v,?_,q.fin2 r (by omega) (λA B f h=>by rw[h];exact kf7 f (.inl rfl)) rfl⟩;have bt:(n==0)=false/\(n==1)=false:=by simp[G,H]
  clear G H
 all_goals
  clear C E i ap ar a7 v c a5 a6 ax L K a0 J;intro bc bk bj f;have b:=f.at
  have e:=b.cs;clear f;go_in
  repeat' (go_wp2_with (at_builtin;with_reducible refine At.app b rfl (by simp) rfl _ _ rfl rfl rfl ?_;clear b e;intro F bs j b;have e:=b.cs);first
   |(go_at_call 35;(first|with_reducible refine At.runC b (by assumption) ?_|with_reducible refine At.runC b.lit2 (by assumption) ?_|with_reducible refine At.runC b.lit1 (by assumption) ?_);clear b e;intro j b _;have e:=b.cs)
   |(go_at_call 102;with_reducible refine At.runR b (by assumption) ?_;clear b e;intro j F ao b;have e:=b.cs)
   |(go_at_call 103;with_reducible refine At.runR b (by assumption) ?_;clear b e;intro j F ao b;have e:=b.cs)
   |(go_at_call 101;(first|with_reducible refine At.kids b.lit1 a.1.2 a.1.1 ?_|with_reducible refine At.kids b.lit2 a.1.2 a.1.1 ?_|with_reducible refine At.kids b.nilI a.1.2 a.1.1 ?_);clear b e;intro j b;have e:=b.cs)
   |(go_at_call 104;(first|with_reducible refine At.add b.lit1.nilS a.1.2 a.1.1 ?_|with_reducible refine At.add b.lit2.nilS a.1.2 a.1.1 ?_|with_reducible refine At.add b.lit1.swap a.1.2 a.1.1 ?_|with_reducible refine At.add b.lit2.swap a.1.2 a.1.1 ?_|with_reducible refine At.add b.swap a.1.2 a.1.1 ?_|with_reducible refine At.add b a.1.2 a.1.1 ?_|with_reducible refine At.add b.nilS a.1.2 a.1.1 ?_|with_reducible refine At.add b.nilI.nilS a.1.2 a.1.1 ?_);clear b e;intro j b;have e:=b.cs)
   |(go_ret;exact⟨rfl,b.bd,b.bel⟩)
   |(with_reducible refine At.run b (by assumption) ?_;clear b e;intro j b;have e:=b.cs))
def apl{C':Int}(H:d<=0)(s:2<=m)(q:0<=C'/\C'<=3800)(p:FB 100 1 (m-1) 5 C' 0 (· =34) 0 (-1)):FB 36 d m 6 (C'+1) 0 Sk 6 0:=by
 intro j B E y e;have r:=e.lo;have u:=e.m0;obtain⟨J,F,z,v,o,h,I,w⟩:=e.mv.sub e j p;have b:=h.len e;refine⟨_,_,_,h.fin e (k:=6) (op:=0) (n:=0) (t:=⟨#[]⟩) (jH (by decide) (by decide) (by decide) (lJ (by decide)) (by decide) lC (by simp) (pl1 v)),?_,w.fin1 (λK g=>by rw[g];exact kfC (.inl rfl)) (by decide)⟩;clear h o e r u q s;intro x C A g;have a:=g.at
 have c:=a.cs;clear g;go_in
 repeat' (go_wp2_with (at_builtin;with_reducible refine At.app a rfl (by simp) rfl _ _ rfl rfl rfl ?_;clear a c;intro i G f a;have c:=a.cs);first
  |(go_at_call 35;(first|with_reducible refine At.runC a (by assumption) ?_|with_reducible refine At.runC a.lit2 (by assumption) ?_|with_reducible refine At.runC a.lit1 (by assumption) ?_);clear a c;intro f a _;have c:=a.cs)
  |(go_at_call 102;with_reducible refine At.runR a (by assumption) ?_;clear a c;intro f i l a;have c:=a.cs)
  |(go_at_call 103;with_reducible refine At.runR a (by assumption) ?_;clear a c;intro f i l a;have c:=a.cs)
  |(go_at_call 101;(first|with_reducible refine At.kids a.lit1 b.1.2 b.1.1 ?_|with_reducible refine At.kids a.lit2 b.1.2 b.1.1 ?_|with_reducible refine At.kids a.nilI b.1.2 b.1.1 ?_);clear a c;intro f a;have c:=a.cs)
  |(go_at_call 104;(first|with_reducible refine At.add a.lit1.nilS b.1.2 b.1.1 ?_|with_reducible refine At.add a.lit2.nilS b.1.2 b.1.1 ?_|with_reducible refine At.add a.lit1.swap b.1.2 b.1.1 ?_|with_reducible refine At.add a.lit2.swap b.1.2 b.1.1 ?_|with_reducible refine At.add a.swap b.1.2 b.1.1 ?_|with_reducible refine At.add a b.1.2 b.1.1 ?_|with_reducible refine At.add a.nilS b.1.2 b.1.1 ?_|with_reducible refine At.add a.nilI.nilS b.1.2 b.1.1 ?_);clear a c;intro f a;have c:=a.cs)
  |(go_ret;exact⟨rfl,a.bd,a.bel⟩)
  |(with_reducible refine At.run a (by assumption) ?_;clear a c;intro f a;have c:=a.cs))
def arm{C:Cd}{T:Int}{ad n w ak c5:Cr}{r k:List Nd}{o u:Int}{e f:Nat}{g:List Int}(bt:1<=d/\d<=1000)(bE:¬T-L.length<8)(bb:z=4\/z=5\/z=6)(bc:Rc C 35 [Z V 17] c (Z V z) ad)(bf:Rc C 35 [Z V 2] ad (Z V o) n)(bF:IntKind.i64.wrap (1+o)=(e:Int))(b6:e<=3)(B:Xsc C T 107 d e n L ks w r)(bh:Rc C 35 [Z V 2] w (Z V u) ak)(b0:IntKind.i64.wrap (1+u)=(f:Int))(b7:f<=3)(bj:Rr C T 103 [Z V f,Z V d] ak r 3 f (g.map (A9 V)) c5 k)(an:ks.length=e)(bs:g.length=f)(ao:(k.length<=25000/\ -100000<=T/\T<=100000)/\c5.p<=20000000):Rb C T 36 [Z V d] c L (Z V (k.length:Nat)) c5 (k++[dN 5 0 e ⟨#[]⟩ [] (ks++g)]):=by
 intro G I H a8;have b:=a8.at
 have al:=b.cs;have bv:¬d<=0:=by omega
 rcases bb with rfl|rfl|rfl;all_goals
  go_in;go_wp2_with fail;refine b.runC bc λw1 J _=>?_;have al:=J.cs;go_wp2_with fail;refine J.runC bf λb8 a4 _=>?_;go_wp2;go_loopw [11,13] (λE i wr=>∃(a:Nat) (m:Nat) (h A:List Int) (x:Cr) (s:List Nd),i= Z V a/\a+m=e/\h.length=a/\At C T G I wr x s (rI E h::H)/\Xsc C T 107 d m x s A w r/\h++A=ks) (λ_ i _=>e-(A0 i).toNat)
  case atStart=>exact⟨0,e,[],ks,n,L,rfl,by simp,rfl,a4.nilI,B,rfl⟩
  case round=>
   obtain⟨a,m,h,A,x,s,rfl,a9,ba,b,au,q⟩:=hrel;have j:=mo a9 ba q;have bD:a<=e:=by omega
   cases au with
   |@cons m _ a5 _ _ a3 _ bn bk a1 ax=>
    have y:(a:Int)<(e:Int):=by omega
    go_wp2_with fail;refine b.run a1 λbl v=>?_;have B:=am v;go_wp2_with (at_builtin;refine B.out.app j.2.1 (by omega) rfl _ _ rfl rfl rfl ?_;intro t a7 ar l);go_roundw
    case rel=>exact⟨a+1,m,h++[bn],bk,a5,a3,by go_num,by have:=j.1;omega,by simp[j.2.1],l,ax,by rw[dj];exact j.2.2⟩
    case measure=>simp[A0];omega
   |nil=>
    have y:¬(a:Int)<(e:Int):=by omega
    have q:=j.2.2;rw[dC]at q;subst q;have al:=b.cs;go_wp2_with fail;refine b.runC bh λbl v _=>?_;go_wp2_with fail;refine v.runR bj λar t a6 l=>?_;have B:=am l.swap;go_wp2;go_loopw [11,118] (λE i wr=>∃(a:Nat),i= Z V a/\a<=f/\At C T G I wr c5 k (rI E (h++g.take a)::rI (O t f a6) g::H)) (λ_ i _=>f-(A0 i).toNat)
    case atStart=>exact⟨0,rfl,aH _,by simpa using B.out⟩
    case round=>
     obtain⟨a,rfl,bA,b⟩:=hrel;by_cases bw:a<f
     .obtain⟨F,ap⟩:∃F,g[a]?=Y F:=⟨_,az (by omega)⟩;obtain⟨br,rfl,bp⟩:=b.intAt ap;have bx:(0:Int)<=(a:Int):=by omega
      have y:(a:Int)<(f:Int):=by omega
      have B:=iK b (show(h++g.take a).length=e+a by rw[bm,eE,an];omega);have a0:=am (show h++g.take (a+1)=h++g.take a++[F] by rw[jc,ap,dj];rfl);go_wp2_with (at_builtin;refine B.1.app B.2 (by omega) rfl _ _ rfl rfl rfl ?_;intro t a7 ar l);go_roundw
      case rel=>exact⟨a+1,by go_num,by omega,by rw[a0.out];exact l⟩
      case measure=>simp[A0];omega
     .obtain⟨bo,n,rfl⟩:=b.form;have y:¬(a:Int)<(f:Int):=by omega
      rw[bC,show(h++g.take a).length=e+a by rw[bm,eE,an];omega]at b⊢;rw[cj (by omega)]at b;have B:=am (b.swap.drop.nilS);go_wp2_with fail;refine B.out.add ao.1.2 ao.1.1 λb9 K=>?_;go_wp2;go_ret;exact⟨rfl,K.bd,K.bel⟩
def arn{mm C':Int}(b7:1<=d/\d<=1000)(cb:1<=mm/\mm+2<=m)(b6:4<=C'/\C'<=3700)(ak:FB 105 d mm 1 C' 0 Ek 3 0)(bv:FB 106 d mm 12 C' 0 (· =36) 3 0)(bw:FB 107 d mm 4 (C'-3) 0 Tk' 0 (-1))(bj:FB 100 d mm 12 C' 0 (· =34) 0 (-1))(bt:FB 100 1 mm 5 C' 0 (· =34) 0 (-1))
  (bs:FB 108 d mm 12 C' 100 (· =7) 6 0) (ap:FB 109 (d-1) mm 1 C' 100 (· =1) 7 1):FB 36 d m 6 (C'+5) 0 Sk 6 0:=by
 intro e a8 cu bo b;have cF:=w1 (d:=d) (by omega);have ca:=b.lo;have cc:=b.m0;have cz:¬d<=0:=by omega
 by_cases b9:a8-bo.length<8
 case' pos=>
  obtain⟨H,b0,cq,u,b5,o,bx,cm⟩:=b.mv.sub b e bt;have g:=o.len b;refine⟨_,_,_,o.fin b (k:=6) (op:=0) (n:=0) (t:=⟨#[]⟩) (jH (by decide) (by decide) (by decide) (lJ (by decide)) (by decide) lC (by simp) (pl1 u)),?_,cm.fin1 (λK i=>by rw[i];exact kfC (.inl rfl)) (by decide)⟩;clear o b5
 case' neg=>
  obtain⟨n,b0,cd,o,bx⟩:=b.mv.pick b e 17;rcases(show(n=0\/n=1)\/n=2\/n=3\/(n=4\/n=5\/n=6)\/n=7\/(n=8\/n=9)\/n=10\/n=11\/n=12\/n=13\/n=14\/n=15\/n=16 by omega) with hn2|rfl|rfl|hn'|rfl|hn2|rfl|rfl|rfl|rfl|rfl|rfl|rfl
  case' inl=>
   obtain⟨l,v,G,f,C⟩:=o.pick b e 3;obtain⟨j,A⟩:∃j:Nat,1+l=(j:Int):=⟨(1+l).toNat,by omega⟩;have a9:=wq A (by omega);obtain⟨nm,x,s,p,h,z,ba⟩:=f.names b e j;obtain⟨J,a0,an,r,a6⟩:=h.pick b e 3;obtain⟨J,rfl⟩:=lr an.1;obtain⟨ks,c5,bF,ao,L,br,q,ax,bn⟩:=r.exprs b e ak J;have g:=q.len b;refine⟨_,_,_,q.fin b (k:=2) (op:=0) (n:=0) (t:=⟨#[]⟩) (nm:=nm) (ks:=ks) (jH (by decide) (by decide) (by decide) (lJ (by decide)) (by omega) p (by omega) L),?_,bn.fin (by omega) (λbk _ i=>as3 i ba (by omega)) (by decide)⟩;clear f h r q br G an s p ao L A
  case' inr.inl=>
   obtain⟨H,v,F,u,B,f,C,w⟩:=o.sub b e ak;obtain⟨nm,x,s,p,h,z,ba⟩:=f.names b e 1;replace z:Rr e a8 102 [Z V 1] v F 9 1 (nm.map A2) x F:=z;have g:=h.len b;refine⟨_,_,_,h.fin b (k:=3) (op:=0) (n:=0) (t:=⟨#[]⟩) (nm:=nm) (jH (by decide) (by decide) (by decide) (lJ (by decide)) (by omega) p (by simp) (pl1 u)),?_,w.fin1 (λK i=>aq2 (.inl ⟨rfl,i⟩) ba s) (by decide)⟩;clear f h B s p
  case' inr.inr.inl=>
   obtain⟨H,v,F,u,B,f,C,w⟩:=o.sub b e bv;obtain⟨nm,x,s,p,h,z,ba⟩:=f.names b e 1;replace z:Rr e a8 102 [Z V 1] v F 9 1 (nm.map A2) x F:=z;have g:=h.len b;refine⟨_,_,_,h.fin b (k:=4) (op:=0) (n:=0) (t:=⟨#[]⟩) (nm:=nm) (jH (by decide) (by decide) (by decide) (lJ (by decide)) (by omega) p (by simp) (pl1 u)),?_,w.fin1 (λK i=>aq2 (.inr ⟨rfl,i⟩) ba s) (by decide)⟩;clear f h B s p
  case inr.inr.inr.inl=>
   obtain⟨l,v,G,f,C⟩:=o.pick b e 2;obtain⟨j,A⟩:∃j:Nat,1+l=(j:Int):=⟨(1+l).toNat,by omega⟩;have a9:=wq A (by omega);obtain⟨ks,x,al,s,p,I,h,bE,E⟩:=xsc b e (by decide) (by omega) bw (by omega) (by omega) j v bo f (by omega) (by omega) (by omega);obtain⟨J,a0,an,r,a6⟩:=h.pick b e 2;obtain⟨cl,b4⟩:∃j:Nat,1+J=(j:Int):=⟨(1+J).toNat,by omega⟩;have ce:=wq b4 (by omega);have cB:12-C'-4*j<=a8-al.length:=by have:=I.2.2.2 (by omega) (by omega);omega
   obtain⟨ck,c5,bF,ao,L,br,q,ax,bn⟩:=r.exprs b e ak cl;have g:=q.len b;exact⟨_,_,_,q.fin b (k:=5) (op:=0) (n:=j) (t:=⟨#[]⟩) (nm:=[]) (ks:=ks++ck) (jH (by decide) (by decide) (by omega) (lJ (by decide)) (by decide) lC (by rw[bm];omega) (λbA cf=>(List.mem_append.1 cf).elim (p bA) (L bA))),arm b7 b9 hn' bx C a9 (by omega) bE a6 ce (by omega) ax s ao g,E.finS bn (by omega) (by omega) (λbk c0 b3 cy i ad=>by rw[<-s,<-b3];exact kf5 i ad (by omega) (by omega)) (by decide)⟩
  case' inr.inr.inr.inr.inl=>
   obtain⟨H,v,F,u,B,f,C,w⟩:=o.sub b e bj;have g:=f.len b;refine⟨_,_,_,f.fin b (k:=6) (op:=0) (n:=0) (t:=⟨#[]⟩) (jH (by decide) (by decide) (by decide) (lJ (by decide)) (by decide) lC (by simp) (pl1 u)),?_,w.fin1 (λK i=>by rw[i];exact kfC (.inl rfl)) (by decide)⟩;clear f B
  case' inr.inr.inr.inr.inr.inl=>
   obtain⟨H,v,F,a,C,w⟩:=o.tail b e bs;have g:=o.len b;refine⟨H,v,F,⟨a.nx,a.n,a.z,a.p,a.p0,by have:=a.lf;omega⟩,?_,w.up (λK i=>by omega)⟩;clear a
  case' inr.inr.inr.inr.inr.inr.inl=>
   obtain⟨H,v,F,u,B,f,C,w⟩:=o.sub b e ak;obtain⟨bc,x,al,au,I,h,z,E⟩:=f.sub b e ap;have g:=h.len b;refine⟨_,_,_,h.fin b (k:=8) (op:=0) (n:=0) (t:=⟨#[]⟩) (jH (by decide) (by decide) (by decide) (lJ (by decide)) (by decide) lC (by simp) (pl2 u au)),?_,w.fin2 E (by omega) (λK bD i ad=>by rw[ad];exact kf8 i) (by decide)⟩;clear f h B I
  case' inr.inr.inr.inr.inr.inr.inr.inl=>
   obtain⟨l,v,G,f,C⟩:=o.pick b e 2;obtain⟨j,A⟩:∃j:Nat,2+l=(j:Int):=⟨(2+l).toNat,by omega⟩;have a9:=wq A (by omega);obtain⟨ks,x,al,ao,L,I,h,z,E⟩:=f.exprs b e ak j;obtain⟨bc,a0,bf,au,bh,r,a6,bl⟩:=h.sub b e ap;obtain⟨nm,c5,s,p,q,ax,bb⟩:=r.names b e 1;replace ax:Rr e a8 102 [Z V 1] a0 bf 9 1 (nm.map A2) c5 bf:=ax;have g:=q.len b;refine⟨_,_,_,q.fin b (k:=9) (op:=0) (n:=0) (t:=⟨#[]⟩) (nm:=nm) (ks:=ks++[bc]) (jH (by decide) (by decide) (by decide) (lJ (by decide)) (by omega) p (by simp;omega) (L.add au)),?_,E.finR bl (by omega) (by omega) (λbk K cx i ad=>by rw[ad];exact kf9 i (by omega) bb s) (by decide)⟩;have b8:j<=1000:=by omega
   clear f h r q I bh G s p L A
  case' inr.inr.inr.inr.inr.inr.inr.inr.inl=>
   obtain⟨H,v,F,u,B,f,C,w⟩:=o.sub b e ak;obtain⟨bc,x,al,au,I,h,z,E⟩:=f.sub b e ap;obtain⟨l,a0,G,r,a6⟩:=h.pick b e 2;obtain⟨j,A⟩:∃j:Nat,1+l=(j:Int):=⟨(1+l).toNat,by omega⟩;have a9:=wq A (by omega);obtain⟨nm,c5,s,p,q,ax,bb⟩:=r.names b e j;have g:=q.len b;refine⟨_,_,_,q.fin b (k:=10) (op:=0) (n:=0) (t:=⟨#[]⟩) (nm:=nm) (jH (by decide) (by decide) (by decide) (lJ (by decide)) (by omega) p (by simp) (pl2 u au)),?_,w.fin2 E (by omega) (λK bD i ad=>by rw[ad];exact aq3 (.inl ⟨rfl,i⟩) bb (by omega)) (by decide)⟩;clear f h r q B I G s p A
  case' inr.inr.inr.inr.inr.inr.inr.inr.inr.inl=>
   obtain⟨l,v,G,f,C⟩:=o.pick b e 2;by_cases ar:l=0
   case' pos=>
    subst ar;obtain⟨J,x,an,h,z⟩:=f.pick b e 2;have cI:=wi (a:=11+J) (by omega);have g:=h.len b;refine⟨_,_,_,h.fin b (k:=11+J) (op:=0) (n:=0) (t:=⟨#[]⟩) (jH (by omega) (by decide) (by decide) (lJ (by omega)) (by decide) lC (by simp) pl0),?_,Sx.fin0 (kf0 _ (by omega)) (by omega)⟩;clear h an
   case' neg=>
    have b2:(l==0)=false:=by simpa using ar
    obtain⟨J,x,an,h,z⟩:=f.pick b e 3;obtain⟨J,rfl⟩:=lr an.1;obtain⟨ks,a0,bf,ao,L,bh,r,a6,bl⟩:=h.exprs b e ak J;have g:=r.len b;refine⟨_,_,_,r.fin b (k:=13) (op:=0) (n:=0) (t:=⟨#[]⟩) (ks:=ks) (jH (by decide) (by decide) (by decide) (lJ (by decide)) (by decide) lC (by omega) L),?_,bl.fin (by omega) (λbk _ i=>aq1 i) (by decide)⟩;clear h r bh an ao L ar
   all_goals clear f G
  case' inr.inr.inr.inr.inr.inr.inr.inr.inr.inr.inl=>
   obtain⟨H,v,F,u,B,f,C,w⟩:=o.sub b e ap;obtain⟨bc,x,al,au,I,h,z,E⟩:=f.sub b e ap;obtain⟨l,a0,G,r,a6⟩:=h.pick b e 2;obtain⟨j,A⟩:∃j:Nat,1+l=(j:Int):=⟨(1+l).toNat,by omega⟩;have a9:=wq A (by omega);obtain⟨nm,c5,s,p,q,ax,bb⟩:=r.names b e j;have g:=q.len b;refine⟨_,_,_,q.fin b (k:=14) (op:=0) (n:=0) (t:=⟨#[]⟩) (nm:=nm) (jH (by decide) (by decide) (by decide) (lJ (by decide)) (by omega) p (by simp) (pl2 u au)),?_,w.fin2 E (by omega) (λK bD i ad=>by rw[ad];exact aq3 (.inr ⟨rfl,i⟩) bb (by omega)) (by decide)⟩;clear f h r q B I G s p A
  case' inr.inr.inr.inr.inr.inr.inr.inr.inr.inr.inr.inl=>
   obtain⟨l,v,G,f,C⟩:=o.pick b e 2;by_cases ar:l=0
   case' pos=>
    subst ar;obtain⟨H,x,al,a,z,E⟩:=f.tail b e ap;have g:=f.len b;refine⟨H,x,al,⟨a.nx,a.n,a.z,a.p,a.p0,by have:=a.lf;omega⟩,?_,E.up (λK i=>by omega)⟩;clear a
   case' neg=>
    have b2:(l==0)=false:=by simpa using ar
    obtain⟨H,x,al,u,I,h,z,E⟩:=f.sub b e ak;have g:=h.len b;refine⟨_,_,_,h.fin b (k:=15) (op:=0) (n:=0) (t:=⟨#[]⟩) (jH (by decide) (by decide) (by decide) (lJ (by decide)) (by decide) lC (by simp) (pl1 u)),?_,E.fin1 (λK i=>kf1 (by omega) (.inr rfl) (.inr (.inr rfl)) i) (by decide)⟩;clear h I ar
   all_goals clear f G
  case' inr.inr.inr.inr.inr.inr.inr.inr.inr.inr.inr.inr=>
   obtain⟨H,v,F,u,B,f,C,w⟩:=o.sub b e bj;have g:=f.len b;refine⟨_,_,_,f.fin b (k:=16) (op:=0) (n:=0) (t:=⟨#[]⟩) (jH (by decide) (by decide) (by decide) (lJ (by decide)) (by decide) lC (by simp) (pl1 u)),?_,w.fin1 (λK i=>by rw[i];exact kfC (.inr rfl)) (by decide)⟩;clear f B
  all_goals clear o cd
  all_goals (try rcases hn2 with rfl|rfl)
 all_goals
  clear b ca b6 cb cc ak bv bw bj bt bs ap;intro cn ct cr i;have c:=i.at
  have y:=c.cs;clear i;go_in
  repeat' (go_wp2_with (at_builtin;with_reducible refine At.app c ao b8 rfl _ _ rfl rfl rfl ?_;clear c y;intro bp cw a7 c;have y:=c.cs);first
   |(go_at_call 35;(first|with_reducible refine At.runC c (by assumption) ?_|with_reducible refine At.runC c.lit2 (by assumption) ?_|with_reducible refine At.runC c.lit1 (by assumption) ?_);clear c y;intro a7 c _;have y:=c.cs)
   |(go_at_call 102;with_reducible refine At.runR c (by assumption) ?_;clear c y;intro a7 bp b1 c;have y:=c.cs)
   |(go_at_call 103;with_reducible refine At.runR c (by assumption) ?_;clear c y;intro a7 bp b1 c;have y:=c.cs)
   |(go_at_call 101;(first|with_reducible refine At.kids c.lit1 g.1.2 g.1.1 ?_|with_reducible refine At.kids c.lit2 g.1.2 g.1.1 ?_|with_reducible refine At.kids c.nilI g.1.2 g.1.1 ?_);clear c y;intro a7 c;have y:=c.cs)
   |(go_at_call 104;(first|with_reducible refine At.add c.lit1.nilS g.1.2 g.1.1 ?_|with_reducible refine At.add c.lit2.nilS g.1.2 g.1.1 ?_|with_reducible refine At.add c.lit1.swap g.1.2 g.1.1 ?_|with_reducible refine At.add c.lit2.swap g.1.2 g.1.1 ?_|with_reducible refine At.add c.swap g.1.2 g.1.1 ?_|with_reducible refine At.add c g.1.2 g.1.1 ?_|with_reducible refine At.add c.nilS g.1.2 g.1.1 ?_|with_reducible refine At.add c.nilI.nilS g.1.2 g.1.1 ?_);clear c y;intro a7 c;have y:=c.cs)
   |(go_ret;exact⟨rfl,c.bd,c.bel⟩)
   |(with_reducible refine At.run c (by assumption) ?_;clear c y;intro a7 c;have y:=c.cs))
def am8:FB 100 1 10 5 5 100 (· =34) 0 (-1):=am7 (by decide) (mb:=3) (me:=2) (cb:=2) (ce:=1) (by decide) (by decide) (by decide) (am5 (me:=2) (ce:=1) (by decide) (by decide) (Fq (by decide))) (Fq (by decide))
def act(a:d<=0):FB 109 d 16 1 7 100 (· =1) 7 1:=aju (ms:=15) (cs:=6) (by decide) (by decide) (apl (C':=5) a (by decide) (by decide) am8.up)
def al3:∀(b:Nat)(d:Int),b<=1000->d<=0-> -1000+(b:Int)<=d->FBl 108 d (17+b) 4 (10+((b / 2:Nat):Int)) b (· =7) 8 1:=by
 intro b
 induction b using Nat.strongRecOn with
 |_ b e=>
  intro d f a g;rcases bI b 2 with hb2|hb2
  .refine J5 (me:=2) (mk:=16) (mr:=15) (ce:=1) (ck:=7) (cr:=0) (.inl ⟨a,⟨rfl,rfl⟩,rfl,rfl⟩) (by omega) (by omega) (by omega) (Fq a) (act (by omega)).up (λc=>by omega)
  refine J5 (me:=2) (mk:=16) (mr:=15+b) (ce:=1) (ck:=7) (cr:=9+((b / 2:Nat):Int)) (.inl ⟨a,⟨rfl,rfl⟩,rfl,rfl⟩) (by omega) (by omega) (by omega) (Fq a) (act (by omega)).up (λc=>?_);have:=e (b-2) (by omega) (d-1) (by omega) (by omega) (by omega);rw[show((b-2:Nat):Int)=(b:Int)-2 by omega,show(17:Int)+((b:Int)-2)=15+b by omega,show(10:Int)+(((b-2) / 2:Nat):Int)=9+((b / 2:Nat):Int) by omega]at this;exact this
structure Lv (d m Ce Ck Cr er br:Int):Prop where
 e:FB 105 d m 1 Ce 0 Ek 3 0
 k:FB 109 d m 1 Ck 100 (· =1) 7 1
 r:FB 108 d m 4 Cr 100 (· =7) er br
def lv0:Lv 0 160 1 7 80 8 1:=⟨(Fq (by decide)).up,(act (by decide)).up,(FBl.all (al3 140 0 (by decide) (by decide) (by decide))).up⟩
def lvS{a b Cr cc cb er br:Int}(z:(d=0/\er=8/\br=1)\/(1<=d/\er=6/\br=0))(h:Lv d m a b Cr er br)(y:0<=d/\d<=10)(A:20<=m/\m<=1200)(v:1<=a/\1<=b/\1<=Cr:=by decide)(x:a+10<=cc/\b+1<=cc:=by decide)(w:cc+4<=cb/\b+3<=cb/\Cr+1<=cb/\cb<=3000:=by decide):FB 36 (d+1) (m+9) 6 (cb+5) 0 Sk 6 0/\Lv (d+1) (m+10) (cc+1) (cb+6) cb 6 0:=by
 have f:d+1-1=d:=by omega
 have c:FB 105 (d+1-1) m 1 a 0 Ek 3 0:=by rw[f];exact h.e
 have j:FB 109 (d+1-1) m 1 b 100 (· =1) 7 1:=by rw[f];exact h.k
 have q:FB 108 (d+1-1) m 4 Cr 100 (· =7) er br:=by rw[f];exact h.r
 have g:FB 162 (d+1-1) (m+1) 2 (a+1) 0 Bk 4 0:=am5 (by omega) (by omega) c;have n:FB 100 (d+1) (m+3) 5 (a+1+3) 100 (· =34) 0 (-1):=am7 (by omega) (by omega) (by omega) (by omega) g c;have t:FB 165 (d+1) (m+1) 10 (a+10) 100 (· =35) 0 (-1):=apk (by omega) (by omega) (by omega) (by omega) c;have o:FB 106 (d+1) (m+1) 2 (b+1) 100 (· =36) 3 0:=fnB (mk:=m) (ck:=b) (by omega) (by omega) (by omega) (by omega) j.up;have i:FB 105 (d+1) (m+5) 1 (cc+1) 0 Ek 3 0:=apj (mc:=m+4) (cc:=cc) (by omega) (by omega) (by omega) c g n.up t.up o.up;have s:FB 107 (d+1) (m+2) 4 (a+1+3) 0 Tk' 0 (-1):=aly (by omega) (by omega) (by omega) (by omega) g c;have l:FB 108 (d+1) (m+6) 4 cb 100 (· =7) 6 0:=FBl.all (J5 (me:=m+5) (mk:=m) (ce:=cc+1) (ck:=b) (mr:=m) (cr:=Cr) (er:=er) (br:=br) (by omega) (by omega) (by omega) (by omega) i j.up (λ_=>λ_ _ _ _ u _=>q u));have hS:FB 36 (d+1) (m+9) 6 (cb+5) 0 Sk 6 0:=arn (mm:=m+7) (by omega) (by omega) (by omega) i.up o.up s.up n.up am8.up l.up j.up;have p:FB 109 (d+1) (m+10) 1 (cb+5+1) 100 (· =1) 7 1:=aju (ms:=m+9) (cs:=cb+5) (by omega) (by omega) hS;exact⟨hS,i.up,p.up,l.up⟩
def ajv(g:1<=d/\d<=5):FB 36 d 220 6 130 0 Sk 6 0:=by
 have a:=lvS (cc:=11) (cb:=81) (by decide) lv0 (by decide) (by decide) (by decide) (by decide) (by decide);have b:=lvS (cc:=88) (cb:=92) (by decide) a.2 (by decide) (by decide) (by decide) (by decide) (by decide);have c:=lvS (cc:=99) (cb:=103) (by decide) b.2 (by decide) (by decide) (by decide) (by decide) (by decide);have e:=lvS (cc:=110) (cb:=114) (by decide) c.2 (by decide) (by decide) (by decide) (by decide) (by decide);have f:=lvS (cc:=121) (cb:=125) (by decide) e.2 (by decide) (by decide) (by decide) (by decide) (by decide);rcases(show d=1\/d=2\/d=3\/d=4\/d=5 by omega) with rfl|rfl|rfl|rfl|rfl
 .exact a.1.up
 .exact b.1.up
 .exact c.1.up
 .exact e.1.up
 .exact f.1.up
structure Tw (w:World) (lo:Nat) (v:Value) (M:List Mb):Prop where
 lw:Lw w lo v M
 sep:(bL M).Nodup
def TrP(C:Cd)(E:Bs)(W:World)(L:List Nd)(c:Cr)(e:Ending)(w':World):Prop:=∃(b a:Nat) (M:List Mb),e= .returned (.agg #[O (Y ⟨b,0,U⟩) L.length a])/\M.map Mb.N=L/\Tw w' E.base (O (Y ⟨b,0,U⟩) L.length a) M/\Cu C E w' c/\B0 E.base W w'
def Rt(C:Cd)(f:FuncId)(c:Cr)(L:List Nd)(a:Cr):Prop:=∀ ⦃E:Bs⦄ ⦃W:World⦄,Cu C E W c->Calls Tryz.prog f #[cV E] W (TrP C E W L a)
abbrev trR(a:Nat):Rwx:=⟨25,O (Y ⟨a,0,U⟩) 1 1,[O U 0 0]⟩
section
variable {C : Cd} {T : Int} {E F : Bs} {W W' : World} {c : Cr} {M : List Mb}
def Cu.start{w1:World}(h:Cu C E w1 c)(T:Int){a:Nat}(i:w1.heap[a]?=Y (Ax #[O U 0 0] 25 (0,0)))(f:E.base<=a):Bd C T ⟨E.base,E.cb,w1.heap.size,E.a0,E.cap⟩ (w1.alloc (Ax #[cV E,O U 0 0,Z V T] 89)) c [] [trR a]:=by
 have e:=gc w1 (Ax #[cV E,O U 0 0,Z V T] 89);have b:=h.below e;have g:w1.ownsRow E.base 25 1 (O (Y ⟨a,0,U⟩) 1 1) 1 [O U 0 0]:=⟨rfl,.inr ⟨a,1,#[O U 0 0],rfl,f,i,af _,by unfold maxLen;omega,rfl,rfl⟩⟩;refine⟨⟨b.lo,b.code,b.cur⟩,h.lo.2,⟨O U 0 0,?_,fE _ _ _ _⟩,λj d=>(by cases d),λj d=>?_,?_⟩
 .simpa using aB w1 (Ax #[cV E,O U 0 0,Z V T] 89)
 .rw[List.mem_singleton.1 d];exact⟨by show TO 25;decide,de g e⟩
 .simp[bR,bL,A5]
def Bd.ans{d:Nat}(h:Bd C T F W c M [trR d]):W.heap[d]?=Y (Ax #[O U 0 0] 25 (0,0))/\d≠F.bb:=by
 have k:=(h.rows _ bq).2;have b:W.heap[d]?=Y (Ax #[O U 0 0] 25 (0,0)):=by
  rcases k.2 with⟨a,_⟩|⟨n,m,e,a,_,j,o,p,f,g⟩
  .cases a
  .cases a;have:e.toList=[O U 0 0]:=by
    have i:e.toList.take (1*1)=[O U 0 0]:=g;rw[<-i,cj];rw[iG,f];exact af _
   rw[j,Array.toList_inj.1 (this.trans rfl:e.toList=(#[O U 0 0]:Array Value).toList)]
 have⟨q,l,_⟩:=h.row;refine⟨b,λa=>?_⟩;rw[a,l]at b;simp only[fI,nH]at b;exact absurd b.2.1 (by decide)
def Bd.done{a:Nat}{v:Value}(h:Bd C T F W c M [trR a])(f:W.cell? ⟨F.bb,1,U⟩=Y v):Tw (W.setCell ⟨a,0,U⟩ v) F.base v M/\Cu C F (W.setCell ⟨a,0,U⟩ v) c/\B0 F.base W (W.setCell ⟨a,0,U⟩ v)/\(W.setCell ⟨a,0,U⟩ v).heap[a]?=Y (Ax #[v] 25 (0,0)):=by
 have⟨l,k⟩:=h.ans;have⟨e,g,p2⟩:=h.row;obtain rfl:e=v:=by
  rw[aj _ _ _ _ _ _ g]at f;exact bz f
 obtain⟨b,i⟩:=h.hot (r':=⟨25,O U 0 0,[]⟩) (Al (rq W a) 0 e) (by show TO 25;decide) (fE _ _ _ _) (λo j=>by cases j);have⟨n,d,m⟩:=b.row;obtain rfl:n=e:=by
  rw[aC _ _ _ _ k.symm,g]at d;simp at d;exact d.symm
 exact⟨⟨⟨m,b.each⟩,by simpa [bR,A5] using b.sep⟩,b.cu,i,bg _ a 0 _ _ _ l⟩
def Bd.root{wr e:World}{d f j:Nat}{b i:Option Addr}{r:Value}(o:Bd C T F wr c M (rS (O U 0 0) []::rI (O b ks.length f) ks::[trR d]))
  (n:wr.heap[F.bb]?=Y (Ax #[cV F,O i M.length j,Z V (T-M.length)] 89 (0,0)))
  (l:e.ownsRow F.base 61 9 r (M.length+1) (im M++(B9 (dN 1 0 0 ⟨#[]⟩ [] ks) (O U 0 0) (O b ks.length f)).toList))
  (G:(wr.alloc (Ax (B9 (dN 1 0 0 ⟨#[]⟩ [] ks) (O U 0 0) (O b ks.length f)) 61)).grownBy e (Value.slice i M.length j).ownBlock):
  ∃a c5,r= O (Y ⟨a,0,U⟩) (M.length+1) c5/\(e.cell? ⟨F.bb,1,U⟩=Y (O i M.length j)/\e.frozen? ⟨F.bb,1,U⟩=false)/\(e.cell? ⟨d,0,U⟩=Y (O U 0 0)/\e.frozen? ⟨d,0,U⟩=false)/\d≠F.bb/\F.bb≠d/\
   Hid (∀g,g=(e.setCell ⟨F.bb,1,U⟩ (O (Y ⟨a,0,U⟩) (M.length+1) c5)).setCell ⟨d,0,U⟩ (O (Y ⟨a,0,U⟩) (M.length+1) c5)->Tw g F.base (O (Y ⟨a,0,U⟩) (M.length+1) c5) (M++[⟨dN 1 0 0 ⟨#[]⟩ [] ks,O U 0 0,O b ks.length f⟩])/\Cu C F g c/\B0 F.base wr g/\g.heap[d]?=Y (Ax #[O (Y ⟨a,0,U⟩) (M.length+1) c5] 25 (0,0))):=by
 have k:=gc wr (Ax (B9 (dN 1 0 0 ⟨#[]⟩ [] ks) (O U 0 0) (O b ks.length f)) 61);have E:=o.below k;have H:=(k.block _ (ai n)).trans n;rcases bJ l with⟨I,_⟩|⟨a,c5,rfl⟩
 .omega
 have B:im M++(B9 (dN 1 0 0 ⟨#[]⟩ [] ks) (O U 0 0) (O b ks.length f)).toList=im (M++[⟨dN 1 0 0 ⟨#[]⟩ [] ks,O U 0 0,O b ks.length f⟩]):=by rw[tg];show _=im M++(J9 _++[]);rw[dC];rfl
 rw[B]at l;have z:T+1-1=T:=by omega
 have A:T+1-(M.length:Int)-1=T-M.length:=by omega
 obtain⟨q,t,m⟩:=Bd.push (T:=T+1) (N:=dN 1 0 0 ⟨#[]⟩ [] ks) (by rw[z];exact E) (by rw[A];exact H) rfl l G;have⟨s,h⟩:=q.ans;have p:e.heap[d]?=Y (Ax #[O U 0 0] 25 (0,0)):=(aC _ _ _ _ h).symm.trans s;refine⟨a,c5,rfl,⟨by rw[aj _ _ _ _ _ _ m];rfl,cC _ _ _ _ _ m⟩,⟨by rw[aj _ _ _ _ _ _ p];rfl,cC _ _ _ _ _ p⟩,h,h.symm,?_⟩;rintro g rfl;obtain⟨u,w,x,y⟩:=q.done (v:= O (Y ⟨a,0,U⟩) (M.length+1) c5) (by rw[aj _ _ _ _ _ _ (bg _ F.bb 1 _ _ _ m)];rfl);exact⟨u,w,((k.mono o.lt.2.2.1).trans t).trans x,y⟩
end
structure Td (c:Cr) (L:List Nd) (c':Cr):Prop where
 nd:∀N∈L,C9 N
 n:L≠[]/\L.length<=265
 p:0<=c'.p/\c'.p<=20000000
 r:0<=c'.r/\c.r+bigs L<=c'.r/\(c.r<=3->c'.r<=3)
def apm(C:Cd)(c:Cr)(bw:0<=c.p/\c.p<=100)(c7:0<=c.r):∃L a9,Td c L a9/\Rt C 15 c L a9/\eG L=(0,0)/\∃z b8,Sd [] L [z] [1] b8 6:=by
 obtain⟨z,cl,bF,cr,dg⟩:=oB C c 120 (by decide) (by decide) bw.1 (by omega);obtain⟨an,cm,bp,ct,dn⟩:=oB C cl 5;obtain⟨n,ak,bs,cx,dq⟩:=oB C cm 8;obtain⟨n,rfl⟩:=lr bs.1;have p:Pd (20+z) ak [] 221:=⟨by omega,by simp;omega,by simp;omega,by decide,by omega⟩;obtain⟨v,ba,J,eh,bA,bj,B,w,eq,b8,ew,b1,ax,a2⟩:=bkc p C (ajv (d:=1+an) (by omega)) (by decide) (by decide) (by decide) n ak [] p.mv;simp only[fs]at bj;have c0:J.length<=264:=by omega
 have bx:=B.p;simp only[fs]at bx;have bk:C9 (dN 1 0 0 ⟨#[]⟩ [] v):=jH (by decide) (by decide) (by decide) (lJ (by decide)) (by decide) lC (by omega) bA;obtain⟨d6,F,b0,dx,d0⟩:=B.nx.add bk (by rw[aeh (show(dN 1 0 0 ⟨#[]⟩ [] v).x.size<=19 from aH _)];exact Int.le_of_eq (Int.add_zero _)) id;rw[dI]at F;have cy:=B.p0;have a3:=ax.finB (op:=0) (n:=0) (t:=⟨#[]⟩) (nm:=[]) (aq0 b1) (by rw[<-ax.len];omega);refine⟨J++[dN 1 0 0 ⟨#[]⟩ [] v],ba,⟨by rw[F];exact b0,⟨by simp,by simp;omega⟩,by omega,by rw[F];omega⟩,λb j m=>?_,a3.tree (by simp;omega) (by have:=a2.1;simp only[fs]at this;omega),_,_,a3.up (Int.le_refl _) (by have:=a2.2;omega)⟩;clear b1 ax a2 a3;have eo:=wi (a:=20+z) (by omega);have en:=wi (a:=1+an) (by omega);have ek:n<=7:=by omega
 have ee:=bp.1;have ep:=bF.1;clear b0 dx d0 F B p bj bx bk bA cr ct cx bp bF bs cy bw c7;have a:=m.cw;go_in;go_wp2_with fail;refine a.al.run dg λw1 q l=>?_;have H:=(l.block j.heap.size (by simp) (λk=>by have:=m.lt;have:=bz k;omega)).trans (aB j _);have cI:=q.cu.lt;have cz:b.base<=j.heap.size:=m.lo.2;have o:=q.cu.start (20+z) H cz;have bl:B0 b.base j w1:=Dn q.gr m.lo.1 m.lo.2;have bn:=bl.trans ((gc w1 (Ax #[cV b,O U 0 0,Z V (20+z)] 89)).mono q.cu.lo.2);have y:=am bn;clear a H l bl bn m q;go_wp2_with fail;obtain⟨g,hF⟩:=aJ (⟨b.base,b.cb,w1.heap.size,b.a0,b.cap⟩:Bs);have u:g.base=b.base/\g.cb=b.cb/\w1.heap.size=g.bb/\g.a0=b.a0/\g.cap=b.cap:=by rw[<-hF];exact⟨rfl,rfl,rfl,rfl,rfl⟩
 rw[hF]at o;have bh:cV b=cV g:=by show Value.pointer _=Value.pointer _;rw[u.2.1]
 have f:=In.at (R:=[trR j.heap.size]) ⟨[],rfl,o⟩;rw[<-u.1]at y;generalize (w1.alloc _)=cf at f y⊢;rw[u.2.2.1,bh];have cc:=am u;clear o hF bh u cI;have cF:=y.out;refine f.runC dn λd2 s _=>?_;clear f;go_wp2_with fail;refine s.runC dq λd3 E _=>?_;have a7:=am E.nilI;clear s E cF;go_wp2;go_loopw [5,6] (λb6 au wr=>∃(e:Nat) (i ar:List Int) (c5:Cr) (K:List Nd),au= Z V e/\i.length+e<=7/\At C (20+z) g cf wr c5 K (rI b6 i::[trR j.heap.size])/\Bkc C (20+z) (1+an) e c5 K ar ba J/\i++ar=v) (λ_ au _=>(A0 au).toNat)
 case atStart=>exact⟨n,[],v,ak,[],rfl,by simp;omega,a7.out,w,rfl⟩
 case round=>
  clear a7 w;obtain⟨e,i,ar,c5,K,rfl,ap,f,o,k⟩:=hrel;have bd:=f.cs;cases o with
  |@cons e _ cn _ _ ce _ d4 ds eb cd b9=>
   have ef:(0:Int)<((e+1:Nat):Int):=by omega
   have em:IntKind.i64.wrap (((e+1:Nat):Int)-1)=(e:Int):=by rw[fh];omega
   have I:=iK ap k;have eg:e<=7:=by omega
   clear ap k;go_wp2_with fail;refine f.run cd λd2 s=>?_;have w:=am s;clear f s bd;go_wp2_with (at_builtin;refine w.out.app rfl (by have:=I.1;omega) rfl _ _ rfl rfl rfl ?_;intro a6 bf d3 E);go_roundw
   case rel=>exact⟨e,i++[d4],ds,cn,ce,by go_num,by have:=I.1;simp;omega,E,b9,by rw[dj];exact I.2⟩
   case measure=>simp[A0]
  |stop bD=>
   rw[dC]at k;subst k;obtain⟨a8,bc,rfl⟩:=f.form;rw[bC]at f⊢;obtain⟨⟨ad,rfl,G⟩,bo⟩:=f.nilS;rw[bC]at c0 bd bD;obtain⟨b6,l,ao⟩:=G.row;obtain⟨a6,bf,rfl⟩:=cg ao;have d8:wr.cell? ⟨g.bb,1,U⟩=Y (O a6 ad.length bf):=by rw[aj _ _ _ _ _ _ l];rfl
   have A:=Dl G l ao (y.out.trans bo);have ei:=G.lt;obtain⟨c8,c9,da,dc,df⟩:=eu IA;clear f l ao G bo;have H:(0<(e:Int)/\¬5<20+z-ad.length)\/¬0<(e:Int):=by omega
   clear bD ap;rcases H with⟨q1,er⟩|q1;all_goals
    go_wp2_with (at_builtin;refine wpList_append_own_at _ rfl _ _ 23 rfl g.base 61 c8 _ 9 112 Tryz.underlying23 c9 da dc df rfl (by decide) _ _ _ rfl (de A.2.2.1 (gc wr _)) ⟨wr.heap.size,0,U⟩ 1 1 (B9 (dN 1 0 0 ⟨#[]⟩ [] i) (O U 0 0) (O a8 i.length bc)).toList rfl rfl (World.news_of_block (aB wr _)) (by intro es bE;simp at bE;rcases bE with rfl|rfl|rfl|rfl|rfl|rfl|rfl|rfl|rfl<;>rfl) (by unfold maxLen;omega) (by omega) (by simp;omega) ?_;intro et ev bt br _ cB;obtain⟨cq,c5,rfl,d9,ea,el,ej,ca⟩:=A.1.root A.2.1 bt br;clear bt br cB);obtain⟨b5,a5,ck,d1⟩:=ca.out _ rfl;have h:=cc.out;rw[h.1]at b5;exact bH (iF rfl _ _ j.heap.size _ _ _ _ rfl d1 Tryz.underlying25 rfl (by kernel_rfl)) rfl ⟨cq,c5,ad++[⟨dN 1 0 0 ⟨#[]⟩ [] i,O U 0 0,O a8 i.length bc⟩],by simp,by simp,by simpa using b5,⟨by rw[<-h.1,<-h.2.1];exact a5.lo,by rw[<-h.1,<-h.2.2.2.1];exact a5.code,by have:=a5.cur;unfold cuO at this;rw[h.2.1,h.2.2.2.1,h.2.2.2.2]at this;exact this⟩,by have:=A.2.2.2.trans ck;rw[h.1]at this;exact this⟩
def al4(C:Cd):∃L l,Td ⟨0,0,0⟩ L l/\eG L=(0,0)/\(∃z J,Sd [] L [z] [1] J 6)/\∀ ⦃W:World⦄ ⦃b:Option Addr⦄ ⦃h:Nat⦄,Code C W.heap.size W b->Calls Tryz.prog 4 #[O b C.len h] W λe w'=>∃v,e= .returned (.agg #[v])/\Nl w' v L/\be W w':=by
 have⟨L,l,u,s,F,B⟩:=apm C ⟨0,0,0⟩ (by decide) (by decide);refine⟨L,l,u,F,B,λW b h o=>?_⟩;have⟨a,A⟩:=aJ (W.alloc (Ax #[O U 0 0] 25));have⟨n,k,r⟩:=al1 A;have i:Code C a.heap.size a b:=(o.below k).imp id λ⟨I,H,e,c,i⟩=>⟨I,H,e,by omega,i⟩;have g:=gc a (Ax #[O b C.len h,Z V 0,Z .u64 0,Z V 0] 41);have d:=s (E:=⟨a.heap.size,a.heap.size,0,b,h⟩) ⟨⟨af _,g.size⟩,i.below g,aB a _⟩;have f:=mo n k g;clear n k g i o;simp only[cV,r]at d;go_in;go_wp2_with fail;refine d.mono ?_;rintro e w1 ⟨x,w,t,rfl,p,q, -,c⟩;have c:be a w1:=f.2.2.trans (by rw[r];exact c);have m:=(c.block _ (by omega)).trans f.1;have K:=eI m;have ad:w1.frozen? ⟨W.heap.size,0,U⟩=false:=cC _ _ _ _ _ m;have j:=mo p q.lw c;clear p q c d;go_wp2_with fail;have G:=j.2.1.mono (w':=w1.setCell ⟨W.heap.size,0,U⟩ (O (Y ⟨x,0,U⟩) L.length w)) λd y ak=>aC _ _ _ _ (by have:W.heap.size+1<=d:=y;show d≠W.heap.size;omega);exact bH (iF rfl _ _ W.heap.size _ _ _ _ rfl (bg _ _ 0 _ _ _ m) Tryz.underlying25 rfl (by kernel_rfl)) rfl ⟨_,rfl,⟨t,_,j.1,G⟩,(f.2.1.trans (j.2.2.mono f.2.1.size)).setCell (af _) _⟩
