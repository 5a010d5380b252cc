import Derived.Test.YthjpdjibdnecoaaGreatDoorHQk32
import Derived.Test.YthjpdjibdnecoaaGreatDoorHQk39
import Derived.Lib.AppendIntMem
import Derived.Test.YthjpdjibdnecoaaGreatDoorHQk48
set_option linter.all false
set_option maxRecDepth 100000
set_option maxHeartbeats 12800000
open Go.RowKit renaming Below->M,Hid->A7,intOf->A8
open Go.Value renaming slice->O,int->Q,string->Y
open Go.IntKind renaming i64->U
open Option renaming none->X,some->A0
open Bool renaming false->Z,true->A3
open Go renaming World->Ax,Value->A4,Calls->A6,TypeId->A9
open Go.Proofs.Tryz renaming prog->A1
open Go.Obj renaming cells->A2
open Go.Ending renaming returned->A5
namespace Go.Proofs.YthjpdjibdnecoaaGreatDoor
open Go.RowKit Go.Maps Go.WideMaps
inductive Fd:List Int->List Tk->List Int->Prop where
 |nil {st:List Int}:Fd st [] st
 |cons {st:List Int}{T:Tk}{ts:List Tk}{st':List Int}:1<=T.k->T.k<=78->T.k≠6->(feedL st T.k).2=true->Fd (feedL st T.k).1 ts st'->Fd st (T::ts) st'
theorem K8(V:Array A4)(base:Int)(r:ByteArray)(b:40<=base):∀(f i:Nat)(a:Int×Nat),a.1≠6->(DB V base r f i a).1≠6
 |0,i,a,h=>h
 |f+1,i,a,h=>by
  unfold DB;refine K8 V base r b f (i+1) _ ?_;split
  ·show base+(i:Int)≠6;omega
  ·exact h
theorem ahJ(s:ByteArray)(p:Nat)(h:(rdI s p).ok=A3):sj s p≠6:=by
 unfold sj;rw[ab h];unfold rdI at h⊢;split
 ·simp only;unfold JI;cases hf:uE ez (s.extract p (mo s (s.size+1) p)) 22 0 with
  |none=>simp
  |some e=>simp only;omega
 split
 ·split
  ·simp only;unfold vI;split
   ·simp
   ·split<;>simp
  ·rename_i a b c;rw[aa a,ab b,aa c]at h;cases h
 split
 ·split
  ·simp
  ·rename_i a b c d;rw[aa a,aa b,ab c,aa d]at h;cases h
 split
 ·rename_i a b c d;rw[aa a,aa b,aa c,ab d]at h;cases h
 ·simp only;unfold se;split
  ·omega
  split
  ·omega
  ·exact K8 _ _ _ (by omega) _ _ _ (K8 _ _ _ (by omega) _ _ _ (by simp))
theorem Cz(s:ByteArray):∀(f:Nat)(st:List Int)(p:Nat)(l:Int)(i:List Tk)(b:List Tk)(c:List Int),uy s f st p l i=(b,c, -1)->∃ts d,b=i++ts++[⟨6,(s.size:Nat),(s.size:Nat),d,0,⟨#[]⟩⟩]/\Fd st ts c
 |0,st,p,l,i,b,c,h=>by simp[uy]at h
 |f+1,st,p,l,i,b,c,h=>by
  rw[uy]at h;split at h
  ·simp only[gw]at h;exact⟨[],l,by rw[da];exact h.1.symm,by rw[<-h.2.1];exact .nil⟩
  split at h
  ·split at h
   ·rename_i g;obtain⟨ts,d,e,j⟩:=Cz s f _ _ _ _ b c h;exact⟨⟨5,(p:Nat),((rdI s p).a:Nat),l,(rdI s p).n,(rdI s p).x⟩::ts,d,by rw[e];simp,.cons (by show(1:Int)<=5;omega) (by show(5:Int)<=78;omega) (by show(5:Int)≠6;omega) g j⟩
   ·exact Cz s f _ _ _ _ b c h
  split at h
  ·rename_i o g;split at h
   ·rename_i m;obtain⟨r,t⟩:=Ij s p m;have q:sj s p=(rdI s p).k:=by unfold sj;rw[ab m]
    rw[show Ai st (sj s p)=feedL st (sj s p) by unfold Ai;rw[ab (by omega)]]at g;obtain⟨ts,d,e,j⟩:=Cz s f _ _ _ _ b c h;exact⟨⟨sj s p,(p:Nat),((rdI s p).a:Nat),l,(rdI s p).n,(rdI s p).x⟩::ts,d,by rw[e];simp,.cons (by show 1<=sj s p;omega) (by show sj s p<=78;omega) (ahJ s p m) g j⟩
   ·simp only[gw]at h;omega
  ·simp only[gw]at h;omega
section
variable {tk : Nat → Tk} {n : Nat}
theorem afq{t:Int}{i j:Nat}(a:(tk i).k=t)(g:i<n):∀(f:Nat)(st:List Int)(c:Nat)(lo r:List Int)(m b:Nat),eD f st t c=A0 (lo,A0 A3,b)->D tk n m (lo++r) (i+1) j->∃l,D tk n l (st++r) i j
 |0,_,_,_,_,_,_,h,_=>by simp[eD]at h
 |f+1,[],_,_,_,_,_,h,_=>by simp[eD]at h
 |f+1,s::q,c,lo,r,m,b,h,p=>by
  by_cases o:s<100
  ·obtain⟨rfl,e,_⟩:=qw h o;have e:decide (s=t)=A3:=by simpa using e.symm
   exact⟨m+1,.tok o (by rw[a];exact(aC e).symm) g p⟩
  ·rcases jl h (by omega) with⟨v,d⟩|⟨_,_,d,_⟩
   ·obtain⟨l,u⟩:=afq a g f _ _ lo r m b d p;exact⟨l+1,.exp (r:=q++r) (by omega) g (by rw[a];exact v) (by rw[a,<-dh];exact u)⟩
   ·simp at d
theorem Lc{t:Int}{i j m:Nat}(b:(tk i).k=t)(c:i<n):∀(st:List Int),(feedL st t).2=A3->D tk n m (feedL st t).1 (i+1) j->∃f,D tk n f st i j
 |[],h,_=>by simp[feedL]at h
 |s::r,h,a=>by
  by_cases e:s<100
  ·rw[il e]at h a;exact⟨m+1,.tok e (by rw[b];exact(aC h).symm) c a⟩
  ·by_cases d:(xE s t).1=[]/\(xE s t).2=A3
   ·rw[jF (by omega) d]at h a;obtain⟨f,p⟩:=Lc b c r h a;exact⟨f+1,.exp (by omega) c (by rw[b];exact d.2) (by rw[b,d.1];exact p)⟩
   ·rw[feedL,aa e,aa d]at h a;split at h
    ·rename_i u l o g;have q:l=A3:=h;subst q;rw[g]at a;exact afq b c 8 [s] 0 u r m o g a
    ·simp at h
theorem alK:∀(ts:List Tk)(st d:List Int)(i m j:Nat),Fd st ts d->(∀q T,ts[q]?=A0 T->tk (i+q)=T)->i+ts.length<=n->D tk n m d (i+ts.length) j->∃k,D tk n k st i j
 |[],st,d,i,m,j,h,_,_,f=>by cases h;exact⟨m,f⟩
 |T::ts,st,d,i,m,j,h,g,s,f=>by
  cases h with
  |cons a b c o e=>
   rw[bv]at s f;obtain⟨k,p⟩:=alK ts _ d (i+1) m j e (fun q l r=>by rw[show i+1+q=i+(q+1) by omega];exact g (q+1) l (by simpa using r)) (by omega) (by rw[show i+1+ts.length=i+(ts.length+1) by omega];exact f);exact Lc (by rw[show tk i=T from g 0 T rfl]) (by omega) st o p
end
def No6(st:List Int):Prop:=∀a∈st,a≠6/\a<=133
theorem ahK:((List.range 34).all fun s=>(List.range 78).all fun t=>(xE ((s:Int)+100) ((t:Int)+1)).1.all fun x=>decide (x≠6)||!(xE ((s:Int)+100) ((t:Int)+1)).2)=A3:=by decide+kernel
theorem ake{s t:Int}(i:100<=s)(j:s<=133)(k:1<=t)(l:t<=78)(h:(xE s t).2=A3):No6 (xE s t).1:=by
 have e:=List.all_eq_true.1 ahK (s-100).toNat (by rw[iF];omega);have a:=List.all_eq_true.1 e (t-1).toNat (by rw[iF];omega);have f:(((s-100).toNat:Nat):Int)+100=s:=by omega
 have g:(((t-1).toNat:Nat):Int)+1=t:=by omega
 rw[f,g]at a;refine fun d c=>⟨?_,(LL i j k l).1 d c⟩;have b:=List.all_eq_true.1 a d c;rw[h]at b;simpa using b
theorem I5{t:Int}(j:1<=t)(k:t<=78):∀(f:Nat)(st:List Int)(c:Nat)(lo:List Int)(b:Nat),No6 st->eD f st t c=A0 (lo,A0 A3,b)->No6 lo/\t≠6
 |0,_,_,_,_,_,h=>by simp[eD]at h
 |f+1,[],_,_,_,_,h=>by simp[eD]at h
 |f+1,s::q,c,lo,b,g,h=>by
  have i:No6 q:=fun a hx=>g a (dC _ hx);have o:=g s (bK ..);by_cases l:s<100
  ·obtain⟨rfl,d,_⟩:=qw h l;have d:decide (s=t)=A3:=by simpa using d.symm
   have:=aC d;exact⟨i,by omega⟩
  ·rcases jl h (by omega) with⟨m,e⟩|⟨_,_,e,_⟩
   ·refine I5 j k f _ _ lo b (fun a hx=>?_) e;rcases List.mem_append.1 hx with hx|hx
    ·exact ake (by omega) o.2 j k m a hx
    ·exact i a hx
   ·simp at e
theorem afr{t:Int}(e:1<=t)(f:t<=78):∀(a:List Int),No6 a->(feedL (a++[6]) t).2=A3->(t=6/\(feedL (a++[6]) t).1=[])\/(t≠6/\∃b,(feedL (a++[6]) t).1=b++[6]/\No6 b)
 |[],_,h=>by
  rw[de,il (by omega)]at h⊢;exact .inl ⟨(aC h).symm,rfl⟩
 |s::a,i,h=>by
  have d:No6 a:=fun c hx=>i c (dC _ hx);have j:=i s (bK ..);rw[ej]at h⊢;by_cases p:s<100
  ·rw[il p]at h⊢;have:=aC h;exact .inr ⟨by omega,a,rfl,d⟩
  ·by_cases hx:(xE s t).1=[]/\(xE s t).2=A3
   ·rw[jF (by omega) hx]at h⊢;exact afr e f a d h
   ·obtain⟨k,b,l,g,_⟩:=sF (by omega) j.2 e f hx;rw[jG (by omega) hx g]at h⊢;have q:b=A3:=h;subst q;obtain⟨m,o⟩:=I5 e f 8 [s] 0 k l (fun c hx=>by rw[List.mem_singleton.1 hx];exact j) g;refine .inr ⟨o,k++a,by rw[dh],fun c hx=>?_⟩;rcases List.mem_append.1 hx with hx|hx
    ·exact m c hx
    ·exact d c hx
theorem afs:∀(ts:List Tk)(a:List Int)(c:List Int),No6 a->Fd (a++[6]) ts c->∃b,c=b++[6]/\No6 b
 |[],a,c,d,h=>by cases h;exact⟨a,rfl,d⟩
 |T::ts,a,c,d,h=>by
  cases h with
  |cons g i j k f=>
   rcases afr g i a d k with⟨e,_⟩|⟨_,b,e,l⟩
   ·exact absurd e j
   ·rw[e]at f;exact afs ts b c l f
theorem ail{ts:List Tk}{st e:List Int}(h:Fd st ts e):∀{T:Tk},T∈ts->1<=T.k/\T.k<=78/\T.k≠6:=by
 induction h with
 |nil=>intro T hT;cases hT
 |cons a b c f g d=>
  intro T hT;rcases List.mem_cons.1 hT with rfl|hT
  ·exact⟨a,b,c⟩
  ·exact d hT
def zTk:Tk:=⟨0,0,0,0,0,⟨#[]⟩⟩
def uC(ts:List Tk)(q:Nat):Tk:=ts.getD q zTk
theorem CA{ts:List Tk}{q:Nat}{T:Tk}(h:ts[q]?=A0 T):uC ts q=T:=by unfold uC;rw[cp,h];rfl
theorem akf{s:ByteArray}{toks:List Tk}{st:List Int}(h:jb s=(toks,st, -1))(l:(feedL st 6).2=A3):∃(m:Nat) (R:Fo) (e:Int),toks.length=m+1/\uC toks m=⟨6,(s.size:Nat),(s.size:Nat),e,0,⟨#[]⟩⟩/\P (uC toks) (m+1) .stats 0 R m/\∀q,q<m->(uC toks q).k≠6:=by
 obtain⟨a,e,c,f⟩:=Cz s _ _ _ _ _ toks st h;rw[de]at c;have L:No6 [100]:=fun an I=>by rw[List.mem_singleton.1 I];omega
 obtain⟨u,B,F⟩:=afs a [100] st L f;have G:toks.length=a.length+1:=by rw[c];simp
 have o:uC toks a.length=⟨6,(s.size:Nat),(s.size:Nat),e,0,⟨#[]⟩⟩:=CA (by rw[c,fJ (ae _),eB];rfl);have C:(feedL st 6).1=[]:=by
  rw[B]at l⊢;rcases afr (by omega) (by omega) u F l with⟨_,g⟩|⟨g,_⟩
  ·exact g
  ·exact absurd rfl g
 have r:∀q b,a[q]?=A0 b->uC toks q=b:=fun q b d=>CA (by rw[c,ie (List.getElem?_eq_some_iff.1 d).1];exact d);have p:∀i,(uC toks i).k<100/\(i<a.length->(uC toks i).k≠6):=fun i=>by
  rcases Nat.lt_trichotomy i a.length with g|g|g
  ·rw[r i _ (bJ g)];have:=ail f (Aw g);exact⟨by omega,fun _=>this.2.2⟩
  ·rw[g,o];exact⟨by simp,fun g=>by omega⟩
  ·unfold uC;rw[cp,jL (by omega)];exact⟨by simp[zTk],fun g=>by omega⟩
 obtain⟨J,v⟩:=Lc (tk:=uC toks) (n:=a.length+1) (t:=6) (i:=a.length) (j:=a.length+1) (m:=0) (by rw[o]) (by omega) st l (by rw[C];exact .nil);obtain⟨ak,w⟩:=alK (tk:=uC toks) (n:=a.length+1) a _ st 0 J _ f (fun q b d=>by rw[pu];exact r q b d) (by omega) (by rw[pu];exact v);obtain⟨K,al,k,x,y,_⟩:=D.split w [100] [6] rfl;obtain⟨A,ad,am,z,_⟩:=y.toks (by omega);have af:=z.nils;obtain rfl:k=a.length:=by omega
 obtain⟨R,E⟩:=(ahf (n:=a.length+1) (fun i=>(p i).1) K).stats x (Nat.lt_succ_self _) (.inr A);exact⟨a.length,R,e,G,o,E,fun q H=>(p q).2 H⟩
def Fo.all(p:Nd->Prop):Fo->Prop
 | .nil=>True
 | .cons N k r=>p N/\k.all p/\r.all p
theorem od(p:Nd->Prop):∀(a b:Fo),(a.app b).all p↔a.all p/\b.all p
 | .nil,b=>by simp[Fo.app,Fo.all]
 | .cons N k r,b=>by simp only[Fo.app,Fo.all,od p r b,and_assoc]
theorem eL(p:Nd->Prop)(N:Nd)(k:Fo):(one N k).all p↔p N/\k.all p:=by simp[one,Fo.all]
def Gd(tk:Nat->Tk)(n:Nat)(N:Nd):Prop:=(N.x=z0\/∃a,N.x=(tk a).x)/\N.nm.length<=n/\∀b∈N.nm,∃a,b=(tk a).x
def alL(tk:Nat->Tk)(n:Nat):wF->Prop
 | .more _ _ x=>x.all (Gd tk n)
 | .post _ B=>B.all (Gd tk n)
 |_=>True
section
variable {tk : Nat → Tk} {n : Nat}
theorem gd0(k:Int)(s:Tk)(e b m:Int):Gd tk n (nd k s e b m z0 []):=⟨.inl rfl,aL _,fun c a=>by cases a⟩
theorem gdx(k:Int)(s:Tk)(e b m:Int)(q:Nat):Gd tk n (nd k s e b m (tk q).x []):=⟨.inr ⟨q,rfl⟩,aL _,fun x a=>by cases a⟩
theorem gd1(h:0<n)(k:Int)(s:Tk)(e b m:Int)(q:Nat):Gd tk n (nd k s e b m z0 [(tk q).x]):=⟨.inl rfl,h,fun x a=>⟨q,List.mem_singleton.1 a⟩⟩
theorem gdb(k:Int)(s:Tk)(e:Int):Gd tk n (qx k s e):=by unfold qx;split;exact gd0 ..;split;exact gd0 ..;exact gd0 ..
theorem gdh(N:Nd)(ks:Fo)(s:Tk)(e:Int)(h:Gd tk n N)(a:ks.all (Gd tk n)):(jn N ks s e).all (Gd tk n):=by
 unfold jn;split
 ·rw[eL,eL];exact⟨gd0 ..,h,a⟩
 ·rw[eL];exact⟨h,a⟩
theorem Fc.gd{i j:Nat}{ns:List ByteArray}(h:Fc tk n i ns j):i+2*ns.length<=j/\j<n/\∀x∈ns,∃q,x=(tk q).x:=by
 induction h with
 |stop c a=>exact⟨by simp,a,fun x hx=>by cases hx⟩
 |go c a d _ b=>
  refine⟨by simp;omega,b.2.1,fun x hx=>?_⟩;rcases List.mem_cons.1 hx with rfl|hx
  ·exact⟨_,rfl⟩
  ·exact b.2.2 x hx
theorem Prm.gd{i j:Nat}{ns:List ByteArray}{r:Bool}(h:Prm tk n i ns r j):i+ns.length<=j/\j<=n/\∀x∈ns,∃q,x=(tk q).x:=by
 induction h with
 |close a b=>exact⟨by simp,by omega,fun x hx=>by cases hx⟩
 |rest a b c=>exact⟨by simp,by omega,fun x hx=>by cases hx⟩
 |last a b c=>exact⟨by simp,by omega,fun x hx=>⟨_,List.mem_singleton.1 hx⟩⟩
 |go a b c _ d=>
  refine⟨by simp;omega,d.2.1,fun x hx=>?_⟩;rcases List.mem_cons.1 hx with rfl|hx
  ·exact⟨_,rfl⟩
  ·exact d.2.2 x hx
theorem gdn{i j q:Nat}{ns:List ByteArray}(h:Fc tk n i ns j)(k:Int)(s:Tk)(e b m:Int):Gd tk n (nd k s e b m z0 ((tk q).x::ns)):=by
 obtain⟨c,d,a⟩:=h.gd;refine⟨.inl rfl,by show ns.length+1<=n;omega,fun x hx=>?_⟩;rcases List.mem_cons.1 hx with rfl|hx
 ·exact⟨_,rfl⟩
 ·exact a x hx
theorem P.gd{t:wF}{i j:Nat}{R:Fo}(h:P tk n t i R j):alL tk n t->R.all (Gd tk n):=by
 induction h
 case tlet0 h1 h2 h3 h4 h5=>intro _;rw[eL];exact⟨gdn h4 ..,trivial⟩
 case tlet h1 h2 h3 h4 h5 h6 ih=>intro _;rw[eL];exact⟨gdn h4 ..,ih trivial⟩
 case tfor h1 h2 h3 h4 h5 h6 h7 i1 i2=>intro _;rw[eL,od];exact⟨gdn h4 ..,i1 trivial,i2 trivial⟩
 case teach h1 h2 h3 h4 h5 h6 h7 h8 h9 i1 i2=>intro _;rw[eL,od];exact⟨gdn h4 ..,i1 trivial,i2 trivial⟩
 case ttry h1 h2 h3 h4 h5 h6 h7 h8 i1 i2=>intro _;rw[eL,od];exact⟨gdn h7 ..,i1 trivial,i2 trivial⟩
 case body nm r B h1 h2 h3 h4 ih=>intro _;rw[eL];exact⟨⟨.inl rfl,by have:=h3.gd;show nm.length<=n;omega,h3.gd.2.2⟩,ih trivial⟩
 case bopen h1 h2 h3 h4 h5 h6 i1 i2=>intro _;have:=i1 trivial;rw[eL]at this;exact i2 (gdh _ _ _ _ this.1 this.2)
 case tcon h1 h2 h3 h4 h5 ih=>intro _;rw[eL];exact⟨gd1 (by omega) ..,ih trivial⟩
 case tfn h1 h2 h3 h4 h5 ih=>intro _;rw[eL];exact⟨gd1 (by omega) ..,ih trivial⟩
 all_goals
  intro a
  simp_all only[eL,od,alL,Fo.all,gdx,gd0,fp,gdb,and_self,true_implies,forall_const]
end
def Fo.nms:Fo->Nat
 | .nil=>0
 | .cons N k r=>N.nm.length+k.nms+r.nms
theorem pJ:∀(a b:Fo),(a.app b).nms=a.nms+b.nms
 | .nil,b=>by simp[Fo.app,Fo.nms]
 | .cons N k r,b=>by simp only[Fo.app,Fo.nms,pJ r b];omega
theorem oe(N:Nd)(k:Fo):(one N k).nms=N.nm.length+k.nms:=by simp[one,Fo.nms]
theorem aft(N:Nd)(ks:Fo)(s:Tk)(e:Int):(jn N ks s e).nms=(one N ks).nms:=by
 unfold jn;split
 ·rw[oe];simp[fp,nd]
 ·rfl
theorem CC(k:Int)(s:Tk)(e a m:Int)(x:ByteArray)(nm:List ByteArray):(nd k s e a m x nm).nm=nm:=rfl
theorem akg(k:Int)(s:Tk)(e:Int):(qx k s e).nm=[]:=by unfold qx;split;rfl;split<;>rfl
def Gc:wF->Nat
 | .more _ _ x=>x.nms
 | .post _ B=>B.nms
 |_=>0
theorem P.nms{tk:Nat->Tk}{n:Nat}{t:wF}{i j:Nat}{R:Fo}(h:P tk n t i R j):R.nms+i<=Gc t+j:=by
 induction h
 case tlet0 h1 h2 h3 h4 h5=>have:=h4.gd;simp only[oe,pJ,Gc,CC,Fo.nms,bv]at *;omega
 case tlet h1 h2 h3 h4 h5 h6 ih=>have:=h4.gd;simp only[oe,pJ,Gc,CC,Fo.nms,bv]at *;omega
 case tfor h1 h2 h3 h4 h5 h6 h7 i1 i2=>have:=h4.gd;simp only[oe,pJ,Gc,CC,Fo.nms,bv]at *;omega
 case teach h1 h2 h3 h4 h5 h6 h7 h8 h9 i1 i2=>have:=h4.gd;simp only[oe,pJ,Gc,CC,Fo.nms,bv]at *;omega
 case ttry h1 h2 h3 h4 h5 h6 h7 h8 i1 i2=>have:=h7.gd;simp only[oe,pJ,Gc,CC,Fo.nms,bv]at *;omega
 case body h1 h2 h3 h4 ih=>have:=h3.gd;simp only[oe,pJ,Gc,CC,Fo.nms,bv]at *;omega
 all_goals
  simp only[oe,pJ,aft,Gc,fp,CC,akg,Fo.nms,bv,dd]at *;omega
theorem CD:∀(R:Fo)(K b:Nat),Gq K (R.flat b)+R.len=K+8*R.sz+R.nms
 | .nil,K,b=>by simp[Fo.flat,Gq,Fo.len,Fo.sz,Fo.nms]
 | .cons N k r,K,b=>by
  have c:=CD k K b;have d:=CD r (nxt (Gq K (k.flat b)) {N with ks:=k.tops b}) (b+k.sz+1);have e:=k.tops_len b;rw[Fo.flat,adC,Gq];have a:nxt (Gq K (k.flat b)) {N with ks:=k.tops b}=Gq K (k.flat b)+7+N.nm.length+(k.tops b).length:=rfl;simp only[Fo.len,Fo.sz,Fo.nms];omega
theorem al0(s:ByteArray)(p:Nat)(e:p<s.size):(rdI s p).x.size<=s.size:=by
 have c:∀a b,(s.extract a b).size<=s.size:=fun a b=>by rw[iu];omega
 unfold rdI;split
 ·show(JI s p).2.size<=_;unfold JI;split
  ·exact aL _
  ·exact c _ _
 split
 ·split
  ·show(vI s p).2.2.size<=_;unfold vI;split
   ·exact aL _
   split
   ·exact aL _
   ·exact c _ _
  ·exact aL _
 split
 ·split
  ·show(ic _).size<=_;have d:=(so s (s.size+1) (p+1) [] e).2.2;rw[aa9];simp at d;omega
  ·exact aL _
 split
 ·exact aL _
 ·exact aL _
theorem aaH(s:ByteArray):∀(f:Nat)(st:List Int)(p:Nat)(l:Int)(a:List Tk),(∀T∈a,T.x.size<=s.size)->∀T∈(uy s f st p l a).1,T.x.size<=s.size
 |0,st,p,l,a,h=>fun T hT=>by cases hT
 |f+1,st,p,l,a,h=>by
  have c:∀(b:Tk),b.x.size<=s.size->∀T∈a++[b],T.x.size<=s.size:=fun b e T hT=>by
   rcases List.mem_append.1 hT with hT|hT
   ·exact h T hT
   ·rw[List.mem_singleton.1 hT];exact e
  rw[uy];split
  ·exact c _ (aL _)
  ·rename_i g;have d:=al0 s p (by omega);split
   ·split
    ·exact aaH s f _ _ _ _ (c _ d)
    ·exact aaH s f _ _ _ _ h
   ·split
    ·split
     ·exact aaH s f _ _ _ _ (c _ d)
     ·exact fun T hT=>by cases hT
    ·exact fun T hT=>by cases hT
theorem aaI(s:ByteArray):∀(f:Nat)(st:List Int)(p:Nat)(l:Int)(b:List Tk),p<=s.size->(uy s f st p l b).1.length<=b.length+(s.size-p)+1
 |0,st,p,l,b,h=>aL _
 |f+1,st,p,l,b,h=>by
  rw[uy];split
  ·simp
  ·rename_i j;have d:∀q,q<=s.size->q<=blk s (s.size+1) q/\blk s (s.size+1) q<=s.size:=fun q i=>mJ s (s.size+1) q i;split
   ·rename_i e;have c:=mq s p (by omega) (aeq s p e).1;have:=d _ c.2.1;split
    ·have:=aaI s f (feedL st 5).1 (blk s (s.size+1) (rdI s p).a) (l+1) (b++[⟨5,(p:Nat),((rdI s p).a:Nat),l,(rdI s p).n,(rdI s p).x⟩]) (by omega);simp only[aH,wH]at this;omega
    ·have:=aaI s f st (blk s (s.size+1) (rdI s p).a) (l+1) b (by omega);omega
   ·split
    ·split
     ·rename_i g;have c:=mq s p (by omega) g;have:=d _ c.2.1;have:=aaI s f (feedL st (sj s p)).1 (blk s (s.size+1) (rdI s p).a) l (b++[⟨sj s p,(p:Nat),((rdI s p).a:Nat),l,(rdI s p).n,(rdI s p).x⟩]) (by omega);simp only[aH,wH]at this;omega
     ·exact aL _
    ·exact aL _
theorem Bi(p:Nd->Prop)(c:∀(N:Nd) (ks:List Int),p N->p {N with ks:=ks}):∀(R:Fo)(b:Nat),R.all p->∀N∈R.flat b,p N/\N.ks.length<=R.sz
 | .nil,b,h=>fun N hN=>by cases hN
 | .cons e k r,b,h=>fun N hN=>by
  have f:=k.len_le;have g:=k.tops_len b;rw[Fo.flat,AB,kG]at hN;rcases hN with hN|rfl|hN
  ·obtain⟨a,d⟩:=Bi p c k b h.2.1 N hN;exact⟨a,by rw[Fo.sz];omega⟩
  ·exact⟨c _ _ h.1,by rw[Fo.sz];show(k.tops b).length<=_;omega⟩
  ·obtain⟨a,d⟩:=Bi p c r _ h.2.2 N hN;exact⟨a,by rw[Fo.sz];omega⟩
def og(s:ByteArray)(R:Fo):List Nd:=(one ⟨1,0,(s.size:Nat),1,0,0,⟨#[]⟩,[],[]⟩ R).flat 0
structure PF (s:ByteArray) (toks:List Tk) (m:Nat) (R:Fo) (lz:Int):Prop where
 len:toks.length=m+1
 le:m<=s.size
 p:P (uC toks) (m+1) .stats 0 R m
 k78:∀q,(uC toks q).k<=78
 k6:∀q,q<m->(uC toks q).k≠6
 end_:uC toks m=⟨6,(s.size:Nat),(s.size:Nat),lz,0,⟨#[]⟩⟩
 sz:R.sz<=200000
 sm:∀N∈og s R,iA N
 ct:Gq 1 (og s R)<=2000000
theorem al1{s:ByteArray}(C:s.size<=65536){toks:List Tk}{st:List Int}(h:jb s=(toks,st, -1))(y:(feedL st 6).2=A3):∃m R f,PF s toks m R f:=by
 obtain⟨m,R,f,q,r,e,t⟩:=akf h y;obtain⟨K,J,b,x⟩:=Cz s _ _ _ _ _ toks st h;rw[de]at b;have H:=mJ s (s.size+1) 0 (aL _);have l:=aaI s (s.size+1) [100,6] (blk s (s.size+1) 0) 1 [] (by omega);have c:=aaH s (s.size+1) [100,6] (blk s (s.size+1) 0) 1 [] (fun d w=>by cases w);have E:uy s (s.size+1) [100,6] (blk s (s.size+1) 0) 1 []=(toks,st, -1):=h;rw[E]at l c;simp only[dd]at l;have B:=e.pos;simp only[eK,slk,bas]at B;have A:=e.nms;have u:=e.gd trivial;have j:(one ⟨1,0,(s.size:Nat),1,0,0,⟨#[]⟩,[],[]⟩ R:Fo).sz=R.sz+1:=aA _ _;have o:∀a,(uC toks a).x.size<=65536:=fun a=>by
  unfold uC;rw[cp];cases hq:toks[a]? with
  |none=>exact aL _
  |some d=>exact bF (c d (cJ hq)) C
 have F:∀a,(uC toks a).k<=78:=fun a=>by
  unfold uC;rw[cp];cases hq:toks[a]? with
  |none=>show(0:Int)<=78;decide
  |some d=>
   have:=cJ hq;rw[b,AB,List.mem_singleton]at this;rcases this with g|g
   ·have:=ail x g;show d.k<=78;omega
   ·rw[g];show(6:Int)<=78;decide
 refine⟨m,R,f,q,by omega,e,F,t,r,by omega,fun i v=>?_,?_⟩
 ·obtain⟨g,z⟩:=Bi (Gd (uC toks) (m+1)) (fun i I h=>h) _ 0 ((eL _ _ R).2 ⟨⟨.inl rfl,aL _,fun p c=>by cases c⟩,u⟩) i v;rw[j]at z;refine⟨by have:=g.2.1;omega,by omega,?_,fun p c=>?_⟩
  ·rcases g.1 with b|⟨a,b⟩
   ·rw[b];exact aL _
   ·rw[b];have:=o a;omega
  ·obtain⟨a,b⟩:=g.2.2 p c;rw[b];have:=o a;omega
 ·have:=CD (one ⟨1,0,(s.size:Nat),1,0,0,⟨#[]⟩,[],[]⟩ R) 1 0;rw[j,oe]at this;simp only[Gc]at A;have G:([]:List ByteArray).length=0:=rfl;unfold og;show Gq 1 (Fo.flat (one ⟨1,0,(s.size:Nat),1,0,0,⟨#[]⟩,[],[]⟩ R) 0)<=_;simp only[dd]at this;omega
theorem aaJ:∀(ts:List Tk)(q i:Nat)(T:Tk),ts[q]?=A0 T->i<6->(Aa ts)[q*6+i]?=(cTk T)[i]?
 |[],q,i,T,h,b=>by simp at h
 |a::r,0,i,T,h,b=>by
  simp at h;subst h;show(cTk a++Aa r)[0*6+i]?=_;rw[ie (by show 0*6+i<6;omega),Nat.zero_mul,pu]
 |a::r,q+1,i,T,h,b=>by
  show(cTk a++Aa r)[(q+1)*6+i]?=_;rw[fJ (by show 6<=_;omega),show(q+1)*6+i-(cTk a).length=q*6+i by show _-6=_;omega];exact aaJ r q i T (by simpa using h) b
theorem afu{c:Array A4}{ts:List Tk}{tk:Nat->Tk}{n:Nat}(h:c.toList.take (n*6)=Aa ts)(j:ts.length=n)(g:∀q T,ts[q]?=A0 T->{T with l:=(tk q).l}=tk q/\((tk q).k≠6->T.l=(tk q).l)):TkR c tk n:=by
 intro q m;have d:=bJ (show q<ts.length by omega);obtain⟨e,f⟩:=g q _ d;generalize ts[q]=T at d e f;have a:∀b,b<6->c[q*6+b]?=(cTk T)[b]?:=fun b i=>by rw[<-aaJ ts q b T d i,<-h,kE,ab (by omega),pm]
 refine⟨T.l,?_,?_,?_,a 3 (by omega),?_,?_,f⟩;all_goals rw[<-e]
 ·exact a 0 (by omega)
 ·exact a 1 (by omega)
 ·exact a 2 (by omega)
 ·exact a 4 (by omega)
 ·exact a 5 (by omega)
def qk(s:ByteArray):List Tk×Int:=if 0<=(jb s).2.2 then([],(jb s).2.2) else if(feedL (jb s).2.1 6).2=A3 then((jb s).1, -1) else([],(s.size:Nat))
def TkP(s:ByteArray)(w:Ax)(e:Ending)(c:Ax):Prop:=∃a b,e= A5 (.tuple #[O a (qk s).1.length b,Q U (qk s).2])/\c.ownsRow w.heap.size 96 6 (O a (qk s).1.length b) (qk s).1.length (Aa (qk s).1)/\M w.heap.size w c
theorem ye(w:Ax)(s:ByteArray)(ar:s.size<=65536):A6 A1 13 #[Y s] w (TkP s w):=by
 have y:td (w.alloc (A2 #[O X 0 0] 78)) w.heap.size w.heap.size []:=⟨⟨_,aj w _,bc _ _ _ _⟩,ae _⟩;have b:=Km _ w.heap.size w.heap.size s y (by omega);have l:A7 (M w.heap.size w (w.alloc (A2 #[O X 0 0] 78))):=bg w _;have e:A7 (qk s=if 0<=(jb s).2.2 then([],(jb s).2.2) else if(feedL (jb s).2.1 6).2=A3 then((jb s).1, -1) else([],(s.size:Nat))):=rfl;obtain⟨⟨m,o,B⟩,q⟩:∃F,jb s=F:=⟨_,rfl⟩;rw[q]at b e;unfold In at b;simp only at b e;obtain⟨av,f⟩:=ay m.length;rw[f]at b;clear q y;go_in;go_wp2_with fail;generalize w.alloc (A2 #[O X 0 0] 78)=am at b l⊢;refine b.mono ?_;rintro a A ⟨G,J,ak,C,rfl,i,h,k,j,H,an,ao⟩;have t:M w.heap.size w A:=l.out.trans (H.mono (ae _));clear b;by_cases p:0<=B
 ·have a:=e.out;rw[ab p]at a;have c:=aw a;clear i h k j a f;go_wp2_with fail;go_ret2;exact(show TkP _ _ _ _ from⟨X,0,by rw[c.out];rfl,by rw[c.out];exact bc _ _ _ _,t⟩)
 ·have a:=e.out;rw[aa p]at a;have g:=xH A w.heap.size w.heap.size C o ak 6 h k j (by decide) (by decide) (by omega);unfold tg at g;obtain⟨a1,v,_⟩:=h.ex;have d:=iD i v f;obtain⟨K,u⟩:=ay ((feedL o 6).2);rw[u]at g a;have c:=aw a;clear a i h k j f v u;go_wp2_with fail;refine g.mono ?_;rintro a al ⟨a0,D,rfl,ad,af,ap,x,I⟩;have r:M w.heap.size w al:=t.trans (I.mono (ae _));have z:=x.row d.out.2.1 d.out.1 (by decide) (by decide);have E:=aw z;clear g ad af x z;cases K with
  |true=>
   go_wp2_with fail;go_ret2;have a:=c.out;rw[ab trivial]at a;have L:(qk s).1=m:=by rw[a]
   exact(show TkP _ _ _ _ from⟨G,J,by rw[a];simp only[d.out.2.2];rfl,by rw[L,d.out.2.2];exact E.out,r⟩)
  |false=>
   go_wp2_with fail;go_ret2;have a:=c.out;rw[aa (by simp)]at a;exact(show TkP _ _ _ _ from⟨X,0,by rw[a];rfl,by rw[a];exact bc _ _ _ _,r⟩)
def psV(c a:Int)(v:A4):A4:= .agg #[Q U c,Q U a,v]
def PsP(w:Ax)(c a:Int)(ns:List Nd)(e:Ending)(d:Ax):Prop:=∃b,e= A5 (psV c a b)/\fx d b ns/\M w.heap.size w d
def okC(ns:List Nd):Int:=if(dA ns).1=0 then 0 else 2
def okN(ns:List Nd):List Nd:=if(dA ns).1=0 then ns else []
theorem row3{w:Ax}{r:Nat}{a b c:A4}{t:A9}(h:w.heap[r]?=A0 (A2 #[a,b,c] t (0,0))):w.cell? ⟨r,0,X⟩=A0 a/\w.cell? ⟨r,1,X⟩=A0 b/\w.cell? ⟨r,2,X⟩=A0 c/\∀j,w.frozen? ⟨r,j,X⟩=Z:=
 ⟨by rw[aq _ _ _ _ _ _ h];rfl,by rw[aq _ _ _ _ _ _ h];rfl,by rw[aq _ _ _ _ _ _ h];rfl,fun j=>cC _ _ _ _ _ h⟩
theorem aci{w:Ax}{r:Nat}{d e f:A4}{t:A9}(h:w.heap[r]?=A0 (A2 #[d,e,f] t (0,0)))(a b c:A4):(((w.setCell ⟨r,0,X⟩ a).setCell ⟨r,1,X⟩ b).setCell ⟨r,2,X⟩ c).heap[r]?=A0 (A2 #[a,b,c] t (0,0)):=
 bi _ r 2 _ _ _ (bi _ r 1 _ _ _ (bi _ r 0 _ _ _ h))
theorem aim{w:Ax}{r k:Nat}(h:k≠r)(a b c:A4):(((w.setCell ⟨r,0,X⟩ a).setCell ⟨r,1,X⟩ b).setCell ⟨r,2,X⟩ c).heap[k]?=w.heap[k]?:=
 (aD _ _ _ _ h).trans ((aD _ _ _ _ h).trans (aD _ _ _ _ h))
theorem Eb{a w:Ax}{r:Nat}(h:M r a w)(b c f:A4):M r a (((w.setCell ⟨r,0,X⟩ b).setCell ⟨r,1,X⟩ c).setCell ⟨r,2,X⟩ f):=by
 have d:M r a (w.setCell ⟨r,0,X⟩ b):=h.setCell (ae _) _;have e:M r a ((w.setCell ⟨r,0,X⟩ b).setCell ⟨r,1,X⟩ c):=d.setCell (ae _) _;exact e.setCell (ae _) _
theorem Ge(w:Ax):fx w (O X 0 0) []:= .inl ⟨rfl,_,_,rfl⟩
theorem Di(w:Ax)(s:ByteArray)(c:65536<s.size)(b:s.size<=1048576):A6 A1 6 #[.string s] w (PsP w 2 0 []):=by
 have d:∀w:Ax,(zeroValue 28).run A1 w= .ok (.agg #[.int .i64 0,.int .i64 0,.slice X 0 0]) w:=fun w=>by kernel_rfl
 have a:(65536:Int)<(s.size:Int):=by omega
 go_in;go_wp2_with fail;exact ba (eu rfl _ _ w.heap.size _ _ _ _ rfl (aj w _) Tryz.underlying28 rfl (by kernel_rfl)) rfl (show PsP _ _ _ _ _ _ from⟨_,rfl,Ge _,bg w _⟩)
theorem Gf(w:Ax)(s:ByteArray)(h:s.size<=65536){z:Int}(v:0<=z)(e:qk s=([],z)):A6 A1 6 #[.string s] w (PsP w 1 z []):=by
 have u:∀w:Ax,(zeroValue 28).run A1 w= .ok (.agg #[.int .i64 0,.int .i64 0,.slice X 0 0]) w:=fun w=>by kernel_rfl
 have t:¬(65536:Int)<(s.size:Int):=by omega
 have a:=fun w=>ye w s h;unfold TkP at a;rw[e]at a;clear e;have b:=bg w (.cells #[.int .i64 0,.int .i64 0,.slice X 0 0] 28);have c:=aj w (.cells #[.int .i64 0,.int .i64 0,.slice X 0 0] 28);go_in;go_wp2_with fail;generalize w.alloc (.cells #[.int .i64 0,.int .i64 0,.slice X 0 0] 28)=j at b c⊢;refine(a _).mono ?_;rintro q i ⟨k,l,rfl,_,d⟩;have f:=(d.block _ (ah c)).trans c;have g:M w.heap.size w i:=b.trans (d.mono b.size);obtain⟨m,o,p,r⟩:=row3 f;clear a;go_wp2_with fail;exact ba (eu rfl _ _ w.heap.size _ _ _ _ rfl (aci f _ _ _) Tryz.underlying28 rfl (by kernel_rfl)) rfl (show PsP _ _ _ _ _ _ from⟨_,rfl,Ge _,Eb g _ _ _⟩)
theorem Gg(w:Ax)(s:ByteArray)(b9:s.size<=65536){toks:List Tk}{m:Nat}{R:Fo}{cc:Int}(a7:qk s=(toks, -1))(a1:PF s toks m R cc):A6 A1 6 #[.string s] w (PsP w (okC (og s R)) 0 (okN (og s R))):=by
 have cy:∀w:Ax,(zeroValue 28).run A1 w= .ok (.agg #[.int .i64 0,.int .i64 0,.slice X 0 0]) w:=fun w=>by kernel_rfl
 have cw:¬(65536:Int)<(s.size:Int):=by omega
 have y:=fun w=>ye w s b9;unfold TkP at y;rw[a7]at y;clear a7;obtain⟨n,ak⟩:=ay toks.length;have a:=gK a1 ak;simp only[ak]at y;clear a1 ak;have K:=bg w (.cells #[.int .i64 0,.int .i64 0,.slice X 0 0] 28);have al:=aj w (.cells #[.int .i64 0,.int .i64 0,.slice X 0 0] 28);go_in;go_wp2_with fail;generalize w.alloc (.cells #[.int .i64 0,.int .i64 0,.slice X 0 0] 28)=cg at K al⊢;refine(y _).mono ?_;rintro bD b ⟨o,e,rfl,br,a4⟩;have am:=(a4.block _ (ah al)).trans al;have a6:M w.heap.size w b:=K.trans (a4.mono K.size);have bh:n=m+1:=by rw[<-a.out.2];exact a.out.1.len
 obtain⟨h,C,rfl,bd,a8⟩:∃h C,o=A0 ⟨h,0,X⟩/\b.heap[h]?=A0 (.cells C 96 (0,0))/\TkR C (uC toks) n:=by
  rcases br.2 with⟨_,i⟩|⟨b0,ch,bA,cb,cr,b5,cl,cn,cq,b4⟩
  ·omega
  ·cases cb;exact⟨b0,bA,rfl,b5,afu b4 a.out.2 (fun ce cf bk=>by rw[CA bk];exact⟨rfl,fun _=>rfl⟩)⟩
 obtain⟨ce,hS⟩:PM ⟨b.heap.size,b.heap.size+1,h,e,n,uC toks⟩ .stats 0 R m:=ab3 (E:=⟨b.heap.size,b.heap.size+1,h,e,n,uC toks⟩) a.out.1.k78 (bh ▸ a.out.1.p);have bo:=ahl s b h e n m (uC toks) C (0,0) bd a8 (by have:=a.out.1.le;omega) (by omega) (R:=R) (aat (E:=⟨b.heap.size,b.heap.size+1,h,e,n,uC toks⟩) (.inr rfl) (by show(uC toks m).k=6;rw[a.out.1.end_]) hS) (by have:=a.out.1.sz;omega);clear hS;clear y br bd a8 bh;go_wp2_with fail;refine bo.mono ?_;rintro bD d ⟨bs,a3,rfl,ap,af,a5⟩;have ar:fx d bs (og s R):=by have:=ap.nds;rw[af]at this;exact this
 have v:=(a5.block _ (ah am)).trans am;have L:M w.heap.size w d:=a6.trans (a5.mono a6.size);obtain⟨q,z,t,rfl⟩:∃o n e,bs= .slice o n e:=by obtain⟨o,e,F⟩:=ar.form;exact⟨o,_,e,F⟩
 have b7:=a.out.1.ct;have b8:(og s R).length<=1048576:=by
  have:=a.out.1.sz;unfold og;rw[Fo.flat_len,aA];omega
 have ao:=fun j=>Cn (d.alloc j) (.slice q z t) (og s R) (ar.below (bg d j)) b8 a.out.1.sm;have a2:A7 (Lw d b.heap.size (.slice q z t) a3/\a3.map Mb.N=og s R):=⟨ap,af⟩;have k:A7 (okC (og s R)=(if(dA (og s R)).1=0 then 0 else 2)/\okN (og s R)=(if(dA (og s R)).1=0 then og s R else [])):=⟨rfl,rfl⟩;obtain⟨H,an⟩:=ay ((dA (og s R)).1);obtain⟨B,bn⟩:=ay ((dA (og s R)).2);rw[an]at k;simp only[an,bn]at ao;have a9:=aj d (.cells #[.slice q z t] 26);have u:=bg d (.cells #[.slice q z t] 26);have ca:=u.size;clear bo ar an bn b7 ap af;go_wp2_with fail;refine aJ (ao _) fun c r=>?_;have bb:=(r.block _ (ah a9)).trans a9;have bl:=(r.block _ (ah ((u.block _ (ah v)).trans v))).trans ((u.block _ (ah v)).trans v);have G:M w.heap.size w c:=(L.trans (u.mono L.size)).trans (r.mono (bF L.size ca));have cm:=ah bb;clear ao;have A:∀(g:Nat)(I:Array A4)(a0:A9)(J:Nat×Nat)(j:Obj),c.heap[g]?=A0 (.cells I a0 J)->(c.alloc j).heap[g]?=A0 (.cells I a0 J):=fun g I a0 J j F=>((bg c j).block _ (ah F)).trans F;have cx:w.heap.size≠d.heap.size:=by have:=ah v;omega
 by_cases i:H=0
 ·subst i;have x:=A _ _ _ _ (.cells #[.int .i64 0,.int .i64 B] 47) bl;obtain⟨bt,bw,bx,bE⟩:=row3 x;have cz:(c.alloc (.cells #[.int .i64 0,.int .i64 B] 47)).cell? ⟨d.heap.size,0,X⟩=A0 (.slice q z t):=by rw[aq _ _ _ _ _ _ (A _ _ _ _ _ bb)];rfl
  have f:=k.out;rw[ab rfl,ab rfl]at f;have l:=aw f;have ad:M w.heap.size w (c.alloc (.cells #[.int .i64 0,.int .i64 B] 47)):=G.trans ((bg c _).mono G.size);clear f k A;go_wp2_with fail;exact ba (eu rfl _ _ w.heap.size _ _ _ _ rfl (aci x _ _ _) Tryz.underlying28 rfl (by kernel_rfl)) rfl (show PsP w (okC (og s R)) 0 (okN (og s R)) _ _ from by rw[l.out.1,l.out.2];exact⟨_,rfl,by rw[<-a2.out.2];exact(a2.out.1.mono fun g ck b1=>(aim (by have:=ah am;omega) _ _ _).trans (((bg c _).block g (by have:=r.size;omega)).trans ((r.block g (by omega)).trans (u.block g b1)))).nds,Eb ad _ _ _⟩)
 ·have x:=A _ _ _ _ (.cells #[.int .i64 H,.int .i64 B] 47) bl;obtain⟨bt,bw,bx,bE⟩:=row3 x;have f:=k.out;rw[aa i,aa i]at f;have l:=aw f;have bk:(H==0)=Z:=by simpa using i
  have ad:M w.heap.size w (c.alloc (.cells #[.int .i64 H,.int .i64 B] 47)):=G.trans ((bg c _).mono G.size);clear f k i A;go_wp2_with fail;exact ba (eu rfl _ _ w.heap.size _ _ _ _ rfl (aci x _ _ _) Tryz.underlying28 rfl (by kernel_rfl)) rfl (show PsP w (okC (og s R)) 0 (okN (og s R)) _ _ from by rw[l.out.1,l.out.2];exact⟨_,rfl,Ge _,Eb ad _ _ _⟩)
theorem acj(l:List ByteArray)(k:Nat)(s:ByteArray)(h:l[k]?=A0 s):lK (l.take (k+1))=lK (l.take k)+s.size:=by
 induction l generalizing k with
 |nil=>simp at h
 |cons a l b=>
  cases k with
  |zero=>simp at h;subst h;simp[lK]
  |succ k=>have:=b k (by simpa using h);show a.size+lK (l.take (k+1))=a.size+lK (l.take k)+s.size;omega
theorem ahL(l:List ByteArray)(k:Nat):lK (l.take k)<=lK l:=by
 induction l generalizing k with
 |nil=>simp
 |cons a l b=>
  cases k with
  |zero=>exact aL _
  |succ k=>have:=b k;show a.size+lK (l.take k)<=a.size+lK l;omega
theorem afv(g c m:Nat)(x:ByteArray)(l:List ByteArray)(w:Ax)(v:l.length=m+1)(A:w.cell? ⟨g,0,X⟩=A0 (Y x))(B:∀(j:Nat) f,l[j]?=A0 f->w.cell? ⟨g,j+1,X⟩=A0 (Y f))(bw:m<=4194304)(cg:m+2<=c)(a2:(x++dI l).size<=70368744177664):
  A6 A1 45 #[O (A0 ⟨g,0,X⟩) (m+2) c,Y ⟨#[32]⟩] w fun e b1=>e= A5 (Y (x++dI l))/\M w.heap.size w b1:=by
 have I:=gK A B;have a1:(x++dI l).size=(m+1)+(x.size+lK l):=by rw[cL,wf,v];omega
 obtain⟨d,y⟩:∃d,d=x::l:=⟨_,rfl⟩;have a3:∀(j:Nat) f,d[j]?=A0 f->w.cell? ⟨g,j,X⟩=A0 (Y f):=fun j f E=>by
  subst y;cases j with
  |zero=>simp at E;subst E;exact A
  |succ j=>exact B j f (by simpa using E)
 have a4:d.length=m+2:=by rw[y,bv,v]
 have a5:lK d=x.size+lK l:=by rw[y];rfl
 have i:A7 ((∀(j:Nat) f,d[j]?=A0 f->w.cell? ⟨g,j,X⟩=A0 (Y f))/\d.length=m+2/\lK d=x.size+lK l/\l.length=m+1/\(x++dI l).size=(m+1)+(x.size+lK l)/\(x++dI l).size<=70368744177664):=⟨a3,a4,a5,v,a1,a2⟩;have cl:(m:Int)<=4194304:=by omega
 have cm:(0:Int)<=(m:Int):=by omega
 have cn:(1:Int)<9223372036854775807 / ((m:Int)+2-1):=by
  have:(2:Int)<=9223372036854775807 / ((m:Int)+2-1):=Int.le_ediv_of_mul_le (by omega) (by omega);omega
 have ca:((m:Int)+2==0)=Z:=by rw[aK];omega
 have cb:((m:Int)+2==1)=Z:=by rw[aK];omega
 clear A B a1 y a3 a4 a5 v a2 bw;go_in;go_wp2_with fail;go_loopw [5,41] (fun b0 q wr=>∃a:Nat,a<=m+2/\q= Q U a/\b0= Q U ((m:Int)+1+(lK (d.take a):Nat))/\wr=w) (fun _ q _=>m+2-(A8 q).toNat)
 case atStart=>exact⟨0,by omega,rfl,by first|rfl|(congr 1;omega)|(congr 1;simp[lK];omega),rfl⟩
 case round=>
  obtain⟨a,br,rfl,rfl,rfl⟩:=hrel;by_cases C:a<m+2
  ·obtain⟨o,p⟩:=bL i.out.2.1 C;have ch:=i.out.1 a o p;have s:=acj d a o p;have t:=ahL d (a+1);have bt:(a:Int)<(m:Int)+2:=by omega
   have bs:(0:Int)<=(a:Int):=by omega
   have bx:=i.out;obtain⟨_,_,bA,_,bD,bE⟩:=bx;have k:=aw s;rw[s]at t;generalize lK (d.take a)=b7 at t k⊢;have cc:(b7:Int)+(o.size:Int)<=70368744177664:=by omega
   clear s bA bD bE p t;go_wp2_with fail;exact⟨⟨a+1,by omega,by go_num,by rw[k.out];congr 1;omega,by trivial⟩,by simp[A8];omega⟩
  ·obtain rfl:a=m+2:=by omega
   obtain⟨b,rfl⟩:∃b,b=wr:=⟨wr,rfl⟩;obtain⟨r,hS⟩:∃r:Nat,(m+1)+lK d=r:=⟨_,rfl⟩;have al:(m:Int)+1+((lK (d.take (m+2)):Nat):Int)=(r:Int):=by
    rw[fs (by rw[i.out.2.1];exact ae _)];omega
   have b8:=aw hS;have bn:r<=70368744177664:=by have:=i.out;omega
   have am:0<r:=by omega
   rw[al];clear hS al;have a6:=Hq b.heap.size b.heap.size r (b.alloc (A2 #[.pointer X,O X 0 0] 57)) (ae _) (aj b _) (by simp) (by omega) am;go_wp2_with fail;refine a6.mono ?_;rintro e G ⟨rfl,ak,ao⟩;have a0:M b.heap.size b (b.alloc (A2 #[.pointer X,O X 0 0] 57)):=(ag _ b).alloc (ae _) _;have u:M b.heap.size b G:=a0.trans ao;have J:Bu b.heap.size b.heap.size ⟨#[]⟩ G:= .inr ak;have bl:=ai u I.out.1;have cq:x.size<=70368744177664:=by have:=i.out;omega
   clear a6 ak ao a0;have a7:=u.size;have F:=lG b.heap.size b.heap.size ⟨#[]⟩ x G J (by show 0+x.size<=_;omega) a7;rw[uq]at F;have bk:=aw u;clear J a7 u;go_wp2_with fail;refine F.mono ?_;rintro e a8 ⟨rfl,K,ap⟩;have H:A7 (Bu b.heap.size b.heap.size x a8/\M b.heap.size b a8):=⟨K,bk.out.trans ap⟩;clear K ap F bl bn am;have ce:(1:Int)<=(m:Int)+2:=by omega
   have cf:(m:Int)+2<=(c:Int):=by omega
   go_wp2_with fail;go_loopw [65] (fun q bd=>∃a:Nat,a<=m+1/\q= Q U a/\A7 (Bu b.heap.size b.heap.size (x++dI (l.take a)) bd/\M b.heap.size b bd)) (fun q _=>m+1-(A8 q).toNat)
   case atStart=>exact⟨0,by omega,rfl,by rw[rf,show x++dI []=x from pG x];exact H.out.1,H.out.2⟩
   case round=>
    obtain⟨a,br,rfl,h⟩:=hrel;by_cases C:a<m+1
    ·obtain⟨o,p⟩:=bL i.out.2.2.2.1 C;have af:=ai h.out.2 (I.out.2 a o p);rw[Nat.add_comm a 1]at af;have s:=we l a o p;have t:=mK l (a+1);have k:A7 (dI (l.take (a+1))=dI (l.take a)++(jm++o)/\(x++dI (l.take (a+1))).size<=70368744177664):=⟨s,by have:=i.out.2.2.2.2.2;rw[cL]at this⊢;omega⟩;have bt:(a:Int)<(m:Int)+2-1:=by omega
     have ck:(a:Int)<(m:Int)+1:=by omega
     have bs:(0:Int)<=(a:Int):=by omega
     clear s t p;go_wp2_with fail;refine(lG _ _ _ jm _ h.out.1 (by have:=k.out.2;rw[k.out.1]at this;simp only[cL]at this⊢;omega) h.out.2.size).mono ?_;rintro e a9 ⟨rfl,L,ar⟩;have z:A7 (Bu b.heap.size b.heap.size (x++dI (l.take a)++jm) a9/\M b.heap.size b a9):=⟨L,h.out.2.trans ar⟩;clear L ar af h;go_wp2_with fail;refine(lG _ _ _ o _ z.out.1 (by have:=k.out.2;rw[k.out.1]at this;simp only[cL]at this⊢;omega) z.out.2.size).mono ?_;rintro e bb ⟨rfl,ad,av⟩;have bh:A7 (Bu b.heap.size b.heap.size (x++dI (l.take (a+1))) bb/\M b.heap.size b bb):=⟨by rw[k.out.1,<-jv,<-jv];exact ad,z.out.2.trans av⟩;clear ad av;go_wp2_with fail;exact⟨⟨a+1,by omega,by go_num,bh⟩,by simp[A8];omega⟩
    ·obtain rfl:a=m+1:=by omega
     have an:l.take (m+1)=l:=fs (by rw[i.out.2.2.2.1];exact ae _);rw[an]at h;clear an;go_wp2_with fail;refine(vK _ _ _ _ h.out.1 h.out.2.size).mono ?_;rintro e cr ⟨rfl,b9,bo⟩;go_wp2_with fail;go_ret;exact⟨rfl,h.out.2.trans bo⟩
theorem Ec(w:Ax)(q:Nat)(os:Array Obj):M w.heap.size w (Sort.grow (w.drewN q) os):=
 Lib.below_grow _ w (ae _) q os
def zJ(w:Ax):Prop:=∀a,M w.heap.size w a->Lib.TabIs A1 a "internal/strconv.uint64pow10" .u64 Lib.pow10Tab
theorem zJ.below{w W:Ax}(h:zJ w)(a:M w.heap.size w W):zJ W:=fun b c=>h b (a.trans (c.mono a.size))
theorem tD(n:Int)(b: -9223372036854775808<=n)(c:n<=9223372036854775807)(w:Ax)(d:zJ w):
  A6 A1 28 #[Q U n] w fun e a=>e= A5 (Y (bB n))/\M w.heap.size w a:=by
 refine(Tryz.strconv_Itoa n b c w (d w (ag _ _))).mono ?_;rintro e a ⟨rfl,f,g,rfl⟩;exact⟨rfl,Ec _ _ _⟩
theorem ah0(n:Int)(b: -9223372036854775808<=n)(c:n<=9223372036854775807)(w:Ax)(d:zJ w):
  A6 A1 43 #[Q U n,Q U 10] w fun e a=>e= A5 (Y (bB n))/\M w.heap.size w a:=by
 refine(Tryz.strconv_FormatInt_10 n b c w (d w (ag _ _))).mono ?_;rintro e a ⟨rfl,f,g,rfl⟩;exact⟨rfl,Ec _ _ _⟩
def uD(N:Nd):List Int:=[N.k,N.f,N.t,N.l,N.op]
structure Dj (w:Ax) (N:Nd) (vn vk:A4) (v:A4) (xs:List ByteArray) (W:Ax):Prop where
 ln:Cm w N vn vk W
 ws:yH (w.heap.size+1+1) W v xs
 sz:w.heap.size+1+1<=W.heap.size
theorem Dj.below{w:Ax}{N:Nd}{vn vk v:A4}{c:List ByteArray}{W b:Ax}(h:Dj w N vn vk v c W)(a:M W.heap.size W b):Dj w N vn vk v c b:=
 ⟨h.ln.below a,h.ws.below a,bF h.sz a.size⟩
theorem Dj.put{w:Ax}{N:Nd}{vn vk v:A4}{f:List ByteArray}{W a:Ax}(h:Dj w N vn vk v f W)(b:M (w.heap.size+1+1) W a){c:A4}{d:List ByteArray}(e:yH (w.heap.size+1+1) a c d):Dj w N vn vk c d a:=
 ⟨⟨(b.block _ (by omega)).trans h.ln.bx,h.ln.bl.trans (b.mono (by omega))⟩,e,bF h.sz b.size⟩
theorem I6(w:Ax)(N:Nd)(vn vk:A4)(bE:cH w vn N.nm)(a7:eo w vk N.ks)(ek:xG N)(f7:N.x.size<=4000)(fA:N.nm.length<=1048576)(fB:N.ks.length<=1048576)(e5:(lL N).size<=70368744177664)(e4:zJ w):
  A6 A1 20 #[eC N vn vk] w fun e bn=>e= A5 (Y (lL N))/\M w.heap.size w bn:=by
 obtain⟨y,z,rfl⟩:=bE.form;obtain⟨E,F,rfl⟩:=a7.form;obtain⟨c,cn⟩:=ay N.nm.length;obtain⟨j,cq⟩:=ay N.ks.length;rw[cn]at bE fA⊢;rw[cq]at a7 fB⊢;have k:=al9 bE a7 ek e5 cn cq e4;unfold eC;clear bE a7 ek e5 cn cq e4;go_in;go_wp2_with fail;have cb:=aj w (A2 #[Q U N.k,Q U N.f,Q U N.t,Q U N.l,Q U N.op,Q U N.n,Y N.x,O y c z,O E j F] 53);have cs:M w.heap.size w (w.alloc (A2 #[Q U N.k,Q U N.f,Q U N.t,Q U N.l,Q U N.op,Q U N.n,Y N.x,O y c z,O E j F] 53)):=(ag _ w).alloc (ae _) _;have b1:(w.alloc (A2 #[Q U N.k,Q U N.f,Q U N.t,Q U N.l,Q U N.op,Q U N.n,Y N.x,O y c z,O E j F] 53)).heap.size=w.heap.size+1:=aF _ _;generalize w.alloc (A2 #[Q U N.k,Q U N.f,Q U N.t,Q U N.l,Q U N.op,Q U N.n,Y N.x,O y c z,O E j F] 53)=J at cb cs b1⊢;have bs:=aj J (A2 #[Q U N.k,Q U N.f,Q U N.t,Q U N.l,Q U N.op] 3);have ap:M J.heap.size J (J.alloc (A2 #[Q U N.k,Q U N.f,Q U N.t,Q U N.l,Q U N.op] 3)):=(ag _ J).alloc (ae _) _;have c3:(J.alloc (A2 #[Q U N.k,Q U N.f,Q U N.t,Q U N.l,Q U N.op] 3)).heap.size=w.heap.size+1+1:=by rw[aF,b1]
 generalize J.alloc (A2 #[Q U N.k,Q U N.f,Q U N.t,Q U N.l,Q U N.op] 3)=bA at bs ap c3⊢;rw[b1]at bs;have fd:Dj w N (O y c z) (O E j F) (O X 0 0) [] bA:=⟨Cm.below ⟨cb,cs⟩ ap,bc _ _ _ _,by omega⟩;have ef:∀(d:Nat) q,(uD N)[d]?=A0 q->bA.cell? ⟨w.heap.size+1,d,X⟩=A0 (Q U q):=fun d q g=>by
  rw[aq _ _ _ _ _ _ bs];unfold uD at g
  match d,g with
  |0,g=>simp at g;subst g;rfl
  |1,g=>simp at g;subst g;rfl
  |2,g=>simp at g;subst g;rfl
  |3,g=>simp at g;subst g;rfl
  |4,g=>simp at g;subst g;rfl
  |(d+5),g=>simp at g
 have cc:=iD fd ef c3;clear cb bs cs ap b1 c3 fd ef;go_loopw [3,20] (fun bk an wr=>∃p:Nat,p<=5/\an= Q U p/\(∃L af,bk= O L p af)/\A7 (Dj w N (O y c z) (O E j F) bk (((uD N).take p).map bB) wr/\M bA.heap.size bA wr)) (fun _ an _=>5-(A8 an).toNat)
 case atStart=>exact⟨0,by omega,rfl,⟨X,0,rfl⟩,cc.out.1,ag _ _⟩
 case round=>
  obtain⟨p,a7,rfl,⟨L,af,rfl⟩,ao⟩:=hrel;by_cases cF:p<5
  ·obtain⟨q,g⟩:=bL (show(uD N).length=5 from rfl) cF;have ck:=ai ao.out.2 (cc.out.2.1 p q g);have ak:=Bf k.out.2.2.1 q (by unfold rE;unfold uD at g;have:=cJ g;simp only[kG,nh,ny]at this⊢;rcases this with h|h|h|h|h<;>simp[h]);have a5:A7 (((uD N).take (p+1)).map bB=((uD N).take p).map bB++[bB q]/\(((uD N).take p).map bB).length=p):=⟨by rw[fK,g];simp,by rw[dc,jy,show(uD N).length=5 from rfl];omega⟩;have ad:M w.heap.size w wr:=ao.out.1.ln.bl;have H:=tD q ak.1 ak.2 wr (k.out.2.2.2.2.2.2.below ad);have g4:(p:Int)<5:=by omega
   have g3:(0:Int)<=(p:Int):=by omega
   clear g ak;go_wp2_with fail;refine H.mono ?_;rintro e i ⟨rfl,en⟩;have ep:M i.heap.size i (i.alloc (A2 #[Y (bB q)] 9)):=(ag _ i).alloc (ae _) _;have ec:M wr.heap.size wr (i.alloc (A2 #[Y (bB q)] 9)):=en.trans (ep.mono en.size);have dk:=ao.out.1.below ec;have f9:=dk.ws;have bb:=dk.sz;have f2:(((uD N).take p).map bB).length<=4194304:=by rw[a5.out.2];omega
   clear H ck ep;go_wp2_with (at_builtin;(refine qD rfl _ _ rfl (w.heap.size+1+1) (O L p af) _ rfl f9 bb _ [bB q] rfl (xI i (bB q)) f2 (by simp) (p+1) (by rw[a5.out.2];rfl) ?_;intro gm gt a0 a9 G));refine⟨⟨p+1,by omega,by go_num,⟨_,_,rfl⟩,?_,?_⟩,by simp[A8];omega⟩
   ·rw[a5.out.1];exact dk.put G a9
   ·have eh:=cc.out.2.2;rw[eh];have fc:=ao.out.2;rw[eh]at fc;exact(fc.trans (ec.mono ao.out.1.sz)).trans G
  ·obtain rfl:p=5:=by omega
   obtain⟨i,rfl⟩:∃i,i=wr:=⟨wr,rfl⟩;have am:=ao.out.1;rw[show(uD N).take 5=uD N from rfl]at am;obtain⟨A,b5⟩:=ay ((uD N).map bB);rw[b5]at am;have e8:A.length=5:=by rw[<-b5];rfl
   obtain⟨dq,ds,dz,d0,d1,d2,d3,d4,d5,d6⟩:=ax am.ln.bx;have a4:=k.out.2.2.1;have ad:=am.ln.bl;have el:=k.out.2.2.2.2.2.2.below ad;have a:M i.heap.size i i.drew:=cj (ag _ _);have cI:∀b,A6 A1 44 #[Y N.x] b fun e bn=>e= A5 (Y (wg N.x))/\M b.heap.size b bn:=fun b=>aa6 N.x f7 b;have cy:∀b,M i.heap.size i b->A6 A1 43 #[Q U N.n,Q U 10] b fun e bn=>e= A5 (Y (bB N.n))/\M b.heap.size b bn:=fun b r=>ah0 N.n a4.n.1 a4.n.2 b (el.below r);have v:=iD am b5 e8;have b6:∀b,M (w.heap.size+1+1) i b->b.cell? ⟨w.heap.size,5,X⟩=A0 (Q U N.n)/\b.cell? ⟨w.heap.size,6,X⟩=A0 (Y N.x)/\M (w.heap.size+1+1) i b:=fun b r=>⟨(jC r (show w.heap.size<_ by omega)).trans d2,(jC r (show w.heap.size<_ by omega)).trans d3,r⟩;have b2:=am.sz;have sX:∀b,M i.heap.size i b->b.cell? ⟨w.heap.size,5,X⟩=A0 (Q U N.n)/\b.cell? ⟨w.heap.size,6,X⟩=A0 (Y N.x)/\M (w.heap.size+1+1) i b:=fun b r=>b6 b (r.mono b2);obtain⟨K,cr⟩:=ay (wg N.x);obtain⟨D,cm⟩:=ay (bB N.n);rw[cr]at cI;rw[cm]at cy;have d9:=gK cm cr;clear cr cm;clear dq ds dz d0 d1 d4 d5 d6 a4 ad el am b5 e8;have c8:=fun (b:Ax) (r:M i.heap.size i b)=>(v.out.1.below r).sz;have c7:=fun (b:Ax) (r:M i.heap.size i b)=>(v.out.1.below r).ws;have c4:A.length<=4194304:=by have:=v.out.2.2;omega
   have c6:A.length+2=7:=by have:=v.out.2.2;omega
   have s:∀(b:Ax)(r:M i.heap.size i b)(c9:Obj),M i.heap.size i (b.alloc c9):=fun b r c9=>r.alloc r.size c9;go_wp2_with fail;go_region_held3 (fun cf=>cf.cell? ⟨w.heap.size,5,X⟩=A0 (Q U N.n)/\cf.cell? ⟨w.heap.size,6,X⟩=A0 (Y N.x)/\M (w.heap.size+1+1) i cf) (first|exact sX _ a|exact sX _ (a.trans (o.mono a.size))|exact sX _ (a.trans (m.mono a.size))|exact sX _ ((a.trans (o.mono a.size)).trans (m.mono (a.trans (o.mono a.size)).size))|exact sX _ ((a.trans (m.mono a.size)).trans (o.mono (a.trans (m.mono a.size)).size))|exact sX _ (s _ ((a.trans (o.mono a.size)).trans (m.mono (a.trans (o.mono a.size)).size)) _)|exact sX _ (s _ ((a.trans (m.mono a.size)).trans (o.mono (a.trans (m.mono a.size)).size)) _)|exact b6 _ (((s _ ((a.trans (o.mono a.size)).trans (m.mono (a.trans (o.mono a.size)).size)) _).mono b2).trans G)|exact b6 _ (((s _ ((a.trans (m.mono a.size)).trans (o.mono (a.trans (m.mono a.size)).size)) _).mono b2).trans G)|go_keep) (first|(go_at_call 44;refine(cI _).mono ?_;rintro e hc ⟨rfl,o⟩)|(go_at_call 43;refine(cy _ (by first|exact a|exact a.trans (o.mono a.size))).mono ?_;rintro e hb ⟨rfl,m⟩)|(refine aam (by rfl) _ _ (by rfl) (w.heap.size+1+1) (O L 5 af) A (by rfl) (c7 _ (s _ ((a.trans (o.mono a.size)).trans (m.mono (a.trans (o.mono a.size)).size)) _)) (c8 _ (s _ ((a.trans (o.mono a.size)).trans (m.mono (a.trans (o.mono a.size)).size)) _)) ⟨_,0,X⟩ 2 2 [D,K] (by rfl) rfl (Id _ D K) c4 (by decide) (by decide) 7 c6 ?_;intro cl cg a0 a9 G)|(refine aam (by rfl) _ _ (by rfl) (w.heap.size+1+1) (O L 5 af) A (by rfl) (c7 _ (s _ ((a.trans (m.mono a.size)).trans (o.mono (a.trans (m.mono a.size)).size)) _)) (c8 _ (s _ ((a.trans (m.mono a.size)).trans (o.mono (a.trans (m.mono a.size)).size)) _)) ⟨_,0,X⟩ 2 2 [D,K] (by rfl) rfl (Id _ D K) c4 (by decide) (by decide) 7 c6 ?_;intro cl cg a0 a9 G))
   have bd:Dj w N (O y c z) (O E j F) (O (A0 ⟨cl,0,X⟩) 7 cg) (A++[D,K]) a0:=(v.out.1.below (s _ ((a.trans (m.mono a.size)).trans (o.mono (a.trans (m.mono a.size)).size)) _)).put G a9;have a4:=k.out.2.2.1;have ce:A7 ((uD N).map bB++[bB N.n,wg N.x]=A++[D,K]/\A.length=5):=⟨by rw[v.out.2.1,<-d9.out.1,<-d9.out.2],v.out.2.2⟩;obtain⟨a3,bb⟩:=ay (A++[D,K]);rw[bb]at bd ce;have e9:a3.length=7:=by rw[<-bb,aH,v.out.2.2];rfl
   have I:=gK ce.out.1 e9;have H:=tD (c:Int) (by omega) (by omega) a0 (k.out.2.2.2.2.2.2.below bd.ln.bl);obtain⟨dq,ds,dz,d0,d1,d2,d3,d4,d5,d6⟩:=ax bd.ln.bx;have d7:=aw bd;clear sX b6 c8 c7 s G a9 o m a c4 c6 b2 cI cy v bd bb e9 a4 ce dq ds dz d0 d1 d2 d3 d5 d6;go_wp2_with fail;refine H.mono ?_;rintro e fl ⟨rfl,cw⟩;have ed:M a0.heap.size a0 (fl.alloc (A2 #[Y (bB (c:Int))] 9)):=cw.alloc cw.size _;have b9:=d7.out.below ed;have fm:=b9.ws;have ff:=b9.sz;have ev:a3.length<=4194304:=by have:=I.out.2;omega
   clear H d4;have es:(a3++[bB (c:Int)]).length<=4194304:=by rw[aH,I.out.2];simp
   have et:N.nm.length<=4194304:=by have:=k.out.2.2.2.2.1;omega
   go_wp2_with (first|(at_builtin;refine qD rfl _ _ rfl (w.heap.size+1+1) (O (A0 ⟨cl,0,X⟩) 7 cg) a3 rfl fm ff _ [bB (c:Int)] rfl (xI fl _) ev (by simp) 8 (by rw[I.out.2];rfl) ?_;intro fq fv ha e0 eq;have ar:=b9.put eq e0;have gb:=(ax ar.ln.bx).2.2.2.2.2.2.2.1)|(at_builtin;refine qD rfl _ _ rfl (w.heap.size+1+1) (O fq 8 fv) (a3++[bB (c:Int)]) rfl ar.ws ar.sz (O y c z) N.nm rfl (k.out.1.below ar.ln.bl) es et (8+c) (by rw[aH,I.out.2,k.out.2.2.2.2.1];rfl) ?_;intro fr fz dn e3 er;have bh:=ar.put er e3;have ca:=(ax bh.ln.bx).2.2.2.2.2.2.2.2.1));obtain⟨u,b3⟩:=ay ((a3++[bB (c:Int)])++N.nm);rw[b3]at bh;have e6:u.length=8+c:=by rw[<-b3,aH,aH,I.out.2,k.out.2.2.2.2.1];rfl
   have bt:A7 ((((uD N).map bB++[bB N.n,wg N.x])++[bB (c:Int)])++N.nm=u/\u.length=8+c):=⟨by rw[I.out.1];exact b3,e6⟩;have d8:=aw bh;have fa:=tD (j:Int) (by omega) (by omega) dn (k.out.2.2.2.2.2.2.below bh.ln.bl);clear ar bh e0 eq e3 er gb b3 e6 es et fm ff b9 ed ev d7 I cw;refine fa.mono ?_;rintro e fg ⟨rfl,ct⟩;have eb:M dn.heap.size dn (fg.alloc (A2 #[Y (bB (j:Int))] 9)):=ct.alloc ct.size _;have b7:=d8.out.below eb;have a8:u.length<=4194304:=by have:=bt.out.2;omega
   clear fa ca;go_wp2_with (at_builtin;refine qD rfl _ _ rfl (w.heap.size+1+1) (O fr (8+c) fz) u rfl b7.ws b7.sz _ [bB (j:Int)] rfl (xI fg _) a8 (by simp) (9+c) (by rw[bt.out.2];show 8+c+1=_;omega) ?_;intro ge gr g7 ex ap;have df:=b7.put ap ex;have ca:=(ax df.ln.bx).2.2.2.2.2.2.2.2.1);have fn:=aw df;clear b7 df ex ap eb ct a8 d8;go_loopw [3,60] (fun bk an wr=>∃d:Nat,d<=j/\an= Q U d/\(∃L af,bk= O L (9+c+d) af)/\A7 (Dj w N (O y c z) (O E j F) bk ((u++[bB (j:Int)])++(N.ks.take d).map bB) wr)) (fun _ an _=>j-(A8 an).toNat)
   case atStart=>exact⟨0,by omega,rfl,⟨_,_,rfl⟩,by rw[rf,List.map_nil,da];exact fn.out⟩
   case round=>
    obtain⟨d,g0,rfl,⟨ea,ch,rfl⟩,C⟩:=hrel;have B:A7 (((u++[bB (j:Int)])++(N.ks.take d).map bB).length=9+c+d):=by
     show _=_;rw[aH,aH,bt.out.2,dc,jy,k.out.2.2.2.2.2.1];show 8+c+1+min d j=_;omega
    by_cases cF:d<j
    ·obtain⟨q,g⟩:=bL k.out.2.2.2.2.2.1 cF;obtain⟨gd,rfl,ck⟩:=(k.out.2.1.below C.out.ln.bl).get g;have ak:=k.out.2.2.1.ks q (cJ g);have a5:A7 ((N.ks.take (d+1)).map bB=(N.ks.take d).map bB++[bB q]):=by show _=_;rw[fK,g];simp
     have H:=tD q ak.1 ak.2 wr (k.out.2.2.2.2.2.2.below C.out.ln.bl);have g2:(d:Int)<(j:Int):=by omega
     have g1:(0:Int)<=(d:Int):=by omega
     clear g ak ca;go_wp2_with fail;refine H.mono ?_;rintro e fk ⟨rfl,em⟩;have fu:M wr.heap.size wr (fk.alloc (A2 #[Y (bB q)] 9)):=em.alloc em.size _;have b8:=C.out.below fu;have a8:((u++[bB (j:Int)])++(N.ks.take d).map bB).length<=4194304:=by rw[B.out];omega
     obtain⟨f8,c0⟩:=ay ((u++[bB (j:Int)])++(N.ks.take d).map bB);rw[c0]at b8 a8 B;have fo:=aw c0;clear H ck c0;go_wp2_with (at_builtin;refine qD rfl _ _ rfl (w.heap.size+1+1) (O ea (9+c+d) ch) f8 rfl b8.ws b8.sz _ [bB q] rfl (xI fk _) a8 (by simp) (9+c+(d+1)) (by rw[B.out];rfl) ?_;intro gf gs g8 f4 fF);exact⟨⟨d+1,by omega,by go_num,⟨_,_,rfl⟩,by rw[a5.out,<-dh,fo.out];exact b8.put fF f4⟩,by simp[A8];omega⟩
    ·obtain rfl:d=j:=by omega
     rw[fs (by rw[k.out.2.2.2.2.2.1];exact ae _)]at C B;have e7:(u++[bB (d:Int)])++N.ks.map bB=sL N:=by
      rw[<-bt.out.1];unfold sL uD;rw[k.out.2.2.2.2.1,k.out.2.2.2.2.2.1];simp
     rw[e7]at C B;have b0:wr.ownsRow (w.heap.size+1+1) 9 1 (O ea (9+c+d) ch) (sL N).length ((sL N).map Value.string):=C.out.ws;rw[B.out]at b0;rcases b0.2 with⟨_,gu⟩|⟨ei,gn,gp,e,gv,f1,g6,f3,f5,f6⟩
     ·omega
     ·cases e;have a6:sL N=bB N.k::([bB N.f,bB N.t,bB N.l,bB N.op,bB N.n,wg N.x,bB N.nm.length]++(N.nm++(bB N.ks.length::N.ks.map bB))):=rfl;have cx:∀(al:Nat) br,(sL N)[al]?=A0 br->wr.cell? ⟨ei,al,X⟩=A0 (Y br):=fun al br b4=>by
       have gz:al<9+c+d:=by rw[<-B.out];exact(List.getElem?_eq_some_iff.1 b4).1
       rw[b0.cellAt al (by omega),cA,b4];rfl
      have cB:bB N.k++dI ([bB N.f,bB N.t,bB N.l,bB N.op,bB N.n,wg N.x,bB N.nm.length]++(N.nm++(bB N.ks.length::N.ks.map bB)))=lL N:=by
       have eg:=J9 N;rw[a6,DJ]at eg;exact eg
      have fb:=afv ei ch (7+c+d) (bB N.k) ([bB N.f,bB N.t,bB N.l,bB N.op,bB N.n,wg N.x,bB N.nm.length]++(N.nm++(bB N.ks.length::N.ks.map bB))) wr (by have:=B.out;rw[a6,bv]at this;omega) (cx 0 _ (by rw[a6];exact List.getElem?_cons_zero)) (fun al br b4=>cx (al+1) br (by rw[a6,List.getElem?_cons_succ];exact b4)) (by omega) (by omega) (by rw[cB];exact k.out.2.2.2.1);rw[cB,show 7+c+d+2=9+c+d by omega]at fb;have ad:=C.out.ln.bl;clear f1 f3 f5 f6 cx cB a6 b0 e7 C ca;go_wp2_with (go_at_call 45;refine fb.mono ?_;rintro e g9 ⟨rfl,f0⟩);go_ret;exact⟨rfl,ad.trans (f0.mono ad.size)⟩
theorem afw{S:List Int}{n:Nat}(hS:FC S)(b:S.length=n)(e:1<=n):S.getD (n-1) 0≠(n:Int)↔S.getD (n-1) 0<(n:Int):=by
 obtain⟨c,a⟩:=bL b (show n-1<n by omega);have d:=hS _ c a;rw[cp,a,ig];omega
theorem Ld(x:ByteArray):oC x=decide (x=⟨#[]⟩):=by
 unfold oC;rw[fj];by_cases a:x=⟨#[]⟩
 ·subst a;rfl
 ·rw[aB a,aB];intro b;apply a;cases x;simp only at b
  congr 1
  exact Array.toList_inj.1 b
theorem wD(N:Nd):zn (lE N (dF N.k)) N=(match dF N.k with
  |0=>aI N Z Z Z A3
  |1=>aI N Z A3 Z Z
  |2=>aI N Z A3 Z Z
  |3=>aI N Z Z A3 Z
  |4=>aI N A3 Z Z Z
  |5=>aI N A3 Z Z A3&&(N.op==0||N.op==1)
  |_=>aI N Z Z Z Z):=by
 have p:∀(l m o:Bool)(P f g h:Prop) [Decidable P] [Decidable f] [Decidable g] [Decidable h],decide (P/\f/\g/\h)=(decide P&&decide f&&decide g&&decide h):=fun l m o P f g h _ _ _ _=>by
  by_cases c:P<;>by_cases q:f<;>by_cases r:g<;>by_cases s:h<;>simp[c,q,r,s]
 have d:decide ((0:Int)=N.op)=(N.op==0):=by
  by_cases a:N.op=0
  ·rw[bC a.symm,a];rfl
  ·rw[aB (fun b=>a b.symm)];exact(beq_eq_false_iff_ne.2 a).symm
 have j:decide ((0:Int)=N.n)=(N.n==0):=by
  by_cases a:N.n=0
  ·rw[bC a.symm,a];rfl
  ·rw[aB (fun b=>a b.symm)];exact(beq_eq_false_iff_ne.2 a).symm
 have e:decide ((⟨#[]⟩:ByteArray)=N.x)=oC N.x:=by
  rw[Ld];by_cases a:N.x=⟨#[]⟩
  ·rw[bC a.symm,bC a]
  ·rw[aB (fun b=>a b.symm),aB a]
 have i:decide (([]:List ByteArray)=N.nm)=decide (N.nm.length=0):=by
  by_cases a:N.nm=[]
  ·rw[bC a.symm,bC (by rw[a];rfl)]
  ·rw[aB (fun b=>a b.symm),aB (fun b=>a (jK b))]
 unfold zn aI;rw[p A3 A3 A3];rcases Cw N.k with hc|hc|hc|hc|hc|hc|hc
 ·rw[hc];simp only[lE,d,j,e];simp
 ·rw[hc];simp only[lE,d,e,i];simp
 ·rw[hc];simp only[lE,d,e,i];simp
 ·rw[hc];simp only[lE,d,j,i];simp
 ·rw[hc];simp only[lE,j,e,i];simp
 ·rw[hc];simp only[lE,j,e];have b:decide ((if N.op=1 then(1:Int) else 0)=N.op)=(N.op==0||N.op==1):=by
   by_cases c:N.op=1
   ·rw[ab c,c];rfl
   ·rw[aa c,d];rw[beq_eq_false_iff_ne.2 c,xh]
  rw[b];simp;cases (N.op==0||N.op==1)<;>cases (N.n==0)<;>cases oC N.x<;>rfl
 ·rw[hc];simp only[lE,d,j,e,i];simp
theorem jJ(ns:List Nd)(ks:List Int):(ir ns ks).length=ks.length:=by simp[ir]
theorem afx(ns:List Nd)(N:Nd)(j:Nat)(h:j<N.ks.length):(ir ns N.ks)[j]?=A0 (dH ns N j):=by
 unfold ir dH;rw[cA,bJ h];simp[List.getD,bJ h]
theorem Le(K:List Int):eE [] K=K.isEmpty:=rfl
theorem aaK(i:Nat)(K:List Int):eE [(i,1)] K=K.all (ms i):=by
 rw[eE,aa (by omega),Le];have b:Gs i 1 K=(K.takeWhile (ms i)).length:=by unfold Gs;rw[ab rfl]
 rw[b]
 induction K with
 |nil=>rfl
 |cons a d c=>
  cases h:ms i a with
  |false=>rw[Ee (by simp[h])];simp[h]
  |true=>
   rw[Ef (by simp[h]),Ev,h,eG,bv,List.drop_succ_cons];exact c (by unfold Gs;rw[ab rfl])
theorem al2(i f:Nat)(b:f≠1)(a:Int)(r:List Int):Gs i f (a::r)=if ms i a=A3 then 1 else 0:=by
 unfold Gs;rw[aa b];cases h:ms i a with
 |false=>rw[Ee (by simp[h])];simp
 |true=>rw[Ef (by simp[h]),bv,ab rfl];omega
theorem Gh(i:Nat)(b:List (Nat×Nat))(a:Int)(r:List Int):eE ((i,0)::b) (a::r)=(ms i a&&eE b r):=by
 rw[eE,al2 i 0 (by omega)];cases h:ms i a with
 |false=>simp
 |true=>simp
theorem aaL(i:Nat)(a:List (Nat×Nat)):eE ((i,0)::a) []=Z:=by
 rw[eE];simp[Gs]
theorem akh(i:Nat)(b:List (Nat×Nat))(a:Int)(r:List Int):eE ((i,2)::b) (a::r)=if ms i a=A3 then eE b r else eE b (a::r):=by
 rw[eE,al2 i 2 (by omega)];cases h:ms i a with
 |false=>simp
 |true=>simp
theorem ah1(i:Nat)(a:List (Nat×Nat)):eE ((i,2)::a) []=eE a []:=by
 rw[eE];simp[Gs]
theorem aki(n:Nat):∀(K:List Int),n<K.length->eE (De n) K=((K.take n).all (ms 5)&&(K.drop n).all (ms 3)):=by
 induction n with
 |zero=>
  intro K b
  match K,b with
  |a::c,_=>
   show eE ((3,0)::[(3,1)]) (a::c)=_;rw[Gh,aaK];simp
 |succ n d=>
  intro K b
  match K,b with
  |a::c,b=>
   show eE ((5,0)::De n) (a::c)=_;rw[Gh,d c (by simpa using b)];simp[Bool.and_assoc]
theorem qI(ns:List Nd)(N:Nd)(j:Nat)(h:j<N.ks.length):dH ns N j=(ir ns N.ks).getD j 0:=by
 rw[cp,afx ns N j h];rfl
theorem yh(K:List Int)(p:Int->Bool)(f j:Nat)(h:j+(f+1)<=K.length):((K.drop j).take (f+1)).all p=(p (K.getD j 0)&&((K.drop (j+1)).take f).all p):=by
 have a:j<K.length:=by omega
 rw[je a,List.take_succ_cons,Ev,cp,bJ a];rfl
theorem Lf(ns:List Nd)(N:Nd):∀(f j:Nat),j+f<=N.ks.length->jk ns N f j=(((ir ns N.ks).drop j).take f).all oB
 |0,j,_=>by simp[jk]
 |f+1,j,h=>by
  rw[jk,Lf ns N f (j+1) (by omega),yh _ _ _ _ (by rw[jJ];exact h),qI ns N j (by omega)]
theorem afy(ns:List Nd)(N:Nd):∀(f j:Nat),j+f<=N.ks.length->sbB ns N f j=(((ir ns N.ks).drop j).take f).all pE
 |0,j,_=>by simp[sbB]
 |f+1,j,h=>by
  rw[sbB,afy ns N f (j+1) (by omega),yh _ _ _ _ (by rw[jJ];exact h),qI ns N j (by omega)]
theorem afz(ns:List Nd)(N:Nd):∀(f j:Nat),j+f<=N.ks.length->tgB ns N f j=(((ir ns N.ks).drop j).take f).all By
 |0,j,_=>by simp[tgB]
 |f+1,j,h=>by
  rw[tgB,afz ns N f (j+1) (by omega),yh _ _ _ _ (by rw[jJ];exact h),qI ns N j (by omega)]
theorem afA(ns:List Nd)(N:Nd):∀(f j:Nat),j+f<=N.ks.length->enB ns N f j=(((ir ns N.ks).drop j).take f).all (ms 9)
 |0,j,_=>by simp[enB]
 |f+1,j,h=>by
  rw[enB,afA ns N f (j+1) (by omega),yh _ _ _ _ (by rw[jJ];exact h),qI ns N j (by omega)];rfl
theorem ah2(k:Int):ms 5 k=By k:=by
 unfold ms By;by_cases a:k=26<;>by_cases b:k=32<;>by_cases c:k=33<;>simp[a,b,c]
def vy(ns:List Nd)(N:Nd):Bool:=zn (lE N (dF N.k)) N&&(ffB N N.ks.length (dF N.k)&&kfB N (ir ns N.ks))
theorem al3(ns:List Nd)(N:Nd)(hk:N.k=3\/N.k=4\/N.k=6\/N.k=7\/N.k=8\/N.k=9\/N.k=10\/N.k=11\/N.k=12\/N.k=14\/N.k=15\/N.k=16\/N.k=20\/N.k=21\/N.k=22\/N.k=23\/N.k=24\/N.k=25\/N.k=26\/N.k=27\/N.k=28\/N.k=29\/N.k=30\/N.k=31\/N.k=32\/N.k=33\/N.k=36\/N.k=37\/N.k=40\/N.k=41\/N.k=42)(j:N.nm.length<=200):vy ns N=Gr ns N:=by
 have a:=jJ ns N.ks;have b:=qI ns N;have h:oB 1=Z:=rfl;unfold vy kfB rkB;rw[wD];revert a b;generalize ir ns N.ks=c;intro a b;rcases hk with hk|hk|hk|hk|hk|hk|hk|hk|hk|hk|hk|hk|hk|hk|hk|hk|hk|hk|hk|hk|hk|hk|hk|hk|hk|hk|hk|hk|hk|hk|hk;all_goals
  rcases c with _|⟨d,_|⟨e,_|⟨f,_|⟨g,_|⟨i,l⟩⟩⟩⟩⟩;all_goals
   simp at a;simp[Gr,pE,stB,xK,dF,KL,ffB,txB,BE,hk,<-a,b,jk,fh,Gh,aaL,Le,akh,ah1,ms]<;>grind
theorem al4(ns:List Nd)(N:Nd)(hk:N.k=1\/N.k=2\/N.k=13\/N.k=34\/N.k=35)(j:N.nm.length<=200):vy ns N=Gr ns N:=by
 have b:=jJ ns N.ks;have e:=qI ns N 0;have d:=Lf ns N N.ks.length 0 (by omega);have c:=afy ns N N.ks.length 0 (by omega);have a:=afA ns N N.ks.length 0 (by omega);have g:ms 0=pE:=rfl;have h:ms 3=oB:=rfl;rw[<-b]at d c a e;rw[pn,Av]at d c a;unfold vy kfB rkB;rw[wD,<-b];revert b e d c a;generalize ir ns N.ks=f;intro b e d c a;rcases hk with hk|hk|hk|hk|hk;all_goals
  rcases f with _|⟨i,l⟩;all_goals
   simp at b e;simp only[bv,Ev,dd,List.all_nil]at d c a;simp[Gr,pE,stB,xK,dF,KL,ffB,txB,BE,hk,d,c,a,g,h,<-b,e,fh,aaK,Gh,aaL,Le,ms]<;>grind
theorem al5(ns:List Nd)(N:Nd)(a:N.k=5)(e:N.nm.length<=200):vy ns N=Gr ns N:=by
 have c:dF N.k=1:=by rw[a];rfl
 have d:Gr ns N=(aI N Z A3 Z Z&&(decide (1<=N.n/\N.n<(N.ks.length:Int))&&(tgB ns N N.n.toNat 0&&jk ns N (N.ks.length-N.n.toNat) N.n.toNat))):=by
  unfold Gr;rw[ab (by rw[a];rfl)];unfold stB;rw[aa (by rw[a];decide),aa (by rw[a];decide),aa (by rw[a];decide),aa (by rw[a];decide),ab a]
 unfold vy kfB;rw[wD,c,d,ab rfl];simp only[ffB];by_cases b:1<=N.n/\N.n<(N.ks.length:Int)
 ·rw[bC b,eG,eG,aki _ _ (by rw[jJ];omega),afz ns N _ _ (by omega),Lf ns N _ _ (by omega)]
  congr 1
  congr 1
  ·rw[pn]
   congr 1
   funext k
   exact ah2 k
  ·have:(ir ns N.ks).drop N.n.toNat=((ir ns N.ks).drop N.n.toNat).take (N.ks.length-N.n.toNat):=by
    rw[fs (by rw[jx,jJ];exact ae _)]
   rw[<-this];rfl
 ·rw[aB b,dJ,dJ]
theorem akj(ns:List Nd)(N:Nd)(h:N.k ∉ mc)(f:N.k≠5):vy ns N=Gr ns N:=by
 have d:=(Ga N.k h).1;simp only[mc,kG,nh,ny,not_or]at h;have e:pE N.k=Z:=by unfold pE;exact aB (by omega)
 have b:Gr ns N=Z:=by
  unfold Gr;rw[aa (by rw[e];decide)];unfold xK
  repeat rw[aa (by omega)]
 have a:dF N.k=6:=by
  unfold dF
  repeat rw[aa (by omega)]
 have c:rkB N.k (ir ns N.ks)=Z:=by unfold rkB;rw[d]
 unfold vy kfB;rw[b,a,aa (by decide),c,nu,nu]
theorem afB(ns:List Nd)(N:Nd)(a:N.nm.length<=200):vy ns N=Gr ns N:=by
 by_cases b:N.k∈mc
 ·simp only[mc,kG,nh,ny]at b;by_cases d:N.k=1\/N.k=2\/N.k=13\/N.k=34\/N.k=35
  ·exact al4 ns N d a
  ·exact al3 ns N (by omega) a
 ·by_cases c:N.k=5
  ·exact al5 ns N c a
  ·exact akj ns N b c
theorem Lg(ns:List Nd)(N:Nd)(l:200<N.nm.length):Gr ns N=Z:=by
 have f:∀c d e,aI N c d e Z=Z:=fun c d e=>by unfold aI;rw[aB (by omega)];simp
 have a:∀g b,b<=200->fh N g b=Z:=fun g b m=>by unfold fh;rw[aB (by omega)];rfl
 have h:=a 1 1 (by omega);have i:=a 1 2 (by omega);have j:=a 1 200 (by omega);have k:=a 0 200 (by omega);unfold Gr;split
 ·unfold stB;simp only[f,h,i,j,dJ,nu];simp
 ·unfold xK;simp only[f,k,dJ,nu];simp
theorem ah3(ns:List Nd)(i:Nat)(N:Nd):Dh ns i N=lu ns i N:=by
 unfold Dh lu;by_cases c:N.nm.length<=200
 ·have d:Dg N=FG N:=by
   unfold Dg FG;by_cases a:0<=N.f/\N.f<=N.t/\0<=N.l/\N.ks.length<=200
   ·rw[bC a,bC ⟨a.1,a.2.1,a.2.2.1,a.2.2.2,c⟩]
   ·rw[aB a,aB (fun b=>a ⟨b.1,b.2.1,b.2.2.1,b.2.2.2.1⟩)]
  have e:=afB ns N c;unfold vy at e;rw[d,<-e];generalize zn (lE N (dF N.k)) N=g;generalize Ir N.ks i N.ks.length 0=h;cases g<;>cases h<;>rfl
 ·have d:Dg N=Z:=by unfold Dg;exact aB (fun b=>c b.2.2.2.2)
  rw[d,Lg ns N (by omega),dJ,nu,nu]
