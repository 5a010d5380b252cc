import Derived.Test.YthboboahkkhopaaGreatDoorHRo19
import Derived.Test.YthboboahkkhopaaGreatDoorHRo21
import Derived.Test.YthboboahkkhopaaGreatDoorHRo18
import Derived.Lib.AppendZerosOnto
set_option linter.all false
set_option maxRecDepth 100000
set_option maxHeartbeats 6400000
open Bool renaming true->O,false->A0
open Option renaming some->Q,none->V
open Go.Value renaming slice->U,int->Ax,string->B1,string->B2
open Go.IntKind renaming i64->Z
open Go.Obj renaming cells->A2
open ByteArray renaming empty->A5
open Go renaming Value->A9,World->B0
open List renaming range->Br,replicate->B4
open Go.Proofs.Tryz renaming prog->B3
namespace Go.Proofs.YthboboahkkhopaaGreatDoor
open Go.RowKit Go.Maps Go.WideMaps
variable{K:Int->Prop}{T t:ByteArray}{a b i j r tab:Nat}{c:Cr}{d g k m n s z:Int}{f:FuncId}{kf ks:List Int}{l:List Wt}{w:World}
def fdK:List Int->List Int->Option (List Int)
 |st,[]=>Q st
 |st,k::r=>if(dz st k).2=O then fdK (dz st k).1 r else V
def ad7:∀(a b st:List Int),fdK st (a++b)=(fdK st a).bind λs=>fdK s b
 |[],b,st=>rfl
 |k::a,b,st=>by
  rw[ed,fdK,fdK];split
  .exact ad7 a b _
  .rfl
section
variable {tk : Nat → Tk} {n : Nat}
def ad8{t:Int}(ht:(tk i).k=t):∀(f:Nat)(st:List Int)(c:Nat)(lo:List Int)(b:Bool)(l:Nat)(r:List Int)(m:Nat),jB f st t c=Q (lo,Q b,l)->D tk n m (st++r) i j->b=O/\∃w,D tk n w (lo++r) (i+1) j
 |0,_,_,_,_,_,_,_,h,_=>by simp[jB]at h
 |f+1,[],_,_,_,_,_,_,h,_=>by simp[jB]at h
 |f+1,s::x,c,lo,b,l,r,m,h,d=>by
  by_cases v:s<100
  .obtain⟨rfl,e,_⟩:=yI h v;have e:b=decide (s=t):=by simpa using e
   cases d with
   |tok o q g a=>exact⟨by rw[e];exact aI (by rw[<-q,ht]),_,a⟩
   |exp o=>omega
  .cases d with
   |tok o=>omega
   |exp o q g a=>
    rw[ht]at g a;rcases xa h (by omega) with⟨p,u⟩|⟨p,_⟩
    .change D tk n _ ((xE s t).1++(x++r)) i j at a
     rw[<-dj]at a;exact ad8 ht f _ _ lo b l r _ u a
    .rw[p]at g;cases g
def ais:∀(st:List Int)(m i j:Nat),D tk n m st i j->i<j->CL st->1<=(tk i).k->(tk i).k<=78->(dz st (tk i).k).2=O/\∃e,D tk n e (dz st (tk i).k).1 (i+1) j
 |[],m,i,j,d,h,_,_,_=>by cases d;omega
 |s::r,m,i,j,d,h,l,o,p=>by
  have x:CL r:=λB z=>l B (dr _ z);by_cases v:s<100
  .cases d with
   |tok c g w a=>rw[nC v];exact⟨aI g.symm,_,a⟩
   |exp c=>omega
  .have y:=l s bq;by_cases b:(xE s (tk i).k).1=[]/\(xE s (tk i).k).2=O
   .rw[sH (by omega) b];cases d with
    |tok c=>omega
    |exp c g w a=>rw[b.1]at a;exact ais r _ i j a h x o p
   .obtain⟨A,q,t,f,_⟩:=Il (by omega) y o p b;obtain⟨rfl,e,u⟩:=ad8 rfl 8 [s] 0 A q t r m f d;rw[wL (by omega) b f];exact⟨rfl,e,u⟩
def amK:∀(ks st:List Int)(i m j:Nat),D tk n m st i j->j=i+ks.length->CL st->(∀a k,ks[a]?=Q k->(tk (i+a)).k=k/\1<=k/\k<=78)->∃r,fdK st ks=Q r
 |[],st,i,m,j,d,_,_,_=>⟨st,rfl⟩
 |k::ks,st,i,m,j,d,h,g,f=>by
  rw[bB]at h;have⟨c,o,p⟩:=f 0 k rfl;rw[iz]at c;have⟨e,q,b⟩:=ais st m i j d (by omega) g (by omega) (by omega);rw[c]at e b;rw[fdK,ae e];exact amK ks _ (i+1) q j b (by omega) (vG g o p) λa s l=>by
   have:=f (a+1) s l;rw[show i+1+a=i+(a+1) by omega];exact this
end
def Fa(s:Int):Bool:=s==129||s==130||s==123||s==126
def tmo:List Int->Bool
 |[]=>A0
 |a::_=>decide (a<100/\a≠5)
def r5:List Int->Bool
 |[]=>A0
 |s::r=>if s<100 then decide (s≠5) else if Fa s=O then tmo r else !(xE s 5).2
def Adj:List Int->Prop
 |[]=>True
 |t::r=>(t<100->opn t=O->r5 r=O)/\(Fa t=O->tmo r=O)/\Adj r
def asE(h:Fa s=O):xE s 5=([],O)/\100<=s:=by
 unfold Fa at h;simp at h;rcases h with((rfl|rfl)|rfl)|rfl<;>decide
def asG:∀{r:List Int},tmo r=O->(dz r 5).2=A0
 |[],h=>by cases h
 |a::r,h=>by
  have:=aG h;rw[nC this.1];exact aE this.2
def aqE:∀{st:List Int},r5 st=O->(dz st 5).2=A0
 |[],h=>by cases h
 |s::r,h=>by
  rw[r5]at h;by_cases a:s<100
  .rw[ae a]at h;rw[nC a];exact aE (aG h)
  .rw[aa a]at h;by_cases b:Fa s=O
   .rw[ae b]at h;have:=asE b;rw[sH this.2 (by rw[this.1];exact⟨rfl,rfl⟩)];exact asG h
   .rw[aa b]at h;have d:(xE s 5).2=A0:=by simpa using h
    rw[dz,aa a,aa (λc=>by rw[d]at c;cases c.2)];rw[jB,aa a,aa (by rw[d];simp)]
def chA(s:Int):List Int->Bool
 |[]=>O
 |a::L=>(!(decide (a<100)&&opn a)||(match L with|[]=>A0|b::M=>if b<100 then decide (b≠5) else if Fa b=O then(match M with|[]=>Fa s|c::_=>decide (c<100/\c≠5)) else !(xE b 5).2))&&(!(Fa a)||(match L with|[]=>Fa s|c::_=>decide (c<100/\c≠5)))&&chA s L
def als:((Br 34).all λs=>(Br 78).all λt=>!(xE ((s:Int)+100) ((t:Int)+1)).2||chA ((s:Int)+100) (xE ((s:Int)+100) ((t:Int)+1)).1)=O:=by decide+kernel
def aoL{t:Int}(c:100<=s)(d:s<=133)(e:1<=t)(f:t<=78)(h:(xE s t).2=O):chA s (xE s t).1=O:=by
 have b:=List.all_eq_true.1 als (s-100).toNat (by rw[nJ];omega);have a:=List.all_eq_true.1 b (t-1).toNat (by rw[nJ];omega);rw[show(((s-100).toNat:Nat):Int)+100=s by omega,show(((t-1).toNat:Nat):Int)+1=t by omega,h]at a;exact a
def ad9{r:List Int}(j:Fa s=O->tmo r=O)(k:Adj r):∀(L:List Int),chA s L=O->Adj (L++r)
 |[],_=>k
 |a::L,h=>by
  unfold chA at h;rw[ch,ch]at h;obtain⟨⟨b,d⟩,n⟩:=h;refine⟨λf l=>?_,λf=>?_,ad9 j k L n⟩
  .rw[aI f,l]at b;simp only[Bool.and_self,Bool.not_true,yD]at b;cases L with
   |nil=>cases b
   |cons c e=>
    simp only at b;show(if c<100 then decide (c≠5) else if Fa c=O then tmo (e++r) else !(xE c 5).2)=O;split
    .rename_i g;rw[ae g]at b;exact b
    .rename_i g;rw[aa g]at b;split
     .rename_i i;rw[ae i]at b;cases e with
      |nil=>exact j b
      |cons m e=>exact b
     .rename_i i;rw[aa i]at b;exact b
  .rw[f]at d;simp only[Bool.not_true,yD]at d;cases L with
   |nil=>exact j d
   |cons m L=>exact d
def aaA{t:Int}(g:1<=t)(i:t<=78):∀(f:Nat)(st:List Int)(c:Nat)(lo:List Int)(b:Nat)(r:List Int),jB f st t c=Q (lo,Q O,b)->CL st->Adj (st++r)->Adj (lo++r)/\(opn t=O->r5 (lo++r)=O)
 |0,_,_,_,_,_,h,_,_=>by simp[jB]at h
 |f+1,[],_,_,_,_,h,_,_=>by simp[jB]at h
 |f+1,s::o,c,lo,b,r,h,m,v=>by
  have w:CL o:=λa hx=>m a (dr _ hx);obtain⟨p,q,j⟩:=v;by_cases l:s<100
  .obtain⟨rfl,d,_⟩:=yI h l;have d:s=t:=aG (by simpa using d.symm);exact⟨j,λu=>p l (by rw[d];exact u)⟩
  .rcases xa h (by omega) with⟨k,e⟩|⟨k,_,e,_⟩
   .have n:=m s bq;have:=ad9 q j (xE s t).1 (aoL (by omega) n g i k)
    change Adj ((xE s t).1++(o++r)) at this
    rw[<-dj]at this;refine aaA g i f _ _ lo b r e (λa hx=>?_) this;rcases List.mem_append.1 hx with hx|hx
    .exact(amq (by omega) n g i).1 a hx
    .exact w a hx
   .simp at e
def Fb{t:Int}(e:1<=t)(f:t<=78):∀(st:List Int),CL st->(dz st t).2=O->Adj st->Adj (dz st t).1/\(opn t=O->r5 (dz st t).1=O)
 |[],_,h,_=>by simp[dz]at h
 |s::r,i,h,b=>by
  have n:CL r:=λk d=>i k (dr _ d);by_cases g:s<100
  .rw[nC g]at h⊢;have a:s=t:=aG h;exact⟨b.2.2,λm=>b.1 g (by rw[a];exact m)⟩
  .have j:=i s bq;by_cases c:(xE s t).1=[]/\(xE s t).2=O
   .rw[sH (by omega) c]at h⊢;exact Fb e f r n h b.2.2
   .obtain⟨o,p,l,a,_⟩:=Il (by omega) j e f c;rw[wL (by omega) c a]at h⊢;simp only at h;subst h;exact aaA e f 8 [s] 0 o l r a (λk d=>by rw[List.mem_singleton.1 d];exact j) b
inductive Ge (T:ByteArray):Nat->List Wt->List Tk->Nat->Prop where
 |nil {p:Nat}:Ge T p [] [] p
 |bl {p q:Nat}{l:List Wt}{ts:List Tk}:kC (aA T p)=true->Ge T (p+1) l ts q->Ge T p l ts q
 |rem {p q:Nat}{l:List Wt}{ts:List Tk}:aA T p=45->aA T (p+1)=45->Ge T (nlE T p) l ts q->Ge T p l ts q
 |tok {p r q:Nat}{t:Wt}{l:List Wt}{X:Tk}{ts:List Tk}:t.k≠7->t.k≠5->Alo t.w t.k t.n t.x->Stn T p t.w->Aj t.w t.k (aA T (p+t.w.size))=true->Skp T (opn t.k) (p+t.w.size) r->X.k=t.k->X.n=t.n/\X.x=t.x->X.f=(p:Nat)/\X.t=((p+t.w.size:Nat):Int)->Ge T r l ts q->Ge T p (t::l) (X::ts) q
 |sep {p q:Nat}{l:List Wt}{c:Int}{X:Tk}{ts:List Tk}:aA T p=c->c=10\/c=59->X.k=5->Ge T (p+1) l ts q->Ge T p (nlW::l) (X::ts) q
def Rz.tks{p f:Nat}(h:Rz T p l f):∃us,Ge T p l us f:=by
 induction h with
 |nil=>exact⟨_,.nil⟩
 |bl b _ c=>exact c.imp λ_ a=> .bl b a
 |rem b d _ c=>exact c.imp λ_ a=> .rem b d a
 |@tok p q f e l b d g i j m o c=>obtain⟨us,a⟩:=c;exact⟨⟨e.k,(p:Nat),((p+e.w.size:Nat):Int),0,e.n,e.x⟩::us,.tok b d g i j m rfl ⟨rfl,rfl⟩ ⟨rfl,rfl⟩ a⟩
 |sep b d _ c=>obtain⟨us,a⟩:=c;exact⟨⟨5,0,0,0,0,⟨#[]⟩⟩::us,.sep b d rfl a⟩
inductive Smp:List Tk->List Tk->Prop where
 |nil:Smp [] []
 |cons {X Y:Tk}{us ts:List Tk}:(X.k≠5->Y.f=X.f/\Y.t=X.t)->Smp us ts->Smp (X::us) (Y::ts)
def Gf(t:Wt):Int:=if t.k=7 then 5 else t.k
def ao0{o:Bool}(h:Skp T o a r){st:List Int}(x:o=O->(dz st 5).2=A0):∀(f:Nat)(b:Int)(c:List Tk),T.size<f+a->∃j l,T.size<j+r/\xG T f st (blk T (T.size+1) a) b c=xG T j st (blk T (T.size+1) r) l c:=by
 induction h with
 |nil=>intro f b c k;exact⟨f,b,k,rfl⟩
 |@bl d p e g i=>
  intro f b c k;have n:d<T.size:=co rfl (by have:=aG e;omega);rw[AI T d n e];exact i f b c (by omega)
 |@rem d p e g w i=>
  intro f b c k;rw[Eg T d e g];exact i f b c (by have:=zo T d e;omega)
 |@nl d p e g w i=>
  intro f b c k;have n:d<T.size:=co g;have⟨t,u,m,v⟩:=amH g (.inl rfl);rw[ae rfl]at m;obtain⟨f,rfl⟩:∃s,f=s+1:=⟨f-1,by omega⟩;have q:zH T d=7:=by unfold zH;rw[ae t,m]
  have⟨j,l,y,z⟩:=i f (b+1) c (by omega);refine⟨j,l,y,?_⟩;rw[v,xG,aa (by omega),ae q,aa (by rw[x e];simp),u];exact z
def wk{p s:Nat}{us:List Tk}(h:Ge T p l us s):s=T.size->∀(f:Nat)(st:List Int)(a:Int)(e:List Tk)(g:List Int),T.size<f+p->CL st->Adj st->fdK st (l.map Gf)=Q g->
  ∃ts i,xG T f st (blk T (T.size+1) p) a e=(e++ts++[⟨6,(T.size:Nat),(T.size:Nat),i,0,⟨#[]⟩⟩],g, -1)/\Ge T p l ts s/\Smp us ts:=by
 induction h with
 |@nil p=>
  intro o f st a e g H m q b;obtain rfl:=o;obtain⟨f,rfl⟩:∃d,f=d+1:=⟨f-1,by omega⟩;have J:st=g:=by simpa [fdK] using b
  refine⟨[],a,?_,.nil,.nil⟩;rw[adq T _ (af _),xG,ae (af _),dC,J]
 |@bl p s l us c j y=>
  intro o f st a e g H m q b;have a0:p<T.size:=co rfl (by have:=aG c;omega);rw[AI T p a0 c];have⟨ts,i,I,A⟩:=y o f st a e g (by omega) m q b;exact⟨ts,i,I,.bl c A.1,A.2⟩
 |@rem p s l us c j B y=>
  intro o f st a e g H m q b;rw[Eg T p c j];obtain⟨ts,i,I,A⟩:=y o f st a e g (by have:=zo T p c;omega) m q b;exact⟨ts,i,I,.rem c j A.1,A.2⟩
 |@tok p bd s t l ao us c j B L au av _ _ ax ba y=>
  intro o f st a e g H m q b;have⟨u,G,v,K,a3,a4⟩:=aqw B L c j au;have bb:=B.pos;have bc:=L.1;obtain⟨f,rfl⟩:∃d,f=d+1:=⟨f-1,by omega⟩;have ap:zH T p=t.k:=by unfold zH;rw[ae u,v]
  have C:=ad1 T p u;rw[v]at C;rw[dv,fdK,show Gf t=t.k by unfold Gf;rw[aa c]]at b;have r:(dz st t.k).2=O:=by
   by_cases d:(dz st t.k).2=O
   .exact d
   .rw[aa d]at b;cases b
  rw[ae r]at b;have⟨ad,a5⟩:=Fb C.1 C.2 st m r q;obtain⟨a2,E,a7,a8⟩:=ao0 av (st:=(dz st t.k).1) (λd=>aqE (a5 d)) f a (e++[⟨t.k,(p:Nat),((p+t.w.size:Nat):Int),a,t.n,t.x⟩]) (by omega);obtain⟨ts,i,ak,al,an⟩:=y o a2 _ E _ g a7 (vG m C.1 C.2) ad b;refine⟨⟨t.k,(p:Nat),((p+t.w.size:Nat):Int),a,t.n,t.x⟩::ts,i,?_,?_,.cons (λ_=>⟨ax.1.symm,ax.2.symm⟩) an⟩
  .rw[a4,xG,aa (by omega),aa (by rw[ap];exact c),ap,show aay st t.k=dz st t.k by unfold aay;rw[ae (by omega)],ae r,ae u,G,K,a3,a8,ak];simp
  .exact .tok c j B L au av rfl ⟨rfl,rfl⟩ ⟨rfl,rfl⟩ al
 |@sep p s l a9 ao us c j a6 B y=>
  intro o f st a e g H m q b;have a0:p<T.size:=co c;have⟨u,G,v,K⟩:=amH c j;obtain⟨f,rfl⟩:∃d,f=d+1:=⟨f-1,by omega⟩;rw[dv,fdK,show Gf nlW=5 from rfl]at b;have r:(dz st 5).2=O:=by
   by_cases d:(dz st 5).2=O
   .exact d
   .rw[aa d]at b;cases b
  rw[ae r]at b;obtain⟨ad,_⟩:=Fb (t:=5) (by decide) (by decide) st m r q;have ar:∀(z:Tk)(E:Int),z.k=5->xG T (f+1) st p a e=xG T f (dz st 5).1 (blk T (T.size+1) (p+1)) E (e++[z])->∃ts i,xG T (f+1) st (blk T (T.size+1) p) a e=(e++ts++[⟨6,(T.size:Nat),(T.size:Nat),i,0,⟨#[]⟩⟩],g, -1)/\Ge T p (nlW::l) ts s/\Smp (ao::us) ts:=λz E F J=>by
   obtain⟨ts,i,ak,al,an⟩:=y o f _ E (e++[z]) g (by omega) (vG m (by decide) (by decide)) ad b;refine⟨z::ts,i,?_,.sep c j F al,.cons (λd=>absurd a6 d) an⟩;rw[K,J,ak];simp
  rcases j with rfl|rfl
  .rw[ae rfl]at v;have a1:zH T p=7:=by unfold zH;rw[ae u,v]
   exact ar ⟨5,(p:Nat),((du T p).a:Nat),a,(du T p).n,(du T p).x⟩ (a+1) rfl (by rw[xG,aa (by omega),ae a1,ae r,G])
  .rw[aa (by decide)]at v;have F:zH T p=5:=by unfold zH;rw[ae u,v]
   exact ar ⟨5,(p:Nat),((du T p).a:Nat),a,(du T p).n,(du T p).x⟩ a rfl (by rw[xG,aa (by omega),aa (by rw[F];decide),F,show aay st 5=dz st 5 by unfold aay;rw[ae (by decide)],ae r,ae u,G])
def alt{us:List Tk}(h:Ge T 0 l us T.size){c:List Int}(e:fdK [100,6] (l.map Gf)=Q c):∃ts b,rD T=(ts++[⟨6,(T.size:Nat),(T.size:Nat),b,0,⟨#[]⟩⟩],c, -1)/\Ge T 0 l ts T.size/\Smp us ts:=by
 obtain⟨ts,b,d,a⟩:=wk h rfl (T.size+1) [100,6] 1 [] c (by omega) (λg f=>by simp at f;omega) ⟨λa=>absurd a (by decide),by decide,λ_ a=>absurd a (by decide),by decide,trivial⟩ e;rw[dI]at d;exact⟨ts,b,d,a⟩
structure Mp (w0:B0) (p1:Addr) (n c1:Nat) (ns:List Nd):Prop where
 nds:dy w0 (.slice (Q p1) n c1) ns
 cap:Ep w0 p1 ns
 len:ns.length=n
 big:n<=3000
 sz:Szd ns
 n0:∀i:Int, -9223372036854775808<=(ab ns i).n
 n1:∀i:Int,(ab ns i).n<=9223372036854775807
abbrev vT(b:Addr)(n a:Nat):A9:= U (Q b) n a
def OkB(a:B0)(g:Addr)(n i:Nat)(ns:List Nd)(f:Nat):Prop:=
 ∀(k tab:Nat)(h:ByteArray),k<f->(ab ns k).k=7->tab+f<=500000->∀{c b:Option Addr}{m e L d:Nat},NdR a g k (ab ns k) c m e b L d->Wr a (vT g n i) tab 82 #[pW a,jG (ab ns k) (U c m e) (U b L d),B2 h] (sr ns f k h tab)
structure OkA (w0:B0) (p1:Addr) (n c1:Nat) (ns:List Nd) (f:Nat):Prop where
 e:∀tab:Nat,tab+f<=500000->OkE w0 (vT p1 n c1) ns (λk=>qv ns f k tab) tab f
 s:aqn w0 (vT p1 n c1) ns (λk t=>pI ns f k t) f
 b:OkB w0 p1 n c1 ns f
def OkA.zero(e:B0)(d:Addr)(n c:Nat)(ns:List Nd):OkA e d n c ns 0:=
 ⟨λ_ _ b _ _ _ a=>absurd a (by omega),λb _ _ _ a=>absurd a (by omega),λb _ _ a=>absurd a (by omega)⟩
section
variable {w0 : World} {p1 : Addr} {n c1 : Nat} {ns : List Nd} (M : Mp w0 p1 n c1 ns) {f : Nat} (A : OkA w0 p1 n c1 ns f)
def Wr.expr0(A:OkA w0 p1 n c1 ns f){a:Nat}(ht:tab+f<=500000)(i:a<f)(g:fy (ab ns a).k=O):Wr w0 (vT p1 n c1) tab 80 #[pW w0,Ax Z (a:Int),Ax Z 0] (qv ns f a tab):=
 λb c d h=>(A.e tab ht).zero a b c i g d h
def Wr.blk(M:Mp w0 p1 n c1 ns)(A:OkA w0 p1 n c1 ns f){a:Nat}(ht:tab+f<500000)(u:a<=f)(b:a<ns.length)(l:(ab ns a).k=1):Wr w0 (vT p1 n c1) tab 77 #[pW w0,Ax Z (a:Int)] (xe (λk t=>pI ns f k t) (ab ns a).ks tab):=by
 intro e g h m;have⟨o,r⟩:=jg (M.sz.nb a b);have i:=tD o l;refine afw w0 _ ns _ f A.s M.nds (by rw[M.len];have:=M.big;omega) a b (λv p=>?_) (by omega) tab ht e g h m;obtain⟨d,j,rfl⟩:=om p;have⟨q,c⟩:=iJ (M.sz.nb a b) b d j;have:=Ey _ 0 i d (by omega) (by omega);rw[c.id]at this⊢;exact⟨q,rfl,by have:=c.lt;omega,c.len,this⟩
def Wr.exs(A:OkA w0 p1 n c1 ns f)(ht:tab+f<=500000){ls:List Int}(d:ahz ns f ls)(h:ls.length<=1048576)(v:A9)(i:dh w0 v ls):Wr w0 (vT p1 n c1) tab 79 #[pW w0,v] (bK (ls.map λk=>qv ns f k tab)):=
 λa b c g=>afv w0 _ v ns _ tab f (A.e tab ht) ls i d h a b c g
def Wr.bod(M:Mp w0 p1 n c1 ns)(A:OkA w0 p1 n c1 ns f){a:Nat}(ht:tab+f<500000)(q:a<=f)(b:a<ns.length)(l:(ab ns a).k=36):Wr w0 (vT p1 n c1) tab 81 #[pW w0,Ax Z (a:Int)] (zu ns (λk t=>pI ns f k t) (ab ns a) tab):=by
 have⟨m,p⟩:=jg (M.sz.nb a b);have⟨h,d,i,j⟩:=ady m l;have⟨s,c⟩:=iJ (M.sz.nb a b) b 0 (by omega);have⟨_,_,_,_,_,_,g⟩:=zv M.nds M.cap b;have:=M.len;have:=M.big;have:=c.lt;unfold zu Cg;rw[c.id]at d⊢;refine ab0 M.nds M.cap M.len (by omega) (by omega) (by omega) g (.bod i ?_ h c.at_ (Wr.blk M A ht (by omega) c.len d));rcases j with e|e
 .exact .inl ⟨by omega,aa (by omega)⟩
 .refine .inr ⟨e,?_⟩;rw[ae e];cases (ab ns a).nm with
  |nil=>exact .inl ⟨rfl,rfl⟩
  |cons o r=>exact .inr ⟨Nat.succ_pos _,rfl⟩
def uD(M:Mp w0 p1 n c1 ns)(d:i<ns.length)(p:i<=f){m:Nat}(h:∀j,a<=j->j<a+m->fy (ab ns (dt (ab ns i) j)).k=O)(q:a+m<=(ab ns i).ks.length):ahz ns f (((ab ns i).ks.drop a).take m):=by
 intro r l;have⟨j,g,c⟩:=iw l;rw[eE,fJ]at g;rw[List.getElem_take,List.getElem_drop]at c;have⟨o,b⟩:=iJ (M.sz.nb i d) d (a+j) (by omega);have e:=wv (N:=ab ns i) (j:=a+j) (by omega);rw[e,b.id]at c;have:=h (a+j) (by omega) (by omega);rw[b.id]at this;exact⟨o,c.symm,by have:=b.lt;omega,b.len,this⟩
end
section
variable {w0 : World} {p1 : Addr} {n c1 : Nat} {ns : List Nd} {f : Nat}
def Wr.bas(M:Mp w0 p1 n c1 ns)(A:OkA w0 p1 n c1 ns f){a:Nat}(ht:tab+f<=500000)(i:a<f)(j:a<ns.length)(g:fy (ab ns a).k=O):Wr w0 (vT p1 n c1) tab 135 #[pW w0,Ax Z (a:Int)] (El ns (λk=>qv ns f k tab) a):=
 λb c d h=>aht w0 _ ns _ tab f (A.e tab ht) M.nds (by rw[M.len];have:=M.big;omega) a i j g b c d h
def aaB(M:Mp w0 p1 n c1 ns)(A:OkA w0 p1 n c1 ns f)(tab i:Nat)(ht:tab+f<500000)(bb:i<=f)(v:i<ns.length)(bp:fy (ab ns i).k=O)(least:Int)(j:¬ij (ab ns i).k (ab ns i).op<least):
  Wr w0 (vT p1 n c1) tab 80 #[pW w0,Ax Z (i:Int),Ax Z least] (prE ns (λF=>qv ns f F tab) (λF t=>pI ns f F t) (ab ns i) tab):=by
 have bw:=M.big;have bF:=M.len;have⟨p,bD⟩:=jg (M.sz.nb i v);have l:=λq C=>iJ (M.sz.nb i v) v q C;have a3:(ab ns i).k=31->1<=(ab ns i).op/\(ab ns i).op<=18:=λbn=>(mC p).2.2 bn;have bx:=aG bp;have b0:=Em (ab ns i).k (ab ns i).op;have⟨bj,m,bl,bh,bf,bk,z⟩:=zv M.nds M.cap v;have c:=@ahy w0 p1 n c1 ns M.nds M.cap M.len (by omega) tab i (by omega) _ (by omega) a3 _ _ _ _ _ _ z;have a4:∀a9:ByteArray,((ab ns i).k=28\/(ab ns i).k=29\/(ab ns i).k=31)->Wr w0 (vT p1 n c1) tab 132 #[pW w0,jG (ab ns i) (U bj m bl) (U bh bf bk),B2 a9,Ax Z (ij (ab ns i).k (ab ns i).op)] (AL ns (λF=>qv ns f F tab) (ab ns i) a9 (ij (ab ns i).k (ab ns i).op)):=by
  intro a9 bA;have⟨e,d,u⟩:=mC p;have⟨a,b⟩:=l 0 (by omega);have⟨H,h⟩:=l 1 (by omega);have g:=gD 2 0 d 0 (by omega) (by omega);have o:=gD 2 0 d 1 (by omega) (by omega);have:=adt (ab ns i).k (ab ns i).op;have x:=b.lt;have bd:=h.lt;unfold AL;rw[b.id]at g⊢;rw[h.id]at o⊢;exact ak4 (λI J=>u (by omega)) z e b.at_ h.at_ (by omega) (λr c s w=>A.e tab (by omega) a _ r c (by omega) g (by unfold wh;split<;>omega) (by unfold wh;split<;>omega) s w) (λr c s w=>A.e tab (by omega) H _ r c (by omega) o (by omega) (by omega) s w)
 unfold prE;by_cases I:(ab ns i).k=28
 .rw[ae I];exact c (.inf (.inl ⟨I,rfl⟩) j (a4 _ (by omega)))
 rw[aa I];by_cases J:(ab ns i).k=29
 .rw[ae J];exact c (.inf (.inr ⟨J,rfl⟩) j (a4 _ (by omega)))
 rw[aa J];by_cases K:(ab ns i).k=31
 .rw[ae K];exact ahx (by omega) (by omega) a3 z K j (EC (a3 K)) (a4 _ (by omega))
 rw[aa K];by_cases L:(ab ns i).k=30
 .rw[ae L];have⟨e,d,u⟩:=oI p;have⟨a,b⟩:=l 0 (by omega);have x:=b.lt;have b2:=b.len;unfold unB unS;rw[b.id]at d⊢;have au:=am λr c s w=>A.e tab (by omega) a 11 r c (by omega) d (by omega) (by omega) s w;refine c (.nod (.inl ⟨L,rfl⟩) j ?_);have:=u L;by_cases a6:(ab ns i).op=21
  .rw[ae a6];exact c (.un (.inl ⟨a6,rfl⟩) e b.at_ au)
  rw[aa a6];by_cases a7:(ab ns i).op=22
  .rw[ae a7];exact c (.un (.inr (.inl ⟨a7,rfl⟩)) e b.at_ au)
  rw[aa a7];by_cases a8:(ab ns i).op=20
  .rw[ae a8];exact c (.un (.inr (.inr ⟨a8,rfl⟩)) e b.at_ au)
  rw[aa a8];refine Eu M.nds M.cap M.len (by omega) z (.neg e b.at_ (show _=_ by omega) ⟨by omega,?_⟩ au);unfold vp;by_cases E:(ab ns a).k=30
  .by_cases av:(ab ns a).op=19
   .exact .inl ⟨E,.inl ⟨av,by rw[E,av];rfl⟩⟩
   .exact .inl ⟨E,.inr ⟨av,by simp[av]⟩⟩
  .exact .inr ⟨E,by simp[E]⟩
 rw[aa L];by_cases a0:(ab ns i).k=32
 .rw[ae a0];have⟨e,d,u⟩:=mC p;have⟨a,b⟩:=l 0 (by omega);have⟨H,h⟩:=l 1 (by omega);have g:=gD 2 0 d 0 (by omega) (by omega);have o:=gD 2 0 d 1 (by omega) (by omega);have x:=b.lt;have bd:=h.lt;rw[b.id]at g⊢;rw[h.id]at o⊢;exact c (.idx a0 j e b.at_ h.at_ (Wr.bas M A (by omega) (by omega) b.len g) (Wr.expr0 A (by omega) (by omega) o))
 rw[aa a0];by_cases a1:(ab ns i).k=33
 .rw[ae a1];have⟨e,d,u⟩:=oI p;have⟨a,b⟩:=l 0 (by omega);have x:=b.lt;rw[b.id]at d⊢;exact c (.fld a1 j e b.at_ (Wr.bas M A (by omega) (by omega) b.len d))
 rw[aa a1];by_cases ao:(ab ns i).k=34
 .rw[ae ao];have⟨e,d⟩:=Da p ao;have⟨a,b⟩:=l 0 (by omega);have g:=gD _ 0 d 0 (by omega) (by omega);have x:=b.lt;have ba:=uD M v bb (a:=1) (m:=(ab ns i).ks.length-1) (λq u bv=>gD _ 0 d q (by omega) (by omega)) (by omega);rw[cj (by rw[fJ];exact af _)]at ba;rw[b.id]at g⊢;exact c (.cal ao j e b.at_ (Wr.bas M A (by omega) (by omega) b.len g) λbt br=>Wr.exs A (by omega) ba (by rw[fJ];omega) bt br)
 rw[aa ao];by_cases ap:(ab ns i).k=35
 .rw[ae ap];have e:=zx p ap;refine c (.nod (.inr (.inl ⟨ap,rfl⟩)) j (afp M.nds M.cap M.len (by omega) z.ks (by omega) λb3 bs=>?_));obtain⟨q,C,rfl⟩:=om bs;have⟨G,y⟩:=l q C;have d:=aap _ 0 e q (by omega) (by omega);rw[y.id]at d⊢;refine⟨G,rfl,y.len,?_⟩;have⟨bc,bE⟩:=jg (M.sz.nb G y.len);have a5:=λq C=>iJ (M.sz.nb G y.len) y.len q C;have b1:=y.lt;unfold sj;by_cases ad:(ab ns G).k=41
  .obtain⟨a2,B,bo⟩:=mC bc;have⟨a,b⟩:=a5 0 (by omega);have⟨H,h⟩:=a5 1 (by omega);have g:=gD 2 0 B 0 (by omega) (by omega);have o:=gD 2 0 B 1 (by omega) (by omega);have x:=b.lt;have bd:=h.lt;rw[b.id]at g⊢;rw[h.id]at o⊢;exact .inl ⟨ad,a2,a,H,_,_,b.at_,h.at_,Wr.expr0 A (by omega) (by omega) g,Wr.expr0 A (by omega) (by omega) o,ae ad⟩
  .obtain⟨a2,B,bo⟩:=oI bc;have⟨a,b⟩:=a5 0 (by omega);have x:=b.lt;rw[aa ad];rw[b.id]at B⊢;refine .inr ⟨a2,a,_,b.at_,Wr.expr0 A (by omega) (by omega) B,?_⟩;by_cases al:(ab ns G).k=42
   .exact .inl ⟨al,ae al⟩
   .exact .inr ⟨⟨ad,al⟩,aa al⟩
 rw[aa ap];by_cases ar:(ab ns i).k=36
 .rw[ae ar];exact c (.fn ar j (Wr.bod M A ht bb v ar))
 rw[aa ar];by_cases ax:(ab ns i).k=37
 .rw[ae ax];have⟨e,d,u⟩:=oI p;have⟨a,b⟩:=l 0 (by omega);have x:=b.lt;rw[b.id]at d⊢;exact c (.one ax j e b.at_ (Wr.expr0 A (by omega) (by omega) d))
 rw[aa ax];exact c (.nod (.inr (.inr ⟨by omega,rfl⟩)) j λr c s w=>afo w0 _ _ _ _ r tab c s (by omega) (M.n0 i) (M.n1 i) (λ_=>Ew (M.sz.nb i v)) w)
def afD(M:Mp w0 p1 n c1 ns)(A:OkA w0 p1 n c1 ns f)(u:f<ns.length)(tab:Nat)(ht:tab+(f+1)<=500000):OkE w0 (vT p1 n c1) ns (λk=>qv ns (f+1) k tab) tab (f+1):=by
 intro k i d e v g r s h a;have t:=M.big;have x:=M.len;have⟨p,w⟩:=jg (M.sz.nb k (by omega));have o:(ab ns k).k=31->1<=(ab ns k).op/\(ab ns k).op<=18:=λl=>(mC p).2.2 l;have m:qv ns (f+1) k tab=prE ns (λc=>qv ns f c tab) (λc q=>pI ns f c q) (ab ns k) tab:=by rw[qv]
 unfold iL at a⊢;simp only[m]at a⊢;by_cases b:ij (ab ns k).k (ab ns k).op<i
 .rw[ae b]at a⊢;have y:=Em (ab ns k).k (ab ns k).op;have⟨_,_,_,_,_,_,j⟩:=zv M.nds M.cap (show k<ns.length by omega);exact ahy M.nds M.cap M.len (by omega) (by omega) (by omega) o j (.par b (aaB M A tab k (by omega) (by omega) (by omega) g 0 (by omega))) d e h a
 .rw[aa b]at a⊢;exact aaB M A tab k (by omega) (by omega) (by omega) g i b d e h a
end
section
variable {w0 : World} {p1 : Addr} {n c1 : Nat} {ns : List Nd} {f : Nat}
def Fc(M:Mp w0 p1 n c1 ns)(A:OkA w0 p1 n c1 ns f)(tab i:Nat)(ht:tab+f<500000)(al:i<=f)(o:i<ns.length)(G:(ab ns i).k=7)(y:ByteArray){s r:Option Addr}{m u L ck:Nat}(R:NdR w0 p1 i (ab ns i) s m u r L ck):
  Wr w0 (vT p1 n c1) tab 82 #[pW w0,jG (ab ns i) (U s m u) (U r L ck),B2 y] (wj ns (λe=>qv ns f e tab) (λe t=>pI ns f e t) (λe w=>sr ns f e w tab) (ab ns i) y tab):=by
 have ad:=M.big;have ap:=M.len;have⟨H,ao⟩:=jg (M.sz.nb i o);have p:=λI F=>iJ (M.sz.nb i o) o I F;have⟨J,K,v,x,E⟩:=adz H G;have⟨B,b⟩:=p 0 (by omega);have⟨C,a⟩:=p 1 (by omega);have ar:=b.lt;have au:=a.lt;rw[b.id]at v;rw[a.id]at x;have l:=am (Wr.expr0 A (tab:=tab) (by omega) (show B<f by omega) v);have j:=am (Wr.blk M A ht (show C<=f by omega) a.len x);have z:=@ab0 w0 p1 n c1 ns M.nds M.cap M.len (by omega) tab i (by omega) _ (by omega) _ _ _ _ _ _ R;unfold wj;rw[b.id,a.id];rcases bI (ab ns i).ks.length 3 with g|g
 .rw[ae g,show ∀q:ByteArray,q++A5=q from λq=>ByteArray.append_empty];exact z (.br2 (by omega) b.at_ a.at_ l j)
 .rw[aa (by omega)];have⟨h,c⟩:=p 2 (by omega);have wc:=c.lt;have av:=c.len;rw[c.id]at E⊢;by_cases d:(ab ns h).k=7
  .rw[ae d];exact Eu M.nds M.cap M.len (by omega) R (.bre (by omega) b.at_ a.at_ c.at_ l j ⟨by omega,d⟩ λ_ _ _ _ _ _ R=>A.b h tab _ (by omega) d (by omega) R)
  .rw[aa d,<-aK];exact Eu M.nds M.cap M.len (by omega) R (.br3 (by omega) b.at_ a.at_ c.at_ l j ⟨by omega,d⟩ (Wr.blk M A ht (show h<=f by omega) c.len (show(ab ns h).k=1 by omega)))
def ait{N:Nd}(h:N.nm.length=1):N.nm[0]?=Q (nm0 N):=by
 unfold nm0;rw[aD,az (by omega)];rfl
def aiu(M:Mp w0 p1 n c1 ns)(A:OkA w0 p1 n c1 ns f)(tab i:Nat)(ht:tab+f<500000)(y:i<=f)(o:i<ns.length)(ba:eA (ab ns i).k=O):
  Wr w0 (vT p1 n c1) tab 19 #[pW w0,Ax Z (i:Int)] (prS ns (λx=>qv ns f x tab) (λx t=>pI ns f x t) (λ_ w=>wj ns (λx=>qv ns f x tab) (λx t=>pI ns f x t) (λx w=>sr ns f x w tab) (ab ns i) w tab) (ab ns i) tab):=by
 have bb:=M.big;have bf:=M.len;have⟨p,bd⟩:=jg (M.sz.nb i o);have r:=λl a6=>iJ (M.sz.nb i o) o l a6;have a5:(ab ns i).ks.length<=1048576:=by omega
 have⟨_,_,_,_,_,_,a0⟩:=zv M.nds M.cap o;have h:=@ab0 w0 p1 n c1 ns M.nds M.cap M.len (by omega) tab i (by omega) _ (by omega) _ _ _ _ _ _ a0;have bc:=aG ba;have a3:∀k:Int,k=34->fy k=O:=λk al=>by rw[al];rfl
 unfold prS;by_cases F:(ab ns i).k=1
 .rw[ae F];exact h (.blk F (Wr.blk M A ht y o F))
 rw[aa F];by_cases E:(ab ns i).k=2
 .rw[ae E];have⟨e,b⟩:=ab4 p E;by_cases u:(ab ns i).ks=[]
  .rw[ae u,show ∀z:ByteArray,z++A5=z from λz=>ByteArray.append_empty];exact h (.let0 b E (by rw[u];rfl))
  .rw[aa u];have j:=uD M o y (a:=0) (m:=(ab ns i).ks.length) (λl d v=>gD _ 0 e l (by omega) (by omega)) (by omega);rw[ga,cj (af _)]at j;exact h (.let1 b E (List.length_pos_iff.2 u) λs q=>Wr.exs A (by omega) j a5 s q)
 rw[aa E];by_cases I:(ab ns i).k=3
 .rw[ae I];have⟨e,b,d⟩:=zz p I;have⟨a,c⟩:=r 0 (by omega);have B:=c.lt;rw[c.id]at b⊢;exact h (.cst I e d (ait d) c.at_ (Wr.expr0 A (by omega) (by omega) b))
 rw[aa I];by_cases J:(ab ns i).k=4
 .rw[ae J];have⟨e,b,d⟩:=Jh p J;have⟨a,c⟩:=r 0 (by omega);have B:=c.lt;rw[c.id]at b⊢;exact h (.fns J e d (ait d) c.at_ (Wr.bod M A ht (by omega) c.len b))
 rw[aa J];by_cases K:(ab ns i).k=5
 .rw[ae K];have⟨e,b,d,v⟩:=ab5 p K;obtain⟨m,a8⟩:∃m:Nat,(ab ns i).n=(m:Int):=⟨(ab ns i).n.toNat,by omega⟩;have a9:(ab ns i).n.toNat=m:=by omega
  rw[a9]at d v⊢;have j:=uD M o y (a:=0) (m:=m) (λl au av=>ahJ _ 0 d l (by omega) (by omega)) (by omega);rw[ga]at j;have a4:=uD M o y (a:=m) (m:=(ab ns i).ks.length-m) (λl au av=>gD _ m v l (by omega) (by omega)) (by omega);rw[cj (by rw[fJ];exact af _)]at a4;exact h (.set K (by omega) a8 (λs q=>Wr.exs A (by omega) j (by rw[eE];omega) s q) λs q=>Wr.exs A (by omega) a4 (by rw[fJ];omega) s q)
 rw[aa K];by_cases ap:(ab ns i).k=6
 .rw[ae ap];have⟨e,b⟩:=BE p (by omega);have⟨a,c⟩:=r 0 (by omega);have B:=c.lt;rw[c.id]at b⊢;exact h (.one ap e c.at_ (Wr.expr0 A (by omega) (by omega) (a3 _ b)))
 rw[aa ap];by_cases L:(ab ns i).k=7
 .rw[ae L];exact h (.iff L (Fc M A tab i ht y o L _ a0))
 rw[aa L];by_cases ad:(ab ns i).k=8
 .rw[ae ad];have⟨e,b,d⟩:=zA p ad;have⟨a,c⟩:=r 0 (by omega);have⟨ak,g⟩:=r 1 (by omega);have B:=c.lt;have ax:=g.lt;rw[c.id]at b⊢;rw[g.id]at d⊢;exact h (.whl ad e c.at_ g.at_ (Wr.expr0 A (by omega) (by omega) b) (Wr.blk M A ht (by omega) g.len d))
 rw[aa ad];by_cases a2:(ab ns i).k=9\/(ab ns i).k=10
 .rw[ae a2];by_cases a1:(ab ns i).k=10
  .rw[aa (by omega)];have⟨e,b,d,v⟩:=Db p a1;rw[e];have j:=uD M o y (a:=0) (m:=1) (λl au av=>by have al:l=0:=(by omega);subst al;exact b) (by omega);rw[ga]at j;have⟨ak,g⟩:=r 1 (by omega);have ax:=g.lt;show Wr _ _ _ _ _ (_++_++_++_++_++xe _ (ab ns (dt (ab ns i) 1)).ks tab);rw[g.id]at d⊢;exact h (.fr v (.inr ⟨a1,rfl,rfl⟩) e g.at_ (λs q=>Wr.exs A (by omega) j (by rw[eE];omega) s q) (Wr.blk M A ht (by omega) g.len d))
  .have ar:(ab ns i).k=9:=by omega
   rw[ae ar];have⟨e,b,d,v⟩:=Ji p ar;obtain⟨k,a7⟩:∃k,(ab ns i).ks.length=k+1:=⟨(ab ns i).ks.length-1,by omega⟩;rw[show(ab ns i).ks.length-1=k by omega]at b d⊢;have j:=uD M o y (a:=0) (m:=k) (λl au av=>gD _ 0 b l (by omega) (by omega)) (by omega);rw[ga]at j;have⟨ak,g⟩:=r k (by omega);have ax:=g.lt;rw[g.id]at d⊢;exact h (.fr (by omega) (.inl ⟨ar,rfl,by omega⟩) a7 g.at_ (λs q=>Wr.exs A (by omega) j (by rw[eE];omega) s q) (Wr.blk M A ht (by omega) g.len d))
 rw[aa a2];by_cases an:(ab ns i).k=11
 .rw[ae an];exact h (.brk an)
 rw[aa an];by_cases ao:(ab ns i).k=12
 .rw[ae ao];exact h (.nxt ao)
 rw[aa ao];by_cases C:(ab ns i).k=13
 .rw[ae C];have e:=ab6 p C;by_cases u:(ab ns i).ks=[]
  .rw[ae u,show ∀z:ByteArray,z++A5=z from λz=>ByteArray.append_empty];exact h (.ret0 C (by rw[u];rfl))
  .rw[aa u];have j:=uD M o y (a:=0) (m:=(ab ns i).ks.length) (λl d v=>gD _ 0 e l (by omega) (by omega)) (by omega);rw[ga,cj (af _)]at j;exact h (.ret1 C (List.length_pos_iff.2 u) λs q=>Wr.exs A (by omega) j a5 s q)
 rw[aa C];by_cases G:(ab ns i).k=14
 .rw[ae G];have⟨e,b,d,v⟩:=Jj p G;have⟨a,c⟩:=r 0 (by omega);have⟨ak,g⟩:=r 1 (by omega);have B:=c.lt;have ax:=g.lt;rw[c.id]at b⊢;rw[g.id]at d⊢;exact h (.try_ v G e c.at_ g.at_ (Wr.blk M A ht (by omega) c.len b) (Wr.blk M A ht (by omega) g.len d))
 rw[aa G];by_cases H:(ab ns i).k=15
 .rw[ae H];have⟨e,b⟩:=zB p H;have⟨a,c⟩:=r 0 (by omega);have B:=c.lt;rw[c.id]at b⊢;exact h (.thr H e c.at_ (Wr.expr0 A (by omega) (by omega) b))
 rw[aa H,ae (by omega)];have⟨e,b⟩:=BE p (by omega);have⟨a,c⟩:=r 0 (by omega);have B:=c.lt;rw[c.id]at b⊢;exact h (.dfr (show _=_ by omega) e c.at_ (Wr.expr0 A (by omega) (by omega) (a3 _ b)))
def aiv(M:Mp w0 p1 n c1 ns)(A:OkA w0 p1 n c1 ns f)(k:f<ns.length):OkA w0 p1 n c1 ns (f+1):=
 ⟨λb g=>afD M A k b g,
  λh b c d l m g e a=>by
  simp only[pI]at a⊢;exact aiu M A b h (by omega) (by omega) (by omega) m c d e a,
  λh b o l j g _ _ _ _ _ _ i c d e a=>by
  simp only[sr]at a⊢;exact Fc M A b h (by omega) (by omega) (by omega) j o i c d e a⟩
def okA(M:Mp w0 p1 n c1 ns):∀f,f<=ns.length->OkA w0 p1 n c1 ns f
 |0,_=>OkA.zero w0 p1 n c1 ns
 |f+1,h=>aiv M (okA M f (by omega)) (by omega)
end
open Go.Lib (strCells strCells_length)
def Jz(T:ByteArray):strCells T=B8 (AF T.data.toList):=by
 unfold strCells B8 AF;rw[List.map_map];rfl
def He{base g n a:Nat}(b:w.ownsRow base 5 1 (U (Q ⟨g,0,V⟩) n a) n (strCells T)):
  (convert 22 9 (U (Q ⟨g,0,V⟩) n a)).run B3 w= .ok (B2 T) w:=by
 rw[Jz]at b;rw[qx b,GK]
def sy(ns:List Nd):ByteArray:=if(eG ns).1=0 then abJ ns else⟨#[]⟩
def Ep.below{W:B0}{a:Addr}{n i:Nat}{ns:List Nd}(h:Ep w a ns)(k:dy w (U (Q a) n i) ns)(l:be w W):Ep W a ns:=by
 intro m b c d g f;have⟨p,j,q,o,e⟩:=k.get g;cases j;have:=ag l e.c8;rw[this]at f;obtain rfl:o= U c b.ks.length d:=by simpa using f
 exact h m b c d g e.c8
def JA{ns:List Nd}(h:(eG ns).1=0):0<ns.length/\ns.length<=3000/\(ab ns ((ns.length:Int)-1)).k=1:=by
 have e:=tB h;have:=e.len;unfold eG at h;by_cases b:js ns=O
 .rw[ae b]at h;exact absurd h (by decide)
 .have c:js ns=A0:=by simpa using b
  have d:=mh c;refine⟨by omega,by omega,?_⟩;by_cases a:(ns.getD (ns.length-1) xL).k=1
  .unfold ab;rw[show((ns.length:Int)-1).toNat=ns.length-1 by omega];rw[aD,az (by omega)]at a⊢;exact a
  .exact absurd (.inr (.inr a)) d
def Pr.new(a:B0)(b:A9):Pr a b A5 0 (a.alloc (A2 #[b,U V 0 0,Ax Z 0] 57)):=
 ⟨(ah _ a).alloc (af _) _,U V 0 0,aB a _,fE _ _ _ _⟩
def JB(w:B0)(e:Addr)(n c:Nat)(ns:List Nd)(h:dy w (U (Q e) n c) ns)(cd:Ep w e ns)(au:ns.length=n)(d1:n<=1048576)(cF:∀N∈ns,jE N)(ce:∀N∈ns,ac3 N)(p:(eG ns).1=0->(fa ns).size<=6000000000):
  Calls B3 6 #[.agg #[U (Q e) n c]] w (gy w (B2 (sy ns))):=by
 have b0:=am p;clear p;have bd:∀r,be w (w.alloc r):=λr=>(ah _ w).alloc (af _) r;have l:=Dl h cd ce au;have bs:=λr=>Et (w.alloc r) (U (Q e) n c) ns (h.below (bd r)) (by omega) cF;have⟨a1,bb⟩:=aJ ((eG ns).1);have⟨j,b7⟩:=aJ ((eG ns).2);rw[bb,b7]at bs;have u:=am bb;go_in;go_wp2_with fail;have bA:=aB w (A2 #[U (Q e) n c] 25);have d6:(w.alloc (A2 #[U (Q e) n c] 25)).heap.size=w.heap.size+1:=dm _ _;refine gL (bs _) λw1 F=>?_;have I:=(F.block _ (by omega)).trans bA;have G:be w w1:=(bd _).trans (F.mono (by omega));by_cases E:a1=0
 .subst E;have a5:=eI I;have d3:=ai I;have b3:((0:Int)!=0)=A0:=rfl;have ap:be w1 (w1.alloc (A2 #[Ax Z 0,Ax Z j] 29)):=(ah _ w1).alloc (af _) _;have o:be w (w1.alloc (A2 #[Ax Z 0,Ax Z j] 29)):=G.trans (ap.mono G.size);have ao:(w1.alloc (A2 #[Ax Z 0,Ax Z j] 29)).cell? ⟨w.heap.size,0,V⟩=Q (U (Q e) n c):=ag ap a5;have⟨d9,cz,bt⟩:=JA u.out;have au:=l.2.2.2;obtain⟨b,rfl⟩:∃b,n=b+1:=⟨n-1,by omega⟩;have bc:ab ns ((ns.length:Int)-1)=ab ns (b:Int):=by congr 1;omega
  rw[bc]at bt;have⟨c9,c4,dc,a4,i,a7,ad⟩:=zv l.1 l.2.1 (show b<ns.length by omega);have a8:=(ad.rd _ (o.trans (((ah _ _).alloc (af _) (A2 #[U (Q e) (b+1) c,U V 0 0,Ax Z 0] 57)).mono o.size))).c8;have df:((b:Int)+1)-1=(b:Int):=by omega
  have d4:(0:Int)<=(b:Int):=by omega
  have d5:(b:Int)<(b:Int)+1:=by omega
  have B:Mp (w1.alloc (A2 #[Ax Z 0,Ax Z j] 29)) e (b+1) c ns:=by
   refine⟨l.1.below o,l.2.1.below l.1 o,au,by omega,ab3 u,λbo=>?_,λbo=>?_⟩;all_goals
    unfold ab;rw[aD];cases k:ns[bo.toNat]? with
    |none=>decide
    |some N=>have:=(l.2.2.1 N (cG k)).n;simp only[ie];omega
  have cq:=b0.out u.out;have a3:=Pr.new (w1.alloc (A2 #[Ax Z 0,Ax Z j] 29)) (U (Q e) (b+1) c);have K:=am a3;have a6:((w1.alloc (A2 #[Ax Z 0,Ax Z j] 29)).alloc (A2 #[U (Q e) (b+1) c,U V 0 0,Ax Z 0] 57)).cell? ⟨w.heap.size,0,V⟩=Q (U (Q e) (b+1) c):=ag ((ah _ _).alloc (af _) _) ao;generalize b9:w1.alloc (A2 #[Ax Z 0,Ax Z j] 29)=m at B K a3 a6 ao a8 o ap;have bx:=okA B ns.length (af _);have⟨cu,d2⟩:=jg (B.sz.nb b (by omega));have cc:=tD cu bt;have bj:=ad.hL;have⟨q,x⟩:=aJ ((ab ns (b:Int)).ks);obtain⟨d,ar⟩:∃d,(q.map λa=>pI ns ns.length a 0++(⟨#[10]⟩:ByteArray))=d:=⟨_,rfl⟩;have cp:fa ns=gC d:=by unfold fa;rw[bc,x,ar]
  have cx:∀t∈q,∃f:Nat,t=(f:Int)/\f<ns.length/\eA (ab ns f).k=O:=by
   intro t p;rw[<-x]at p;obtain⟨bp,cf,rfl⟩:=om p;have⟨c0,bl⟩:=iJ (B.sz.nb b (by omega)) (by omega) bp cf;have:=Ey _ 0 cc bp (by omega) (by omega);rw[bl.id]at this⊢;exact⟨c0,rfl,bl.len,this⟩
  have cl:dh m (U a4 i a7) q:=by rw[<-x];exact ad.ks.below o
  have g:Hid (OkA m e (b+1) c ns ns.length/\dh m (U a4 i a7) q/\(∀t∈q,∃f:Nat,t=(f:Int)/\f<ns.length/\eA (ab ns f).k=O)/\q.length=i/\(q.map λa=>pI ns ns.length a 0++(⟨#[10]⟩:ByteArray))=d/\fa ns=gC d/\(fa ns).size<=6000000000/\ns.length<=3000/\d.length=i):=⟨bx,cl,cx,by rw[<-x];exact bj,ar,cp,cq,cz,by rw[<-ar,bC,<-x];exact bj⟩;have dq:i<=200:=by omega
  have J:=am o;subst b9;go_wp2_with fail;have bk:(w1.alloc (A2 #[Ax Z 0,Ax Z j] 29)).heap.size=w1.heap.size+1:=dm _ _;generalize w1.alloc (A2 #[Ax Z 0,Ax Z j] 29)=m at K g J ao a6 a8 bk⊢;have L:=am bk;go_loopw [25] (λa0 wr=>∃a:Nat,a<=i/\a0= Ax Z a/\Hid (Pr m (U (Q e) (b+1) c) (gC (d.take a)) 0 wr)) (λa0 _=>i-(intOf a0).toNat)
  case atStart=>exact⟨0,by omega,rfl,K⟩
  case round=>
   obtain⟨a,ds,rfl,v⟩:=hrel;by_cases cm:a<i
   .obtain⟨t,ax⟩:=cA g.2.2.2.1 cm;obtain⟨f,rfl,cr,ct⟩:=g.2.2.1 t (cG ax);obtain⟨c7,rfl,dd⟩:=(g.2.1.below v.bel).get ax;have d0:(a:Int)<(i:Int):=by omega
    have dx:(0:Int)<=(a:Int):=by omega
    have cw:d[a]?=Q (pI ns ns.length f 0++⟨#[10]⟩):=by rw[<-g.out.2.2.2.2.1,ci,ax];rfl
    have a9:=tC d a _ cw;have ba:=adu d (a+1);have b4:=g.2.2.2.2.2.2.1;rw[g.out.2.2.2.2.2.1]at b4;rw[a9]at ba;simp only[aq]at ba;have p:(gC (d.take a)).size+((pI ns ns.length f 0).size+1)<=6000000000:=by
     have k:(⟨#[10]⟩:ByteArray).size=1:=rfl;omega
    have H:=g.1.s f 0 (gC (d.take a)) wr cr ct (by have:=g.2.2.2.2.2.2.2.1;omega) v (by show _+(pI ns ns.length f 0).size<=_;omega);have a2:=am a9;simp only at H;have⟨c6,ca⟩:=aJ (pI ns ns.length f 0);rw[ca]at H a2 p;rw[L.out]at H;go_wp2_with fail;refine H.mono ?_;rintro k ea ⟨rfl,cB,d7⟩;have bD:=am cB;go_wp2_with fail;have br:=gK m _ _ ⟨#[10]⟩ _ _ bD (by rw[aq];show _+_+1<=_;omega);rw[L.out]at br;refine br.mono ?_;rintro k eb ⟨rfl,bv,d8⟩;rw[aK,<-a2.out]at bv;have bE:=am bv;go_wp2;exact⟨⟨a+1,by omega,by go_num,bE⟩,by simp[intOf];omega⟩
   .obtain rfl:a=i:=by omega
    have b8:d.take a=d:=cj (by rw[g.out.2.2.2.2.2.2.2.2];exact af _);rw[b8,<-g.out.2.2.2.2.2.1]at v;have al:be w wr:=J.out.trans (v.bel.mono J.size);have⟨r,cb,y⟩:=v.row;have z:Hid (sy ns=if 65536<(fa ns).size then A5 else fa ns):=by show _=_;unfold sy abJ;rw[ae u.out]
    have bn:=g.2.2.2.2.2.2.1;have⟨D,b5⟩:=aJ (fa ns);rw[b5]at y z bn;have⟨C,bh⟩:=aJ D.size;rw[bh]at y z bn;obtain⟨b1,b2,rfl⟩:=cg y;have cI:wr.cell? ⟨m.heap.size,1,V⟩=Q (U b1 C b2):=by rw[aj _ _ _ _ _ _ cb];rfl
    rw[L.out]at cI;by_cases bf:65536<C
    .have A:Hid (sy ns=A5):=by show _=_;rw[z.out,ae bf]
     have F:(65536:Int)<(C:Int):=by omega
     go_wp2;go_ret;exact⟨by rw[A.out];rfl,al⟩
    .have A:Hid (sy ns=D):=by show _=_;rw[z.out,aa bf]
     have F:¬(65536:Int)<(C:Int):=by omega
     rcases bJ y with⟨E,k⟩|⟨dg,da,k⟩
     .cases k;have b6:D=⟨#[]⟩:=by
       apply kI;have:D.data.size=0:=bh;exact Array.eq_empty_of_size_eq_zero this
      have cy:(convert 22 9 (U V 0 0)).run B3 wr= .ok (B2 ⟨#[]⟩) wr:=by kernel_rfl
      go_wp2;go_ret;exact⟨by rw[A.out,b6];rfl,al⟩
     .cases k;have cy:=He y;go_wp2;go_ret;exact⟨by rw[A.out];rfl,al⟩
 .have b3:(a1 !=0)=O:=by rw[CK];exact E
  have a5:=eI I;have bF:Hid (sy ns=⟨#[]⟩):=by show _=_;unfold sy;rw[aa (by rw[u.out];exact E)]
  go_wp2;go_ret;exact⟨by rw[bF.out];rfl,G.trans (((ah _ w1).alloc (af _) _).mono G.size)⟩
end Go.Proofs.YthboboahkkhopaaGreatDoor
namespace Go.Proofs.YthboboahkkhopaaGreatDoor
open Go.RowKit Go.Maps Go.WideMaps
variable{K:Int->Prop}{T t:ByteArray}{a b i j r tab:Nat}{c:Cr}{d g k m n s z:Int}{f:FuncId}{kf ks:List Int}{l:List Wt}{w:World}
def aea:∀(ts:List Tk)(b i:Nat)(T:Tk),ts[b]?=Q T->i<6->(Ip ts)[b*6+i]?=(cTk T)[i]?
 |[],b,i,T,h,c=>by simp at h
 |a::r,0,i,T,h,c=>by
  simp at h;subst h;show(cTk a++Ip r)[0*6+i]?=_;rw[gq (by show 0*6+i<6;omega),Nat.zero_mul,gu]
 |a::r,b+1,i,T,h,c=>by
  show(cTk a++Ip r)[(b+1)*6+i]?=_;rw[dE (by show 6<=_;omega),show(b+1)*6+i-(cTk a).length=b*6+i by show _-6=_;omega];exact aea r b i T (by simpa using h) c
def ao1{d:Array A9}{ts:List Tk}{tk:Nat->Tk}{n:Nat}(h:d.toList.take (n*6)=Ip ts)(m:ts.length=n)(i:∀a T,ts[a]?=Q T->{T with l:=(tk a).l}=tk a/\((tk a).k≠6->T.l=(tk a).l)):TkR d tk n:=by
 intro a o;have e:=az (show a<ts.length by omega);obtain⟨f,g⟩:=i a _ e;generalize ts[a]=T at e f g;have b:∀c,c<6->d[a*6+c]?=(cTk T)[c]?:=λc j=>by rw[<-aea ts a c T e j,<-h,lp,ae (by omega),yv]
 refine⟨T.l,?_,?_,?_,b 3 (by omega),?_,?_,g⟩;all_goals rw[<-f]
 .exact b 0 (by omega)
 .exact b 1 (by omega)
 .exact b 2 (by omega)
 .exact b 4 (by omega)
 .exact b 5 (by omega)
def afE(s:ByteArray):List Tk×Int:=if 0<=(rD s).2.2 then([],(rD s).2.2) else if(dz (rD s).2.1 6).2=O then((rD s).1, -1) else([],(s.size:Nat))
def asH{a b c:A9}{t:TypeId}(h:w.heap[r]?=Q (A2 #[a,b,c] t (0,0))):w.cell? ⟨r,0,V⟩=Q a/\w.cell? ⟨r,1,V⟩=Q b/\w.cell? ⟨r,2,V⟩=Q c/\∀j,w.frozen? ⟨r,j,V⟩=A0:=
 ⟨by rw[aj _ _ _ _ _ _ h];rfl,by rw[aj _ _ _ _ _ _ h];rfl,by rw[aj _ _ _ _ _ _ h];rfl,λj=>cC _ _ _ _ _ h⟩
def set3{d e f:A9}{t:TypeId}(h:w.heap[r]?=Q (A2 #[d,e,f] t (0,0)))(a b c:A9):(((w.setCell ⟨r,0,V⟩ a).setCell ⟨r,1,V⟩ b).setCell ⟨r,2,V⟩ c).heap[r]?=Q (A2 #[a,b,c] t (0,0)):=
 bg _ r 2 _ _ _ (bg _ r 1 _ _ _ (bg _ r 0 _ _ _ h))
def aqF{k:Nat}(h:k≠r)(a b c:A9):(((w.setCell ⟨r,0,V⟩ a).setCell ⟨r,1,V⟩ b).setCell ⟨r,2,V⟩ c).heap[k]?=w.heap[k]?:=
 (aC _ _ _ _ h).trans ((aC _ _ _ _ h).trans (aC _ _ _ _ h))
def aqG{a:B0}(h:Below r a w)(b c f:A9):Below r a (((w.setCell ⟨r,0,V⟩ b).setCell ⟨r,1,V⟩ c).setCell ⟨r,2,V⟩ f):=by
 have d:Below r a (w.setCell ⟨r,0,V⟩ b):=h.setCell (af _) _;have e:Below r a ((w.setCell ⟨r,0,V⟩ b).setCell ⟨r,1,V⟩ c):=d.setCell (af _) _;exact e.setCell (af _) _
def Acc(s:ByteArray):Prop:=(rD s).2.2= -1/\(dz (rD s).2.1 6).2=O
def afF(s:ByteArray)(ns:List Nd):Prop:=∃b m a c,s.size<=65536/\Acc s/\afE s=(b, -1)/\PF s b m a c/\eG (nsF s a)=(0,0)/\ns=nsF s a
def psV(c a:Int)(v:A9):A9:= .agg #[Ax Z c,Ax Z a,v]
def Nl(w:B0)(v:A9)(ns:List Nd):Prop:=∃L lo,L.map Mb.N=ns/\Lw w lo v L
def Nl.nds{v:A9}{ns:List Nd}(h:Nl w v ns):dy w v ns:=by
 obtain⟨b,c,rfl,a⟩:=h;exact a.nds
def PsP(w:B0)(c a:Int)(ns:List Nd)(e:Ending)(w':B0):Prop:=∃v,e= .returned (psV c a v)/\Nl w' v ns/\be w w'
open Go.Lib (strCells strCells_length)
structure TkO (n:Nat) (ts:List Tk):Prop where
 each:∀T∈ts,0<=T.f/\T.f<=T.t/\T.t<=(n:Int)/\0<=T.l
 next:ts.Pairwise λa b=>a.t<=b.f
def aeb(s:ByteArray):∀(f:Nat)(st:List Int)(p:Nat)(l:Int)(b:List Tk),p<=s.size->TkO s.size b->(∀T∈b,T.t<=(p:Int))->0<=l->TkO s.size (xG s f st p l b).1
 |0,st,p,l,b,_,_,_,_=>⟨λT hT=>(by cases hT),.nil⟩
 |f+1,st,p,l,b,H,j,k,h=>by
  have i:∀(d:Tk)(a c:Nat),d.f=(p:Int)->d.t=(a:Int)->p<=a->a<=s.size->a<=c->0<=d.l->TkO s.size (b++[d])/\∀T∈b++[d],T.t<=(c:Int):=λd a c o q C E F G=>by
   refine⟨⟨λT hT=>?_,List.pairwise_append.2 ⟨j.next,List.pairwise_singleton _ _,λu w B e=>?_⟩⟩,λT hT=>?_⟩
   .rcases List.mem_append.1 hT with hT|hT
    .exact j.each T hT
    .rw[List.mem_singleton.1 hT,o,q];omega
   .rw[List.mem_singleton.1 e,o];exact k u w
   .rcases List.mem_append.1 hT with hT|hT
    .have:=k T hT;omega
    .rw[List.mem_singleton.1 hT,q];omega
  have A:∀c,p<=c->∀T∈b,T.t<=(c:Int):=λc r T hT=>by have:=k T hT;omega
  have e:∀a,a<=s.size->a<=blk s (s.size+1) a/\blk s (s.size+1) a<=s.size:=λa z=>yl s (s.size+1) a z;rw[xG];split
  .rename_i r;exact(i ⟨6,(s.size:Nat),(s.size:Nat),l,0,⟨#[]⟩⟩ s.size s.size (by show((s.size:Nat):Int)=_;omega) rfl (by omega) (by omega) (by omega) h).1
  .rename_i r;split
   .rename_i v;have m:=uw s p (by omega) (aoH s p v).1;have g:=e _ m.2.1;split
    .have:=i ⟨5,(p:Nat),((du s p).a:Nat),l,(du s p).n,(du s p).x⟩ (du s p).a (blk s (s.size+1) (du s p).a) rfl rfl (by omega) (by omega) (by omega) h;exact aeb s f _ _ _ _ g.2 this.1 this.2 (by omega)
    .exact aeb s f _ _ _ _ g.2 j (A _ (by omega)) (by omega)
   .split
    .split
     .rename_i y;have m:=uw s p (by omega) y;have g:=e _ m.2.1;have:=i ⟨zH s p,(p:Nat),((du s p).a:Nat),l,(du s p).n,(du s p).x⟩ (du s p).a (blk s (s.size+1) (du s p).a) rfl rfl (by omega) (by omega) (by omega) h;exact aeb s f _ _ _ _ g.2 this.1 this.2 h
     .exact⟨λT hT=>(by cases hT),.nil⟩
    .exact⟨λT hT=>(by cases hT),.nil⟩
def aqH(s:ByteArray):TkO s.size (afE s).1:=by
 have b:TkO s.size []:=⟨λc a=>(by cases a),.nil⟩;unfold afE;split
 .exact b
 split
 .exact aeb s _ _ _ _ _ (yl s (s.size+1) 0 (aH _)).2 b (λc a=>(by cases a)) (by decide)
 .exact b
end Go.Proofs.YthboboahkkhopaaGreatDoor
namespace Go.Proofs.YthboboahkkhopaaGreatDoor
open Go.RowKit Go.Maps Go.WideMaps
variable{K:Int->Prop}{T t:ByteArray}{a b i j r tab:Nat}{c:Cr}{d g k m n s z:Int}{f:FuncId}{kf ks:List Int}{l:List Wt}{w:World}
def Nd.bk(N:Nd):Nd:={N.bare with ks:=N.ks}
def Di:∀(F:Fo),F.bare.sz=F.sz
 | .nil=>rfl
 | .cons N k r=>by rw[Fo.bare,Fo.sz,Fo.sz,Di k,Di r]
def Hf:∀(F:Fo)(b:Nat),F.bare.tops b=F.tops b
 | .nil,b=>rfl
 | .cons N k r,b=>by rw[Fo.bare,Fo.tops,Fo.tops,Di k,Hf r]
def Bf:∀(F:Fo)(b:Nat),F.bare.flat b=(F.flat b).map Nd.bk
 | .nil,b=>rfl
 | .cons N k r,b=>by
  rw[Fo.bare,Fo.flat,Fo.flat,Di,Hf,Bf k,Bf r,eK,dv];rfl
def sl(ns:List Nd)(a b:Nat):List Nd:=(ns.take b).drop a
def aiw(ns:List Nd){c:Nat}(f:a<=b)(e:b<=c)(g:c<=ns.length):sl ns a b++sl ns b c=sl ns a c:=by
 unfold sl;have d:ns.take c=ns.take b++(ns.take c).drop b:=by
  have:=ud b (ns.take c);rw[List.take_take,ui e]at this;exact this.symm
 conv=>rhs;rw[d]
 rw[List.drop_append_of_le_length (by rw[eE];omega)]
def ao2{ns:List Nd}(h:i<ns.length):sl ns i (i+1)=[ab ns i]:=by
 unfold sl ab;rw[jc,az h,List.drop_append_of_le_length (by rw[eE];omega),ma (by rw[eE];omega),ix,List.getD,az h];rfl
structure Szk (ns:List Nd):Prop where
 at_:∀i:Nat,i<ns.length->∃a:Nat,a<=i/\qF (jj ns) (ab ns i).ks.reverse i=Q (a:Int)/\(jj ns).getD i 0=(i:Int)-a+1
 root:(jj ns).getD (ns.length-1) 0=(ns.length:Int)
def ao3{ns:List Nd}(h:(eG ns).1=0):Szk ns:=by
 have j:=tB h;have u:F6 (jj ns):=AJ ns λc b g f=>by
  have⟨a,i,r⟩:=iw b;exact(j.kid a c (by rw[az i,r]) g f).1
 unfold eG at h;by_cases m:js ns=O
 .rw[ae m]at h;exact absurd h (by decide)
 rw[aa m]at h;have⟨n,s⟩:=aJ (li (gF ns) ns.length 0);rw[s]at h;cases n with
 |some a=>rw[tf2]at h;exact absurd h (by simp)
 |none=>
  rw[tf2]at h;have⟨o,l⟩:=aJ (li (jt (jj ns)) ns.length 0);rw[l]at h;cases o with
  |some a=>rw[tf3]at h;exact absurd h (by simp)
  |none=>
   have t:=oh l;rw[tf3]at h;refine⟨λa i=>?_,?_⟩
   .have b:ns[a]?=Q (ab ns a):=by
     unfold ab;rw[ix,List.getD,az i];rfl
    generalize ab ns a=c at b;have e:=t a (aH _) (by omega);unfold jt at e;have d:=ab2 b;rw[d]at e;unfold oy at e d;cases hw:qF ((jj ns).take a) c.ks.reverse a with
    |none=>rw[hw]at e;simp at e
    |some v=>
     rw[hw]at d;simp only at d;rw[ED (jj ns) a _ _ (λg f=>j.kid a c b g (by simpa using f))]at hw;have q:=abH u _ _ _ (λg f=>(j.kid a c b g (by simpa using f)).1) (by omega) hw;obtain⟨p,rfl⟩:=lr q.1;exact⟨p,by omega,hw,d⟩
   .by_cases k:(jj ns).getD (ns.length-1) 0=(ns.length:Int)
    .exact k
    .rw[ae k]at h;exact absurd h (by simp)
def alu{ns:List Nd}(d:Jl ns)(k:Szk ns):∀i:Nat,i<ns.length->∃a:Nat,a<=i/\(jj ns).getD i 0=(i:Int)-a+1/\(Sh ns i).sz=i+1-a/\(Sh ns i).flat a=(sl ns a (i+1)).map Nd.bk/\(Sh ns i).tops a=[(i:Int)]:=by
 intro i
 induction i using Nat.strongRecOn with
 |_ i C=>
  intro g;have⟨a,n,c,y⟩:=k.at_ i g;have H:∀(e:List Int)(b:Nat)(a:Nat),b<=i->(∀h∈e,h∈(ab ns i).ks)->qF (jj ns) e.reverse b=Q (a:Int)->a<=b/\(pj (Sh ns) e).sz=b-a/\(pj (Sh ns) e).flat a=(sl ns a b).map Nd.bk/\(pj (Sh ns) e).tops a=e:=by
   intro e
   induction e using zr with
   |h0=>
    intro b a A _ c;have x:b=a:=by simp[qF]at c;omega
    subst x;refine⟨af _,by simp[pj,Fo.sz],?_,rfl⟩;unfold sl;rw[ma (by rw[eE];omega)];rfl
   |h1 ak h E=>
    intro b a A l c;rw[List.reverse_append,List.reverse_cons,List.reverse_nil,dI,ue,qF]at c;by_cases o:h=(b:Int)-1/\(jj ns).getD h.toNat 0≠0
    .rw[ae o]at c;obtain⟨j,rfl,J,K,_⟩:=pm d g (l h (by simp));have⟨f,L,q,r,s,t⟩:=C j J K;rw[show((j:Int)).toNat=j by omega,q,show(b:Int)-((j:Int)-f+1)=(f:Int) by omega]at c;have⟨u,m,v,w⟩:=E f a (by omega) (λI B=>l I (by simp[B])) c;have z:b=j+1:=by omega
     subst z;rw[Jn,lA];refine⟨by omega,by rw[Fo.sz_app,m,r];omega,?_,?_⟩
     .rw[Fo.flat_app,m,v,show a+(f-a)=f by omega,s,<-eK,aiw ns u (by omega) (by omega)]
     .rw[Fo.tops_app,m,w,show a+(f-a)=f by omega,t]
    .rw[aa o]at c;cases c
  obtain⟨ad,p,F,G⟩:=H _ i a (af _) (λh l=>l) c;refine⟨a,n,y,?_,?_,?_⟩
  .rw[rB d g,dL,p];omega
  .rw[rB d g,DC,F,G,<-aiw ns n (Nat.le_succ i) (by omega),ao2 g,eK];rfl
  .rw[rB d g,agB,p,show a+(i-a)=i by omega]
def alv{ns:List Nd}(h:(eG ns).1=0):(Sh ns ((ns.length-1:Nat):Int)).flat 0=ns.map Nd.bk:=by
 have a:=A8 h;have b:=ao3 h;have i:=a.len;have⟨c,g,d,_,e,_⟩:=alu a b (ns.length-1) (by omega);have f:=b.root;rw[d]at f;obtain rfl:c=0:=by omega
 rw[e];unfold sl;rw[ga,cj (by omega)]
section
variable {ns ms : List Nd} {M N : Nd}
def Fe(h:M.bk=N.bk):M.k=N.k/\M.op=N.op/\M.n=N.n/\M.x=N.x/\M.nm=N.nm/\M.ks=N.ks:=by
 have a:=congrArg Nd.k h;have b:=congrArg Nd.op h;have c:=congrArg Nd.n h;have d:=congrArg Nd.x h;have e:=congrArg Nd.nm h;have f:=congrArg Nd.ks h;exact⟨a,b,c,d,e,f⟩
def JC(h:ms.map Nd.bk=ns.map Nd.bk)(i:Nat):(ms.getD i xL).bk=(ns.getD i xL).bk:=by
 have a:=congrArg (λb=>b[i]?) h;simp only[ci]at a;rw[aD,aD];cases h1:ms[i]?<;>cases h2:ns[i]?<;>rw[h1,h2]at a<;>simp_all
def Ff(h:ms.map Nd.bk=ns.map Nd.bk)(e:M.bk=N.bk)(j:Nat):dK ms M j=dK ns N j:=by
 unfold dK;rw[(Fe e).2.2.2.2.2];exact(Fe (JC h _)).1
def amL(h:ms.map Nd.bk=ns.map Nd.bk)(e:M.bk=N.bk):∀f j,jF ms M f j=jF ns N f j
 |0,j=>rfl
 |f+1,j=>by rw[jF,jF,Ff h e,amL h e f]
def am0(h:ms.map Nd.bk=ns.map Nd.bk)(e:M.bk=N.bk):∀f j,Ei ms M f j=Ei ns N f j
 |0,j=>rfl
 |f+1,j=>by rw[Ei,Ei,Ff h e,am0 h e f]
def am1(h:ms.map Nd.bk=ns.map Nd.bk)(e:M.bk=N.bk):∀f j,BD ms M f j=BD ns N f j
 |0,j=>rfl
 |f+1,j=>by rw[BD,BD,Ff h e,am1 h e f]
def am2(h:ms.map Nd.bk=ns.map Nd.bk)(e:M.bk=N.bk):∀f j,Eh ms M f j=Eh ns N f j
 |0,j=>rfl
 |f+1,j=>by rw[Eh,Eh,Ff h e,am2 h e f]
def aqI(h:ms.map Nd.bk=ns.map Nd.bk)(e:M.bk=N.bk):lg ms M=lg ns N:=by
 have⟨a,b,c,d,f,g⟩:=Fe e;unfold lg stB gh aL fj;simp only[Ff h e,amL h e,am0 h e,am1 h e,am2 h e,a,b,c,d,f,g]
def ao4:∀(ns ms:List Nd),ms.map Nd.bk=ns.map Nd.bk->jj ms=jj ns:=by
 have g:∀(ns ms:List Nd)(a:List Int),ms.map Nd.bk=ns.map Nd.bk->ms.foldl (λa c=>a++[oy a a.length c.ks]) a=ns.foldl (λa c=>a++[oy a a.length c.ks]) a:=by
  intro ns
  induction ns with
  |nil=>intro ms a b;cases ms with
   |nil=>rfl
   |cons _ _=>simp at b
  |cons c ns f=>
   intro ms a b;cases ms with
   |nil=>simp at b
   |cons h ms=>
    have⟨d,e⟩:=mK b;rw[jd,jd,(Fe d).2.2.2.2.2];exact f ms _ e
 exact λns ms b=>g ns ms [] b
def ao5(h:ms.map Nd.bk=ns.map Nd.bk):F7 ms=F7 ns:=by
 have b:ms.length=ns.length:=by simpa using congrArg List.length h
 unfold F7;rw[b];generalize B4 ns.length (0:Int)=D;generalize ns.length=a
 induction a generalizing D with
 |zero=>rfl
 |succ a c=>rw[dpN,dpN,(Fe (JC h a)).2.2.2.2.2];exact c _
def zJ{p:Nat->Bool}:∀{f j:Nat},(∀k,j<=k->k<j+f->p k=A0)->li p f j=V
 |0,j,_=>rfl
 |f+1,j,h=>by
  rw[li,aa (by rw[h j (af _) (by omega)];simp)];exact zJ λk a b=>h k (by omega) (by omega)
def alw(h:ms.map Nd.bk=ns.map Nd.bk)(a:(eG ns).1=0)(p:∀N∈ms,0<=N.f/\N.f<=N.t/\0<=N.l):eG ms=(0,0):=by
 have j:ms.length=ns.length:=by simpa using congrArg List.length h
 have k:=A8 a;have u:li (gF ms) ms.length 0=V:=zJ λc _ i=>by
  have i:c<ms.length:=by omega
  have b:=k.nb c (by omega);have e:=JC h c;have n:ab ns c=ns.getD c xL:=by unfold ab;rw[ix,aD,aD,az (by omega)];rfl
  rw[n]at b;have s:ms.getD c xL∈ms:=by rw[aD,az i];exact iB _
  have d:=p _ s;unfold gF;unfold lh at b⊢;rw[ch,ch]at b;have q:=aG b.1;have g:=(Fe e).2.2.2.2.2;have m:aak (ms.getD c xL)=O:=aI ⟨d.1,d.2.1,d.2.2,by rw[g];exact q.2.2.2⟩;rw[m,g,b.2.1,aqI h e,b.2.2];rfl
 have r:js ms=js ns:=by
  unfold js;rw[j,(Fe (JC h _)).1]
 unfold eG at a⊢;rw[r,u,ao4 ns ms h,ao5 h,j];by_cases b:js ns=O
 .rw[ae b]at a;exact absurd a (by decide)
 rw[aa b]at a⊢;cases hR:li (gF ns) ns.length 0 with
 |some c=>rw[hR,tf2]at a;exact absurd a (by simp)
 |none=>
  rw[hR]at a;rw[tf2]at a⊢;cases hR2:li (jt (jj ns)) ns.length 0 with
  |some c=>rw[hR2,tf3]at a;exact absurd a (by simp)
  |none=>
   rw[hR2]at a;rw[tf3]at a⊢;split at a
   .exact absurd a (by simp)
   .rename_i o;rw[aa o];have:=aao a;rw[this];rfl
end
def Fo.szl:Fo->List Int
 | .nil=>[]
 | .cons _ k r=>k.szl++(((k.sz+1:Nat):Int)::r.szl)
def Fo.dpl:Fo->Int->List Int
 | .nil,_=>[]
 | .cons _ k r,d=>k.dpl (d+1)++(d::r.dpl d)
def Fo.dep:Fo->Nat
 | .nil=>0
 | .cons _ k r=>max (k.dep+1) r.dep
def uE:∀F:Fo,F.szl.length=F.sz
 | .nil=>rfl
 | .cons N k r=>by rw[Fo.szl,bm,bB,uE k,uE r,Fo.sz];omega
def rG:∀(F:Fo)(d:Int),(F.dpl d).length=F.sz
 | .nil,_=>rfl
 | .cons N k r,d=>by rw[Fo.dpl,bm,bB,rG k,rG r,Fo.sz];omega
def JD:∀(F:Fo),∀z∈F.szl,z≠0
 | .nil=>λz a=>by cases a
 | .cons N k r=>λz a=>by
  rcases List.mem_append.1 a with h|h
  .exact JD k z h
  .rcases List.mem_cons.1 h with rfl|h
   .omega
   .exact JD r z h
def acf:∀(F:Fo)(d:Int),∀z∈F.dpl d,z<d+F.dep
 | .nil,d=>λz a=>by cases a
 | .cons N k r,d=>λz a=>by
  rw[Fo.dep];rcases List.mem_append.1 a with h|h
  .have:=acf k (d+1) z h;omega
  .rcases List.mem_cons.1 h with rfl|h
   .omega
   .have:=acf r d z h;omega
def aix(S:List Int):∀(x y:List Int)(a:Int),qF S (x++y) a=(qF S x a).bind (qF S y)
 |[],y,a=>rfl
 |k::x,y,a=>by
  rw[ed,qF,qF];split
  .exact aix S x y _
  .rfl
def Fg{α:Type}{S L A B:List α}{x:α}(c:L=A++x::B)(h:∀j,j<L.length->S[b+j]?=L[j]?):(∀j,j<A.length->S[b+j]?=A[j]?)/\S[b+A.length]?=Q x/\∀j,j<B.length->S[b+A.length+1+j]?=B[j]?:=by
 subst c;refine⟨λj a=>?_,?_,λj a=>?_⟩
 .rw[h j (by simp;omega),gq a]
 .rw[h A.length (by simp),dE (af _),fH];rfl
 .rw[show b+A.length+1+j=b+(A.length+1+j) by omega,h _ (by simp;omega),dE (by omega),show A.length+1+j-A.length=j+1 by omega];rfl
def aec:∀(F:Fo)(S:List Int)(b:Nat),(∀j,j<F.szl.length->S[b+j]?=F.szl[j]?)->qF S (F.tops b).reverse ((b+F.sz:Nat):Int)=Q (b:Int)
 | .nil,S,b,h=>by simp[Fo.tops,Fo.sz,qF]
 | .cons N k r,S,b,h=>by
  obtain⟨e,c,d⟩:=Fg (A:=k.szl) (B:=r.szl) rfl h;rw[uE k]at c d;rw[Fo.tops,List.reverse_cons,aix,Fo.sz,show b+(k.sz+1+r.sz)=b+k.sz+1+r.sz by omega,aec r S (b+k.sz+1) d];show qF S [((b+k.sz:Nat):Int)] _=_;have a:S.getD ((b+k.sz:Nat):Int).toNat 0=((k.sz+1:Nat):Int):=by rw[ix,aD,c];rfl
  rw[qF,ae ⟨by omega,by rw[a];omega⟩,qF,a]
  congr 1
  omega
def Fh:∀(F:Fo)(S:List Int),(F.flat S.length).foldl (λS N=>S++[oy S S.length N.ks]) S=S++F.szl
 | .nil,S=>by simp[Fo.flat,Fo.szl]
 | .cons N k r,S=>by
  rw[Fo.flat,List.foldl_append,Fh k S,jd];have a:(S++k.szl).length=S.length+k.sz:=by rw[bm,uE]
  have c:oy (S++k.szl) (S++k.szl).length (k.tops S.length)=((k.sz+1:Nat):Int):=by
   unfold oy;rw[a,aec k _ S.length λb d=>by rw[dE (by omega),show S.length+b-S.length=b by omega]];simp only;omega
  show List.foldl _ (S++k.szl++[oy (S++k.szl) (S++k.szl).length (k.tops S.length)]) _=_;rw[c];have:=Fh r (S++k.szl++[((k.sz+1:Nat):Int)]);rw[show(S++k.szl++[((k.sz+1:Nat):Int)]).length=S.length+k.sz+1 by rw[bm,a];rfl]at this;rw[this,Fo.szl];simp only[dj,ue]
def aed(i:Nat):∀(ks D:List Int),(Er i ks D).length=D.length
 |[],D=>rfl
 |k::r,D=>by rw[Er,aed i r];simp
def aiy(i:Nat):∀(ks D:List Int)(d:Int),D[i]?=Q d->(∀k∈ks,k.toNat≠i/\k.toNat<D.length)->(∀j,(∀k∈ks,k.toNat≠j)->(Er i ks D)[j]?=D[j]?)/\∀k∈ks,(Er i ks D)[k.toNat]?=Q (d+1)
 |[],D,d,_,_=>⟨λ_ _=>rfl,λk c=>by cases c⟩
 |k::r,D,d,m,h=>by
  have c:=h k bq;have o:D.getD i 0=d:=by rw[aD,m];rfl
  rw[Er,o];obtain⟨l,p⟩:=aiy i r (D.set k.toNat (d+1)) d (by rw[jK c.1];exact m) λa hz=>by have:=h a (dr _ hz);exact⟨this.1,by simpa using this.2⟩
  refine⟨λj n=>?_,λa hz=>?_⟩
  .rw[l j λa hz=>n a (dr _ hz),jK (n k bq)]
  .by_cases g:∃b∈r,b.toNat=a.toNat
   .obtain⟨b,f,e⟩:=g;rw[<-e];exact p b f
   .rw[l a.toNat λb f e=>g ⟨b,f,e⟩];rcases List.mem_cons.1 hz with rfl|hz
    .rw[List.getElem?_set_self c.2]
    .exact absurd ⟨a,hz,rfl⟩ g
def xi:∀(F:Fo)(b:Nat),∀t∈F.tops b,b<=t.toNat/\t.toNat<b+F.sz
 | .nil,b=>λt ht=>by cases ht
 | .cons N k r,b=>λt ht=>by
  rw[Fo.sz];rcases List.mem_cons.1 ht with rfl|ht
  .rw[ix];omega
  .have:=xi r _ t ht;omega
def JE:∀(F:Fo)(ns:List Nd)(b:Nat)(D:List Int)(d:Int),(∀j,j<(F.flat b).length->ns[b+j]?=(F.flat b)[j]?)->b+F.sz<=D.length->(∀t∈F.tops b,D[t.toNat]?=Q d)->
  ∃E,dpN ns (b+F.sz) D=dpN ns b E/\E.length=D.length/\(∀j,j<b\/b+F.sz<=j->E[j]?=D[j]?)/\∀j,j<F.sz->E[b+j]?=(F.dpl d)[j]?
 | .nil,ns,b,D,d,_,_,_=>⟨D,rfl,rfl,λ_ _=>rfl,λj hj=>by rw[Fo.sz]at hj;omega⟩
 | .cons N k r,ns,b,D,d,h,x,ht=>by
  obtain⟨w,i,l⟩:=Fg (A:=k.flat b) (B:=r.flat (b+k.sz+1)) rfl h;rw[k.flat_len]at i l;rw[Fo.sz]at x⊢;obtain⟨a,o,y,c,p⟩:=JE r ns (b+k.sz+1) D d l (by omega) λt q=>ht t (dr _ q);have m:a[b+k.sz]?=Q d:=by rw[c _ (by omega)];have:=ht _ bq;rwa [ix]at this
  obtain⟨g,v⟩:=aiy (b+k.sz) (k.tops b) a d m λt q=>by have:=xi k b t q;omega
  have C:=aed (b+k.sz) (k.tops b) a;have⟨n,s,z,e,u⟩:=JE k ns b (Er (b+k.sz) (k.tops b) a) (d+1) w (by omega) v;have f:∀j,b+k.sz<=j->(Er (b+k.sz) (k.tops b) a)[j]?=a[j]?:=λj hj=>g j λt q=>by have:=xi k b t q;omega
  refine⟨n,?_,by omega,λj hj=>?_,λj hj=>?_⟩
  .rw[show b+(k.sz+1+r.sz)=b+k.sz+1+r.sz by omega,o,dpN,aD,i];exact s
  .rw[e j (by omega)];rcases hj with hj|hj
   .rw[g j λt q=>by have:=xi k b t q;omega,c j (by omega)]
   .rw[f j (by omega),c j (by omega)]
  .rw[Fo.dpl];rcases Nat.lt_trichotomy j k.sz with q|q|q
   .rw[u j q,gq (by rw[rG];exact q)]
   .subst q;rw[e _ (by omega),f _ (af _),m,dE (by rw[rG];omega),rG,fH];rfl
   .rw[e _ (by omega),f _ (by omega),show b+j=b+k.sz+1+(j-k.sz-1) by omega,p _ (by omega),dE (by rw[rG];omega),rG,show j-k.sz=j-k.sz-1+1 by omega];rfl
def aiz{N:Nd}{X:Fo}(t:N.k=1)(u:X.sz+1<=3000)(s:X.dep<=100)(g:∀i,i<X.sz+1->gF ((one N X).flat 0) i=A0):eG ((one N X).flat 0)=(0,0):=by
 obtain⟨a,c⟩:∃a,(one N X).flat 0=a:=⟨_,rfl⟩;have d:a.length=X.sz+1:=by rw[<-c,Fo.flat_len,dL]
 have l:jj a=(one N X).szl:=by
  have:=Fh (one N X) [];rw[fs,c,dI]at this;exact this
 obtain⟨h,e,r,_,j⟩:=JE (one N X) a 0 (B4 a.length 0) 0 (λw _=>by rw[c,gu]) (by rw[dL,List.length_replicate];omega) λq p=>by
  have:=xi _ _ q p;rw[dL]at this;rw[CC,ae (by omega)]
 have m:F7 a=h:=by
  unfold F7;rw[dL,gu,<-d]at e;rw[e];rfl
 have v:(one N X).szl.length=X.sz+1:=by rw[uE,dL]
 rw[c]at g⊢;have o:a[X.sz]?=Q {N with ks:=X.tops 0}:=by rw[<-c,DC,dE (by rw[Fo.flat_len];omega),Fo.flat_len,fH];rfl
 unfold eG;rw[aa (by
  unfold js;rw[d,aD,re,o];simp only[ie,decide_eq_true_eq];omega),zJ λk _ f=>g k (by omega),tf2,l,zJ λk _ f=>by
   have b:k<(one N X).szl.length:=by omega
   unfold jt;rw[aD,az b];exact beq_eq_false_iff_ne.2 (JD _ _ (iB b)),tf3,aa,m,zJ λk _ f=>?_]
 .rfl
 .have b:k<((one N X).dpl 0).length:=by rw[rG,dL];omega
  unfold ku;have:=j k (by rw[dL];omega);rw[gu]at this;rw[aD,this,az b];have:=acf _ _ _ (iB b);have n:(one N X).dep=X.dep+1:=by simp[one,Fo.dep]
  rw[n]at this;simp only[ie];exact aE (by omega)
 .rw[d,re];have:(one N X).szl[X.sz]?=Q ((X.sz+1:Nat):Int):=by
   show(X.szl++_)[X.sz]?=_;rw[dE (by rw[uE];omega),uE,fH];rfl
  rw[aD,this];simp
section
variable {ns ms : List Nd} {M N : Nd}
def aiA(a:∀j,j<N.ks.length->dK ms M j=dK ns N j):∀f j,j+f<=N.ks.length->jF ms M f j=jF ns N f j
 |0,j,_=>rfl
 |f+1,j,h=>by rw[jF,jF,a j (by omega),aiA a f _ (by omega)]
def aiB(a:∀j,j<N.ks.length->dK ms M j=dK ns N j):∀f j,j+f<=N.ks.length->Ei ms M f j=Ei ns N f j
 |0,j,_=>rfl
 |f+1,j,h=>by rw[Ei,Ei,a j (by omega),aiB a f _ (by omega)]
def aiC(a:∀j,j<N.ks.length->dK ms M j=dK ns N j):∀f j,j+f<=N.ks.length->BD ms M f j=BD ns N f j
 |0,j,_=>rfl
 |f+1,j,h=>by rw[BD,BD,a j (by omega),aiC a f _ (by omega)]
def aiD(a:∀j,j<N.ks.length->dK ms M j=dK ns N j):∀f j,j+f<=N.ks.length->Eh ms M f j=Eh ns N f j
 |0,j,_=>rfl
 |f+1,j,h=>by rw[Eh,Eh,a j (by omega),aiD a f _ (by omega)]
def aiE(e:M.bare=N.bare)(t:M.ks.length=N.ks.length)(a:∀j,j<N.ks.length->dK ms M j=dK ns N j)(h:lg ns N=O):lg ms M=O:=by
 have r:M.k=N.k:=by have:=congrArg Nd.k e;exact this
 have i:M.op=N.op:=by have:=congrArg Nd.op e;exact this
 have l:M.n=N.n:=by have:=congrArg Nd.n e;exact this
 have m:M.x=N.x:=by have:=congrArg Nd.x e;exact this
 have n:M.nm=N.nm:=by have:=congrArg Nd.nm e;exact this
 have p:=aev a (aiA a) (aiB a) (aiC a) (aiD a);have s:∀b c d f,aL M b c d f=aL N b c d f:=λb c d f=>by unfold aL;rw[i,l,m,n]
 have u:∀b c,fj M b c=fj N b c:=λb c=>by unfold fj;rw[n]
 unfold lg stB gh at h⊢;rw[r,t,i,l,m];have⟨a,o,w,x,v⟩:=p.out;by_cases hS:eA N.k=O
 case' pos=>
  rw[ae hS]at h⊢;have z:=aG hS;rcases(show N.k=1\/N.k=2\/N.k=3\/N.k=4\/N.k=5\/N.k=6\/N.k=7\/N.k=8\/N.k=9\/N.k=10\/N.k=11\/N.k=12\/N.k=13\/N.k=14\/N.k=15\/N.k=16 by omega) with q|q|q|q|q|q|q|q|q|q|q|q|q|q|q|q
 case' neg=>
  rw[aa hS]at h⊢;by_cases y:20<=N.k/\N.k<=42
  case' neg=>
   repeat rw[aa (by omega)]at h
   cases h
  case' pos=>rcases(show N.k=20\/N.k=21\/N.k=22\/N.k=23\/N.k=24\/N.k=25\/N.k=26\/N.k=27\/N.k=28\/N.k=29\/N.k=30\/N.k=31\/N.k=32\/N.k=33\/N.k=34\/N.k=35\/N.k=36\/N.k=37\/N.k=38\/N.k=39\/N.k=40\/N.k=41\/N.k=42 by omega) with q|q|q|q|q|q|q|q|q|q|q|q|q|q|q|q|q|q|q|q|q|q|q
 all_goals
  simp only[q,Int.reduceEq,reduceIte,s,u,ch,yz,mj,decide_eq_true_eq,Bool.not_eq_true',bne_eq_false_iff_eq,CK]at h⊢
 all_goals try
  repeat (first|rw[o _ _ (by omega)]|rw[w _ _ (by omega)]|rw[x _ _ (by omega)]|rw[v _ _ (by omega)]|rw[a _ (by omega)])
  exact h
 refine⟨h.1,h.2.1,by rw[o _ _ (by omega)];exact h.2.2.1,by rw[a _ (by omega)];exact h.2.2.2.1,?_⟩;rcases bI 2 N.ks.length with g|g
 .rw[a 2 g];exact h.2.2.2.2
 .exact .inl (by omega)
end
def Fo.kds:Fo->List Int
 | .nil=>[]
 | .cons N _ r=>N.k::r.kds
def zK:∀F:Fo,F.kds.length=F.len
 | .nil=>rfl
 | .cons N k r=>by rw[Fo.kds,bB,zK r,Fo.len]
def zL:∀(F:Fo)(ns:List Nd)(b:Nat),(∀j,j<(F.flat b).length->ns[b+j]?=(F.flat b)[j]?)->∀j,j<F.len->(ns.getD ((F.tops b).getD j 0).toNat xL).k=F.kds.getD j 0
 | .nil,ns,b,_,j,a=>by rw[Fo.len]at a;omega
 | .cons N k r,ns,b,h,j,a=>by
  obtain⟨_,c,d⟩:=Fg (A:=k.flat b) (B:=r.flat (b+k.sz+1)) rfl h;rw[k.flat_len]at c d;cases j with
  |zero=>
   show(ns.getD ((b+k.sz:Nat):Int).toNat xL).k=N.k;rw[ix,aD,c];rfl
  |succ j=>exact zL r ns (b+k.sz+1) d j (by rw[Fo.len]at a;omega)
def aaC:∀(F:Fo)(b:Nat),∀t∈F.tops b,0<=t
 | .nil,b=>λt ht=>by cases ht
 | .cons N k r,b=>λt ht=>by
  rcases List.mem_cons.1 ht with rfl|ht
  .omega
  .exact aaC r _ t ht
def okY(N:Nd)(k:Fo):Prop:=lg (k.flat 0) {N with ks:=k.tops 0}=O/\k.len<=200
def Fo.oks:Fo->Prop
 | .nil=>True
 | .cons N k r=>okY N k/\k.oks/\r.oks
def aiF{l:List Int}{i:Int}:∀(f j:Nat),(∀a,j<=a->a<j+f->0<=l.getD a 0/\l.getD a 0<i)->G6 l i f j=O
 |0,j,_=>rfl
 |f+1,j,h=>by rw[G6,aiF f (j+1) λa b c=>h a (by omega) (by omega),aI (h j (af _) (by omega))];rfl
def okY.node{N:Nd}{k:Fo}(h:okY N k)(e:Pln N){ns:List Nd}(m:∀j,j<(k.flat b).length->ns[b+j]?=(k.flat b)[j]?):lh ns (b+k.sz) {N with ks:=k.tops b}=O:=by
 obtain⟨l,p⟩:=h;obtain⟨q,p2,r⟩:=e;have g:=k.tops_len 0;have i:=k.tops_len b;have o:lg ns {N with ks:=k.tops b}=O:=aiE (N:={N with ks:=k.tops 0}) (M:={N with ks:=k.tops b}) rfl (by rw[i,g]) (λj c=>by
  rw[g]at c;unfold dK;rw[zL k ns b m j c,zL k (k.flat 0) 0 (λj _=>by rw[gu]) j c]) l
 unfold lh aak;rw[o,aiF _ _ λa _ n=>?_]
 .simp only[Bool.and_true,decide_eq_true_eq,i];omega
 .have f:a<(k.tops b).length:=by simpa using n
  show 0<=(k.tops b).getD a 0/\(k.tops b).getD a 0<_;rw[aD,az f];have d:=iB f;have:=xi k b _ d;have e:0<=(k.tops b)[a]:=aaC k b _ d;simp only[ie];omega
def JF:∀(F:Fo),F.oks->F.all Pln->∀(ns:List Nd)(b:Nat),(∀j,j<(F.flat b).length->ns[b+j]?=(F.flat b)[j]?)->∀j,j<F.sz->gF ns (b+j)=A0
 | .nil,_,_,ns,b,_,j,a=>by rw[Fo.sz]at a;omega
 | .cons N k r,c,d,ns,b,h,j,a=>by
  obtain⟨e,f,g⟩:=Fg (A:=k.flat b) (B:=r.flat (b+k.sz+1)) rfl h;rw[k.flat_len]at f g;rw[Fo.sz]at a;rcases Nat.lt_trichotomy j k.sz with q|q|q
  .exact JF k c.2.1 d.2.1 ns b e j q
  .subst q;unfold gF;rw[aD,f];simp only[ie,c.1.node d.1 e,Bool.not_true]
  .rw[show b+j=b+k.sz+1+(j-k.sz-1) by omega];exact JF r c.2.2 d.2.2 ns _ g _ (by omega)
def aiG{N:Nd}{X:Fo}(c:N.k=1)(f:X.sz+1<=3000)(a:X.dep<=100)(d:(one N X).oks)(e:(one N X).all Pln):eG ((one N X).flat 0)=(0,0):=
 aiz c f a λg b=>by
  have:=JF (one N X) d e ((one N X).flat 0) 0 (λh _=>by rw[gu]) g (by rw[dL];exact b)
  rwa [gu]at this
def Dj(a:List Int):List Nd:=a.map λk=>{xL with k:=k}
def qo(N:Nd)(a:List Int):Bool:=lg (Dj a) {N with ks:=(Br a.length).map λi:Nat=>(i:Int)}
def acg(N:Nd)(a:List Int)(b:j<a.length):dK (Dj a) {N with ks:=(Br a.length).map λi:Nat=>(i:Int)} j=a.getD j 0:=by
 unfold dK Dj;simp[b]
def aqJ{N:Nd}{F:Fo}(h:qo N F.kds=O)(c:F.len<=200):okY N F:=by
 refine⟨aiE (ns:=Dj F.kds) (N:={N with ks:=(Br F.kds.length).map λd:Nat=>(d:Int)}) rfl ?_ (λb a=>?_) h,c⟩
 .simp[Fo.tops_len,zK]
 .have a:b<F.kds.length:=by simpa using a
  rw[acg N F.kds a];exact zL F (F.flat 0) 0 (λb _=>by rw[gu]) b (by rw[<-zK];exact a)
def Fo.bd:Fo->Nat
 | .nil=>0
 | .cons N k r=>max (k.bd+if N.k=1 then 1 else 0) r.bd
def aiH:∀(a c:Fo),(a.app c).bd<=max a.bd c.bd
 | .nil,c=>Nat.le_max_right _ _
 | .cons N k r,c=>by have:=aiH r c;rw[Fo.app,Fo.bd,Fo.bd];omega
def Sd(b L:List Nd)(ks c:List Int)(e d:Int):Prop:=∃a:Fo,L=b++a.flat b.length/\a.tops b.length=ks/\a.kds=c/\a.oks/\a.all Pln/\(a.dep:Int)<=e/\(a.bd:Int)<=d
section
variable {L0 L L' : List Nd} {ks kd : List Int} {δ δ' β β' : Int} {z κ : Int}
def aee:∀(a c:Fo),(a.app c).kds=a.kds++c.kds
 | .nil,c=>rfl
 | .cons N k r,c=>by rw[Fo.app,Fo.kds,aee r c];rfl
def aef:∀{a c:Fo},a.oks->c.oks->(a.app c).oks
 | .nil,c,_,h=>h
 | .cons N k r,c,h,g=>⟨h.1,h.2.1,aef h.2.2 g⟩
def aeg:∀(a c:Fo),(a.app c).dep<=max a.dep c.dep
 | .nil,c=>Nat.le_max_right _ _
 | .cons N k r,c=>by have:=aeg r c;rw[Fo.app,Fo.dep,Fo.dep];omega
def Sd.nil(L:List Nd)(b:0<=δ)(a:0<=β):Sd L L [] [] δ β:=⟨.nil,(dC L).symm,rfl,rfl,trivial,trivial,b,a⟩
def Sd.up(h:Sd L0 L ks kd δ β)(k:δ<=δ':=by omega)(j:β<=β':=by omega):Sd L0 L ks kd δ' β':=by
 obtain⟨a,b,c,d,e,f,g,i⟩:=h;exact⟨a,b,c,d,e,f,Int.le_trans g k,Int.le_trans i j⟩
def Sd.app{d c:List Int}(h:Sd L0 L ks kd δ β)(g:Sd L L' d c δ β):Sd L0 L' (ks++d) (kd++c) δ β:=by
 obtain⟨a,rfl,rfl,rfl,e,i,k,m⟩:=h;obtain⟨b,rfl,rfl,rfl,f,j,l,n⟩:=g;refine⟨a.app b,?_,?_,aee a b,aef e f,(ig _ a b).2 ⟨i,j⟩,by have:=aeg a b;omega,by have:=aiH a b;omega⟩
 .rw[Fo.flat_app,bm,Fo.flat_len,dj]
 .rw[Fo.tops_app,bm,Fo.flat_len]
def Sd.len(h:Sd L0 L ks kd δ β):ks.length=kd.length:=by
 obtain⟨a,rfl,rfl,rfl,b,c,d,e⟩:=h;rw[Fo.tops_len,zK]
def Sd.finG(h:Sd L0 L ks kd δ β){op:Int}{nm:List ByteArray}(f:qo (dN k op n t nm ks) kd=O)(g:kd.length<=200)(c:β+(if k=1 then 1 else 0)<=β'):Sd L0 (L++[dN k op n t nm ks]) [(L.length:Nat)] [k] (δ+1) β':=by
 obtain⟨a,rfl,rfl,rfl,d,e,i,j⟩:=h;have hF:0<=a.bd:=aH _;refine⟨one (dN k op n t nm []) a,?_,?_,rfl,⟨aqJ (N:=dN k op n t nm []) f (by rw[<-zK];exact g),d,trivial⟩,(cH _ _ a).2 ⟨⟨Int.le_refl 0,Int.le_refl 0,Int.le_refl 0⟩,e⟩,by show((max (a.dep+1) 0:Nat):Int)<=_;omega,?_⟩
 .rw[dj];rfl
 .rw[bm,Fo.flat_len];rfl
 .show((max (a.bd+if k=1 then 1 else 0) 0:Nat):Int)<=β';by_cases b:k=1
  .rw[ae b]at c⊢;omega
  .rw[aa b]at c⊢;omega
def Sd.fin(h:Sd L0 L ks kd δ β){op:Int}{nm:List ByteArray}(b:qo (dN k op n t nm ks) kd=O)(c:kd.length<=200)(a:k≠1):Sd L0 (L++[dN k op n t nm ks]) [(L.length:Nat)] [k] (δ+1) β:=h.finG b c (by rw[aa a];omega)
def Sd.finB(h:Sd L0 L ks kd δ β){op:Int}{nm:List ByteArray}(a:qo (dN 1 op n t nm ks) kd=O)(b:kd.length<=200):Sd L0 (L++[dN 1 op n t nm ks]) [(L.length:Nat)] [1] (δ+1) (β+1):=h.finG a b (by simp)
end
def Sd.tree{L:List Nd}{c n:Int}(h:Sd [] L [z] [1] c n)(e:L.length<=3000)(o:c<=101):eG L=(0,0):=by
 obtain⟨f,rfl,_,a,j,l,i,_⟩:=h
 match f,a with
 | .cons d b .nil,a=>
  have g:d.k=1:=by simpa [Fo.kds] using a
  have m:b.sz+1<=3000:=by rw[dI,Fo.flat_len]at e;exact e
  exact aiG g m (by have:((max (b.dep+1) 0:Nat):Int)<=c:=i;omega) j l
 | .cons d b (.cons _ _ _),a=>simp[Fo.kds]at a
def jH{op:Int}{nm:List ByteArray}(g:0<=k/\k<=1000)(h:0<=op/\op<=1000)(e: -9223372036854775808<=n/\n<=9223372036854775807)(ht:Txt k t)(a:nm.length<=3)(b:∀s∈nm,Shr s)(c:ks.length<=64)(d:∀z∈ks,0<=z/\z<=100000):C9 (dN k op n t nm ks):=by
 have z: -9223372036854775808<=(0:Int)/\(0:Int)<=9223372036854775807:=by decide
 exact⟨a,c,ht,b,⟨⟨by show _<=k;omega,by show k<=_;omega⟩,z,z,z,⟨by show _<=op;omega,by show op<=_;omega⟩,e,λz f=>by have:=d z f;omega⟩⟩
def Nx(c:Cr)(L:List Nd)(a:Cr)(b:List Nd):Prop:=∃M,b=L++M/\(∀N∈M,C9 N)/\c.r+bigs M<=a.r/\(c.r<=3->a.r<=3)
structure Pd (T:Int) (c:Cr) (L:List Nd) (m:Int):Prop where
 sum:T<=140
 lo: -20000+12*m<=T-L.length
 hx:c.p-400*L.length+1000*m<=4000000
 m0:0<=m/\m<=1300
 p0:0<=c.p/\0<=c.r
structure Mv (T:Int) (c0:Cr) (L0:List Nd) (c:Cr) (L:List Nd) (y:Int):Prop where
 nx:Nx c0 L0 c L
 n:L0.length<=L.length
 p:c.p<=c0.p+400*(L.length-L0.length)+y
 p0:0<=c.p/\0<=c.r
 lo: -20000<=T-L.length
abbrev Lf(s k l a:Int):Prop:=(l<5->l-s<=a)/\(5<=l->5-k<=a)
structure An (T:Int) (c:Cr) (L:List Nd) (c':Cr) (L':List Nd) (z s k g:Int):Prop where
 nx:Nx c L c' L'
 n:L.length<L'.length
 z:z=L'.length-1
 p:c'.p<=c.p+400*(L'.length-L.length)-g
 p0:0<=c'.p/\0<=c'.r
 lf:Lf s k (T-L.length) (T-L'.length)
abbrev Bg(d l e a:Int):Prop:=a<=5*max d 0+max l 0 / 2+e
abbrev Bp(d b a:Int):Prop:=a<=max d 0+b
def Sx(a:Int->Prop)(d e b T:Int)(L c:List Nd)(z:Int):Prop:=∃κ δ β,a κ/\Sd L c [z] [κ] δ β/\Bg d (T-L.length) e δ/\Bp d b β
def Sl(a:Int->Prop)(d e b T:Int)(L c:List Nd)(ks:List Int):Prop:=∃kd δ β,(∀κ∈kd,a κ)/\Sd L c ks kd δ β/\Bg d (T-L.length) e δ/\Bp d b β
def FB(f:FuncId)(d m s k g:Int)(i:Int->Prop)(e b:Int):Prop:=∀ ⦃h:Cd⦄ ⦃T:Int⦄ ⦃c:Cr⦄ ⦃L:List Nd⦄,Pd T c L m->∃z a L',An T c L a L' z s k g/\Rb h T f [Ax Z d] c L (Ax Z z) a L'/\Sx i d e b T L L' z
section
variable {K K1 K2 K3 : Int → Prop} {d d' d1 d2 d3 e e' e1 e2 e3 b b' b1 b2 b3 T z y x : Int} {L L1 L2 L3 : List Nd} {ks : List Int}
def Sx.up(h:Sx K d e b T L L1 z)(i:∀κ,K κ->K1 κ)(g:∀δ,Bg d (T-L.length) e δ->Bg d' (T-L.length) e' δ:=by intros;omega)(f:∀β,Bp d b β->Bp d' b' β:=by intros;omega):Sx K1 d' e' b' T L L1 z:=by
 obtain⟨κ,δ,β,c,j,a⟩:=h;exact⟨κ,δ,β,i κ c,j,g δ a.1,f β a.2⟩
def Sx.fin0{op:Int}{nm:List ByteArray}(h:qo (dN k op n t nm []) []=O)(c:K k)(g:Bg d (T-L.length) e 1:=by omega)(f:Bp d b 0:=by omega)(a:k≠1:=by first|decide|omega):Sx K d e b T L (L++[dN k op n t nm []]) (L.length:Nat):=
 ⟨k,1,0,c,(Sd.nil L (Int.le_refl 0) (Int.le_refl 0)).fin h (by simp) a,g,f⟩
def Sx.fin1{op:Int}{nm:List ByteArray}(h:Sx K1 d1 e1 b1 T L L1 z)(l:∀κ,K1 κ->qo (dN k op n t nm [z]) [κ]=O)(g:K k)(j:∀δ,Bg d1 (T-L.length) e1 δ->Bg d (T-L.length) e (δ+1):=by intros;omega)(i:∀β,Bp d1 b1 β->Bp d b β:=by intros;omega)(f:k≠1:=by first|decide|omega):Sx K d e b T L (L1++[dN k op n t nm [z]]) (L1.length:Nat):=by
 obtain⟨κ,δ,β,c,m,a⟩:=h;exact⟨k,δ+1,β,g,m.fin (l κ c) (by simp) f,j δ a.1,i β a.2⟩
def Sx.fin2{op:Int}{nm:List ByteArray}(h:Sx K1 d1 e1 b1 T L L1 z)(g:Sx K2 d2 e2 b2 T L1 L2 y)(u:L.length<=L1.length)(q:∀κ a,K1 κ->K2 a->qo (dN k op n t nm [z,y]) [κ,a]=O)(p:K k)(j:∀δ,Bg d1 (T-L.length) e1 δ\/Bg d2 (T-L1.length) e2 δ->Bg d (T-L.length) e (δ+1):=by intros;omega)(i:∀β,Bp d1 b1 β\/Bp d2 b2 β->Bp d b β:=by intros;omega)(o:k≠1:=by first|decide|omega):Sx K d e b T L (L2++[dN k op n t nm [z,y]]) (L2.length:Nat):=by
 obtain⟨κ,δ,β,l,r,c⟩:=h;obtain⟨a,δ',β',m,s,f⟩:=g;exact⟨k,max δ δ'+1,max β β',p,((r.up (δ':=max δ δ') (β':=max β β')).app (s.up (δ':=max δ δ') (β':=max β β'))).fin (q κ a l m) (by simp) o,⟨by have:=j δ (.inl c.1);have:=j δ' (.inr f.1);omega,by have:=i β (.inl c.2);have:=i β' (.inr f.2);omega⟩⟩
def Sx.kind{N:Nd}(h:Sx K d e b T L L1 (i:Int))(j:L1[i]?=Q N):Sx (λκ=>K κ/\κ=N.k) d e b T L L1 (i:Int):=by
 obtain⟨κ,q,p,l,⟨g,rfl,b,a,n⟩,m⟩:=h;refine⟨κ,q,p,⟨l,?_⟩,⟨g,rfl,b,a,n⟩,m⟩
 match g,a with
 | .cons f c .nil,a=>
  have r:((L.length+c.sz:Nat):Int)=(i:Int):=by have:=mK b;exact this.1
  have o:i=L.length+c.sz:=by omega
  rw[o,dE (by omega),Nat.add_sub_cancel_left,Fo.flat,dE (by rw[Fo.flat_len];exact af _),Fo.flat_len,fH]at j;have:κ=f.k:=((mK a).1).symm;rw[this];exact(congrArg Nd.k (bz (show Q {f with ks:=c.tops L.length}=Q N from j)):_)
 | .cons f c (.cons _ _ _),a=>simp[Fo.kds]at a
def Sl.nil(a:Int->Prop)(L:List Nd)(g:0<=e)(f:0<=max d 0+b:=by omega):Sl a d e b T L L []:=⟨[],0,0,λh c=>by(cases c),Sd.nil L (Int.le_refl 0) (Int.le_refl 0),by omega,f⟩
def Sl.fin{op:Int}{nm:List ByteArray}(h:Sl K1 d1 e1 b1 T L L1 ks)(o:ks.length<=200)(m:∀kd,kd.length=ks.length->(∀κ∈kd,K1 κ)->qo (dN k op n t nm ks) kd=O)(i:K k)(l:∀δ,Bg d1 (T-L.length) e1 δ->Bg d (T-L.length) e (δ+1):=by intros;omega)(j:∀β,Bp d1 b1 β->Bp d b β:=by intros;omega)(g:k≠1:=by first|decide|omega):Sx K d e b T L (L1++[dN k op n t nm ks]) (L1.length:Nat):=by
 obtain⟨kd,δ,β,f,a,c⟩:=h;exact⟨k,δ+1,β,i,a.fin (m kd a.len.symm f) (by rw[<-a.len];exact o) g,l δ c.1,j β c.2⟩
def Sl.finB{op:Int}{nm:List ByteArray}(h:Sl K1 d1 e1 b1 T L L1 ks)(l:ks.length<=200)(k:∀kd,kd.length=ks.length->(∀κ∈kd,K1 κ)->qo (dN 1 op n t nm ks) kd=O)(g:K 1)(j:∀δ,Bg d1 (T-L.length) e1 δ->Bg d (T-L.length) e (δ+1):=by intros;omega)(i:∀β,Bp d1 b1 β->Bp d b (β+1):=by intros;omega):Sx K d e b T L (L1++[dN 1 op n t nm ks]) (L1.length:Nat):=by
 obtain⟨kd,δ,β,f,a,c⟩:=h;exact⟨1,δ+1,β+1,g,a.finB (k kd a.len.symm f) (by rw[<-a.len];exact l),j δ c.1,i β c.2⟩
def Sl.cons(h:Sx K d e b T L L1 z)(g:Sl K d e b T L1 L2 ks)(q:L.length<=L1.length):Sl K d e b T L L2 (z::ks):=by
 obtain⟨n,c,a,f,k,o⟩:=h;obtain⟨j,δ',β',i,l,p⟩:=g;refine⟨n::j,max c δ',max a β',λm hx=>?_,(k.up (δ':=max c δ') (β':=max a β')).app (l.up (δ':=max c δ') (β':=max a β')),by omega,by omega⟩;rcases List.mem_cons.1 hx with rfl|hx
 .exact f
 .exact i m hx
def Sx.finL{op:Int}{nm:List ByteArray}(h:Sx K1 d1 e1 b1 T L L1 z)(g:Sl K2 d2 e2 b2 T L1 L2 ks)(v:L.length<=L1.length)(s:ks.length<=199)(q:∀κ kd,K1 κ->(∀x∈kd,K2 x)->qo (dN k op n t nm (z::ks)) (κ::kd)=O)(p:K k)(i:∀δ,Bg d1 (T-L.length) e1 δ\/Bg d2 (T-L1.length) e2 δ->Bg d (T-L.length) e (δ+1):=by intros;omega)(f:∀β,Bp d1 b1 β\/Bp d2 b2 β->Bp d b β:=by intros;omega)(o:k≠1:=by first|decide|omega):Sx K d e b T L (L2++[dN k op n t nm (z::ks)]) (L2.length:Nat):=by
 obtain⟨κ,δ,β,l,r,a⟩:=h;obtain⟨kd,δ',β',m,j,c⟩:=g;have u:=j.len;exact⟨k,max δ δ'+1,max β β',p,((r.up (δ':=max δ δ') (β':=max β β')).app (j.up (δ':=max δ δ') (β':=max β β'))).fin (q κ kd l m) (by simp;omega) o,⟨by have:=i δ (.inl a.1);have:=i δ' (.inr c.1);omega,by have:=f β (.inl a.2);have:=f β' (.inr c.2);omega⟩⟩
def Sl.finR{op:Int}{nm:List ByteArray}(h:Sl K1 d1 e1 b1 T L L1 ks)(g:Sx K2 d2 e2 b2 T L1 L2 y)(v:L.length<=L1.length)(u:ks.length<=199)(q:∀kd κ,kd.length=ks.length->(∀x∈kd,K1 x)->K2 κ->qo (dN k op n t nm (ks++[y])) (kd++[κ])=O)(p:K k)(i:∀δ,Bg d1 (T-L.length) e1 δ\/Bg d2 (T-L1.length) e2 δ->Bg d (T-L.length) e (δ+1):=by intros;omega)(f:∀β,Bp d1 b1 β\/Bp d2 b2 β->Bp d b β:=by intros;omega)(o:k≠1:=by first|decide|omega):Sx K d e b T L (L2++[dN k op n t nm (ks++[y])]) (L2.length:Nat):=by
 obtain⟨kd,δ,β,l,j,a⟩:=h;obtain⟨κ,δ',β',m,s,c⟩:=g;have r:=j.len;exact⟨k,max δ δ'+1,max β β',p,((j.up (δ':=max δ δ') (β':=max β β')).app (s.up (δ':=max δ δ') (β':=max β β'))).fin (q kd κ r.symm l m) (by simp;omega) o,⟨by have:=i δ (.inl a.1);have:=i δ' (.inr c.1);omega,by have:=f β (.inl a.2);have:=f β' (.inr c.2);omega⟩⟩
def Sl.finS{op:Int}{nm:List ByteArray}{a:List Int}(h:Sl K1 d1 e1 b1 T L L1 ks)(g:Sl K2 d2 e2 b2 T L1 L2 a)(y:L.length<=L1.length)(w:ks.length+a.length<=200)(s:∀kd kf,kd.length=ks.length->kf.length=a.length->(∀x∈kd,K1 x)->(∀x∈kf,K2 x)->qo (dN k op n t nm (ks++a)) (kd++kf)=O)(r:K k)(j:∀δ,Bg d1 (T-L.length) e1 δ\/Bg d2 (T-L1.length) e2 δ->Bg d (T-L.length) e (δ+1):=by intros;omega)(i:∀β,Bp d1 b1 β\/Bp d2 b2 β->Bp d b β:=by intros;omega)(q:k≠1:=by first|decide|omega):Sx K d e b T L (L2++[dN k op n t nm (ks++a)]) (L2.length:Nat):=by
 obtain⟨kd,δ,β,o,l,c⟩:=h;obtain⟨kf,δ',β',p,m,f⟩:=g;have u:=l.len;have v:=m.len;exact⟨k,max δ δ'+1,max β β',r,((l.up (δ':=max δ δ') (β':=max β β')).app (m.up (δ':=max δ δ') (β':=max β β'))).fin (s kd kf u.symm v.symm o p) (by simp;omega) q,⟨by have:=j δ (.inl c.1);have:=j δ' (.inr f.1);omega,by have:=i β (.inl c.2);have:=i β' (.inr f.2);omega⟩⟩
def Sx.fin3{op:Int}{nm:List ByteArray}(h:Sx K1 d1 e1 b1 T L L1 z)(g:Sx K2 d2 e2 b2 T L1 L2 y)(f:Sx K3 d3 e3 b3 T L2 L3 x)(F:L.length<=L1.length)(G:L1.length<=L2.length)(A:∀κ i j,K1 κ->K2 i->K3 j->qo (dN k op n t nm [z,y,x]) [κ,i,j]=O)(w:K k)(m:∀δ,Bg d1 (T-L.length) e1 δ\/Bg d2 (T-L1.length) e2 δ\/Bg d3 (T-L2.length) e3 δ->Bg d (T-L.length) e (δ+1):=by intros;omega)(l:∀β,Bp d1 b1 β\/Bp d2 b2 β\/Bp d3 b3 β->Bp d b β:=by intros;omega)(v:k≠1:=by first|decide|omega):Sx K d e b T L (L3++[dN k op n t nm [z,y,x]]) (L3.length:Nat):=by
 obtain⟨κ,δ,β,r,B,o⟩:=h;obtain⟨i,δ',β',s,C,p⟩:=g;obtain⟨j,c,a,u,E,q⟩:=f;exact⟨k,max (max δ δ') c+1,max (max β β') a,w,(((B.up (δ':=max (max δ δ') c) (β':=max (max β β') a)).app (C.up (δ':=max (max δ δ') c) (β':=max (max β β') a))).app (E.up (δ':=max (max δ δ') c) (β':=max (max β β') a))).fin (A κ i j r s u) (by simp) v,⟨by have:=m δ (.inl o.1);have:=m δ' (.inr (.inl p.1));have:=m c (.inr (.inr q.1));omega,by have:=l β (.inl o.2);have:=l β' (.inr (.inl p.2));have:=l a (.inr (.inr q.2));omega⟩⟩
end
def FB.up{r t q p:Int}{j:Int->Prop}{e o b l:Int}(h:FB f d m s k g K e b)(A:0<=m:=by omega)(H:m<=r:=by omega)(I:s<=t:=by omega)(E:k<=q:=by omega)(G:p<=g:=by omega)(y:∀κ,K κ->j κ:=by exact λ_ h=>h)(F:e<=o:=by omega)(B:b<=l:=by omega):FB f d r t q p j o l:=λC T c L i=>by
 obtain⟨z,x,u,a,v,w⟩:=@h C T c L ⟨i.sum,by have:=i.lo;omega,by have:=i.hx;omega,by have:=i.m0;omega,i.p0⟩;exact⟨z,x,u,⟨a.nx,a.n,a.z,by have:=a.p;omega,a.p0,by have:=a.lf;omega⟩,v,w.up y⟩
def Nx.refl{a:Cr}(L:List Nd)(h:a.r=c.r):Nx c L a L:=⟨[],(dC L).symm,λb h=>(by cases h),by rw[h];exact Int.le_of_eq (Int.add_zero _),by rw[h];exact id⟩
def Nx.trans{e f:Cr}{L b d:List Nd}(h:Nx c L e b)(k:Nx e b f d):Nx c L f d:=by
 obtain⟨g,rfl,i,n,j⟩:=h;obtain⟨a,rfl,l,o,m⟩:=k;exact⟨g++a,dj _ _ _,λa h=>(List.mem_append.1 h).elim (i a) (l a),by rw[ahw];omega,λh=>m (j h)⟩
def Nx.add{a b:Cr}{L d:List Nd}(h:Nx c L a d){N:Nd}(e:C9 N)(f:a.r+bgN N<=b.r)(g:a.r<=3->b.r<=3):Nx c L b (d++[N]):=
 h.trans ⟨[N],rfl,λi h=>by rw[List.mem_singleton.1 h];exact e,by unfold bigs;simp;exact f,g⟩
def aeh{N:Nd}(h:N.x.size<=19):bgN N=0:=by unfold bgN;rw[aa (by omega)]
def Pl(ks:List Int):Prop:=∀z∈ks,0<=z/\z<=100000
def Pl.add(h:Pl ks)(a:0<=z/\z<=100000):Pl (ks++[z]):=λb hy=>by
 rcases List.mem_append.1 hy with hy|hy
 .exact h b hy
 .rw[List.mem_singleton.1 hy];exact a
def pl0:Pl []:=λb a=>by cases a
def pl1(h:0<=z/\z<=100000):Pl [z]:=λb a=>by rw[List.mem_singleton.1 a];exact h
def pl2{a:Int}(h:0<=z/\z<=100000)(k:0<=a/\a<=100000):Pl [z,a]:=(pl1 h).add k
def lC:∀s∈([]:List ByteArray),Shr s:=λs a=>by cases a
section
variable {T : Int} {c0 c : Cr} {L0 L : List Nd} {y m : Int}
def Pd.mv(p:Pd T c L m):Mv T c L c L 0:=⟨Nx.refl L rfl,af _,by omega,p.p0,by have:=p.lo;have:=p.m0;omega⟩
def Mv.len(p:Pd T c0 L0 m)(a:Mv T c0 L0 c L y)(j:y<=600:=by omega):(L.length<=25000/\ -100000<=T/\T<=100000)/\c.p<=20000000:=by
 have b:=p.sum;have d:=a.lo;have e:=a.p;have f:=p.hx;have g:=p.m0;have h:=a.n;have i:=p.lo;omega
def Mv.pick(p:Pd T c0 L0 m)(a:Mv T c0 L0 c L y)(C:Cd)(k:Int)(o:y<=500:=by omega)(g:2<=k:=by decide)(h:k<=200:=by decide):∃z b,(0<=z/\z<k)/\Mv T c0 L0 b L (y+1)/\Rc C 35 [Ax Z k] c (Ax Z z) b:=by
 have j:=a.len p;have e:=a.p0;have l:=a.p;have⟨z,b,i,f,d⟩:=oB C c k g h e.1 (by omega);exact⟨z,b,i,⟨a.nx.trans (Nx.refl L f.2),a.n,by omega,by omega,a.lo⟩,d⟩
def Mv.sub(p:Pd T c0 L0 m)(a:Mv T c0 L0 c L y)(C:Cd){i:Int}{e b:Int}(hF:FB f d i s k g K e b)(H:1<=i/\i+1<=m:=by omega)(J:y<=500:=by omega)(u: -20000+12*i<=T-L.length:=by omega)(I:s<=12/\k<=4000:=by omega):
  ∃(z:Int) (h:Cr) (L':List Nd),(0<=z/\z<=100000)/\(L.length<L'.length/\z=L'.length-1/\Lf s k (T-L.length) (T-L'.length))/\Mv T c0 L0 h L' (y-g)/\Rb C T f [Ax Z d] c L (Ax Z z) h L'/\Sx K d e b T L L' z:=by
 have G:=a.len p;have x:=p.hx;have A:=a.p;have t:=a.p0;have B:=p.m0;have E:=a.n;have F:=p.sum;obtain⟨z,h,L',v,K⟩:=@hF C T c L ⟨p.sum,u,by omega,by omega,t⟩;obtain⟨j,l,o,w,q,r⟩:=v;exact⟨z,h,L',by omega,⟨l,o,r⟩,⟨a.nx.trans j,by omega,by omega,q,by omega⟩,K⟩
def Mv.fin(p:Pd T c0 L0 m)(a:Mv T c0 L0 c L y){op:Int}{nm:List ByteArray}{b:Int}(d:C9 (dN k op n t nm ks))(i:y<=400-g:=by omega)(h:Lf s b (T-L0.length) (T-L.length-1):=by omega)(ht:t.size<=19:=by first|decide|omega):An T c0 L0 c (L++[dN k op n t nm ks]) (L.length:Nat) s b g:=by
 have e:=a.p;have f:=a.n;exact⟨a.nx.add d (by rw[aeh (show(dN k op n t nm ks).x.size<=19 from ht)];omega) id,by simp;omega,by simp,by simp;omega,a.p0,by simp only[bm,bB,fs];omega⟩
def Mv.on(a:Mv T c0 L0 c L y){N:Nd}(b:C9 N)(ht:N.x.size<=19)(f: -20000<=T-L.length-1):Mv T c0 L0 c (L++[N]) (y-400):=by
 have d:=a.p;have e:=a.n;exact⟨a.nx.add b (by rw[aeh ht];omega) id,by simp;omega,by simp;omega,a.p0,by simp;omega⟩
def Mv.tail(p:Pd T c0 L0 m)(a:Mv T c0 L0 c L0 y)(C:Cd){j:Int}{e b:Int}(hF:FB f d j s k g K e b)(v:0<=j/\j+1<=m:=by omega)(w:y<=g:=by omega)(u:g<=500:=by decide):∃z i L',An T c0 L0 i L' z s k 0/\Rb C T f [Ax Z d] c L0 (Ax Z z) i L'/\Sx K d e b T L0 L' z:=by
 have o:=p.hx;have q:=a.p;have l:=a.p0;have r:=p.m0;have t:=p.lo;obtain⟨z,i,L',h,K⟩:=@hF C T c L0 ⟨p.sum,by omega,by omega,by omega,l⟩;exact⟨z,i,L',⟨a.nx.trans h.nx,h.n,h.z,by have:=h.p;omega,h.p0,h.lf⟩,K⟩
end
def shL:List ByteArray:=[⟨#[97]⟩,⟨#[98]⟩,⟨#[120]⟩,⟨#[121,49]⟩,⟨#[95]⟩,⟨#[73,102]⟩,⟨#[101,108,105]⟩,⟨#[102]⟩]
def asI:∀t∈shL,jf t=O:=by decide+kernel
section
variable {T : Int} {c0 c : Cr} {L0 L : List Nd} {y m : Int}
def alx{C:Cd}{d:Cr}(n:0<=z/\z<8)(e:Rc C 35 [Ax Z 8] c (Ax Z z) d)(ht:shL[z.toNat]?=Q t):Rb C T 163 [] c L (B2 t) d L:=by
 intro j l k g;have a:=g.at
 have m:=a.cs;have i:=a.cu;rcases(show z=0\/z=1\/z=2\/z=3\/z=4\/z=5\/z=6\/z=7 by omega) with rfl|rfl|rfl|rfl|rfl|rfl|rfl|rfl;all_goals
  obtain rfl:=bz (show Q (_:ByteArray)=Q t from ht);go_in;go_wp2_with fail;refine a.al.runC e λw1 f h=>?_;have o:=age i h;have b:=am f;go_wp2;go_ret;exact⟨rfl,b.out.bd,b.out.bel⟩
def Mv.short(p:Pd T c0 L0 m)(a:Mv T c0 L0 c L y)(C:Cd)(k:y<=500:=by omega):∃(t:ByteArray) (d:Cr),Shr t/\Mv T c0 L0 d L (y+1)/\Rb C T 163 [] c L (B2 t) d L/\jf t=O:=by
 have⟨e,h,j,g,f⟩:=a.pick p C 8;obtain⟨t,b⟩:∃t,shL[e.toNat]?=Q t:=⟨_,az (show e.toNat<8 by omega)⟩;have i:t.size<=3:=(show ∀t∈shL,t.size<=3 by decide) t (cG b);exact⟨t,h,⟨i,wg (by omega)⟩,g,alx j f b,asI t (cG b)⟩
inductive Nmc (C:Cd) (T:Int) (L:List Nd):Nat->Cr->List ByteArray->Cr->Prop
 |nil (c:Cr):Nmc C T L 0 c [] c
 |cons {n:Nat}{c c1 c2:Cr}{t:ByteArray}{l:List ByteArray}:Rb C T 163 [] c L (.string t) c1 L->Nmc C T L n c1 l c2->Nmc C T L (n+1) c (t::l) c2
def nmc(p:Pd T c0 L0 m)(C:Cd):∀(n:Nat)(c:Cr)(y:Int),Mv T c0 L0 c L y->y+n<=500->∃(l:List ByteArray) (b:Cr),l.length=n/\(∀s∈l,Shr s)/\Mv T c0 L0 b L (y+n)/\Nmc C T L n c l b/\∀s∈l,jf s=O:=by
 intro n
 induction n with
 |zero=>exact λc y a _=>⟨[],c,rfl,lC,by simpa using a,.nil c,λs h=>by cases h⟩
 |succ n r=>
  intro c y a w;have⟨v,i,q,f,e,t⟩:=a.short p C;have⟨l,j,k,o,g,d,u⟩:=r i (y+1) f (by omega);exact⟨v::l,j,by simp[k],λs h=>by rcases List.mem_cons.1 h with rfl|h;exact q;exact o s h,by rw[show y+((n+1:Nat):Int)=y+1+n by omega];exact g,.cons e d,λs h=>by rcases List.mem_cons.1 h with rfl|h;exact t;exact u s h⟩
def Mv.names(p:Pd T c0 L0 m)(a:Mv T c0 L0 c L y)(C:Cd)(n:Nat)(ax:n<=8:=by omega)(a1:y<=450:=by omega):∃(nm:List ByteArray) (l:Cr),nm.length=n/\(∀s∈nm,Shr s)/\Mv T c0 L0 l L (y+n)/\Rr C T 102 [Ax Z n] c L 9 n (nm.map B1) l L/\∀s∈nm,jf s=O:=by
 have⟨nm,o,q,r,E,b,u⟩:=nmc p C n c y a (by omega);refine⟨nm,o,q,r,E,λx B A K=>?_,u⟩;clear u;have e:=K.at.nilS;go_in;go_wp2;go_loopw [1,5] (λj ao wr=>∃(m g:Nat) (f i:List ByteArray) (h:Cr),j= Ax Z m/\m+g=n/\f.length=g/\At C T x B wr h L (rS ao f::A)/\Nmc C T L m h i o/\f++i=nm) (λj _ _=>(intOf j).toNat)
 case atStart=>exact⟨n,0,[],nm,c,rfl,rfl,rfl,e,b,rfl⟩
 case round=>
  obtain⟨m,g,f,i,h,rfl,ak,ad,e,v,J⟩:=hrel;have d:=mo ak ad J;have au:m<=n:=by omega
  cases v with
  |@cons m _ H _ an al z w=>
   have ar:(0:Int)<((m+1:Nat):Int):=by omega
   have a0:IntKind.i64.wrap (((m+1:Nat):Int)-1)=(m:Int):=by rw[fh];omega
   go_wp2_with fail;refine e.run z λw1 F=>?_;have b:=am F;go_wp2_with (at_builtin;refine b.out.appS d.2.1 (by have:=d.1;omega) rfl _ _ rfl rfl rfl ?_;intro k ap a3 G);go_roundw
   case rel=>exact⟨m,g+1,f++[an],al,H,by go_num,by have:=d.1;omega,by simp[d.2.1],G,w,by rw[dj];exact d.2.2⟩
   case measure=>simp[intOf]
  |nil=>
   have⟨q,r,t⟩:=d.out;rw[dC]at t;subst t;obtain⟨k,I,rfl⟩:=e.form;rw[bC,show f.length=n by omega]at e⊢;have b:=am e;go_wp2;go_ret;exact⟨k,I,rfl,b.out.bd,b.out.bel⟩
end
abbrev Ek(a:Int):Prop:=20<=a/\a<=37
abbrev Bk(a:Int):Prop:=(20<=a/\a<=37)/\a≠27
abbrev Sk(a:Int):Prop:=1<=a/\a<=16
abbrev Tk'(a:Int):Prop:=a=26\/a=32\/a=33
abbrev Nk(a:Int):Prop:=40<=a/\a<=42
section
variable {N : Nd} {kd : List Int}
abbrev ovN(N:Nd)(a:List Int):Nd:={N with ks:=(Br a.length).map λi:Nat=>(i:Int)}
def qI(a:List Int):((Br a.length).map λi:Nat=>(i:Int)).length=a.length:=by simp
def aiI{p:Int->Prop}(h:∀κ∈kd,p κ)(a:j<kd.length):p (dK (Dj kd) (ovN N kd) j):=by
 rw[acg N kd a,aD,az a];exact h _ (iB a)
def aaD(h:∀κ∈kd,Ek κ):∀f j,j+f<=kd.length->jF (Dj kd) (ovN N kd) f j=O
 |0,_,_=>rfl
 |f+1,j,a=>by rw[jF,aaD h f (j+1) (by omega),Bool.and_true];exact aI (aiI h (by omega))
def am3(h:∀κ∈kd,Sk κ):∀f j,j+f<=kd.length->Ei (Dj kd) (ovN N kd) f j=O
 |0,_,_=>rfl
 |f+1,j,a=>by rw[Ei,am3 h f (j+1) (by omega),Bool.and_true];exact aI (aiI h (by omega))
def am4(h:∀κ∈kd,Nk κ):∀f j,j+f<=kd.length->Eh (Dj kd) (ovN N kd) f j=O
 |0,_,_=>rfl
 |f+1,j,a=>by rw[Eh,am4 h f (j+1) (by omega),Bool.and_true];exact aI (aiI h (by omega))
def JG{l:List ByteArray}(h:∀s∈l,jf s=O):∀f j,j+f<=l.length->tj l f j=O
 |0,_,_=>rfl
 |f+1,j,a=>by
  rw[tj,JG h f (j+1) (by omega),Bool.and_true,aD,az (by omega)];exact h _ (iB _)
end
section
variable {op n z y a b : Int} {t : ByteArray} {nm : List ByteArray} {ks kd : List Int}
def em0:vJ (⟨#[]⟩:ByteArray)=O:=by decide+kernel
def kf0(k:Int)(h:k=20\/k=21\/k=22\/k=27\/k=11\/k=12):qo (dN k 0 0 ⟨#[]⟩ [] []) []=O:=by
 rcases h with rfl|rfl|rfl|rfl|rfl|rfl<;>decide+kernel
def asJ:qo (dN 23 0 n ⟨#[]⟩ [] []) []=O:=by simp[qo,lg,eA,gh,aL,dN,em0]
def asK(h:fok t=O):qo (dN 24 0 0 t [] []) []=O:=by simp[qo,lg,eA,gh,aL,dN,h]
def asL(h:t.size<=4000):qo (dN 25 0 0 t [] []) []=O:=by simp[qo,lg,eA,gh,aL,dN];exact aI (by omega)
def aqK(h:jf t=O):qo (dN 26 0 0 t [] []) []=O:=by simp[qo,lg,eA,gh,aL,dN,h]
def kf2(i:k=28\/k=29\/k=31/\1<=op/\op<=18\/k=32/\a≠27\/k=41)(l:k=31\/op=0)(g:Ek a)(h:Ek b):qo (dN k op 0 ⟨#[]⟩ [] ks) [a,b]=O:=by
 have c:fy a=O:=aI g;have d:fy b=O:=aI h;rcases i with rfl|rfl|⟨rfl,e,f⟩|⟨rfl,j⟩|rfl
 case inr.inr.inl=>
  simp[qo,Dj,lg,eA,gh,jF,dK,aL,dN,xL,c,d,em0];exact⟨aI e,aI f⟩
 all_goals (obtain rfl:op=0:=by omega)
 all_goals simp[qo,Dj,lg,eA,gh,jF,dK,aL,dN,xL,c,d,em0, *]
def kf1(g:k=30/\19<=op/\op<=22\/k=33/\a≠27/\jf t=O\/k=40\/k=42/\jf t=O\/k=15)(h:k=30\/op=0)(c:k=33\/k=42\/t=⟨#[]⟩)(f:Ek a):qo (dN k op 0 t [] ks) [a]=O:=by
 have d:fy a=O:=aI f;rcases g with⟨rfl,e,b⟩|⟨rfl,e,b⟩|rfl|⟨rfl,b⟩|rfl
 case inl=>
  obtain rfl:t=⟨#[]⟩:=by simpa using c
  simp[qo,Dj,lg,eA,gh,jF,dK,aL,dN,xL,d,em0];exact⟨aI e,aI b⟩
 all_goals (obtain rfl:op=0:=by omega)
 case' inr.inr.inl=>obtain rfl:t=⟨#[]⟩:=by simpa using c
 case' inr.inr.inr.inr=>obtain rfl:t=⟨#[]⟩:=by simpa using c
 all_goals simp[qo,Dj,lg,eA,gh,stB,jF,dK,aL,dN,xL,d,em0, *]
def aqL(h:a=34\/a=27):qo (dN 37 0 0 ⟨#[]⟩ [] ks) [a]=O:=by
 rcases h with rfl|rfl<;>simp[qo,Dj,lg,eA,gh,dK,aL,dN,xL,em0]
def kfC(h:k=6\/k=16):qo (dN k 0 0 ⟨#[]⟩ [] ks) [34]=O:=by
 rcases h with rfl|rfl<;>simp[qo,Dj,lg,eA,stB,dK,aL,dN,xL,em0]
def as0(d:op=0\/op=1)(c:∀s∈nm,jf s=O)(e:nm.length<=200):qo (dN 36 op 0 ⟨#[]⟩ nm ks) [1]=O:=by
 have b:=JG c nm.length 0 (by omega);have a:decide ((0:Int)<=(nm.length:Int)/\(nm.length:Int)<=200)=O:=aI (by omega);rcases d with rfl|rfl<;>simp[qo,Dj,lg,eA,gh,dK,aL,fj,dN,xL,em0,b,a]<;>omega
def dk:(dN k op n t nm ks).k=k:=rfl
def kfE{N:Nd}(h:eA N.k=A0):qo N kd=gh (Dj kd) (ovN N kd):=by show lg _ _=_;unfold lg;rw[aa (by rw[show(ovN N kd).k=N.k from rfl,h];decide)]
def kfS{N:Nd}(h:eA N.k=O):qo N kd=stB (Dj kd) (ovN N kd):=by show lg _ _=_;unfold lg;rw[ae (by rw[show(ovN N kd).k=N.k from rfl,h])]
def ba0:aL (ovN (dN k 0 0 ⟨#[]⟩ [] ks) kd) A0 A0 A0 A0=O:=by simp[aL,dN,em0]
def baN:aL (ovN (dN k 0 0 ⟨#[]⟩ nm ks) kd) A0 A0 A0 O=O:=by simp[aL,dN,em0]
def nam{least a:Int}(c:∀s∈nm,jf s=O)(b:least<=nm.length/\nm.length<=a):fj (ovN (dN k op n t nm ks) kd) least a=O:=by
 show(decide (least<=(nm.length:Int)/\(nm.length:Int)<=a)&&tj nm nm.length 0)=O;rw[JG c nm.length 0 (by omega),aI b];rfl
def sA{x:Int}(h:kd[j]?=Q x):dK (Dj kd) (ovN (dN k op n t nm ks) kd) j=x:=by
 have a:=(List.getElem?_eq_some_iff.1 h).1;rw[acg _ _ a,aD,h];rfl
def as1{l:List Int}(b:Bk a)(c:∀κ∈l,Ek κ):qo (dN 34 0 0 ⟨#[]⟩ [] ks) (a::l)=O:=by
 rw[kfE (show eA 34=A0 by decide)];unfold gh;simp only[dk,Int.reduceEq,reduceIte];rw[qI,aaD (λκ h=>by rcases List.mem_cons.1 h with rfl|h;exact b.1;exact c κ h) (a::l).length 0 (by simp),sA (x:=a) rfl,ba0,aI (show(1:Int)<=((a::l).length:Nat) by simp only[bB];omega)];simpa using b.2
def as2(h:∀κ∈kd,Nk κ):qo (dN 35 0 0 ⟨#[]⟩ [] ks) kd=O:=by
 rw[kfE (show eA 35=A0 by decide)];unfold gh;simp only[dk,Int.reduceEq,reduceIte];rw[qI,am4 h _ _ (by omega),ba0];rfl
def aq0(h:∀κ∈kd,Sk κ):qo (dN 1 0 0 ⟨#[]⟩ [] ks) kd=O:=by
 rw[kfS (show eA 1=O by decide)];unfold stB;simp only[dk,Int.reduceEq,reduceIte];rw[qI,am3 h _ _ (by omega),ba0];rfl
def as3(h:∀κ∈kd,Ek κ)(a:∀s∈nm,jf s=O)(b:1<=nm.length/\nm.length<=200):qo (dN 2 0 0 ⟨#[]⟩ nm ks) kd=O:=by
 rw[kfS (show eA 2=O by decide)];unfold stB;simp only[dk,Int.reduceEq,reduceIte];rw[qI,aaD h _ _ (by omega),baN,nam a (by omega)];rfl
def aq1(h:∀κ∈kd,Ek κ):qo (dN 13 0 0 ⟨#[]⟩ [] ks) kd=O:=by
 rw[kfS (show eA 13=O by decide)];unfold stB;simp only[dk,Int.reduceEq,reduceIte];rw[qI,aaD h _ _ (by omega),ba0];rfl
def aq2(d:k=3/\Ek a\/k=4/\a=36)(b:∀s∈nm,jf s=O)(e:nm.length=1):qo (dN k 0 0 ⟨#[]⟩ nm ks) [a]=O:=by
 rcases d with⟨rfl,c⟩|⟨rfl,rfl⟩
 .rw[kfS (show eA 3=O by decide)];unfold stB;simp only[dk,Int.reduceEq,reduceIte];rw[qI,aaD (by simpa using c) 1 0 (by simp),baN,nam b (by omega)];rfl
 .rw[kfS (show eA 4=O by decide)];unfold stB;simp only[dk,Int.reduceEq,reduceIte];rw[qI,sA (x:=36) rfl,baN,nam b (by omega)];rfl
def kf8(h:Ek a):qo (dN 8 0 0 ⟨#[]⟩ [] ks) [a,1]=O:=by
 have b:fy a=O:=aI h;simp[qo,Dj,lg,eA,stB,jF,dK,aL,dN,xL,b,em0]
def kf7(h:Ek a){l:List Int}(c:l=[]\/l=[1]\/l=[7]):qo (dN 7 0 0 ⟨#[]⟩ [] ks) (a::1::l)=O:=by
 have b:fy a=O:=aI h;rcases c with rfl|rfl|rfl<;>simp[qo,Dj,lg,eA,stB,jF,dK,aL,dN,xL,b,em0]
def aq3(e:k=10/\Ek a\/k=14/\a=1)(b:∀s∈nm,jf s=O)(f:1<=nm.length/\nm.length<=2):qo (dN k 0 0 ⟨#[]⟩ nm ks) [a,1]=O:=by
 rcases e with⟨rfl,d⟩|⟨rfl,rfl⟩
 .have c:fy a=O:=aI d;rw[kfS (show eA 10=O by decide)];unfold stB;simp only[dk,Int.reduceEq,reduceIte];rw[baN,nam b (by omega),qI,sA (x:=1) rfl,jF,sA (x:=a) rfl,c];rfl
 .rw[kfS (show eA 14=O by decide)];unfold stB;simp only[dk,Int.reduceEq,reduceIte];rw[baN,nam b (by omega),qI,sA (j:=0) (x:=1) rfl,sA (j:=1) (x:=1) rfl];rfl
def aei{x:Int}(h:∀κ∈kd,Ek κ):∀f j,j+f<=kd.length->jF (Dj (kd++[x])) (ovN (dN k op n t nm ks) (kd++[x])) f j=O
 |0,_,_=>rfl
 |f+1,j,a=>by
  rw[jF,aei h f (j+1) (by omega),Bool.and_true,sA (x:=kd[j]'(by omega)) (by rw[gq (by omega)];exact az _)];exact aI (h _ (iB _))
def kf9(h:∀κ∈kd,Ek κ)(a:kd.length=2\/kd.length=3)(b:∀s∈nm,jf s=O)(c:nm.length=1):qo (dN 9 0 0 ⟨#[]⟩ nm ks) (kd++[1])=O:=by
 rw[kfS (show eA 9=O by decide)];unfold stB;simp only[dk,Int.reduceEq,reduceIte];rw[baN,nam b (by omega),qI,bm,yx,re,aei h _ _ (by omega),sA (x:=1) (by rw[dE (af _),fH];rfl)];rcases a with e|e<;>rw[e]<;>rfl
def aej(h:∀κ∈kd,Tk' κ):∀f j,j+f<=kd.length->BD (Dj (kd++kf)) (ovN (dN k op n t nm ks) (kd++kf)) f j=O
 |0,_,_=>rfl
 |f+1,j,a=>by
  have g:=h _ (iB (show j<kd.length by omega));rw[BD,aej h f (j+1) (by omega),Bool.and_true,sA (x:=kd[j]'(by omega)) (by rw[gq (by omega)];exact az _)];unfold ti;exact aI (by omega)
def aek(h:∀κ∈kf,Ek κ):∀f j,j+f<=kf.length->jF (Dj (kd++kf)) (ovN (dN k op n t nm ks) (kd++kf)) f (kd.length+j)=O
 |0,_,_=>rfl
 |f+1,j,a=>by
  rw[jF,fi,aek h f (j+1) (by omega),Bool.and_true,sA (x:=kf[j]'(by omega)) (by rw[dE (by omega),Nat.add_sub_cancel_left];exact az _)];exact aI (h _ (iB _))
def kf5(h:∀κ∈kd,Tk' κ)(g:∀κ∈kf,Ek κ)(a:1<=kd.length)(b:1<=kf.length):qo (dN 5 0 (kd.length:Nat) ⟨#[]⟩ [] ks) (kd++kf)=O:=by
 rw[kfS (show eA 5=O by decide)];unfold stB;simp only[dk,Int.reduceEq,reduceIte];rw[show aL (ovN (dN 5 0 (kd.length:Nat) ⟨#[]⟩ [] ks) (kd++kf)) A0 O A0 A0=O by simp[aL,dN,em0],qI,show(dN 5 0 (kd.length:Nat) ⟨#[]⟩ [] ks).n=((kd.length:Nat):Int) from rfl,ix,aej h _ _ (by omega),bm,Nat.add_sub_cancel_left,show jF (Dj (kd++kf)) (ovN (dN 5 0 (kd.length:Nat) ⟨#[]⟩ [] ks) (kd++kf)) kf.length kd.length=O from aek g kf.length 0 (by omega),aI (by omega)];rfl
end
def w1(a: -1000<=d/\d<=1000):IntKind.i64.wrap (d-1)=d-1:=by rw[fh];omega
def wq{a o:Int}{b:Nat}(h:a+o=(b:Int))(c:b<=100):IntKind.i64.wrap (a+o)=(b:Int):=by rw[fh];omega
def wi{a:Int}(h: -9223372036854775808<=a/\a<=9223372036854775807):IntKind.i64.wrap a=a:=by rw[fh];omega
def At.last{C:Cd}{T:Int}{E:Bs}{W w:B0}{c:Cr}{L:List Nd}{R:List Rwx}(a:At C T E W w c L R){i:Nat}{N:Nd}(h:L[i]?=Q N):∃g b,w.cell? ⟨E.bb,1,V⟩=Q (U (Q ⟨g,0,V⟩) L.length b)/\w.cell? ⟨g,i*9,V⟩=Q (Ax Z N.k)/\i<L.length:=by
 obtain⟨⟨m,rfl,f⟩,_⟩:=a;have⟨o,j,d⟩:=f.row;have e:=(List.getElem?_eq_some_iff.1 h).1;rw[ci]at h;obtain⟨p,l,rfl⟩:=Option.map_eq_some_iff.1 h;rw[bC]at e⊢;rcases bJ d with⟨n,rfl⟩|⟨g,b,rfl⟩
 .omega
 .exact⟨g,b,by rw[aj _ _ _ _ _ _ j];rfl,(th d l).1,e⟩
def am5{me ce:Int}(w:1<=me/\me+1<=m)(u:0<=ce/\ce<=3990)(J:FB 105 d me 1 ce 0 Ek 3 0):FB 162 d m 2 (ce+1) 0 Bk 4 0:=by
 intro B an ao al b;have v:=b.lo;have x:=b.m0;have⟨ax,ap,q,h,l,c,y,A⟩:=b.mv.sub b B J;have s:=c.len b;obtain⟨p,rfl⟩:=lr h.1;obtain⟨j,f⟩:∃j,q[p]?=Q j:=⟨_,az (by omega)⟩;have ar:(0:Int)<=(p:Int):=h.1;by_cases o:j.k=27
 .refine⟨_,_,_,c.fin b (k:=37) (op:=0) (n:=0) (t:=⟨#[]⟩) (jH (by decide) (by decide) (by decide) (lJ (by decide)) (by decide) lC (by simp) (pl1 h)),λC F E a=>?_,(A.kind f).fin1 (λak a=>aqL (.inr (a.2.trans o))) (by decide)⟩;have g:=a.at
  clear a c l h b v x u w;go_in;go_wp2_with fail;refine g.run y λw1 e=>?_;obtain⟨I,G,L,z,ad⟩:=e.last f;rw[o]at z;have K:(p:Int)<(q.length:Int):=by omega
  have i:=am e;clear g e f;go_wp2_with fail;refine i.out.lit1.kids s.1.2 s.1.1 λav r=>?_;go_wp2;go_ret;exact⟨rfl,r.bd,r.bel⟩
 .refine⟨_,_,_,⟨c.nx,l.1,l.2.1,by have:=c.p;omega,c.p0,by omega⟩,λC F E a=>?_,(A.kind f).up (λak a=>⟨a.1,λH=>o (a.2.symm.trans H)⟩)⟩;have g:=a.at
  clear a c l h b v x u w;go_in;go_wp2_with fail;refine g.run y λw1 e=>?_;obtain⟨I,G,L,z,ad⟩:=e.last f;have au:(j.k==27)=A0:=by simpa using o
  have K:(p:Int)<(q.length:Int):=by omega
  have i:=am e;clear g e f;go_wp2;go_ret;exact⟨rfl,i.out.bd,i.out.bel⟩
def fnB{mk ck:Int}(au:1<=d)(A:1<=mk/\mk+1<=m)(y:0<=ck/\ck<=3900)(r: -1000<=d/\d<=1000)(x:FB 109 (d-1) mk 1 ck 0 (· =1) 7 1):FB 106 d m 2 (ck+1) 100 (· =36) 3 0:=by
 intro g L ak I e;have z:=e.lo;have B:=e.m0;have a0:=w1 r;obtain⟨n,al,s,j,a5⟩:=e.mv.pick e g 3;obtain⟨n,rfl⟩:=lr s.1;obtain⟨a9,an,w,q,l,a6,F⟩:=j.names e g n;obtain⟨ba,ao,J,C,v,o,a7,G⟩:=l.sub e g x;obtain⟨E,ap,ax,i,a8⟩:=o.pick e g 2;have b:=i.len e;refine⟨_,_,_,i.fin e (k:=36) (op:=E) (n:=0) (t:=⟨#[]⟩) (jH (by decide) (by omega) (by decide) (lJ (by decide)) (by omega) q (by simp) (pl1 C)),?_,G.fin1 (λbb h=>by rw[h];exact as0 (by omega) F (by omega)) rfl⟩;clear w q j l o i v e z B y A s r;intro H ad K h;have a:=h.at
 have c:=a.cs;clear h;go_in
 repeat' (go_wp2_with (at_builtin;with_reducible refine At.app a rfl (by simp) rfl _ _ rfl rfl rfl ?_;clear a c;intro p ar f a;have c:=a.cs);first
  |(go_at_call 35;(first|with_reducible refine At.runC a (by assumption) ?_|with_reducible refine At.runC a.lit2 (by assumption) ?_|with_reducible refine At.runC a.lit1 (by assumption) ?_);clear a c;intro f a _;have c:=a.cs)
  |(go_at_call 102;with_reducible refine At.runR a (by assumption) ?_;clear a c;intro f p u a;have c:=a.cs)
  |(go_at_call 103;with_reducible refine At.runR a (by assumption) ?_;clear a c;intro f p u a;have c:=a.cs)
  |(go_at_call 101;(first|with_reducible refine At.kids a.lit1 b.1.2 b.1.1 ?_|with_reducible refine At.kids a.lit2 b.1.2 b.1.1 ?_|with_reducible refine At.kids a.nilI b.1.2 b.1.1 ?_);clear a c;intro f a;have c:=a.cs)
  |(go_at_call 104;(first|with_reducible refine At.add a.lit1.nilS b.1.2 b.1.1 ?_|with_reducible refine At.add a.lit2.nilS b.1.2 b.1.1 ?_|with_reducible refine At.add a.lit1.swap b.1.2 b.1.1 ?_|with_reducible refine At.add a.lit2.swap b.1.2 b.1.1 ?_|with_reducible refine At.add a.swap b.1.2 b.1.1 ?_|with_reducible refine At.add a b.1.2 b.1.1 ?_|with_reducible refine At.add a.nilS b.1.2 b.1.1 ?_|with_reducible refine At.add a.nilI.nilS b.1.2 b.1.1 ?_);clear a c;intro f a;have c:=a.cs)
  |(go_ret;exact⟨rfl,a.bd,a.bel⟩)
  |(with_reducible refine At.run a (by assumption) ?_;clear a c;intro f a;have c:=a.cs))
def aly{mb me cb ce:Int}(ba:1<=d)(K:(1<=mb/\mb+1<=m)/\1<=me/\me+1<=m)(I:0<=ce/\ce<=cb/\cb<=3900)(z: -1000<=d/\d<=1000)(y:FB 162 (d-1) mb 2 cb 0 Bk 4 0)(H:FB 105 (d-1) me 1 ce 0 Ek 3 0):FB 107 d m 4 (cb+3) 0 Tk' 0 (-1):=by
 intro h a0 a5 ar c;have J:=c.lo;have L:=c.m0;have bb:=w1 z;obtain⟨n,a6,p,i,bc⟩:=c.mv.pick c h 4;rcases(show n=0\/n=1\/(n≠0/\n≠1) by omega) with rfl|rfl|⟨w,x⟩
 case' inl=>
  obtain⟨an,C,B,q,o,l,ak,s⟩:=i.sub c h y;obtain⟨bf,v,au,ad,F,f,A,al⟩:=l.sub c h H;have b:=f.len c;refine⟨_,_,_,f.fin c (k:=32) (op:=0) (n:=0) (t:=⟨#[]⟩) (jH (by decide) (by decide) (by decide) (lJ (by decide)) (by decide) lC (by simp) (pl2 q ad)),?_,s.fin2 al (by omega) (λao bh g G=>kf2 (by omega) (by omega) g.1 G) (by decide)⟩;clear i l f o F p
 case' inr.inl=>
  obtain⟨an,C,B,q,o,l,ak,s⟩:=i.sub c h y;obtain⟨t,v,ht,f,A,r⟩:=l.short c h;have b:=f.len c;refine⟨_,_,_,f.fin c (k:=33) (op:=0) (n:=0) (t:=t) (jH (by decide) (by decide) (by decide) (ahv (by decide) ht) (by decide) lC (by simp) (pl1 q)) (ht:=by have:=ht.sz;omega),?_,s.fin1 (λao g=>kf1 (.inr (.inl ⟨rfl,g.2,r⟩)) (.inr rfl) (.inl rfl) g.1) (by decide)⟩;clear i l f o p ht
 case' inr.inr=>
  have a8:(n==0)=A0:=by simpa using w
  have a9:(n==1)=A0:=by simpa using x
  obtain⟨t,v,ht,f,A,r⟩:=i.short c h;have b:=f.len c;refine⟨_,_,_,f.fin c (k:=26) (op:=0) (n:=0) (t:=t) (jH (by decide) (by decide) (by decide) (ahv (by decide) ht) (by decide) lC (by simp) pl0) (ht:=by have:=ht.sz;omega),?_,Sx.fin0 (aqK r) (by decide)⟩;clear i f p ht w x
 all_goals
  clear c J L I K z;intro ap a4 ax g;have a:=g.at
  have e:=a.cs;clear g;go_in
  repeat' (go_wp2_with (at_builtin;with_reducible refine At.app a rfl (by simp) rfl _ _ rfl rfl rfl ?_;clear a e;intro u a7 j a;have e:=a.cs);first
   |(go_at_call 35;(first|with_reducible refine At.runC a (by assumption) ?_|with_reducible refine At.runC a.lit2 (by assumption) ?_|with_reducible refine At.runC a.lit1 (by assumption) ?_);clear a e;intro j a _;have e:=a.cs)
   |(go_at_call 102;with_reducible refine At.runR a (by assumption) ?_;clear a e;intro j u E a;have e:=a.cs)
   |(go_at_call 103;with_reducible refine At.runR a (by assumption) ?_;clear a e;intro j u E a;have e:=a.cs)
   |(go_at_call 101;(first|with_reducible refine At.kids a.lit1 b.1.2 b.1.1 ?_|with_reducible refine At.kids a.lit2 b.1.2 b.1.1 ?_|with_reducible refine At.kids a.nilI b.1.2 b.1.1 ?_);clear a e;intro j a;have e:=a.cs)
   |(go_at_call 104;(first|with_reducible refine At.add a.lit1.nilS b.1.2 b.1.1 ?_|with_reducible refine At.add a.lit2.nilS b.1.2 b.1.1 ?_|with_reducible refine At.add a.lit1.swap b.1.2 b.1.1 ?_|with_reducible refine At.add a.lit2.swap b.1.2 b.1.1 ?_|with_reducible refine At.add a.swap b.1.2 b.1.1 ?_|with_reducible refine At.add a b.1.2 b.1.1 ?_|with_reducible refine At.add a.nilS b.1.2 b.1.1 ?_|with_reducible refine At.add a.nilI.nilS b.1.2 b.1.1 ?_);clear a e;intro j a;have e:=a.cs)
   |(go_ret;exact⟨rfl,a.bd,a.bel⟩)
   |(with_reducible refine At.run a (by assumption) ?_;clear a e;intro j a;have e:=a.cs))
def flL:List ByteArray:=[⟨#[49,46,53]⟩,⟨#[48,46,48]⟩,⟨#[49,101,57]⟩,⟨#[50,46,50,53,101,45,51]⟩,⟨#[57,50,50,51,51,55,50,48,51,54,56,53,52,55,55,53,56,48,56]⟩]
section
variable {T : Int} {c : Cr} {L : List Nd} {m : Int}
def am6(p:Pd T c L m)(C:Cd)(bn:1<=m):∃z y L',An T c L y L' z 1 1 0/\Rb C T 164 [] c L (Ax Z z) y L'/\∀d,Sx Ek d 3 0 T L L' z:=by
 have bl:=p.lo;have bo:=p.m0;have⟨z,A,bs,g,I⟩:=p.mv.pick p C 9;have e:=g.len p;have H:=g.p0;have bj:=g.p;rcases(show z=0\/(z=1\/z=2)\/z=3\/z=4\/z=5\/(z≠0/\z≠1/\z≠2/\z≠3/\z≠4/\z≠5) by omega) with rfl|h12|rfl|rfl|rfl|⟨ap,ar,au,ax,a0,a3⟩
 case' inl=>
  have⟨i,l,bb,r,u⟩:=g.pick p C 3;have br:=wi (a:=20+i) (by omega);refine⟨_,_,_,r.fin p (k:=20+i) (op:=0) (n:=0) (t:=⟨#[]⟩) (jH (by omega) (by decide) (by decide) (lJ (by omega)) (by decide) lC (by simp) pl0),?_,λd=>Sx.fin0 (kf0 _ (by omega)) (by omega)⟩
 case' inr.inl=>
  have⟨n,l,a7,a4,u⟩:=ak2 C A H.1 (by omega);have r:Mv T c L l L 4:=⟨g.nx.trans (Nx.refl L a4.2.2),g.n,by omega,by omega,g.lo⟩;refine⟨_,_,_,r.fin p (k:=23) (op:=0) (n:=n) (t:=⟨#[]⟩) (jH (by decide) (by decide) a7 (lJ (by decide)) (by decide) lC (by simp) pl0),?_,λd=>Sx.fin0 asJ (by decide)⟩
 case inr.inr.inl=>
  have⟨i,l,bb,r,u⟩:=g.pick p C 5;obtain⟨t,ht⟩:∃t,flL[i.toNat]?=Q t:=⟨_,az (show i.toNat<5 by omega)⟩;have K:t.size<=19:=(show ∀t∈flL,t.size<=19 by decide) t (cG ht);refine⟨_,_,_,r.fin p (k:=24) (op:=0) (n:=0) (t:=t) (jH (by decide) (by decide) (by decide) (.inl ⟨by decide,K,wg (by omega)⟩) (by decide) lC (by simp) pl0) (ht:=K),λE G F h=>?_,λd=>Sx.fin0 (asK ((show ∀t∈flL,fok t=O by decide+kernel) t (cG ht))) (by decide)⟩;have b:=h.at
  have f:=b.cs;rcases(show i=0\/i=1\/i=2\/i=3\/i=4 by omega) with rfl|rfl|rfl|rfl|rfl;all_goals
   obtain rfl:=bz (show Q (_:ByteArray)=Q t from ht);go_in;go_wp2_with fail;refine b.runC I λw1 j _=>?_;have ba:=j.cu;have f:=j.cs;go_wp2_with fail;refine j.al.runC u λak s a5=>?_;have bt:=age ba a5;have w:=am s;go_wp2_with fail;refine w.out.nilI.nilS.add e.1.2 e.1.1 λan o=>?_;go_wp2;go_ret;exact⟨rfl,o.bd,o.bel⟩
 case inr.inr.inr.inl=>
  have⟨B,l,a9,bp,u⟩:=aqk C A H.1 (by omega) H.2;have ad:∀{t:ByteArray},Rb C T 164 [] c L (Ax Z (L.length:Nat)) l (L++[dN 25 0 0 t [] []])->(Sml t/\A.r<=l.r\/(Lng t/\t.size<=4000/\A.r+1<=l.r))->(A.r<=3->l.r<=3)->∃z y L',An T c L y L' z 1 1 0/\Rb C T 164 [] c L (Ax Z z) y L'/\∀d,Sx Ek d 3 0 T L L' z:=λ{t} k h a8=>⟨_,_,_,⟨g.nx.add (jH (by decide) (by decide) (by decide) (.inr ⟨rfl,h.imp (λq=>q.1) λq=>⟨q.1,q.2.1⟩⟩) (by decide) lC (by simp) pl0) (by
   rcases h with h|h
   .rw[aeh (show(dN 25 0 0 t [] []).x.size<=19 from h.1.1)];omega
   .have:bgN (dN 25 0 0 t [] [])<=1:=by unfold bgN;split<;>decide
    omega) a8,by simp,by simp,by simp;omega,⟨by omega,by omega⟩,by simp only[bm,bB,fs];omega⟩,k,λd=>Sx.fin0 (asL (by rcases h with h|h;exact di h.1.1 (by decide);exact h.2.1)) (by decide)⟩
  by_cases bk:4000<B.size
  .have a6:(4000:Int)<(B.size:Int):=by omega
   refine ad (t:=⟨#[99,117,116]⟩) (λE G F h=>?_) (.inl ⟨⟨by decide,wg⟩,by omega⟩) (by omega);have b:=h.at
   have f:=b.cs;go_in;go_wp2_with fail;refine b.runC I λw1 j _=>?_;have f:=j.cs;go_wp2_with fail;refine j.runC u λak s _=>?_;have f:=s.cs;have w:=am s;go_wp2_with fail;refine w.out.nilI.nilS.add e.1.2 e.1.1 λan o=>?_;go_wp2;go_ret;exact⟨rfl,o.bd,o.bel⟩
  .have a6:¬(4000:Int)<(B.size:Int):=by omega
   refine ad (t:=B) (λE G F h=>?_) (a9.imp (λq=>⟨q.1,by omega⟩) λq=>⟨q.1,by omega,by omega⟩) (by omega);have b:=h.at
   have f:=b.cs;go_in;go_wp2_with fail;refine b.runC I λw1 j _=>?_;have f:=j.cs;go_wp2_with fail;refine j.runC u λak s _=>?_;have f:=s.cs;have w:=am s;go_wp2_with fail;refine w.out.nilI.nilS.add e.1.2 e.1.1 λan o=>?_;go_wp2;go_ret;exact⟨rfl,o.bd,o.bel⟩
 case' inr.inr.inr.inr.inl=>
  refine⟨_,_,_,g.fin p (k:=27) (op:=0) (n:=0) (t:=⟨#[]⟩) (jH (by decide) (by decide) (by decide) (lJ (by decide)) (by decide) lC (by simp) pl0),?_,λd=>Sx.fin0 (kf0 _ (by decide)) (by decide)⟩
 case' inr.inr.inr.inr.inr=>
  have⟨t,l,ht,r,u,bc⟩:=g.short p C;refine⟨_,_,_,r.fin p (k:=26) (op:=0) (n:=0) (t:=t) (jH (by decide) (by decide) (by decide) (ahv (by decide) ht) (by decide) lC (by simp) pl0) (ht:=by have:=ht.sz;omega),?_,λd=>Sx.fin0 (aqK bc) (by decide)⟩;have bh:((z==0)=A0/\(z==1)=A0/\(z==2)=A0)/\(z==3)=A0/\(z==4)=A0/\(z==5)=A0:=by simp[ap,ar,au,ax,a0,a3]
 case' inr.inl=>rcases h12 with rfl|rfl
 all_goals
  intro E G F h;have b:=h.at
  have f:=b.cs;go_in
  repeat' (go_wp2_with (at_builtin;with_reducible refine At.app b rfl (by simp) rfl _ _ rfl rfl rfl ?_;clear b f;intro J bf v b;have f:=b.cs);first
   |(go_at_call 35;(first|with_reducible refine At.runC b (by assumption) ?_|with_reducible refine At.runC b.lit2 (by assumption) ?_|with_reducible refine At.runC b.lit1 (by assumption) ?_);clear b f;intro v b _;have f:=b.cs)
   |(go_at_call 216;with_reducible refine At.runC b (by assumption) ?_;clear b f;intro v b _;have f:=b.cs)
   |(go_at_call 102;with_reducible refine At.runR b (by assumption) ?_;clear b f;intro v J ao b;have f:=b.cs)
   |(go_at_call 103;with_reducible refine At.runR b (by assumption) ?_;clear b f;intro v J ao b;have f:=b.cs)
   |(go_at_call 101;(first|with_reducible refine At.kids b.lit1 e.1.2 e.1.1 ?_|with_reducible refine At.kids b.lit2 e.1.2 e.1.1 ?_|with_reducible refine At.kids b.nilI e.1.2 e.1.1 ?_);clear b f;intro v b;have f:=b.cs)
   |(go_at_call 104;(first|with_reducible refine At.add b.lit1.nilS e.1.2 e.1.1 ?_|with_reducible refine At.add b.lit2.nilS e.1.2 e.1.1 ?_|with_reducible refine At.add b.lit1.swap e.1.2 e.1.1 ?_|with_reducible refine At.add b.lit2.swap e.1.2 e.1.1 ?_|with_reducible refine At.add b.swap e.1.2 e.1.1 ?_|with_reducible refine At.add b e.1.2 e.1.1 ?_|with_reducible refine At.add b.nilS e.1.2 e.1.1 ?_|with_reducible refine At.add b.nilI.nilS e.1.2 e.1.1 ?_);clear b f;intro v b;have f:=b.cs)
   |(go_ret;exact⟨rfl,b.bd,b.bel⟩)
   |(with_reducible refine At.run b (by assumption) ?_;clear b f;intro v b;have f:=b.cs))
end
def wz(z:A9)(n:Nat)(h:z.cells.size=1):(Builtin.zeroCells z.cells n).size=n:=by unfold Builtin.zeroCells;simp[h]
def aiJ(n:Nat)(u:1<=n)(v:n<=1000000)(w:B0):Calls B3 261 #[U V 0 0,Ax Z (n:Int)] w λe w'=>
  ∃c,e= .returned (U (Q ⟨w.heap.size,0,V⟩) 0 c)/\AK w.heap.size w' (U (Q ⟨w.heap.size,0,V⟩) 0 c) []/\be w w':=by
 obtain⟨t,q,r,s,p⟩:=eu zt;have d:∀h,(Builtin.append_ #[58,3] h #[U V 0 0,Ax Z (n:Int)]).run B3 w= .ok (U (Q ⟨w.heap.size,0,V⟩) (0+n) (grownCap w (0+n) 0 9)) (w.drew.alloc (A2 ([].toArray++Builtin.zeroCells (B1 ⟨#[]⟩).cells n++Builtin.zeroCells (B1 ⟨#[]⟩).cells (grownCap w (0+n) 0 9-(0+n))) 9)):=λh=>
  Lib.run_append_grow_zeros w 58 3 h 9 t (B2 ⟨#[]⟩) Z Z Tryz.underlying58 Tryz.underlying3 q r V 0 0 [] (run_firstCells_none _ _ _ _ _) n (by omega) (by rw[s];omega) (by omega) (by omega) (by rw[p];omega) (growslice_fits (by omega) (by rw[p];omega))
 have k:0+n<=grownCap w (0+n) 0 9:=grownCap_ge w _ _ _;have f:=grownCap_le_maxLen w (0+n) 0 9 (by unfold maxLen;omega);obtain⟨a,j⟩:∃a,a=grownCap w (0+n) 0 9:=⟨_,rfl⟩;rw[<-j]at d k f;obtain⟨b,g⟩:∃b,([].toArray++Builtin.zeroCells (B1 ⟨#[]⟩).cells n++Builtin.zeroCells (B1 ⟨#[]⟩).cells (a-(0+n)))=b:=⟨_,rfl⟩;have o:b.size=a:=by rw[<-g];rw[Array.size_append,Array.size_append,wz _ _ rfl,wz _ _ rfl];simp;omega
 rw[g]at d;have l:be w (w.drew.alloc (A2 b 9)):=(aw (ah _ w)).alloc (af _) _;have m:AK w.heap.size (w.drew.alloc (A2 b 9)) (U (Q ⟨w.heap.size,0,V⟩) 0 a) []:=by
  refine⟨rfl,.inr ⟨w.heap.size,a,b,rfl,af _,aB w.drew _,aH _,f,by rw[o];omega,by simp⟩⟩
 have i:Hid (AK w.heap.size (w.drew.alloc (A2 b 9)) (U (Q ⟨w.heap.size,0,V⟩) 0 a) []/\be w (w.drew.alloc (A2 b 9))):=⟨m,l⟩;rw[show 0+n=n by omega]at d k;clear m l g j o f;go_enter Tryz.func261,Tryz.ntmps261;go_wp2_with (at_builtin;refine Lib.wpList_append_run _ rfl _ _ _ _ rfl _ _ rfl rfl _ _ (d _) ?_);all_goals (go_ret;exact⟨a,rfl,i.out.1,i.out.2⟩)
def tJ{b:B0}{a:Nat}{ns:List Nd}{L:List Im}{base:Nat}{e:A9}(c:Nat)(g:Tp b ns L base e){t:Nat}(l:i<ns.length)(m:(ab ns i).k=(c:Int)){d:ByteArray}(o:Pw b a f #[vP a,ju b t,nV (ny L i)] d)(j:(abi a)[c]?=Q (mv a f):=by rfl)(n:c<43:=by decide)(h:∀(args:Array A9) (w:B0),(callFunc f args).run B3 w= .ok (.enter f args) w:=by intro args w;kernel_rfl):FD b a L t i d:=aiq b a ns L base e g t i l c m n f j h d o
section
variable {w : World} {lo e size n m c g : Nat} {a : Option Addr} {v : Value} {L : List Mb} {xs : List Value}
def ach(o:w.ownsRow lo e size (U a n c) m xs):n<=c/\∀b,a=Q b->b=⟨b.block,b.off,V⟩:=by
 rcases o.2 with⟨d,_⟩|⟨i,g,h,d,_,_,f,_⟩
 .cases d;exact⟨af _,λb d=>by cases d⟩
 .cases d;exact⟨f,λb d=>by cases d;rfl⟩
def abj.lw{c:Nat}(h:abj w lo c v L):Lw w lo v L:=⟨h.row,λb a=>⟨(h.each b a).on,(h.each b a).ok⟩⟩
def Lw.ex(h:Lw w lo (U (Q ⟨g,0,V⟩) n c) L){N:Nd}(a:(L.map Mb.N)[i]?=Q N):∃x∈L,x.N=N/\w.cell? ⟨((⟨g,0,V⟩:Addr).add (i*9)).block,((⟨g,0,V⟩:Addr).add (i*9)).off+7,V⟩=Q x.vn/\w.cell? ⟨((⟨g,0,V⟩:Addr).add (i*9)).block,((⟨g,0,V⟩:Addr).add (i*9)).off+8,V⟩=Q x.vk:=by
 rw[ci]at a;cases hx:L[i]? with
 |none=>rw[hx]at a;cases a
 |some x=>
  rw[hx]at a;have j:L.length=n:=by obtain⟨_,_,d⟩:=cg h.row;simp at d;exact d.2.1.symm
  have b:=h.row;rw[j]at b;obtain⟨k,l,m,o,p,c5,q,e,f⟩:=th b hx;rw[show(⟨g,0,V⟩:Addr).add (i*9)=⟨g,i*9,V⟩ by unfold Addr.add;split<;>simp_all];exact⟨x,cG hx,bz a,e,f⟩
def Lw.cap(h:Lw w lo (U (Q ⟨g,0,V⟩) n c) L):Ep w ⟨g,0,V⟩ (L.map Mb.N):=by
 intro m N j k e a;obtain⟨i,f,rfl,l,d⟩:=h.ex e;rw[d]at a;have b:=(h.each i f).2;rw[bz a]at b;exact(ach b).1
def Lw.strj(h:Lw w lo v L):∀(a:Addr)(n c i:Nat)(N:Nd)(f:A9),v= U (Q a) n c->(L.map Mb.N)[i]?=Q N->w.cell? ⟨(a.add (i*9)).block,(a.add (i*9)).off+7,V⟩=Q f->uK f:=by
 intro a n c i N f b m g j t q l;rcases bJ h.row with⟨_,d⟩|⟨s,r,d⟩
 .rw[d]at b;cases b
 rw[d]at b h;cases b;obtain⟨p,o,_,k,_⟩:=h.ex m;rw[k]at g;have e:=(h.each p o).1;rw[bz g,l]at e;exact⟨(ach e).1,(ach e).2 j rfl⟩
end
def C9.small{N:Nd}(h:C9 N):jE N:=⟨by have:=h.nm;omega,by have:=h.ks;omega,by have:=h.x.size;omega,λb a=>by have:=(h.s b a).sz;omega⟩
