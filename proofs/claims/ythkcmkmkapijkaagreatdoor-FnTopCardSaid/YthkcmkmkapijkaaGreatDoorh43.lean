import Derived.Test.YthkcmkmkapijkaaGreatDoorh39
import Derived.Test.YthkcmkmkapijkaaGreatDoorh42
set_option linter.all false
set_option maxRecDepth 100000
set_option maxHeartbeats 1600000
open List renaming length->M,set->A0
open Go renaming undef->V,wpAnyH_ready->A9,grownBy_putObj'->B1,World->B4,KeepsFrom->B7
open Go.Value renaming string->Y,bool->B3,agg->B6,int->B9,ownBlock->C2
open Option renaming some->Ax
open Go.AllReadyH renaming cons->A1,nil->A3
open Go.World renaming putObj_heap_other->A2,setCell->B2
open Go.Obj renaming cells->A5
open Bool renaming false->B0,true->B5
namespace Go.Proofs.YthkcmkmkapijkaaGreatDoor
open Go.RowKit Go.Maps Go.WideMaps
variable{F:Fo}{T:Bz}{l:zLW}{ns:zLD}
theorem aoL(d:Wzd ns)(j:∀i:Nat,i<M ns->oC (ab ns i)):∀f i tab,i<f->i<M ns->
  (gh (ab ns i).k=B5->Jj ns i (sI ns f i tab))/\(jE (ab ns i).k=B5->SCl ns i (ry ns f i tab))/\((ab ns i).k=7->∃y,BCl ns i y/\∀w,uL ns f i w tab=w++y)
 |0,i,tab,l,_=>O|f+1,i,tab,l,m=>by
  have h:=λ(a g) (e:a<i) c=>aoL d j f a g O c;have n:JzE ns (λk=>sI ns f k tab) (λk g=>ry ns f k g) i tab:=⟨λa e c b=>(h a tab e c).1 b,λa e c b=>(h a _ e c).2.1 b,j⟩;have o:(ab ns i).k=7->∃y,BCl ns i y/\∀w,yp ns (λk=>sI ns f k tab) (λk g=>ry ns f k g) (λk w=>uL ns f k w tab) (ab ns i) w tab=w++y:=λb=>
   azG n d m b λa e c b=>(h a tab e c).2.2 b
  grind [sI,au7,ry,au8,uL]
def aeg(l:zLW)(e:Fo):Prop:=∀(c:Nat->Tk)(b a:Nat),a<b->rh c b 0 l a->(c a).k=6->∃d:Fo,d.bare=e/\P c b .stats 0 d a/\DD c b [100,6] 0 (a+1)
def ao0:aeg [] .nil:=λ_ _ _ b c a=>by
 obtain rfl:=c.nils;exact⟨_,R,.sstop (.inr a) b,DD.exp a (by decide:xE 100 6=([],B5)) b<|DD.tok a b ⟨0,.nil⟩⟩
inductive StL:zLW->List (zLW×Fo)->Prop where|nil:StL [nlW] []|cons {l m:zLW}{F:Fo}{cs:List (zLW×Fo)}:Jh l F->StL m cs->StL (nlW::(l++m)) ((l,F)::cs)
inductive Rts:zLW->List (zLW×Fo)->Prop where|nil:Rts [] []|cons {l m:zLW}{F:Fo}{cs:List (zLW×Fo)}:Jh l F->StL m cs->Rts (l++m) ((l,F)::cs)
def csF:List (zLW×Fo)->Fo|[]=> .nil|x::r=>x.2.app<|csF r
def StL.slc{m cs}(h:StL m cs):SLc m (csF cs):=by
 induction h with
 |nil=>exact SLc.nil|cons a c b=>exact SLc.cons a b
def Rts.root{cs}(h:Rts l cs):aeg l (csF cs):=by
 cases h with
 |nil=>exact ao0|cons a b=>exact aua a b.slc
def Le{S:Int->Bz}:∀ks,(∀z∈ks,∃y:Nat,z=(y:Int)/\SCl ns y (S y))->∃m cs,jr sL (⟨#[10]⟩++iw (ks.map λk=>S k++⟨#[10]⟩)) m/\StL m cs/\csF cs=sA (Sh ns) ks
 |[],_=>⟨[nlW],[],ahw,.nil,R⟩|z::r,h=>by
  obtain⟨y,rfl,l,b,c,d⟩:=h z bG;obtain⟨m,cs,e,f,g⟩:=Le r λy a=>h y<|dJ _ a;refine⟨_,_,?_,.cons d f,by rw[csF,g];rfl⟩;rw[eA,IC,aB];exact ahw.app (c.app e aK Fx) (aK b) R
theorem ar7(h:(bH ns).1=0)(m:∀i:Nat,i<M ns->oC (ab ns i)):
  ∃l cs,Rz (fK ns) 0 l (fK ns).size/\Rts l cs/\csF cs=sA (Sh ns) (ab ns<|(M ns:Int)-1).ks:=by
 have c:=aa0 h;have t:=c.len;have j:((M ns:Int)-1)=((M ns-1:Nat):Int):=O;have f:=(Bp h).2.2;unfold fK;rw[j]at f⊢;have n:=(jf<|c.nb (M ns-1) O).1;have b:∀d∈(ab ns ((M ns-1:Nat):Int)).ks,∃a:Nat,d=(a:Int)/\SCl ns a (ry ns (M ns) a 0):=λd b=>by
  obtain⟨a,rfl,_,e,o,_,k⟩:=xb c O b;have g:=Iu _ 0 (vw n f) o O O;rw[k]at g;exact⟨a,R,(aoL c m _ a 0 e e).2.1 g⟩
 cases er:(ab ns ((M ns-1:Nat):Int)).ks with
 |nil=>
  exact⟨_,_,.nil,.nil,R⟩|cons d g=>
  rw[er]at b;obtain⟨a,rfl,l,_,o,p⟩:=b d bG;obtain⟨_,cs,q,r,s⟩:=Le (S:=λe=>ry ns _ e 0) g λa k=>b a<|dJ _ k;refine⟨_,_,?_,.cons p r,by rw[csF,s];rfl⟩;rw[eA,IC,aB];have:=(o.app q aK Fx) (ry ns (M ns) a 0++(⟨#[10]⟩++iw (g.map λe=>ry ns (M ns) e 0++⟨#[10]⟩))) 0 ⟨O,λi _=>U⟩ R;grind
inductive Exw:zLW->zLW->Prop where|nil:Exw [] []|tok {t:Wt}{l e:zLW}:t.k≠7->Exw l e->Exw (t::l) (t::e)|sep {t u:Wt}{l e:zLW}:t.k=7->u.k=7->Exw l e->Exw (t::l) (u::e)|more {t u:Wt}{l e:zLW}:t.k=7->u.k=7->Exw (t::l) e->Exw (t::l) (u::e)
def Exw.refl:∀l,Exw l l
 |[]=> .nil|t::l=>by
  by_cases h:t.k=7
  .exact .sep h h (Exw.refl l)
  .exact .tok h (Exw.refl l)
theorem Exw.seg{e}(h:Exw l e):∀{tk}{n i},i+M e<=n->(∀q t,e[q]?=Ax t->(tk<|i+q).k=KC t/\(t.k≠7->(tk<|i+q).n=t.n/\(tk<|i+q).x=t.x))->rh tk n i l (i+M e):=by
 induction h with
 |nil=>intro tk n i _ _;exact .nil|@tok t l e b m j=>
  intro tk n i f c;rw[dD]at f⊢;have⟨a,d⟩:=c 0 t R;rw[jy]at a d;unfold KC at a;rw[aa b]at a;have:=j (tk:=tk) (n:=n) (i:=i+1) O λq t g=>by have:=c (q+1) t g;grind
  rw[(O:i+(M e+1)=i+1+M e)];exact .tok b a (d b).1 (d b).2 O this|@sep t o l e b m p j=>
  intro tk n i f c;rw[dD]at f⊢;have⟨a,d⟩:=c 0 o R;rw[jy]at a d;unfold KC at a;rw[ae m]at a;have:=j (tk:=tk) (n:=n) (i:=i+1) O λq t g=>by have:=c (q+1) t g;grind
  rw[(O:i+(M e+1)=i+1+M e)];exact .sep b a O this|@more t o l e b m p j=>
  intro tk n i f c;rw[dD]at f⊢;have⟨a,d⟩:=c 0 o R;rw[jy]at a d;unfold KC at a;rw[ae m]at a;have:=j (tk:=tk) (n:=n) (i:=i+1) O λq t g=>by have:=c (q+1) t g;grind
  rw[(O:i+(M e+1)=i+1+M e)];exact .more b a O this
def ayr{w c k n}(h:Alo w k n c):1<=k/\k<=78/\k≠6:=by
 have b:=Hw w 0 h.ok;have a:=ah1 w 0 h.ok;unfold tG at a;rw[ae h.ok]at a;rw[h.ki]at b a;omega
theorem aAg{p q f}(h:JE T p l f q):∀t∈l,1<=KC t/\KC t<=78/\KC t≠6:=by
 induction h with
 |nil=>grind|bl b c a=>exact a|rem b c d a=>exact a|tok b c d g i j _ _ _ k a=>
  intro e hu;obtain rfl|hu:=dI.1 hu
  .unfold KC;rw[aa b];exact ayr d
  grind
 |sep b c _ d a=>
  intro e hu;obtain rfl|hu:=dI.1 hu
  .decide
  grind
theorem JE.at_{d p z e ts}(h:JE d p e ts z):M ts=M e/\∀(q:Nat) t,e[q]?=Ax t->∃X:Tk,ts[q]?=Ax X/\X.k=KC t/\(t.k≠7->X.n=t.n/\X.x=t.x):=by
 induction h with
 |nil=>grind|bl _ _ a=>exact a|rem _ _ _ a=>exact a|@tok _ _ _ t l X ts g i b o r s u v w _ a=>
  refine⟨U,λq c j=>?_⟩;cases q with
  |zero=>
   simp_all [KC]|succ q=>grind
 |@sep _ _ l m X ts g i b _ a=>
  refine⟨U,λq c j=>?_⟩;cases q with
  |zero=>
   obtain rfl:nlW=c:=U;exact⟨X,R,b,λf=>absurd R f⟩
  |succ q=>grind
def Er(a:Bz)(b:Int):Tk:=⟨6,(a.size:Nat),(a.size:Nat),b,0,zE0⟩
theorem abx{ts}{X E:Tk}{q}(h:ts[q]?=Ax X):rJ (ts++[E]) q=X:=xe U
theorem aby(ts)(E:Tk):rJ (ts++[E]) (M ts)=E:=xe U
theorem ays{e r}(h:JE T 0 e r T.size)(o:Exw l e)(w:aeg l F):∃ts a c,jz T=(ts++[Er T a],c, -1)/\(feedL c 6).2=B5/\JE T 0 e ts T.size/\(∀X∈ts,X.k≠6)/\Smp r ts/\M ts=M e/\∀q t,e[q]?=Ax t->(rJ (ts++[Er T a]) q).k=KC t/\(t.k≠7->(rJ (ts++[Er T a]) q).n=t.n/\(rJ (ts++[Er T a]) q).x=t.x):=by
 have E:=aAg h;obtain⟨b,_⟩:∃b:zLT,b=e.map λt=>(⟨KC t,0,0,0,t.n,t.x⟩):=⟨_,R⟩;have H:M b=M e:=U;have G:∀q t,e[q]?=Ax t->rJ (b++[Er T 0]) q=⟨KC t,0,0,0,t.n,t.x⟩:=λq t f=>abx U;have m:rJ (b++[Er T 0]) (M e)=Er T 0:=by grind [aby]
 have p:=o.seg (tk:=rJ<|b++[Er T 0]) (n:=M e+1) (i:=0) O λq t f=>U;rw[qp]at p;obtain⟨_,_,_,A,s⟩:=w _ _ _ (Nat.lt_succ_self _) p (by rw[m];rfl);obtain⟨_,j⟩:=as5 (e.map KC++[6]) _ 0 A _ s I (λx o=>U) λq k d=>by
  rw[qp];obtain g|g:=cG q<|M e
  .grind
  .rw[jI U,dm]at d;have u:q-M e=0:=by
    grind
   rw[u]at d;obtain rfl:(6)=k:=U;rw[(O:q=M e),m];exact⟨R,Z,Z⟩
 rw[ah4]at j;cases hf:fdK [100,6] (e.map KC) with
 |none=>grind|some c=>
  rw[hf]at j;have u:(feedL c 6).2=B5:=by
   grind [feedL,fdK]
  have⟨ts,a,z,f,y⟩:=arm h hf;have⟨C,B⟩:=f.at_;refine⟨ts,a,c,z,u,f,λX v=>?_,y,C,λq t d=>?_⟩
  case refine_2=>
   grind [abx]
  have⟨q,d,_⟩:=iD v;obtain⟨_,_,_,_⟩:=B q _<|bm O;grind
theorem ao1{e}(c:Rz T 0 e T.size)(f:Exw l e)(d:aeg l F):∃ts a b,jz T=(ts++[Er T a],b, -1)/\(feedL b 6).2=B5/\JE T 0 e ts T.size/\(∀X∈ts,X.k≠6)/\∃X:Fo,X.bare=F/\P (rJ<|ts++[Er T a]) (M ts+1) .stats 0 X (M ts):=by
 have⟨_,c⟩:=c.tks;have⟨ts,a,b,h,j,m,o,_,p,_⟩:=ays c f d;refine⟨ts,a,b,h,j,m,o,?_⟩;have g:=f.seg (tk:=rJ<|ts++[Er T a]) (n:=M ts+1) (i:=0) O λ_ _ _=>U;rw[qp,<-p]at g;obtain⟨X,_,_,_⟩:=d _ _ _ (Nat.lt_succ_self _) g (by rw[aby];rfl);grind
def ao2{n ts}(h:TkO n ts){q r}(b:q<=r)(a:r<M ts):0<=(rJ ts q).f/\(rJ ts q).f<=(rJ ts r).t/\0<=(rJ ts q).l:=by
 rw[xe<|bm (O:q<M ts),xe<|bm a];have c:=h.each ts[q] (pd _);have d:=h.each ts[r] (pd _);obtain rfl|g:=jx b
 .omega
 .have:=(List.pairwise_iff_getElem.1 h.next) q r O a g;omega
structure Gt (l:zLW) (F:Fo) (ns:zLD):Prop where
 rt:∃cs,Rts l cs/\csF cs=F
 ok:(bH ns).1=0
 bk:∀(y:Bz)(X:Fo),X.bare=F->(qG y X).map Nd.bk=ns.map Nd.bk
def Gt.rc(g:Gt l F ns):aeg l F:=by
 obtain⟨_,a,rfl⟩:=g.rt;exact a.root
def av1(f:∀N∈ns,oC N)(h:(bH ns).1=0):∃l F,Gt l F ns/\Rz (fK ns) 0 l (fK ns).size:=by
 have a:=aa0 h;have m:=a.len;obtain⟨l,d,j,g,e⟩:=ar7 h λ_ i=>f _ (by unfold ab;rw[rj,List.getD,bm i];exact pd _);refine⟨l,_,⟨⟨d,g,e⟩,h,λ_ _ b=>?_⟩,j⟩;have k:=(jf<|a.nb (M ns-1) O).1;have c:=(Bp h).2.2;rw[(O:((M ns:Int)-1)=((M ns-1:Nat):Int))]at b c;unfold qG;rw[<-Eh,dl,b,<-arp h,xo a O,Dh k,c];rfl
section
variable {l e : zLW} {F : Fo} {ns : zLD} {s y : Bz}
def Gt.acc(g:Gt l F ns)(d:Rz y 0 e y.size)(c:Exw l e):Acc y:=by
 have⟨_,_,_,a,b,_⟩:=ao1 d c g.rc;exact⟨by rw[a],by rw[a];exact b⟩
def Gt.outV(g:Gt l F ns)(k:y.size<=65536)(n:Rz y 0 e y.size)(j:Exw l e):∃ms,ark y ms/\ms.map Nd.bk=ns.map Nd.bk:=by
 have⟨o,w,_,m,q,_,t,a,s,f⟩:=ao1 n j g.rc;have h:nF y=(o++[Er y w], -1):=by unfold nF;rw[m,aa I,ae q]
 have F:=as3 k m I (aby o _) f λx b=>by rw[abx<|bm b];exact t _<|pd _
 have d:=anJ y;rw[h]at d;have u:=(P.pl (λx _ b v=>ao2 d b (by simpa using v)) f).2 trivial;have i:=g.bk y a s;exact⟨_,⟨_,_,a,_,k,g.acc n j,h,F,arq i g.ok λc r=>(Dk Pln (λc _ p=>p) _ 0 ((bu _ _ a).2 ⟨⟨Lu 0,by show(0:Int)<=(y.size:Nat);omega,by show(0:Int)<=1;decide⟩,u⟩) c r).1,R⟩,i⟩
end
theorem Je(a i):ab (a.map Nd.bk) i=(ab a i).bk:=by
 unfold ab;rw[ed,ed,cJ];cases a[i.toNat]?<;>rfl
section
variable (ns : zLD) (E : Int → Bz) (S : Int → Nat → Bz) (Br : Int → Bz → Bz) (N : Nd) (w : Bz) (tab : Nat)
def ar8(k least):je (ns.map Nd.bk) E k least=je ns E k least:=by unfold je;rw[Je];rfl
def ayt(k):Hn (ns.map Nd.bk) E k=Hn ns E k:=by unfold Hn;rw[Je];rfl
def av3(X):uK (ns.map Nd.bk) E X.bk=uK ns E X:=rfl
theorem av4:prE (ns.map Nd.bk) E S N.bk tab=prE ns E S N tab:=by
 unfold prE D3 unB unS ae1 CH;simp only[ar8,ayt,Je,av3];rfl
theorem ar9:yp (ns.map Nd.bk) E S Br N.bk w tab=yp ns E S Br N w tab:=by
 unfold yp;simp[Je];rfl
theorem av6:prS (ns.map Nd.bk) E S Br N.bk tab=prS ns E S Br N tab:=by
 unfold prS CH;simp only[Je];rfl
end
theorem ayu(a):∀f,(∀i tab,sI (a.map Nd.bk) f i tab=sI a f i tab)/\(∀i tab,ry (a.map Nd.bk) f i tab=ry a f i tab)/\∀i w tab,uL (a.map Nd.bk) f i w tab=uL a f i w tab:=by
 intro f
 induction f with
 |zero=>exact⟨λ_ _=>rfl,λ_ _=>rfl,λ_ _ _=>rfl⟩|succ f b=>
  grind [sI,Je,av4,ry,av6,ar9,uL]
theorem akk(a):fK (a.map Nd.bk)=fK a:=by
 unfold fK;rw[dm,Je];simp[(ayu a _).2.1];rfl
attribute [local go_sem] oJ
def awf(W:B4)(b a c d e f g):W.grownBy (six W b a c d e f g) (Ax b):=by
 unfold six;refine qh ?_<|rD _ b 5 _;refine qh ?_<|rD _ b 4 _;refine qh ?_<|rD _ b 3 _;refine qh ?_<|rD _ b 2 _;refine qh ?_<|rD _ b 1 _;exact rD _ b 0 _
def aiu:(Tryz.prog.info? 58).map (λi=>(i.zero,i.size,i.bytes))=Ax (Ax<|B6 #[zI 0,zI 0,zI 0,zI 0,zI 0,nh],6,56):=J
structure Ad1 (w:B4) (gb:Nat) (s:Bz) (b mb:Nat) (W:B4):Prop where
 bl:Below w.heap.size w W
 b0:W.heap[w.heap.size]?=Ax (.cells #[be gb 0] 54 (0,0))
 b1:W.heap[w.heap.size+1]?=Ax (.cells #[.string s] 9 (0,0))
 sc:ja b W s (.map<|Ax mb) 0 0 1 B0
 mp:W.ownsMap Tryz.prog 9 (plainElem (H:=Unit) Tryz.prog 3) mb 22 (Dt 22)
 lo:w.heap.size+2<=b
 ne:mb≠b
structure awg (w:B4) (base gb mb:Nat) (s:Bz) (R1:zLT×zLI×Int) (e:Ending) (w':B4):Prop where
 out:(∃st stk toks l v,R1=(toks++[⟨6,(s.size:Nat),(s.size:Nat),l,0,zE0⟩],stk, -1)/\Jz st stk/\e= .returned v/\w'.ownsRow w.heap.size 58 6 v (M toks) (DF toks)/\GQ w' base gb mb st/\M st<=45*s.size+2/\M toks<=s.size/\Below base w w')\/(∃z,af4 s R1 z/\e= .panicked (akd z)/\Below base w w')
theorem abD(w ap C b7)(s:Bz)(h:GQ w ap C b7 [100,6])(ff:Kh w)(hw:s.size<=65536)(gr:14<=ap):
  Calls Tryz.prog 19 #[be C 0,Y s] w λe t=>awg w ap C b7 s (jz s) e t:=by
 have⟨f6,a8,c8⟩:=ff.tabs.word;have gt:C<w.heap.size:=by have⟨ax,ad,_⟩:=h.g.ex;exact aH ad
 have hn:=h.g.lo;refine abj (n:=5) Tryz.func19 R ?_;simp[iC,fh];refine vE (λ_ _=>vD ?_);go_wp2_with fail;generalize fk:(w.alloc _).alloc _=bb;have⟨fm,cn,ef,fu⟩:=Eu fk;clear fk;refine vE (λf9 eg=>?_);have eh:∀(b q:Nat)(ao:B4),Ad1 w C s b q ao->f9 {tmps:=#[be C 0,Y s,be w.heap.size 0,be (w.heap.size+1) 0,fe,be b 0,V,V,Y s,.map<|Ax q,B6 #[Y s,.map<|Ax q,zI 0,zI 0,zI 1,B3 B0],V,V,V,V,V,V,V,V,V,V,V,V,V,V,V,V,V,V,V,V,V,V,V,V,V,V,V,V,V,V,V,V,V],defers:=[]} ao:=by
  intro b q ao K;apply eg _ _;clear eg;have⟨tv,eF⟩:=aw ao.heap.size;have fg:=aH K.sc;have hh:=K.lo;refine vE (λ_ eh=>vD ?_);go_wp2_with fail;refine vE (λan y=>?_);refine vE (λ_ _=>vD ?_);go_wp2_with fail;apply ad3;have c6:=(ay ao.heap.size ao).alloc O<|A5 #[fe] 44 (0,0);have c7:Below w.heap.size w (ao.alloc<|A5 #[fe] 44 (0,0)):=K.bl.alloc O _;have ds:Gh b (ao.alloc<|A5 #[fe] 44 (0,0)) s (.map<|Ax q) 0 1 B0:=⟨0,(c6.block _ fg).trans K.sc⟩;have dn:=K.mp.alloc<|A5 #[fe] 44 (0,0);have ep:yH w ap C b7 tv s [100,6] [] (ao.alloc<|A5 #[fe] 44 (0,0)):=
   ⟨h.below c7,c7.mono O,(c6.block _ O).trans K.b0,(c6.block _ O).trans K.b1,⟨_,by rw[<-eF];exact au ao _,onN⟩⟩
  have da:=ff.below c7 O;have a4:(ao.alloc<|A5 #[.slice none 0 0] 44 (0,0)).heap.size=tv+1:=lr;rw[eF]at fg;generalize ao.alloc (A5 #[fe] 44 (0,0))=gd at ds dn ep da a4⊢;have et:=K.ne;clear c6 c7 K eF;have⟨b9,em⟩:=aw<|jz s;have er:=pE.begin s;rw[em]at er;obtain⟨F,av⟩:∃F:Nat->Int->B4->Prop,F=λp l c=>∃m af E A,pE s b9 m af p l E A/\yH w ap C b7 tv s m E c:=⟨_,R⟩;have c9:Iw b q (tv+1) s F gd 0 1 0 1:=⟨ds,dn,da,U,O⟩;have en:∀p l c B,F p l c->ScX b c->c.grownBy B (Ax b)->F p l B:=by
   intro p l c B h d ad;rw[av]at h⊢;obtain⟨m,af,E,A,g,f⟩:=h;exact⟨_,_,_,A,g,f.kept (.of_gr ad d) ⟨ad.os,ad.tape,ad.output,by have:=f.bl.size;have:=ad.size;have:=aH f.b0;omega,λbn al=>ad.block bn (by have:=aH f.b0;omega) U⟩⟩
  have el:∀p i l c,blk s (s.size+1) p=blk s (s.size+1) i->p<=i->i<=s.size->F p l c->F i l c:=by
   intro p i l c eq d u h;rw[av]at h⊢;obtain⟨m,af,E,A,g,f⟩:=h;exact⟨_,_,_,A,g.move eq d u,f⟩
  have ek:∀p l c,F p l c->0<=l/\l<=(p:Int)+1/\p<=s.size:=by
   intro p l c h;rw[av]at h;obtain⟨m,af,E,A,g,f⟩:=h;exact⟨g.l0,g.l1,g.le⟩
  have dq:∀{c:B4}{i p:Nat}{e6 l:Int}{cz:Loop}(r:Obj),Iw b q (tv+1) s F c i e6 p l->c.heap[tv+1+1]?=Ax (.loop cz)->Iw b q (tv+1) s F (c.putObj (tv+1+1) r) i e6 p l:=by
   intro c i p e6 l cz r h j;apply h.put j r O;have z:=h.ii;rw[av]at z⊢;obtain⟨m,af,E,A,g,f⟩:=z;refine⟨_,_,_,A,g,f.kept (.of_put j r) ?_⟩;exact(ay _ c).grown (B1 c _ r) U U
  refine arB (P:=Tryz.prog) (α:=Nat×Int) (n:=5) Tryz.func19 (gf:=49) (bd:=#[be b 0]) R (enters_of Tryz.func49 J R) (λd=>#[vTk ⟨(rdI s d.1).k,(d.1:Int),((rdI s d.1).a:Int),d.2,(rdI s d.1).n,(rdI s d.1).x⟩]) (λ_=>rfl)
   (λd c=>ue s d.1/\(rdI s d.1).ok=B5/\Iw b q (tv+1) s F c (rdI s d.1).a (d.2+(rdI s d.1).d) d.1 d.2)
   (λd c=>Iw b q (tv+1) s F c (rdI s d.1).a (d.2+(rdI s d.1).d) (rdI s d.1).a<|d.2+(rdI s d.1).d)
   (λd d8 c=>(ue s d.1/\(rdI s d.1).ok=B5/\Iw b q (tv+1) s F c (rdI s d.1).a (d.2+(rdI s d.1).d) d.1 d.2)/\∃G,tv+1<=G/\(∀ax,c.heap[tv]?=Ax (A5 #[ax] 44 (0,0))->ax.ownBlock≠Ax G)/\eK G c (rdI s d.1).k (d.1:Int) ((rdI s d.1).a:Int) d.2 (rdI s d.1).n (rdI s d.1).x/\
    d8={tmps:=#[be C 0,Y s,be w.heap.size 0,be (w.heap.size+1) 0,fe,be b 0,be tv 0,be G 0,Y s,.map<|Ax q,B6 #[Y s,.map<|Ax q,zI 0,zI 0,zI 1,B3 B0],.func (.func 49) #[be b 0] #[],vTk ⟨(rdI s d.1).k,(d.1:Int),((rdI s d.1).a:Int),d.2,(rdI s d.1).n,(rdI s d.1).x⟩,V,V,V,V,V,V,V,V,V,V,V,V,V,V,V,V,V,V,V,V,V,V,V,V,V,V,V,V,V,V,V],defers:=[]})
   (λc=>aim b q (tv+1) s F c)
   (λca c=>∃ak,af4 s b9 ak/\ca=akd ak/\Below ap w c)
   ?pZ ?pAx ?pD ?assign ?body ?seq ?done ?pan
  .
   rintro d c cz r h j;rw[a4]at j⊢;exact dq r h j
  .
   rintro d d8 c cz r ⟨⟨g,f,cb⟩,G,ee,df,k,o⟩ j;rw[a4]at j⊢;exact⟨U,_,ee,λax cf=>df ax<|(A2 O).symm.trans cf,(A2 (by rintro rfl;have:=(k).symm.trans j;cases this)).trans k,o⟩
  .
   rintro c cz r h j;rw[a4]at j⊢;cases h with
   |fin l h=>exact .fin l<|dq r h j|bad p l cp cr hS dz cy z=>
    refine .bad p l cp cr ((A2 O).trans hS) (dz.blocks (λbn al=>A2 O)) (by simpa using cy) ?_;rw[av]at z⊢;obtain⟨m,af,E,A,g,f⟩:=z;refine⟨_,_,_,A,g,f.kept (.of_put j r) ?_⟩;exact(ay _ c).grown (B1 c _ r) O U
  .
   rintro l ⟨p,k⟩ c _ ⟨g,f,cb⟩ o;unfold vTk at o⊢;simp only at g f cb o⊢;have j:=jG g f cb;clear g f cb
   gi_wp2
   have v:=(ay c.heap.size c).alloc O<|A5 #[zI (rdI s p).k,zI p,zI<|(rdI s p).a,zI k,zI (rdI s p).n,Y (rdI s p).x] 58 (0,0);refine o _ _ ⟨⟨j.1,j.2.1,Iw.below j.2.2 v O ?_⟩,_,j.2.2.sz,λax cf=>?_,au c _,R⟩<|(KeepsOthers.alloc c _).from _;all_goals
    have z:=j.2.2.ii;have cy:=j.2.2.sz;rw[av]at z;obtain⟨m,af,E,A,g,f⟩:=z
   .rw[av];exact⟨_,_,_,A,g,f.below v O⟩
   .have⟨_,bo,br⟩:=f.tk;rw[zb c _ _ O,bo]at cf;cases cf;intro e;have:=(br.lt _ e).2;omega
  .
   rintro l ⟨p,k⟩ d8 c ⟨⟨bk,bj,ar⟩,G,_,df,a1,rfl⟩;rw[a4];unfold vTk;simp only at bk bj ar a1⊢;have z:=ar.ii;rw[av]at z;obtain⟨m,af,E,A,ba,cd⟩:=z;have⟨fA,f1⟩:=Hw s p bj;have⟨g6,g7,g8,g9⟩:=mH s p bk.lt bj;have fz:=ar.sz;have a9:=λal v b8 (g:Jz b8 (feedL af 5).1) f=>ba.sep bk bj al v g f;have b6:=λal v=>ba.skip bk bj al v;have a2:=λal v b8 (g:Jz b8 (feedL af (rdI s p).k).1) f=>ba.tok bk bj al v g f;have b4:(rdI s p).k≠7->kJ m (rdI s p).k=B0->af4 s b9 ((p:Int)+(Bo m (s.extract p (rdI s p).a):Nat)):=λal v=>⟨by rw[ba.stop bk bj al v];omega,p,_,_,_,_,A,bk,ba,R,λ_=>⟨al,v⟩⟩;have hj:=ba.len;have gz:=ba.ol;have g1:=ba.sim;generalize (rdI s p).k=bn at a1 fA f1 a9 b6 a2 b4⊢;generalize (rdI s p).a=o at a1 g6 g7 ar a9 b6 a2 b4⊢;generalize (rdI s p).d=bE at g8 g9 ar a9 b6 a2⊢;generalize (rdI s p).n=a5 at a1 a9 a2⊢;generalize (rdI s p).x=a6 at a1 a9 a2⊢;clear ba bj bk;apply wpIn_block;refine wpIn_seq_k (λfc ei=>?_);have cB:∀(am:Int)(B:B4)(bs bt bw bx bz bA bD:Value),1<=am->am<=78->B7 (tv+1) c B->Iw b q (tv+1) s (λ_ _ _=>True) B o (k+bE) p k->yH w ap C b7 tv s m E B->tv+1<=B.heap.size->eK G B am (p:Int) (o:Int) k a5 a6->
     (kJ m am=B5->∀b8,Jz b8 (feedL af am).1->M b8<=M m+45->∃eb,pE s b9 b8 (feedL af am).1 o (k+bE) (E++[⟨am,(p:Nat),(o:Nat),k,a5,a6⟩]) eb)->
     (kJ m am=B0->af4 s b9 ((p:Int)+(Bo m (s.extract p o):Nat)))->
     fc {tmps:=#[be C 0,Y s,be w.heap.size 0,be (w.heap.size+1) 0,fe,be b 0,be tv 0,be G 0,Y s,.map<|Ax q,B6 #[Y s,.map<|Ax q,zI 0,zI 0,zI 1,B3 B0],.func (.func 49) #[be b 0] #[],B6 #[zI bn,zI (p:Int),zI (o:Int),zI k,zI a5,Y a6],bs,bt,bw,bx,bz,bA,bD,V,V,V,V,V,V,V,V,V,V,V,V,V,V,V,V,V,V,V,V,V,V,V,V],defers:=[]} B:=by
    intro am B bs bt bw bx bz bA bD fB f5 eo fl a7 _ ce a2 b4;apply ei _ _;clear ei;have cl:=eu a7.b0;have cI:=eu a7.b1;have⟨e7,bo,br,e8,e9,fa,fb⟩:=aJ ce;obtain⟨d7,fd,dc⟩:∃d7 fd,kJ _ _=B5->passOk (M m+45) fd _ _ _/\M d7<=M m+45/\Jz d7 _:=by
     by_cases v:kJ m am=B5
     .have⟨r,b5,x⟩:=g1.passOk fB f5 v;exact⟨r,_,λ_=>⟨b5,Bm b5,x⟩⟩
     .exact⟨[],0,λe=>absurd e v⟩
    have d6:=CallsIn.inRound l<|mC (n:=2).2<|La B _ _ _ _ _ ⟨_,p,o,k,a5,a6⟩ s _ a7.q fl.ly.tabs O fB f5 U U U (λe=>⟨(dc e).1,U,λa cc=>by have:=aL<|(dc e).2.2.o1 a cc;omega⟩);unfold vTk at d6;simp[rj]at d6
    gi_wp2_with (refine⟨trivial,?_⟩;gi_at_call 20;fail)
    refine⟨trivial,d6.mono ?_⟩;rintro e x ⟨(⟨v,rfl,fq,cq,L⟩|⟨v,rfl,L⟩)⟩
    .have⟨_,gv,g0⟩:=dc v;obtain⟨eb,fy⟩:=a2 v _ g0 gv;obtain⟨_,fo,_⟩:=a7.q.g.ex;have b2:=a7.turn fq cq L gt O;have a0:eK G x am (p:Int) (o:Int) k a5 a6:=mu cq ce O;have a3:Iw b q (tv+1) s (λ_ _ _=>True) x o (k+bE) p k:=Iw.turn (p:=p) (l:=k) O fo cq L gr trivial;have b3:B7 (tv+1) c x:=eo.trans<|ate fo cq;have⟨ax,cu,cw⟩:=b2.tk;obtain⟨f7,f8,rfl⟩:=aF cw;have gm:=eu cu;have he:x.frozen? (aj tv 0)=B0:=frR cu;obtain⟨_,_,_,_,_,_,_⟩:=aJ a0;have⟨_,gu,g3,g4,g5⟩:=dw aiu;have⟨on,ew⟩:=aw<|M E;rw[ew]at cu cw gm gz;have hC:tv+1<=x.heap.size:=a3.sz;have eL:∀i,(Value.slice f7 on f8).ownBlock=Ax i->w.heap.size<=i/\∃cs a8,x.heap[i]?=Ax (A5 cs 58 a8):=λi u=>by
      refine⟨(cw.lt i u).1,?_⟩;obtain⟨bc,_⟩|⟨bF,ey,ge,bc,_,cm,_⟩:=cw.2
      .rw[bc]at u;cases u
      .rw[bc]at u;obtain rfl:bF=i:=by simpa [C2] using u
       exact⟨_,_,cm⟩
     have j:=aku fy b2 a3 b3 cu ew;clear fy b2 a3 b3 cu ew d6 dc fq cq L a7 fl eo ce a2 b4 cl cI e7 bo br e8 e9 fa fb a0
     gi_wp2_with (gi_at_builtin;apply wpListIn_append_own _ R _ _ _ R _ 58 _ _ 6 _ Tryz.underlying44 gu g3 g4 g5 R Z _ _ _ R (cw.alloc _) _ 1 1 [B9 _ _,B9 _ _,B9 _ _,B9 _ _,B9 _ _,Y _] rfl R (World.news_of_block (cs:=#[B9 _ _,B9 _ _,B9 _ _,B9 _ _,B9 _ _,Y _])<|au _ _) (by intro _ fx;simp at fx;obtain rfl|rfl|rfl|rfl|rfl|rfl:=fx<;>rfl) byM O lr;intro _ ck ev dk _;obtain⟨c5,d9,rfl⟩:=ownsRow_succ ev;have dx:ck.heap[tv]?=Ax (A5 #[.slice f7 on f8] 44 (0,0)):=(dk.block _ lr (λe=>by obtain⟨_,cs,a8,bf⟩:=eL _ e.symm;rw[j.out.2.2.2.2.1]at bf;cases bf)).trans<|(alO O).trans j.2.2.2.2.1;have hc:=eu dx;have hf:ck.frozen? (aj tv 0)=B0:=frR dx)
     have bh:∀(i:Nat)(r:Obj),x.heap[i]?=Ax r->(∀cs a8,r≠ A5 cs 58 a8)->i≠tv->(ck.setCell (aj tv 0)<|bI c5 (on+1) d9).heap[i]?=Ax r:=λi r u b5 et=>by
      refine(jg et).trans<|(dk.block i (by simp;have:=aH u;omega) (λe=>?_)).trans<|(alO U).trans u;have⟨_,cs,a8,bf⟩:=eL i e.symm;rw[u]at bf;exact b5 _ _<|de bf
     have hB:x.heap.size<=ck.heap.size:=by have:=dk.size;simp at this;omega
     have fn:Below ap x (ck.setCell (aj tv 0)<|bI c5 (on+1) d9):=by
      have ea:Below ap x (x.alloc<|A5 #[zI am,zI (p:Int),zI (o:Int),zI k,zI a5,Y a6] 58):=blR.alloc O _;exact(ea.grown dk lr (λi u=>by have:=(eL i u).1;omega)).setCell U _
     have gs:yH w ap C b7 tv s d7 (E++[⟨am,(p:Nat),(o:Nat),k,a5,a6⟩]) (ck.setCell (aj tv 0)<|bI c5 (on+1) d9):=by
      have cc:=j.2.1;refine⟨cc.q.same (λi r u g f=>bh i r u g (by rintro rfl;rw[j.out.2.2.2.2.1]at u;exact f _ _ (de u).symm)),cc.bl.trans fn,bh _ _ cc.b0 U O,bh _ _ cc.b1 U O,⟨_,aD _ _ 0 _ _ _ dx,?_⟩⟩;rw[aG,j.out.2.2.2.2.2,ya];refine FH ev (row:=Ax tv) ⟨R,R,R,by simp[B2],λi u et=>jg U⟩<|.inr ?_;intro e;have bf:c5=tv:=by simpa [C2] using e
      subst bf;obtain⟨bc,_⟩|⟨bF,ey,ge,bc,_,cm,_⟩:=ev.2
      .cases bc
      .cases bc;rw[dx]at cm;cases cm
     refine⟨j.2.2.2.1.trans ?_,?_⟩
     .exact⟨by simp[B2];omega,λi r _ u b5=>bh i r u (λcs a8 e=>by rw[e]at b5;cases b5) O⟩
     .have⟨gp,ey⟩:=j.2.2.1.sc;have⟨gn,ge,bF,ea⟩:=j.2.2.1.mp;refine⟨⟨_,bh _ _ ey U O⟩,⟨_,_,bh _ _ bF U (by rintro rfl;rw[j.out.2.2.2.2.1]at bF;cases bF),ea⟩,j.2.2.1.ly.blocks (λi u=>fn.block i O),?_,by simp[B2];omega⟩;rw[av];exact⟨_,_,_,_,j.1,gs⟩
    .refine⟨R,eo.trans<|Dn L,_,b4 v,R,a7.bl.trans<|L.mono O⟩
   clear ei;have⟨e7,bo,br,e8,e9,fa,fb⟩:=aJ a1;by_cases cw:bn=7
   .subst cw;have⟨dc,cc⟩:=aw<|kJ m 5;have c5:=CallsIn.inRound l<|mC (n:=2).2<|cd.q.may Z Z cc;have cl:=eu cd.b0;have j:=Cg cd ar cc a1;clear cd ar cc a1 a2 b4
    gi_wp2_with (refine⟨trivial,?_⟩;gi_at_call 50;fail)
    refine⟨trivial,c5.mono ?_⟩;rintro e x ⟨rfl,L⟩;have b2:=j.1.below L O;have a0:eK G x 7 (p:Int) (o:Int) k a5 a6:=(L.block _<|aH j.2.2.2).trans j.2.2.2;have z0:=(aJ a0).1;have dk:=(aJ a0).2.2.2.2.2.2 0;have b3:B7 (tv+1) c x:=Dn L;clear c5 cl e7 bo br e8 e9 fa fb;cases dc with
    |false=>
     have⟨eb,ad⟩:=b6 trivial j.2.2.1;have a7:Hid (B7 (tv+1) c x/\Iw b q (tv+1) s F x o (k+bE) o (k+bE)):=⟨b3,Iw.below j.2.1 L O U⟩;clear cB a9 b6 ad b2 a0 b3 j L
     gi_wp2
     exact a7|true=>
     have cq:=λax cf=>df ax<|(L.block _ O).symm.trans cf;have b5:yH w ap C b7 tv s m E (x.setCell (aj G 0)<|zI 5):=b2.setTok a0 cq O _;have ck:eK G (x.setCell (aj G 0)<|zI 5) 5 (p:Int) (o:Int) k a5 a6:=aD _ _ 0 _ _ _ a0;have a3:Iw b q (tv+1) s (λ_ _ _=>True) x o (k+bE) p k:=Iw.below (p:=p) (l:=k) ⟨j.2.1.sc,j.2.1.mp,j.2.1.ly,trivial,j.2.1.sz⟩ L O trivial;have cu:Iw b q (tv+1) s (λ_ _ _=>True) (x.setCell (aj G 0)<|zI 5) o (k+bE) p k:=by
      have⟨gp,ey⟩:=a3.sc;have⟨gn,ge,bF,ea⟩:=a3.mp;exact⟨⟨_,(jg U).trans ey⟩,⟨_,_,(jg (by rintro rfl;rw[a0]at bF;cases bF)).trans bF,ea⟩,a3.ly.blocks (λi u=>jg U),trivial,by simp[B2];exact a3.sz⟩
     have u:Hid (∀(bs bt bw bx bz bA bD:Value),fc {tmps:=#[be C 0,Y s,be w.heap.size 0,be (w.heap.size+1) 0,fe,be b 0,be tv 0,be G 0,Y s,.map<|Ax q,B6 #[Y s,.map<|Ax q,zI 0,zI 0,zI 1,B3 B0],.func (.func 49) #[be b 0] #[],B6 #[zI 7,zI (p:Int),zI (o:Int),zI k,zI a5,Y a6],bs,bt,bw,bx,bz,bA,bD,V,V,V,V,V,V,V,V,V,V,V,V,V,V,V,V,V,V,V,V,V,V,V,V],defers:=[]} (x.setCell (aj G 0)<|zI 5)):=λbs bt bw bx bz bA bD=>cB 5 _ bs bt bw bx bz bA bD Z Z (b3.trans<|(KeepsOthers.setCell _ _ _).from _) cu b5 (by simp[B2];exact a3.sz) ck (λv=>a9 trivial v) (λv=>by rw[j.out.2.2.1]at v;cases v);clear cB a9 b6 b2 a0 b3 j L cq b5 ck a3 cu df
     gi_wp2
     exact u _ _ _ _ _ _ _
   .have j:(bn==7)=B0:=by rw[fC];exact cw
    have u:=ah (λbs bt bw bx bz bA bD=>cB bn c bs bt bw bx bz bA bD fA f1 (KeepsFrom.refl _ _) ⟨ar.sc,ar.mp,ar.ly,trivial,ar.sz⟩ cd O a1 U U);clear cB a2 b4 a9 b6 cd ar a1
    gi_wp2
    exact u _ _ _ _ _ _ _
  .
   rintro l _ j b5 c bh u fz;rw[a4]at j u fz b5⊢;refine(akc 4 l b _ _ s O O O O F en el ek _ j _ (λp k c g f cb ee=>(b5 (p,k) c U ee)) c 0 1 ?_ bh).mono ?_
   .apply Iw.below c9 U O;have z:=c9.ii;rw[av]at z⊢;obtain⟨m,af,E,A,g,f⟩:=z;exact⟨_,_,_,A,g,f.below U O⟩
   .rintro e _ (h|⟨ca,g,f,cb⟩)
    .exact .inl h
    .exact .inr U
  .
   rintro c h k;rw[a4]at k⊢;refine y _ _<|vD ?_;clear y;rw[em];cases h with
   |fin l h=>
    have z:=h.ii;rw[av]at z;obtain⟨m,af,E,A,g,f⟩:=z;have⟨ax,bo,br⟩:=f.tk;have⟨cl,G,x,a9,ba,bh,bj,bk⟩:=Gh.cells h.sc;have j:=eu bo;have a7:=jG g f br;clear g f bo br h en el ek dq c9 er ep ds dn da;go_wp2_with fail;refine⟨I,.inl ⟨_,_,R,run_takeDeferred k,?_⟩⟩;have al:=sG.of_putD k<|.deferred none;refine⟨_,results_tmp R _ _ _,⟨.inl ⟨_,_,_,l,ax,a7.1.fin,a7.1.sim,R,al.row a7.2.2 Z,a7.2.1.q.kept al,a7.1.len,a7.1.ol,?_⟩⟩⟩;exact a7.2.1.bl.grown (B1 c _ _) U U
   |bad p l cp cr hS dz cy z=>
    rw[av]at z;obtain⟨m,af,E,A,g,f⟩:=z;have⟨cl,G,x,a9,ba,bh,bj,bk⟩:=ie hS;have⟨a1,_⟩:=Ly hS;have a2:=eu f.b0;have cI:=eu f.b1;clear en el ek dq c9 er ep ds dn da;have⟨bo,br⟩:=abr s p cp.lt;have bs:ap<=c.heap.size:=by have:=f.bl.size;omega
    have al:Below c.heap.size c c.drew:=(ay _ c).drew;have a5:=(dz.tabs.below al O);have a6:(s.extract p (rdI s p).a).size<=1100000:=by have:=lh (a:=s) (b:=p) (e:=(rdI s p).a);omega
    have ar:=K8 _ _ _ _ _ _ (f.q.below al) a5 a6;have bt:(Bo m (s.extract p (rdI s p).a):Nat)<=s.size:=by
     have:=Gx m<|s.extract p (rdI s p).a;have:=lh (a:=s) (b:=p) (e:=(rdI s p).a);omega
    obtain⟨ak,am⟩:∃ak:Nat,Bo m (s.extract p (rdI s p).a)=ak:=⟨_,R⟩;have a7:Hid (af4 s b9<|(p:Int)+(ak:Nat)):=⟨g.bad cp cr,p,_,_,l,_,A,cp,g,by rw[am],λe=>by rw[cr]at e;cases e⟩;have v:=jG f.bl k bs;rw[am]at ar bt;obtain⟨o,a3⟩:∃o:Nat,(rdI s p).a=o:=⟨_,R⟩;rw[a3]at x ar bo br;have bz:(p:Int)<=(o:Int):=O;have bw:(o:Int)<=(s.size:Int):=O;have bx:(0:Int)<=(p:Int):=O;have bA:IntKind.i64.wrap ((p:Int)+(ak:Int))=(p:Int)+(ak:Int):=by rw[du];omega
    clear am a3 g f hS dz a6 a5 cr;go_wp2_with fail;refine Code.wp_mono (Q:=avB [{target:= .collected (tv+1),args:=#[]}] (λca B=>ca=akd (p+ak)/\Below c.heap.size c B)) (λe a B h=>?_) ?_
    .cases e with
     |panic ca=>
      obtain⟨L,rfl,ce⟩:=h;show LeavesInM _ _ _ _ _ _ a.defers (.panicking _) B;rw[L];have j:=(ce.block _<|aH v.2.1).trans v.2.1;refine ake j ⟨.inr ⟨_,a7,R,?_⟩⟩;have u:=v.1.trans<|ce.mono v.2.2;exact u.grown (B1 B _ _) U U
     |_=>exact h.elim
    refine xg (S:=λt=>t.cell? _=Ax _/\t.cell? _=Ax _/\t.cell? _=Ax _/\t.cell? _=Ax _) J ⟨a1,x,a2,cI⟩ (λj=>?_);apply aI 0 (be b 2) R R j (λt ⟨_,_,_,_⟩=>by go_simp);simp only[A0];apply aI 1 (zI p) R R j (λt ⟨_,_,_,_⟩=>by go_simp);simp only[A0];apply aI 2 (be C 0) R R j (λt ⟨_,_,_,_⟩=>by go_simp);simp only[A0];apply aI 3 (Y s) R R j (λt ⟨_,_,_,_⟩=>by go_simp);simp only[A0];apply aI 4 (be b 2) R R j (λt ⟨_,_,_,_⟩=>by go_simp);simp only[A0];apply aI 5 (zI p) R R j (λt ⟨_,_,_,_⟩=>by go_simp);simp only[A0];apply aI 6 (be b 3) R R j (λt ⟨_,_,_,_⟩=>by go_simp);simp only[A0];apply aI 7 (zI o) R R j (λt ⟨_,_,_,_⟩=>by go_simp);simp only[A0];apply aI 8 (Y<|s.extract p o) R R j (λt ⟨_,_,_,_⟩=>by go_simp);simp only[A0];refine A9 (rs:=[9]) J I<|A1 R (λa0 L=>?_) A3;go_simp;apply ar.mono;rintro e _ ⟨rfl,u⟩;refine L _ _ ⟨ag u a1,ag u x,ag u a2,ag u cI⟩ (λj=>?_);clear L a0;simp only[cA,cC];apply aI 10 (zI<|p+ak) R R j (λt ⟨_,_,_,_⟩=>by go_simp);simp only[A0];apply aI 11 (B6 #[zI<|p+ak]) R R j (λt ⟨_,_,_,_⟩=>by go_simp);simp only[A0];apply aI 12 (.iface 52<|B6 #[zI<|p+ak]) R R j (λt ⟨_,_,_,_⟩=>by go_simp);simp only[A0];refine A9 (rs:=[13]) J I<|A1 R (λa0 L=>?_) A3;go_simp;exact⟨R,R,(al.trans u)⟩
  .
   rintro ca c ⟨ak,cy,rfl,eq⟩ k;rw[a4]at k⊢;show LeavesInM _ _ _ _ _ _ [_] (.panicking _) c;refine⟨I,.inl ⟨_,_,R,run_takeDeferred k,?_⟩⟩;rw[em];exact⟨.inr ⟨ak,cy,R,eq.grown (B1 c _ _) U U⟩⟩
 clear eg;refine vD<|Code.wp_mono (Q:=Exit.then _ (λ_ _ _=>False)) (λe a w h=>by cases e<;>first|exact h|exact h.elim) ?_;have G:bb.drew.cell? (aj (w.heap.size+1) 0)=Ax (Y s):=eu cn;refine xg (S:=λt=>t.cell? _=Ax _) J G (λhS=>?_);refine aI 0 (Y s) R R hS (λt r=>by go_simp) ?_;simp only[A0];refine A9 (rs:=[1,3]) J I<|A1 R (λan y=>?_)<|A1 R (λan y=>?_) A3
 .go_simp;have k:=ef.drew;refine(uf (H:=Unit) bb.drew a8 f6<|(k.block _<|aH c8).trans c8).mono ?_;rintro e d ⟨rfl,f,c⟩;have i:bb.drew.heap.size=w.heap.size+2:=fu;rw[i]at f c;have g:=k.trans<|c.mono O;have a4:w.heap.size+2<=d.heap.size:=by have:=c.size;omega
  have x:=f.lt;refine y _ _ (eu<|(c.block _ O).trans cn) (λhS=>?_);clear y an;try simp only[Act.put,cA,cH,cC]
  simp only[i];refine aI 2 (B6 #[Y s,.map<|Ax<|w.heap.size+2,zI 0,zI 0,zI 1,B3 B0]) R R hS (λt r=>by go_simp) ?_;simp only[A0];refine A9 (rs:=[3]) J I<|A1 R (λan y=>?_) A3;go_simp;refine y _ _ ((ag ((ay d.heap.size d).alloc eE _) hS)) (λhS=>?_);clear y an;refine A9 (rs:=[4]) J I<|A1 R (λan y=>?_) A3;go_simp;have K:Ad1 w C s d.heap.size (w.heap.size+2) (d.alloc<|A5 #[Y s,.map<|Ax<|w.heap.size+2,zI 0,zI 0,zI 1,B3 B0] 119):=
   ⟨g.alloc g.size _,(alO O).trans<|(c.block _ O).trans fm,(alO O).trans<|(c.block _ O).trans cn,au d _,f.alloc _,O,O⟩
  refine y _ _ (eu K.b1) (λhS=>?_);clear y an;refine wpAnyH_done J ?_ _;exact eh _ _ _ K
 .go_simp;have k:=ef.drew;have⟨WA,j⟩:=aw<|(bb.alloc<|A5 #[nh,.map none,zI 0,zI 0,zI 0,B3 B0] 119).drew;have i:Below (w.heap.size+2) bb WA:=by rw[<-j];exact((ay _ bb).alloc O _).drew
  have u:WA.heap.size=w.heap.size+3:=by rw[<-j];show(bb.alloc _).heap.size=_;simp;omega
  have v:WA.heap[w.heap.size+2]?=Ax (A5 #[nh,.map none,zI 0,zI 0,zI 0,B3 B0] 119 (0,0)):=by rw[<-j,<-fu];exact au bb _
  rw[j];refine y _ _ (ag (i.mono O)<|eu cn) (λhS=>?_);clear y an;refine A9 (rs:=[1]) J I<|A1 R (λan y=>?_) A3;go_simp;have o:=ef.trans<|i.mono O;refine(uf (H:=Unit) WA a8 f6<|(o.block _<|aH c8).trans c8).mono ?_;rintro e d ⟨rfl,f,c⟩;rw[u]at f c;have g:=o.trans<|c.mono O;have x:=f.lt;refine y _ _ (ag (c.mono O) hS) (λhS=>?_);clear y an;try simp only[Act.put,cA,cH,cC]
  simp only[u];refine aI 2 (B6 #[Y s,.map<|Ax<|w.heap.size+3,zI 0,zI 0,zI 1,B3 B0]) R R hS (λt r=>by go_simp) ?_;simp only[A0];have m:=(c.block _ O).trans v;refine A9 (rs:=[4]) J I<|A1 R (λan y=>?_) A3;obtain⟨_,_,_,_,_,_⟩:=jb m;obtain⟨_,bc,bf,cm,_,_⟩:=sf m;go_simp;have ad:=awf d (w.heap.size+2) (Y s) (.map<|Ax<|w.heap.size+3) (zI 0) (zI 0) (zI 1)<|B3 B0;have K:Ad1 w C s (w.heap.size+2) (w.heap.size+3) (six d (w.heap.size+2) (Y s) (.map<|Ax<|w.heap.size+3) (zI 0) (zI 0) (zI 1)<|B3 B0):=by
   have a4:=c.size;refine⟨g.grown ad g.size (λbn e=>by cases e;omega),?_,?_,LB m _ _ _ _ _ _,f.kept ad I,O,O⟩
   .exact(ad.block _ O I).trans ((c.block _ O).trans<|(i.block _ O).trans fm)
   .exact(ad.block _ O I).trans ((c.block _ O).trans<|(i.block _ O).trans cn)
  refine y _ _ (eu K.b1) (λhS=>?_);clear y an;refine wpAnyH_done J ?_ _;exact eh _ _ _ K
