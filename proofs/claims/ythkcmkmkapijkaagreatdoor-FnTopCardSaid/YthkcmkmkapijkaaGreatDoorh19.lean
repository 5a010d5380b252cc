import Derived.Test.YthkcmkmkapijkaaGreatDoorh10
set_option linter.all false
set_option maxRecDepth 100000
set_option maxHeartbeats 3200000
open List renaming length->M
open Bool renaming true->Q,false->S
namespace Go.Proofs.YthkcmkmkapijkaaGreatDoor
open Go.RowKit Go.Maps Go.WideMaps
variable{i j:Nat}{k t:Int}{ns:zLD}{tk:Nat->Tk}{vk vn vt:Value}{w:World}
def alD{N}(b:NArg w vt ns N vn vk)(c:0<M N.ks):
  Calls Tryz.prog 225 #[.agg #[vt],.agg<|Jn N vn vk,zI<|(M N.ks:Int)-1] w λe a=>e= .returned (zI<|gC ns N<|M N.ks-1)/\Below w.heap.size w a:=by
 have a:=tF b (M N.ks-1) O;rw[(O:((M N.ks-1:Nat):Int)=(M N.ks:Int)-1)]at a;exact a
def aqc{N}(a:NArg w vt ns N vn vk)(c:0<M N.ks):
  Calls Tryz.prog 228 #[.agg #[vt],.agg<|Jn N vn vk,zI 0,zI<|(M N.ks:Int)-1] w λe b=>e= .returned (.bool<|mK ns N (M N.ks-1) 0)/\Below w.heap.size w b:=by
 have b:=oz w _ _ N _ _ 0 (M N.ks-1) a.t a.n a.k a.ok O a.ln a.l2;rw[(O:((M N.ks-1:Nat):Int)=(M N.ks:Int)-1)]at b;exact b
theorem aqd{N}(c:NArg w vt ns N vn vk)(g:N.k=9):
  Calls Tryz.prog 136 #[.agg #[vt],jq N vn vk] w λe h=>e= .returned (.bool<|bC N S S S Q&&(gi N 1 1&&(((M N.ks:Int)==3||(M N.ks:Int)==4)&&(mK ns N (M N.ks-1) 0&&(gC ns N (M N.ks-1)==1)))))/\Below w.heap.size w h:=by
 obtain⟨_,_,rfl⟩:=c.t.form;obtain⟨_,_,rfl⟩:=c.n.form;obtain⟨_,_,rfl⟩:=c.k.form;have b:=St.start c;have y:=c.l2;clear c;have z:=kqf g;have A:=kqt g 9 R;clear g;unfold jq;cases t0:bC N S S S Q
 case' true=>
  cases t1:gi N 1 1
  case' true=>
   cases t2:((M N.ks:Int)==3)
   case' false=>cases t5:((M N.ks:Int)==4)
   case' false.true=>
    have f:Hid (0<M N.ks):=by show _<_;grind
    cases t3:mK ns N (M N.ks-1) 0
    case' true=>cases t4:(gC ns N (M N.ks-1)==1)
   case' true.true.true=>
    have f:Hid (0<M N.ks):=by show _<_;grind
    cases t3:mK ns N (M N.ks-1) 0
    case' true=>cases t4:(gC ns N (M N.ks-1)==1)
 all_goals
  go_in;go_wp2_with (first|(go_at_call 226;refine b.bare λx b=>?_;have⟨i,j,l,m,o,p,q,r,s,u⟩:=aE b.bn;have v:=b.bt)|(go_at_call 227;refine b.named λx b=>?_;have⟨i,j,l,m,o,p,q,r,s,u⟩:=aE b.bn;have v:=b.bt)|(go_at_call 228;with_reducible apply(aqc b.a f.out).mono;rintro e h ⟨rfl,d⟩;replace b:=b.below d;clear d;have⟨i,j,l,m,o,p,q,r,s,u⟩:=aE b.bn;have v:=b.bt)|(go_at_call 225;with_reducible apply(alD b.a f.out).mono;rintro e h ⟨rfl,d⟩;replace b:=b.below d;clear d;have⟨i,j,l,m,o,p,q,r,s,u⟩:=aE b.bn;have v:=b.bt));go_ret;exact⟨R,b.bel⟩
def tgB(a:zLD)(N:Nd):Nat->Nat->Bool|0,_=>Q|f+1,j=>xj (gC a N j)&&tgB a N f (j+1)
structure atL (ns:zLD) (N:Nd) (f j:Nat) (R1:Bool):Prop where
 out:tgB ns N f j=R1
theorem aqe{N}(h:NArg w vt ns N vn vk)(E:N.k=5):
  Calls Tryz.prog 136 #[.agg #[vt],jq N vn vk] w λe A=>e= .returned (.bool<|bC N S Q S S&&(decide (1<=N.n/\N.n<(M N.ks:Int))&&(tgB ns N N.n.toNat 0&&mK ns N (M N.ks-N.n.toNat) N.n.toNat)))/\Below w.heap.size w A:=by
 obtain⟨ak,ao,rfl⟩:=h.t.form;obtain⟨al,ap,rfl⟩:=h.n.form;obtain⟨am,ar,rfl⟩:=h.k.form;have b:=St.start h;have a5:=h.l2;clear h;have a8:=kqf E;have a9:=kqt E 5 R;clear E;unfold jq;cases t0:bC N S Q S S with
 |false=>
  go_in;go_wp2_with (first|(go_at_call 226;refine b.bare λC b=>?_;have⟨i,j,l,m,o,p,q,r,s,u⟩:=aE b.bn;have v:=b.bt));go_ret;exact⟨R,b.bel⟩
 |true=>
  by_cases a0:N.n<1
  .rw[bq O];go_in;go_wp2_with (first|(go_at_call 226;refine b.bare λC b=>?_;have⟨i,j,l,m,o,p,q,r,s,u⟩:=aE b.bn;have v:=b.bt));go_ret;exact⟨R,b.bel⟩
  by_cases a4:(M N.ks:Int)<=N.n
  .rw[bq O];go_in;go_wp2_with (first|(go_at_call 226;refine b.bare λC b=>?_;have⟨i,j,l,m,o,p,q,r,s,u⟩:=aE b.bn;have v:=b.bt));go_ret;exact⟨R,b.bel⟩
  rw[eI O];obtain⟨d,K⟩:∃d:Nat,N.n=d:=⟨N.n.toNat,O⟩;have L:N.n.toNat=d:=O;rw[L];have a7:d<M N.ks:=O;have af:=ah K;have⟨B,F⟩:=aw<|tgB ns N d 0;rw[F];have ax:atL ns N d 0 B:=⟨F⟩;clear F K L;go_in;go_wp2_with (first|(go_at_call 226;refine b.bare λC b=>?_;have⟨i,j,l,m,o,p,q,r,s,u⟩:=aE b.bn;have v:=b.bt));go_loopw [7] (λH wr=>∃(c:Nat),H=zI c/\c<=d/\atL ns N (d-c) c B/\St w (.slice ak (M ns) ao) ns N (.slice al (M N.nm) ap) (.slice am (M N.ks) ar) wr) (λH _=>d-(intOf H).toNat)
  .grind
  .
   clear b;obtain⟨c,rfl,_,ad,b⟩:=hrel;have⟨_,_,_,_,_,_,_,_,_,_⟩:=aE b.bn;have ba:=b.bt;have f:=ad.out;have G:=af.out;by_cases a6:c<d
   .rw[(O:d-c=(d-(c+1))+1),tgB]at f;have av:(c:Int)<N.n:=O;have z:=tF b.a c O;unfold jq at z;have x:=λw=>LF (gC ns N c) w;clear G;generalize gC ns N c=an at f z x;cases hx:xj an with
    |false=>
     rw[hx,gJ]at f;rw[hx]at x;have y:=ah f;clear f hx;go_wp2_with (first|(go_at_call 225;apply z.mono;rintro e A ⟨rfl,g⟩;replace b:=b.below g;clear g;have⟨i,j,l,m,o,p,q,r,s,u⟩:=aE b.bn;have v:=b.bt)|(go_at_call 229;apply ez<|x _));go_ret;exact⟨by rw[<-y.out];rfl,b.bel⟩
    |true=>
     rw[hx,gK]at f;rw[hx]at x;have y:atL ns N (d-(c+1)) (c+1) B:=⟨f⟩;clear f hx;go_wp2_with (first|(go_at_call 225;apply z.mono;rintro e A ⟨rfl,g⟩;replace b:=b.below g;clear g;have⟨i,j,l,m,o,p,q,r,s,u⟩:=aE b.bn;have v:=b.bt)|(go_at_call 229;apply ez<|x _));exact⟨U,by simp[intOf];omega⟩
   .rw[(O:d-c=0),tgB]at f;have y:=ah f;have av:¬(c:Int)<N.n:=O;have x:=oz _ _ _ N _ _ d _ b.a.t b.a.n b.a.k b.a.ok eE b.a.ln b.a.l2;unfold jq at x;rw[<-G]at x;clear f G;go_wp2_with (go_at_call 228;apply x.mono;rintro e A ⟨rfl,g⟩;replace b:=b.below g;clear g;have⟨i,j,l,m,o,p,q,r,s,u⟩:=aE b.bn;have v:=b.bt);go_ret;exact⟨by rw[<-y.out];rfl,b.bel⟩
structure Wt where
 k:Int
 n:Int
 x:Bz
 w:Bz
abbrev zLW:=List Wt
def sgF(k:Int):Wt:=⟨k,0,z0,di k⟩
def nmW(x:Bz):Wt:=⟨1,0,x,x⟩
def nlW:Wt:=⟨7,0,z0,⟨#[10]⟩⟩
def bN(k a n:Int)(x:Bz)(nm:zLB):Nd:=⟨k,0,0,0,a,n,x,nm,[]⟩
def Nd.bare(N:Nd):Nd:=bN N.k N.op N.n N.x N.nm
def Fo.bare:Fo->Fo| .nil=> .nil| .cons N k r=> .cons N.bare k.bare r.bare
theorem ft:∀(a b:Fo),(a.app b).bare=a.bare.app b.bare| .nil,b=>rfl| .cons N k r,b=>by simp[Fo.app,Fo.bare,ft]
theorem acD:∀(a:Fo),a.bare.len=a.len| .nil=>rfl| .cons N k r=>by simp[Fo.bare,Fo.len,acD]
theorem dl(N k):(one N k).bare=one N.bare k.bare:=rfl
theorem alE{X N K}(h:X.bare=one N K):∃a L,X=one a L/\a.bare=N/\L.bare=K:=by
 cases X with
 |nil=>cases h
 |cons a L b=>
  unfold one at h;simp[Fo.bare]at h;cases b with
  |nil=>exact⟨a,L,R,h.1,h.2.1⟩|cons _ _ _=>grind [absurd,Fo.bare]
def ajh(k:Int):Nd:=ite (k=10) (bN 28 0 0 z0 [])<|ite (k=26) (bN 29 0 0 z0 [])<|bN 31 (k-60) 0 z0 []
theorem alF(k s e):(uF k s e).bare=ajh k:=by unfold uF ajh;split;rfl;split<;>rfl
inductive rh (tk:Nat->Tk) (n:Nat):Nat->zLW->Nat->Prop where|nil {i:Nat}:rh tk n i [] i|tok {i j:Nat}{t:Wt}{l:zLW}:t.k≠7->(tk i).k=t.k->(tk i).n=t.n->(tk i).x=t.x->i<n->rh tk n (i+1) l j->rh tk n i (t::l) j|sep {i j:Nat}{t:Wt}{l:zLW}:t.k=7->(tk i).k=5->i<n->rh tk n (i+1) l j->rh tk n i (t::l) j|more {i j:Nat}{t:Wt}{l:zLW}:t.k=7->(tk i).k=5->i<n->rh tk n (i+1) (t::l) j->rh tk n i (t::l) j
def DD(tk:Nat->Tk)(n:Nat)(a:zLI)(i j:Nat):Prop:=∃m,D tk n m a i j
section
variable {tk : Nat → Tk} {n : Nat}
theorem rh.split{l}(h:rh tk n i l j):∀a b,l=a++b->∃k,rh tk n i a k/\rh tk n k b j:=by
 induction h with
 |nil=>
  intro a b c;obtain⟨rfl,rfl⟩:a=[]/\b=[]:=byS;exact⟨_,.nil,.nil⟩
 |@tok i j o l d e t u f g m=>
  intro a b c;cases a with
  |nil=>exact⟨i,.nil,by grind [tok]⟩|cons s a=>
   obtain⟨rfl,p⟩:=mD c;grind [tok]
 |@sep i j o l d e f g m=>
  intro a b c;cases a with
  |nil=>exact⟨i,.nil,by rw[<-(show o::l=b from c)];exact .sep d e f g⟩|cons s a=>
   obtain⟨rfl,p⟩:=mD c;have⟨k,q,r⟩:=m a b p;exact⟨k,.sep d e f q,r⟩
 |@more i j o l d e f g m=>
  intro a b c;cases a with
  |nil=>exact⟨i,.nil,by rw[<-(show o::l=b from c)];exact .more d e f g⟩|cons s a=>
   obtain⟨rfl,p⟩:=mD c;have⟨k,q,r⟩:=m _ b c;exact⟨k,.more d e f q,r⟩
def rh.app{a b}(h:rh tk n i (a++b) j):∃k,rh tk n i a k/\rh tk n k b j:=h.split a b R
def rh.le{l}(h:rh tk n i l j):i<=j:=by
 induction h with
 |nil=>omega|tok _ _ _ _ _ _ a=>omega|sep _ _ _ _ a=>omega|more _ _ _ _ a=>omega
theorem rh.head{t}{l:zLW}(h:rh tk n i (t::l) j)(g:t.k≠7:=by simp[sgF,nmW]):(tk i).k=t.k/\(tk i).n=t.n/\(tk i).x=t.x/\i<n/\rh tk n (i+1) l j:=by
 cases h with
 |tok a b c d e f=>grind|sep a=>omega|more a=>omega
def rh.sg{l:zLW}(h:rh tk n i (sgF k::l) j)(d:k≠7:=by decide):(tk i).k=k/\i<n/\rh tk n (i+1) l j:=by
 have⟨a,_,_,b,c⟩:=h.head d;exact⟨a,b,c⟩
theorem rh.nl{i j l}(h:rh tk n i l j):∀{m},l=nlW::m->∃k,i<k/\rh tk n k m j/\∀q,i<=q->q<k->(tk q).k=5/\q<n:=by
 induction h with
 |nil=>grind|tok a=>intro m b;obtain⟨rfl,_⟩:=mD b;exact absurd R a
 |@sep i j g l a c d e f=>
  grind|@more i j g l a c d e f=>
  grind
def rh.nils(h:rh tk n i [] j):i=j:=by cases h;rfl
def DD.tok{s r i j}(h:(tk i).k=s)(a:i<n)(d:DD tk n r (i+1) j)(b:s<100:=by decide):DD tk n (s::r) i j:=by
 obtain⟨_,d⟩:=d;exact⟨_,.tok b h a d⟩
theorem DD.exp{s t r L i j}(f:(tk i).k=t)(e:xE s t=(L,Q))(a:i<n)(d:DD tk n (L++r) i j)(b:100<=s:=by decide):DD tk n (s::r) i j:=by
 obtain⟨c,d⟩:=d;exact⟨c+1,.exp b a U U⟩
end
def axh(t):xE 119 t=([120,121],dv t):=by rfl
def asw(t):xE 120 t=Cm t:=by rfl
def axi(h:gg t=Q):xE 121 t=([t,119],Q):=by simp[xE,aiE,h]
def Aq(h:gg t=S):xE 121 t=([],Q):=by simp[xE,aiE,h]
theorem axj(h:ww t=S):xE 122 t=([],Q):=by
 grind [ww,xE,ak2,rq]
def alG(t):xE 124 t=([119,125],dv t):=by rfl
def axk(h:t≠46):xE 125 t=([],Q):=by simp[xE,ak5,h]
def axl(h:t≠46):xE 104 t=([],Q):=by simp[xE,akJ,h]
def lkw(k:Int):Int:=ite (k=72) 5<|BA k
def qg(q k:Int):Prop:=ww k=S/\(gg k=Q->lkw k<=q)
def qg.mono{q r}(h:qg q k)(b:q<=r):qg r k:=⟨h.1,λa=>Int.le_trans (h.2 a) b⟩
theorem xu{q}(h:(tk i).k=k)(a:ww k=S:=by decide)(b:gg k=S:=by decide):qg q (tk i).k:=by rw[h];exact⟨a,λ_=>U⟩
def DK(k):1<=BA k/\BA k<=10:=by
 unfold BA;omega
def CE(k):BA k<=lkw k/\lkw k<=10:=by
 have:=DK k;unfold lkw;split
 .rename_i a;subst a;decide
 .omega
def ag0(k):BA k<=rpw k/\rpw k<=11:=by
 have:=DK k;unfold rpw;split
 .rename_i a;subst a;decide
 .omega
def aqf(h:lkw t<=BA k):BA t<rpw k:=by
 unfold rpw;unfold lkw at h;by_cases a:k=72
 .subst a;rw[ae rfl];have c:BA 72=4:=Z;rw[c]at h;split at h
  .omega
  .rename_i b;have:BA t≠4:=by
    unfold BA;omega
   omega
 .rw[aa a];split at h
  .rename_i b;subst b;have:BA 72=4:=Z;omega
  .omega
def pj(l:zLW)(e:Fo)(q:Int):Prop:=∀(tk:Nat->Tk)(n i j:Nat),j<n->rh tk n i l j->qg q (tk j).k->
 ∃c:Fo,c.bare=e/\i<j/\dv (tk i).k=Q/\(∀p b a,p<=q->P tk n (.more p (tk i) c) j b a->P tk n (.expr p) i b a)/\∀d a,DD tk n (121::d) j a->DD tk n (119::d) i a
def DL(l:zLW)(d:Fo):Prop:=∀(tk:Nat->Tk)(n i j:Nat),j<n->rh tk n i l j->ww (tk j).k=S->
 ∃a:Fo,a.bare=d/\i<j/\dv (tk i).k=Q/\P tk n .unit i a j/\∀c b,DD tk n c j b->DD tk n (120::c) i b
def sta(fam:Nat):Int:=ite (fam=0) 120<|ite (fam=1) 100<|ite (fam=2) 113 116
def aft(fam a:Nat):Int:=ite (fam=0) 122<|ite (fam=1) (ite (a=2) 111<|ite (a=3) 112 110)<|ite (fam=2) (ite (2<=a) 115 114)<|ite (a=2) 118 117
def pst(fam:Nat):zLI:=ite (fam=1) ([101])<|[]
def AL(l:zLW)(e:Fo)(f:Nat):Prop:=∀(tk:Nat->Tk)(n i j:Nat),j<n->rh tk n i l j->
 ∃c:Fo,c.bare=e/\i<j/\((tk i).k=1\/(tk i).k=40)/\(∀b a,P tk n (.post (tk i) c) j b a->P tk n .base i b a)/\
  ∀fam d a,fam<4->DD tk n (aft fam f::(pst fam++d)) j a->DD tk n (sta fam::d) i a
def ESc(l:zLW)(d:Fo):Prop:=∀(tk:Nat->Tk)(n i j:Nat),j<n->rh tk n i l j->qg 0 (tk j).k->(tk j).k≠46->
 ∃a:Fo,a.bare=d/\i<j/\dv (tk i).k=Q/\P tk n .exprs i a j/\∀c b,DD tk n c j b->DD tk n (124::c) i b
def MEc(l:zLW)(d:Fo):Prop:=∀(tk:Nat->Tk)(n i j:Nat),j<n->rh tk n i l j->qg 0 (tk j).k->(tk j).k≠46->
 ∃a:Fo,a.bare=d/\qg 0 (tk i).k/\P tk n .moreE i a j/\∀c b,DD tk n c j b->DD tk n (125::c) i b
def alH:∀fam:Fin 4,xE (sta fam.val) 1=([1,aft fam.val 0]++pst fam.val,Q)/\xE (sta fam.val) 40=([40,119,41,aft fam.val 3]++pst fam.val,Q)/\100<=sta fam.val:=Z
def aag:∀fam:Fin 4,∀kd:Fin 4,xE (aft fam.val kd.val) 48=([48,1,aft fam.val 1],Q)/\xE (aft fam.val kd.val) 44=([44,119,45,aft fam.val 1],Q)/\xE (aft fam.val kd.val) 40=([40,123,41,aft fam.val 2],Q)/\100<=aft fam.val kd.val:=Z
section
variable {l m a b : zLW} {F G K : Fo} {N : Nd} {q k : Int} {kd : Nat} {w x y z : Bz}
def DL.ex(h:DL l F)(q):pj l F q:=λ_ s o p i n g=>by
 have⟨b,d,j,a,m,f⟩:=h _ s o p i n g.1;refine⟨b,d,j,a,λ_ _ r _ k=> .ex (λe=>by rw[e]at a;exact absurd a Z) O m k,λ_ r c=>?_⟩;exact DD.exp R (by rw[axh,a]) O<|f _ _ c
theorem pj.le{r}(h:pj l F q)(c:r<=q):pj l F r:=λ_ g e f b d a=>by
 have⟨_,_,_,_,_,_⟩:=h _ g e f b d<|a.mono c;grind
def AL.un(h:AL l F kd):DL l F:=λ_ p n o a m b=>by
 have⟨d,f,j,c,k,i⟩:=h _ p n o a m;refine⟨d,f,j,by obtain g|g:=c<;>rw[g]<;>decide,.ubas c O<|k _ _<|.pstop a b,λ_ _ e=>?_⟩;exact i 0 _ _ Z<|DD.exp R (axj b) a e (by decide:(100:Int)<=122)
theorem pj.bin(h:pj l F (lkw k))(g:pj m G (rpw k))(c:gg k=Q)(z:k<100)(A:k≠7)(H:ww k=S):pj (l++(sgF k::m)) (one (ajh k)<|F.app G) (BA k):=λr q p e j E i=>by
 have⟨_,ad,af⟩:=E.app;have⟨a,b,ak⟩:=af.sg A;obtain⟨u,_,_,w,B,x⟩:=h _ q p _ b ad (by rw[a];exact⟨H,λ_=>Lu _⟩);have⟨f,_,_,_,C,y⟩:=g _ q _ e j ak<|i.mono (ag0 k).1;refine⟨one (uF k (r p) (r<|e-1).t)<|u.app f,by grind [dl,alF,ft],O,w,λL s K d n=>?_,λ_ K v=>?_⟩
 .apply B L s _ (Int.le_trans d (CE k).1);have o:=C _ f e O<|.mstop j λg=>aqf<|i.2 g;rw[<-a]at d c o n;exact .mgo b c d o n
 .exact x _ _ (DD.exp a (axi c) b<|DD.tok a b (y _ _ v) z)
theorem DL.pre(h:DL l F)(i:lm k=Q)(m:k≠7)(j:k<100):DL (sgF k::l) (one (bN 30 (acp k) 0 z0 []) F):=λ_ q _ p g o f=>by
 have⟨a,b,r⟩:=o.sg m;have⟨_,d,_,_,n,e⟩:=h _ q _ p g r f;have s:dv k=Q:=by grind [dv]
 refine⟨_,by rw[dl,d,a];rfl,O,U,.upre U b n,λ_ _ c=>?_⟩;exact DD.exp a (by rw[asw];unfold Cm;rw[ae i]) b<|DD.tok a b (e _ _ c) j
theorem DL.atom{t}(f:∀(tk) (n i),(tk i).k=t.k->(tk i).n=t.n->(tk i).x=t.x->i+1<n->∃X:Fo,X.bare=F/\P tk n .unit i X (i+1))(a:t.k≠7:=by simp[sgF])(d:t.k<100:=by simp[sgF])(g:Cm t.k=([t.k],Q):=by simp[sgF,Cm,lm,dv])(e:dv t.k=Q:=by simp[sgF,lm,dv]):DL [t] F:=λtk n i _ _ b _=>by
 have⟨_,_,_,_,c⟩:=b.head a;obtain rfl:=c.nils
 simp_all [Nat.lt_succ_self,DD.exp,asw,DD.tok]
theorem at1{v}:DL [⟨2,v,z,w⟩] (one (bN 23 0 v z0 []) .nil):=DL.atom λe f d a b _ c=>⟨_,by rw[dl];show one (bN 23 0 (e d).n z0 []) .nil=_;rw[b],.uint a c⟩
theorem at3:DL [⟨3,0,x,w⟩] (one (bN 24 0 0 x []) .nil):=DL.atom λe _ d a _ b c=>⟨_,by rw[dl];show one (bN 24 0 0 (e d).x []) .nil=_;rw[b],.uflt a c⟩
theorem at4:DL [⟨4,0,x,w⟩] (one (bN 25 0 0 x []) .nil):=DL.atom λe _ d a _ b c=>⟨_,by rw[dl];show one (bN 25 0 0 (e d).x []) .nil=_;rw[b],.ustr a c⟩
theorem at5:DL [sgF 24] (one (bN 20 0 0 z0 []) .nil):=DL.atom λ_ _ _ a _ _ b=>⟨_,R,.unil a b⟩
theorem at6:DL [sgF 29] (one (bN 21 0 0 z0 []) .nil):=DL.atom λ_ _ _ a _ _ b=>⟨_,R,.utru a b⟩
theorem at7:DL [sgF 17] (one (bN 22 0 0 z0 []) .nil):=DL.atom λ_ _ _ a _ _ b=>⟨_,R,.ufls a b⟩
theorem at8:DL [sgF 49] (one (bN 27 0 0 z0 []) .nil):=DL.atom λ_ _ _ a _ _ b=>⟨_,R,.urst a b⟩
def aqg:AL [nmW x] (one (bN 26 0 0 x []) .nil) 0:=λ_ _ _ _ _ g=>by
 have⟨a,_,d,b,k⟩:=g.head;obtain rfl:=k.nils;refine⟨_,by rw[dl,d];rfl,O,.inl a,λ_ h f=> .bname a b f,λfam _ h e c=>?_⟩;have⟨i,_,j⟩:=alH ⟨_,e⟩;exact DD.exp a i b (DD.tok a b c) j
def AL.field(h:AL l F kd)(m:kd<4):AL (l++[sgF 48,nmW x]) (one (bN 33 0 0 x []) F) 1:=λ_ t q _ _ p=>by
 have⟨s,w,y⟩:=p.app;have⟨a,b,z⟩:=y.sg;have⟨c,_,g,e,A⟩:=z.head;obtain rfl:=A.nils;have⟨_,i,_,j,o,k⟩:=h _ t q s b w;refine⟨_,by rw[dl,i,g];rfl,O,j,λ_ r n=>o _ _<|.pdot a c e n,λfam _ r d f=>?_⟩;have⟨u,_,_,v⟩:=aag ⟨_,d⟩ ⟨_,m⟩;exact k _ _ _ d<|DD.exp a u b (DD.tok a b<|DD.tok c e f) v
theorem qg.of{q k}(h:ww k=S)(a:gg k=S):qg q k:=⟨h,λ_=>U⟩
def AL.index(h:AL l F kd)(r:kd<4)(g:pj m G 0):AL (l++(sgF 44::(m++[sgF 45]))) (one (bN 32 0 0 z0 [])<|F.app G) 1:=λ_ f w _ _ v=>by
 have⟨y,B,C⟩:=v.app;have⟨d,c,E⟩:=C.sg;have⟨_,H,K⟩:=E.app;have⟨a,b,L⟩:=K.sg;obtain rfl:=L.nils;have⟨_,k,_,o,t,p⟩:=h _ f w y c B;have⟨i,n,_,_,u,q⟩:=g _ f _ _ b H<|xu a;refine⟨_,by rw[dl,ft,k,n];rfl,O,o,λ_ x s=>t _ _<|.psq d c (u 0 i _ O (.mstop b λg=>by rw[a]at g;exact absurd g Z)) a b s,λfam _ x e j=>?_⟩;have⟨_,z,_,A⟩:=aag ⟨_,e⟩ ⟨_,r⟩;exact p _ _ _ e<|DD.exp d z c (DD.tok d c<|q _ _<|DD.exp a (Aq Z) b<|DD.tok a b j) A
def AL.call0(h:AL l F kd)(k:kd<4):AL (l++[sgF 40,sgF 41]) (one (bN 34 0 0 z0 []) F) 2:=λ_ s p _ _ o=>by
 have⟨r,v,w⟩:=o.app;have⟨a,c,x⟩:=w.sg;have⟨b,d,y⟩:=x.sg;obtain rfl:=y.nils;have⟨_,g,_,i,n,j⟩:=h _ s p r c v;refine⟨_,by rw[dl,g];rfl,O,i,λ_ q m=>n _ _<|.pcall0 a b d m,λfam _ q e f=>?_⟩;have⟨_,_,t,u⟩:=aag ⟨_,e⟩ ⟨_,k⟩;exact j _ _ _ e<|DD.exp a t c (DD.tok a c<|DD.exp b (by decide:xE 123 41=([],Q)) d<|DD.tok b d f) u
def axm(h:dv t=Q):xE 123 t=([124],Q):=by simp[xE,ak4,h]
def AL.call(h:AL l F kd)(s:kd<4)(g:ESc m G):AL (l++(sgF 40::(m++[sgF 41]))) (one (bN 34 0 0 z0 [])<|F.app G) 2:=λaf j y _ _ x=>by
 have⟨i,C,E⟩:=x.app;have⟨a,d,H⟩:=E.sg;have⟨_,K,L⟩:=H.app;have⟨b,e,ad⟩:=L.sg;obtain rfl:=ad.nils;have⟨_,n,_,p,v,q⟩:=h _ j y i d C;have⟨_,o,_,c,w,r⟩:=g _ j _ _ e K (xu b) O;have u:(af<|i+1).k≠41:=λg=>by rw[g]at c;exact absurd c Z
 refine⟨_,by rw[dl,ft,n,o];rfl,O,p,λ_ z t=>v _ _<|.pcall a O u w b e t,λfam _ z f k=>?_⟩;have⟨_,_,A,B⟩:=aag ⟨_,f⟩ ⟨_,s⟩;exact q _ _ _ f<|DD.exp a A d (DD.tok a d<|DD.exp R (axm c) O<|r _ _<|DD.tok b e k) B
def ag1(h:pj l (one N K) 0)(tk n i j)(G:j<n)(y:rh tk n i (sgF 40::(l++[sgF 41])) j):
  ∃d L k,(tk i).k=40/\d.bare=N/\L.bare=K/\k+1=j/\i+1<k/\(∀R1 a,P tk n (.post (tk i)<|lI d L (tk i) (tk k).t) j R1 a->P tk n .base i R1 a)/\∀fam g a,fam<4->DD tk n (aft fam 3::(pst fam++g)) j a->DD tk n (sta fam::g) i a:=by
 have⟨e,f,B⟩:=y.sg;have⟨_,C,E⟩:=B.app;have⟨b,c,F⟩:=E.sg;obtain rfl:=F.nils;have⟨_,r,v,_,x,s⟩:=h _ n _ _ c C<|xu b;obtain⟨d,L,rfl,q,p⟩:=alE r;refine⟨d,L,_,e,q,p,R,v,λR1 a w=> .bopen e f (x 0 _ _ O (.mstop c λm=>by rw[b]at m;exact absurd m Z)) b c w,λfam g a u o=>?_⟩;have⟨_,z,A⟩:=alH ⟨_,u⟩;exact DD.exp e z f (DD.tok e f<|s _ _<|DD.exp b (Aq Z) c<|DD.tok b c o) A
theorem pj.par(h:pj l (one N K) 0)(j:N.k≠34)(m:N.k≠27):AL (sgF 40::(l++[sgF 41])) (one N K) 3:=λ_ g e f c d=>by
 obtain⟨a,_,k,_,b,_,rfl,_,_,_⟩:=ag1 h _ g e f c d;have i:a.k=N.k:=by rw[<-b];rfl
 grind [lI,one,dl]
theorem pj.held(h:pj l (one N K) 0)(s:N.k=34\/N.k=27):AL (sgF 40::(l++[sgF 41])) (one (bN 37 0 0 z0 [])<|one N K) 3:=λa q c p n o=>by
 obtain⟨b,d,k,g,e,i,rfl,_,f,m⟩:=ag1 h _ q c p n o;have r:b.k=N.k:=by rw[<-e];rfl
 have j:lI b d (a c) (a k).t=one (lF 37 (a c) (a k).t) (one b d):=by grind [lI]
 rw[j]at f;exact⟨_,by rw[dl,dl,e,i];rfl,O,.inr g,f,m⟩
def MEc.nil:MEc [] .nil:=λ_ _ _ _ b e d a=>by
 obtain rfl:=e.nils;exact⟨_,R,d,.estop a b,λ_ _ c=>DD.exp R (axk a) b c⟩
theorem MEc.cons(h:pj l F 0)(g:MEc m G):MEc (sgF 46::(l++m)) (F.app G):=λb f w x s v q n=>by
 have⟨c,e,y⟩:=v.sg;have⟨a,z,i⟩:=y.app;have⟨_,_,d,u,p⟩:=g _ f a x s i q n;have A:=i.le;have⟨j,_,_,_,t,o⟩:=h _ f _ a O z d;have r:qg 0 (b w).k:=xu c;refine⟨_,by grind [ft],r,.ego c e (t 0 j a O (.mstop O λg=>by have:=d.2 g;have:=DK (b a).k;have:=CE (b a).k;omega)) u,λ_ _ k=>?_⟩;refine DD.exp c (by decide:xE 125 46=([46,119,125],Q)) e<|DD.tok c e<|o _ _ ?_;refine DD.exp R (Aq ?_) O<|p _ _ k;cases hx:gg (b a).k with
 |false=>rfl|true=>have:=d.2 hx;have:=DK (b a).k;have:=CE (b a).k;omega
def qg.no{k}(h:qg 0 k):gg k=S:=by
 cases hx:gg k with
 |false=>rfl|true=>have:=h.2 hx;have:=DK k;have:=CE k;omega
theorem MEc.all(h:pj l F 0)(g:MEc m G):ESc (l++m) (F.app G):=λ_ d t u p s o j=>by
 have⟨b,v,e⟩:=s.app;have⟨_,_,a,r,n⟩:=g _ d b u p e o j;have w:=e.le;have⟨f,_,_,c,q,k⟩:=h _ d t b O v a;refine⟨_,by grind [ft],O,c,.es (q 0 f b O (.mstop O λg=>by rw[a.no]at g;cases g)) r,λ_ _ i=>?_⟩;exact DD.exp R (by rw[alG,c]) O<|k _ _<|DD.exp R (Aq a.no) O<|n _ _ i
end
def acE(k:Int):Prop:=k=5\/k=6\/k=43
def acE.e(h:acE k):qg 0 k/\k≠46/\k≠47/\k≠15/\k≠16/\dv k=S/\ww k=S/\k≠42:=by
 obtain rfl|rfl|rfl:=h<;>exact⟨.of Z Z,Z⟩
def BLc(l:zLW)(d:Fo):Prop:=∀(tk:Nat->Tk)(n i j:Nat),j<n->rh tk n i l j->
 ∃a:Fo,a.bare=d/\i<j/\(tk i).k=42/\P tk n .block i a j/\∀c b,DD tk n c j b->DD tk n (132::c) i b
def BDc(l:zLW)(d:Fo):Prop:=∀(tk:Nat->Tk)(n i j:Nat)(e:Tk),j<n->rh tk n i l j->
 ∃a:Fo,a.bare=d/\i<j/\(tk i).k=40/\P tk n (.body e) i a j/\∀c b,DD tk n c j b->DD tk n (133::c) i b
def Jh(l:zLW)(d:Fo):Prop:=∀(tk:Nat->Tk)(n i j:Nat),j<n->rh tk n i l j->acE (tk j).k->
 ∃a:Fo,a.bare=d/\i<j/\¬acE (tk i).k/\P tk n .stat i a j/\∀c b,DD tk n (101::c) j b->DD tk n (100::c) i b
def BRc(l:zLW)(d:Fo):Prop:=∀(tk:Nat->Tk)(n i j:Nat),((tk i).k=20\/(tk i).k=15)->i<n->j<n->rh tk n (i+1) l j->acE (tk j).k->
 ∃a:Fo,a.bare=d/\i+1<j/\P tk n .branch i a j/\∀c b,DD tk n c j b->DD tk n (119::132::105::c) (i+1) b
def ENc(l:zLW)(d:Fo):Prop:=∀(tk:Nat->Tk)(n i j:Nat),j<n->rh tk n i l j->qg 0 (tk j).k->
 ∃a:Fo,a.bare=d/\i<j/\(dv (tk i).k=Q\/(tk i).k=48\/(tk i).k=44)/\P tk n .entry i a j/\∀c b,DD tk n c j b->DD tk n (131::c) i b
def TBc(l:zLW)(d:Fo):Prop:=∀(tk:Nat->Tk)(n i j:Nat),j<n->rh tk n i l j->(tk j).k=43->
 ∃a:Fo,a.bare=d/\i<=j/\P tk n .entries i a j/\∀c b,DD tk n (43::c) j b->DD tk n (129::43::c) i b
def SLc(l:zLW)(d:Fo):Prop:=∀(tk:Nat->Tk)(n i j:Nat),j<n->rh tk n i l j->((tk j).k=43\/(tk j).k=6)->
 ∃c:Fo,c.bare=d/\(tk i).k=5/\i<j/\P tk n .stats i c j/\∀b a,DD tk n ((tk j).k::b) j a->DD tk n (100::(tk j).k::b) i a/\DD tk n (101::(tk j).k::b) i a
def nmL:zLB->zLW|[]=>[]|[x]=>[nmW x]|x::r=>nmW x::sgF 46::nmL r
def aah:zLB->Bool->zLW|[],false=>[]|[],true=>[sgF 49]|x::r,t=>nmW x::(ite (r=[]/\t=S) ([]) (sgF 46::aah r t))
section
variable {tk : Nat → Tk} {n : Nat}
def DD.ex{s}{r L:zLI}{b}(f:(tk i).k=t)(e:xE s t=(L,b))(l:100<=s)(d:DD tk n (s::r) i j):DD tk n (L++r) i j:=by
 obtain⟨_,d⟩:=d;cases d with
 |tok c=>omega|exp c g h a=>rw[f,e]at a;exact⟨_,a⟩
theorem alI:∀(r:zLB)(x)(i j),rh tk n i (nmL (x::r)) j->j<n->(tk j).k≠46->
  (tk i).k=1/\(tk i).x=x/\i<j/\Kd tk n (i+1) r j/\∀c b,DD tk n c j b->DD tk n (104::c) (i+1) b
 |[],x,i,j,g,a,h=>by
  have⟨e,_,f,s,l⟩:=g.head;obtain rfl:=l.nils;exact⟨e,f,O,.stop h a,λc b d=>DD.exp R (axl h) a d⟩
 |y::r,x,i,j,g,a,h=>by
  have⟨e,_,f,s,l⟩:=g.head;have⟨m,o,t⟩:=l.sg;have⟨p,_,_,_,q⟩:=alI r y _ j t a h;refine⟨e,f,O,?_,λc b d=>?_⟩
  .grind [Kd.go]
  .exact DD.exp m (by decide:xE 104 46=([46,1,104],Q)) o (DD.tok m o<|DD.tok p O<|q _ _ d)
theorem asx:∀(nm)(t)(i k),rh tk n i (aah nm t) k->(tk k).k=41->k+1<n->
  Prm tk n i nm t (k+1)/\i<=k/\∀b a,DD tk n (41::b) k a->DD tk n (126::41::b) i a/\((nm≠[]\/t=Q)->DD tk n (128::41::b) i a)
 |[],false,i,k,g,h,f=>by
  obtain rfl:=g.nils;exact⟨.close h f,O,λb a d=>⟨DD.exp h (by decide:xE 126 41=([],Q)) O d,λ_=>U⟩⟩
 |[],true,i,k,g,h,f=>by
  have⟨c,e,j⟩:=g.sg;obtain rfl:=j.nils;exact⟨.rest c h f,O,λb a d=>⟨DD.exp c (by decide:xE 126 49=([49],Q)) e<|DD.tok c e d,λ_=>DD.exp c (by decide:xE 128 49=([49],Q)) e<|DD.tok c e d⟩⟩
 |x::p,t,i,k,g,h,f=>by
  rw[aah]at g;have⟨c,_,o,e,j⟩:=g.head
  change (tk i).x=x at o
  have r:∀b a,DD tk n (127::41::b) (i+1) a->DD tk n (126::41::b) i a/\((x::p≠[]\/t=Q)->DD tk n (128::41::b) i a):=λb a d=>
   ⟨DD.exp c (by decide:xE 126 1=([1,127],Q)) e<|DD.tok c e d,λ_=>DD.exp c (by decide:xE 128 1=([1,127],Q)) e<|DD.tok c e d⟩
  by_cases l:p=[]/\t=S
  .rw[ae l]at j;obtain⟨rfl,rfl⟩:=l;obtain rfl:=j.nils;have:=Prm.last c h f;rw[o]at this;exact⟨this,O,λb a d=>r b a<|DD.exp h (by decide:xE 127 41=([],Q)) O d⟩
  .rw[aa l]at j;have⟨m,q,v⟩:=j.sg;have⟨s,_,u⟩:=asx p t _ k v h f;have:=Prm.go c m O s;rw[o]at this;refine⟨this,O,λb a d=>r b a ?_⟩;refine DD.exp m (by decide:xE 127 46=([46,128],Q)) q<|DD.tok m q<|(u b a d).2 ?_;grind
theorem axn{k}(h:∀q,i<=q->q<k->(tk q).k=5/\q<n)(o:i<k):(∀R1 j,P tk n .stats k R1 j->P tk n .stats i R1 j)/\∀c b,DD tk n (100::c) k b->DD tk n (100::c) i b/\DD tk n (101::c) i b:=by
 have r:∀a,i+a<=k->(∀R1 j,P tk n .stats k R1 j->P tk n .stats (k-a) R1 j)/\∀c b,DD tk n (100::c) k b->DD tk n (100::c) (k-a) b:=by
  intro a
  induction a with
  |zero=>grind|succ a p=>
   intro m;have⟨g,f⟩:=p O;have⟨d,e⟩:=h (k-(a+1)) O O;have s:k-(a+1)+1=k-a:=O;refine⟨λR1 j l=> .ssep d e U,λc b m=>?_⟩;exact DD.exp d (by decide:xE 100 5=([5,100],Q)) e<|DD.tok d e byS
 have⟨g,f⟩:=r (k-(i+1)) O;rw[(O:k-(k-(i+1))=i+1)]at g f;obtain⟨d,e⟩:=h i O o;exact⟨λR1 j l=> .ssep d e (g R1 j l),λc b a=>⟨DD.exp d (by decide:xE 100 5=([5,100],Q)) e<|DD.tok d e<|f c b a,DD.exp d (by decide:xE 101 5=([5,100],Q)) e<|DD.tok d e<|f c b a⟩⟩
end
section
variable {l m a b : zLW} {F G K : Fo} {N : Nd} {q k : Int} {kd : Nat} {w x y z : Bz}
theorem pj.es(h:pj l F 0):ESc l F:=by
 have:=MEc.all h MEc.nil;grind [Fo.app_nil]
theorem ESc.cons(h:pj l F 0)(g:ESc m G):ESc (l++(sgF 46::m)) (F.app G):=λi f v w r u q n=>by
 have⟨e,A,B⟩:=u.app;have⟨a,b,C⟩:=B.sg;have⟨j,_,_,_,t,p⟩:=g i f _ w r C q n;have⟨c,_,_,d,s,o⟩:=h i f v e b A<|xu a;refine⟨c.app j,by grind [ft],O,d,.es (s 0 c e O (.mstop b λg=>by rw[a]at g;exact absurd g Z)) ?_,λE x k=>?_⟩
 .cases t with
  |es y z=>exact .ego a b y z
 .refine DD.exp R (by rw[alG,d]) O (o _ _<|DD.exp a (Aq Z) b<|DD.exp a (by decide:xE 125 46=([46,119,125],Q)) b<|DD.tok a b ?_);exact DD.ex R (alG _) Z<|p E x k
theorem pj.item(h:pj l F 0):ENc l (one (bN 40 0 0 z0 []) F):=λb s a i g r f=>by
 have⟨j,n,p,e,q,o⟩:=h b s a i g r f;have d:(b a).k≠48/\(b a).k≠44/\(b a).k≠6:=by refine⟨?_,?_,?_⟩<;>(intro c;rw[c]at e;exact absurd e Z)
 refine⟨_,by rw[dl,n];rfl,p,.inl e,.item d.1 d.2.1 d.2.2 O<|q 0 j i O (.mstop g λc=>by rw[f.no]at c;cases c),λ_ _ m=>?_⟩;exact DD.exp R (by grind [xE,aiF]:xE 131 (b a).k=([119],Q)) O<|o _ _<|DD.exp R (Aq f.no) g m
def pj.pair(h:pj l F 0)(g:pj m G 0):ENc (sgF 44::(l++(sgF 45::sgF 47::m))) (one (bN 41 0 0 z0 [])<|F.app G):=λp o _ k f z d=>by
 have⟨c,e,A⟩:=z.sg;have⟨n,B,C⟩:=A.app;have⟨a,b,E⟩:=C.sg;have⟨i,j,H⟩:=E.sg;have⟨q,t,_,_,x,v⟩:=h p o _ n b B<|xu a;have⟨r,u,_,_,y,w⟩:=g p o _ k f H d;refine⟨_,by rw[dl,ft,t,u];rfl,O,O,.pair c e (x 0 q n O (.mstop b λg=>by rw[a]at g;exact absurd g Z)) a i j<|y 0 r k O (.mstop f λg=>by rw[d.no]at g;cases g),λ_ _ s=>?_⟩;exact DD.exp c (by decide:xE 131 44=([44,119,45,47,119],Q)) e<|DD.tok c e<|v _ _<|DD.exp a (Aq Z) b<|DD.tok a b<|DD.tok i j<|w _ _<|DD.exp R (Aq d.no) f s
def pj.named(h:pj l F 0):ENc (sgF 48::nmW x::sgF 47::l) (one (bN 42 0 0 x []) F):=λm w v j d u c=>by
 have⟨a,g,y⟩:=u.sg;have⟨b,_,q,s,z⟩:=y.head;have⟨e,i,A⟩:=z.sg
 change (m<|v+1).k=1 at b
 have⟨n,p,_,_,t,r⟩:=h m w _ j d A c;refine⟨_,by rw[dl,p,q];rfl,O,O,.named a b e i<|t 0 n j O (.mstop d λf=>by rw[c.no]at f;cases f),λ_ _ o=>?_⟩;exact DD.exp a (by decide:xE 131 48=([48,1,47,119],Q)) g<|DD.tok a g<|DD.tok b s<|DD.tok e i<|r _ _<|DD.exp R (Aq c.no) d o
theorem asy(h:dv t=Q\/t=48\/t=44):xE 129 t=([131,130],Q):=by
 obtain h|rfl|rfl:=h;all_goals (grind [xE,ak8])
def asz(h:dv t=Q\/t=48\/t=44):t≠43:=by
 obtain h|rfl|rfl:=h
 .intro a;rw[a]at h;exact absurd h Z
 all_goals omega
def TBc.nil:TBc [] .nil:=λ_ _ _ _ b d a=>by
 obtain rfl:=d.nils;exact⟨_,R,O,.nstop a b,λ_ _ c=>DD.exp a (by decide:xE 129 43=([],Q)) b c⟩
theorem ENc.last(h:ENc l F):TBc l F:=λo n k m a j b=>by
 have⟨d,f,_,c,i,g⟩:=h o n k m a j<|xu b;refine⟨d,f,O,?_,λ_ _ e=>DD.exp R (asy c) O<|g _ _<|DD.exp b (by decide:xE 130 43=([],Q)) a e⟩;have:=P.nlast (asz c) O i O a<|.nstop b a;grind [Fo.app_nil]
theorem ENc.cons(h:ENc l F)(g:TBc m G):TBc (l++(sgF 46::m)) (F.app G):=λe d r s n q i=>by
 have⟨t,u,v⟩:=q.app;have⟨a,b,w⟩:=v.sg;have⟨_,_,_,p,k⟩:=g e d _ s n w i;have⟨_,_,_,c,o,j⟩:=h e d r t b u<|xu a;refine⟨_,by grind [ft],O,.ncom (asz c) O o a b p,λ_ _ f=>?_⟩;exact DD.exp R (asy c) O<|j _ _<|DD.exp a (by decide:xE 130 46=([46,129],Q)) b<|DD.tok a b<|k _ _ f
def TBc.un(h:TBc l F):DL (sgF 42::(l++[sgF 43])) (one (bN 35 0 0 z0 []) F):=λs n _ _ i k _=>by
 have⟨a,c,o⟩:=k.sg;have⟨m,p,q⟩:=o.app;have⟨b,d,r⟩:=q.sg;obtain rfl:=r.nils;have⟨_,f,_,j,g⟩:=h s n _ m d p b;exact⟨_,by rw[dl,f];rfl,O,by rw[a];decide,.utab a c j b i,λ_ _ e=>DD.exp a (by decide:xE 120 42=([42,129,43],Q)) c<|DD.tok a c<|g _ _<|DD.tok b d e⟩
def at9:BLc [sgF 42,sgF 43] (one (bN 1 0 0 z0 []) .nil):=λ_ _ _ _ f g=>by
 have⟨a,c,h⟩:=g.sg;have⟨b,d,i⟩:=h.sg;obtain rfl:=i.nils;exact⟨_,R,O,a,.block a c (.sstop (.inl b) d) b f,λ_ _ e=>DD.exp a (by decide:xE 132 42=([42,100,43],Q)) c<|DD.tok a c<|DD.exp b (by decide:xE 100 43=([],Q)) d<|DD.tok b d e⟩
def SLc.bl(h:SLc l F):BLc (sgF 42::(l++[sgF 43])) (one (bN 1 0 0 z0 []) F):=λs n _ _ i k=>by
 have⟨a,c,o⟩:=k.sg;have⟨m,p,q⟩:=o.app;have⟨b,e,r⟩:=q.sg;obtain rfl:=r.nils;have⟨_,g,_,_,j,d⟩:=h s n _ m e p<|.inl b;rw[b]at d;exact⟨_,by rw[dl,g];rfl,O,a,.block a c j b i,λ_ _ f=>DD.exp a (by decide:xE 132 42=([42,100,43],Q)) c<|DD.tok a c (d _ _<|DD.tok b e f).1⟩
def axo(h:t=43\/t=6):xE 100 t=([],Q):=by obtain rfl|rfl:=h<;>decide
def SLc.nil:SLc [nlW] .nil:=λ_ _ i _ c h b=>by
 have⟨_,a,j,d⟩:=h.nl R;obtain rfl:=j.nils;have⟨e,f⟩:=axn d a;exact⟨_,R,(d i O a).1,a,e _ _<|.sstop b c,λ_ _ g=>f _ _<|DD.exp R (axo b) c g⟩
theorem SLc.cons(h:Jh l F)(g:SLc m G):SLc (nlW::(l++m)) (F.app G):=λf e v w r u q=>by
 have⟨x,b,y,c⟩:=u.nl R;have⟨d,z,A⟩:=y.app;have⟨i,j⟩:=axn c b;have⟨_,_,n,_,t,p⟩:=g f e d w r A q;have⟨_,_,_,a,s,o⟩:=h f e x d O z<|.inl n;refine⟨_,by grind [ft],(c v O b).1,O,i _ _<|.sgo (λg=>a<|.inl g) (λg=>a<|.inr<|.inl g) (λg=>a<|.inr<|.inr g) O s t,λ_ _ k=>j _ _<|o _ _ (p _ _ k).2⟩
theorem aua(h:Jh l F)(g:SLc m G):∀(tk)(n j),j<n->rh tk n 0 (l++m) j->(tk j).k=6->∃X:Fo,X.bare=F.app G/\P tk n .stats 0 X j/\DD tk n [100,6] 0 (j+1):=λtk n j d q b=>by
 have⟨e,r,s⟩:=q.app;have⟨_,_,f,_,p,c⟩:=g tk n e j d s<|.inr b;have⟨X,_,_,a,o,i⟩:=h tk n 0 e O r<|.inl f;rw[b]at c;exact⟨_,by grind [ft],.sgo (λg=>a<|.inl g) (λg=>a<|.inr<|.inl g) (λg=>a<|.inr<|.inr g) O o p,i _ _ (c _ _<|DD.tok b d ⟨0,.nil⟩).2⟩
def BLc.body(h:BLc l F)(nm r):BDc (sgF 40::(aah nm r++(sgF 41::l))) (one (bN 36 (ite (r=Q) 1 0) 0 z0 nm) F):=λw q _ o _ j n=>by
 have⟨a,b,s⟩:=n.sg;have⟨p,t,u⟩:=s.app;have⟨c,k,v⟩:=u.sg;have⟨_,e,_,_,m,i⟩:=h w q _ o j v;have⟨f,_,g⟩:=asx nm r _ p t c O;refine⟨_,by rw[dl,e];rfl,O,a,.body a b f m,λ_ _ d=>?_⟩;exact DD.exp a (by decide:xE 133 40=([40,126,41,132],Q)) b<|DD.tok a b (g _ _<|DD.tok c k<|i _ _ d).1
def BDc.un(h:BDc l F):DL (sgF 18::l) F:=λc o m n i k _=>by
 have⟨a,b,p⟩:=k.sg;have⟨d,f,_,_,j,g⟩:=h c o _ n (c m) i p;exact⟨d,f,O,by rw[a];decide,.ufn a b j,λ_ _ e=>DD.exp a (by decide:xE 120 18=([18,133],Q)) b<|DD.tok a b<|g _ _ e⟩
end
def TMc(l:zLW)(e:Fo):Prop:=∀(tk:Nat->Tk)(n i j:Nat),j<n->rh tk n i l j->(tk j).k=47->
 ∃b:Fo,b.bare=e/\i<=j/\P tk n .moreB i b j/\∀d c a,(a=110\/a=114)->DD tk n (47::124::d) j c->DD tk n (a::d) i c
def zL(h:(tk i).k=k)(a:¬(k=5\/k=6\/k=43):=by decide):¬acE (tk i).k:=by rw[h];exact a
section
variable {l m p a b : zLW} {F G H K : Fo} {N : Nd} {q k : Int} {kd : Nat} {w x y z : Bz} {r : zLB}
def TMc.nil:TMc [] .nil:=λ_ _ _ _ a e c=>by
 obtain rfl:=e.nils;exact⟨_,R,O,.bstop O a,λ_ _ _ d b=>by obtain rfl|rfl:=d<;>exact DD.exp (L:=[47,124]) c Z a b⟩
theorem TMc.cons(h:AL l F kd)(B:kd<2)(g:TMc m G):TMc (sgF 46::(l++m)) (F.app G):=λd j _ x t w f=>by
 have⟨a,b,y⟩:=w.sg;have⟨c,z,A⟩:=y.app;have⟨_,_,_,i,s⟩:=g d j c x t A f;have⟨_,_,_,_,v,r⟩:=h d j _ c O z;have p:aft 2 kd=114:=by obtain rfl|rfl:=(O:kd=0\/kd=1)<;>rfl
 have u:ww (d c).k=S:=by
  cases i with
  |bstop e=>rw[f];decide|bgo e=>rw[e];decide
 refine⟨_,by grind [ft],O,.bgo a b (v _ _<|.pstop O u) i,λk e _ q n=>?_⟩;have o:=r 2 k e Z (by rw[p];exact s k e _ O n);obtain rfl|rfl:=q<;>exact DD.exp (L:=[46,113]) a Z b<|DD.tok a b o
def BLc.st(h:BLc l F):Jh l F:=λo n k m f j _=>by
 have⟨b,d,g,a,i,e⟩:=h o n k m f j;exact⟨b,d,g,zL a,.tblock a O i,λp _ c=>DD.exp a (by decide:xE 100 42=([132,101],Q)) O<|e _ _ c⟩
def aqh:Jh (sgF 22::nmL (x::r)) (one (bN 2 0 0 z0 (x::r)) .nil):=λq _ _ g f o n=>by
 have⟨a,d,p⟩:=o.sg;have⟨_,i,b,_⟩:=n.e;have⟨c,j,_,l,m⟩:=alI r x _ g p f i;refine⟨_,?_,O,zL a,.tlet0 a O c l b,λ_ _ h=>?_⟩
 .rw[dl,j];rfl
 .exact DD.exp a (by decide:xE 100 22=([22,1,104,103,101],Q)) d (DD.tok a d<|DD.tok c O<|m _ _<|DD.exp R (by simp[xE,akI,b]:xE 103 (q g).k=([],Q)) f h)
def ESc.let_(h:ESc l F):Jh (sgF 22::(nmL (x::r)++(sgF 47::l))) (one (bN 2 0 0 z0 (x::r)) F):=λB v _ t p s f=>by
 have⟨a,g,w⟩:=s.sg;have⟨u,y,z⟩:=w.app;have⟨b,c,A⟩:=z.sg;have⟨d,k,_,m,n⟩:=alI r x _ u y c O;have⟨_,j,_,_,q,o⟩:=h B v _ t p A f.e.1 f.e.2.1;refine⟨_,?_,O,zL a,.tlet a O d m b q,λ_ _ i=>?_⟩
 .rw[dl,k,j];rfl
 .exact DD.exp a (by decide:xE 100 22=([22,1,104,103,101],Q)) g (DD.tok a g<|DD.tok d O<|n _ _<|DD.exp b (by decide:xE 103 47=([47,124],Q)) c<|DD.tok b c<|o _ _ i)
def mst{n s X}(b:j<n)(h:qg 0 (tk j).k):P tk n (.more 0 s X) j X j:= .mstop b λa=>by rw[h.no]at a;cases a
def dst{n a b}(c:j<n)(h:qg 0 (tk j).k)(d:DD tk n b j a):DD tk n (121::b) j a:=DD.exp R (Aq h.no) c d
def pj.const(h:pj l F 0):Jh (sgF 13::nmW x::sgF 47::l) (one (bN 3 0 0 z0 [x]) F):=λm w v j d u c=>by
 have⟨a,g,y⟩:=u.sg;have⟨b,_,q,s,z⟩:=y.head;have⟨f,i,A⟩:=z.sg
 change (m<|v+1).k=1 at b
 have⟨n,p,_,_,t,r⟩:=h m w _ j d A c.e.1;refine⟨_,?_,O,zL a,.tcon a b f i<|t 0 n j O<|mst d c.e.1,λ_ _ o=>?_⟩
 .rw[dl,q,p];rfl
 .exact DD.exp a (by decide:xE 100 13=([13,1,47,119,101],Q)) g (DD.tok a g<|DD.tok b s<|DD.tok f i<|r _ _<|dst d c.e.1 o)
def BDc.fn(h:BDc l F):Jh (sgF 18::nmW x::l) (one (bN 4 0 0 z0 [x]) F):=λc s e r n q _=>by
 have⟨a,d,t⟩:=q.sg;have⟨b,_,i,o,u⟩:=t.head
 change (c<|e+1).k=1 at b
 have⟨_,g,_,j,p,m⟩:=h c s _ r (c<|e+2) n u;refine⟨_,?_,O,zL a,.tfn a b j O p,λ_ _ f=>?_⟩
 .rw[dl,i,g];rfl
 .exact DD.exp a (by decide:xE 100 18=([18,1,133,101],Q)) d (DD.tok a d<|DD.tok b o<|m _ _ f)
theorem AL.fol(h:(tk i).k=1\/(tk i).k=40):¬acE (tk i).k:=by grind [acE]
theorem AL.set(h:AL l F kd)(ar:kd<2)(g:TMc m G)(e:ESc p H):Jh (l++(m++(sgF 47::p))) (one (bN 5 0 (F.app G).len z0 [])<|(F.app G).app H):=λb f K L z E k=>by
 have⟨d,ak,al⟩:=E.app;have⟨af,am,an⟩:=al.app;have⟨a,c,ao⟩:=an.sg;have⟨q,t,_,n,x⟩:=g b f d af c am a;have⟨o,s,_,j,B,w⟩:=h b f K d O ak;have⟨_,u,_,_,C,y⟩:=e b f _ L z ao k.e.1 k.e.2.1;have v:aft 1 kd=110:=by obtain rfl|rfl:=(O:kd=0\/kd=1)<;>rfl
 have A:ww (b d).k=S:=by
  cases n with
  |bstop i=>rw[a];decide|bgo i=>rw[i];decide
 refine⟨_,?_,O,AL.fol j,.tset j O (B _ _<|.pstop O A) n a c C,λap ad i=>?_⟩
 .have r:(o.app q).len=(F.app G).len:=by grind [acD,ft]
  rw[dl,ft,ft,s,t,u,r];rfl
 .exact w 1 ap ad Z (by rw[v];exact x _ _ _ O<|DD.tok a c<|y _ _ i)
def AL.do_(h:AL l F 2):Jh l (one (bN 6 0 0 z0 []) F):=λt r o p a n d=>by
 have⟨_,i,k,c,m,j⟩:=h t r o p a n;have b:=d.e;refine⟨_,by rw[dl,i];rfl,k,AL.fol c,.tdo c O (m _ _<|.pstop a b.2.2.2.2.2.2.1) b.2.1 b.2.2.1 a,λs q f=>?_⟩;refine j 1 s q Z<|DD.exp (L:=[]) R ?_ a f;obtain g|g|g:=d<;>rw[g]<;>decide
def AL.defer(h:AL l F 2):Jh (sgF 14::l) (one (bN 16 0 0 z0 []) F):=λr p _ n c m d=>by
 have⟨a,b,q⟩:=m.sg;have⟨_,i,_,_,k,j⟩:=h r p _ n c q;refine⟨_,by rw[dl,i];rfl,O,zL a,.tdefer a b<|k _ _<|.pstop c d.e.2.2.2.2.2.2.1,λ_ o f=>?_⟩;refine DD.exp a (by decide:xE 100 14=([14,116,101],Q)) b<|DD.tok a b<|j 3 _ o Z<|DD.exp (L:=[]) R ?_ c f;obtain g|g|g:=d<;>rw[g]<;>decide
def pj.throw(h:pj l F 0):Jh (sgF 28::l) (one (bN 15 0 0 z0 []) F):=λq o _ f d n b=>by
 have⟨a,c,p⟩:=n.sg;have⟨g,j,_,_,m,k⟩:=h q o _ f d p b.e.1;exact⟨_,by rw[dl,j];rfl,O,zL a,.tthrow a c<|m 0 g f O<|mst d b.e.1,λ_ _ i=>DD.exp a (by decide:xE 100 28=([28,119,101],Q)) c<|DD.tok a c<|k _ _<|dst d b.e.1 i⟩
def ag2{k d}(h:(k=11/\d=11)\/(k=23/\d=12)):Jh [sgF k] (one (bN d 0 0 z0 []) .nil):=λj _ i _ f g _=>by
 obtain⟨rfl,rfl⟩|⟨rfl,rfl⟩:=h
 .have⟨a,b,e⟩:=g.sg
  change (j i).k=11 at a
  obtain rfl:=e.nils;exact⟨_,R,O,zL a,.tbreak a f,λm l c=>DD.exp a (by decide:xE 100 11=([11,101],Q)) b<|DD.tok a b c⟩
 .have⟨a,b,e⟩:=g.sg
  change (j i).k=23 at a
  obtain rfl:=e.nils;exact⟨_,R,O,zL a,.tnext a f,λm l c=>DD.exp a (by decide:xE 100 23=([23,101],Q)) b<|DD.tok a b c⟩
def aqi:Jh [sgF 27] (one (bN 13 0 0 z0 []) .nil):=λj _ h _ d g b=>by
 have⟨a,c,i⟩:=g.sg;obtain rfl:=i.nils;exact⟨_,R,O,zL a,.tret0 a d b,λ_ _ f=>DD.exp a (by decide:xE 100 27=([27,108,101],Q)) c<|DD.tok a c<|DD.exp R (by simp[xE,aiD,b.e.2.2.2.2.2.1]:xE 108 (j<|h+1).k=([],Q)) d f⟩
def ESc.ret(h:ESc l F):Jh (sgF 27::l) (one (bN 13 0 0 z0 []) F):=λf r p q m o c=>by
 have⟨a,d,s⟩:=o.sg;have⟨_,i,_,b,n,j⟩:=h f r _ q m s c.e.1 c.e.2.1;exact⟨_,by rw[dl,i];rfl,O,zL a,.tret a O b n,λ_ _ g=>DD.exp a (by decide:xE 100 27=([27,108,101],Q)) d<|DD.tok a d<|DD.exp R (by simp[xE,aiD,b]:xE 108 (f<|p+1).k=([124],Q)) O<|j _ _ g⟩
def pj.while_(h:pj l F 0)(g:BLc m G):Jh (sgF 31::(l++m)) (one (bN 8 0 0 z0 [])<|F.app G):=λe f _ v r u _=>by
 have⟨a,c,w⟩:=u.sg;have⟨b,x,y⟩:=w.app;have⟨_,n,_,o,t,q⟩:=g e f b v r y;have d:qg 0 (e b).k:=xu o;have⟨i,k,_,_,s,p⟩:=h e f _ b O x d;exact⟨_,by rw[dl,ft,k,n];rfl,O,zL a,.twhile a c (s 0 i b O<|mst O d) t,λ_ _ j=>DD.exp a (by decide:xE 100 31=([31,119,132,101],Q)) c<|DD.tok a c<|p _ _<|dst O d<|q _ _ j⟩
theorem pj.for_(h:pj l F 0)(g:ESc m G)(e:BLc p H)(C:∀(tk) (n i j),j<n->rh tk n i m j->(tk j).k=42->∀q o,DD tk n (132::q) j o->DD tk n (119::107::132::q) i o):
  Jh (sgF 19::nmW x::sgF 47::((l++(sgF 46::m))++p)) (one (bN 9 0 0 z0 [x])<|(F.app G).app H):=λtk n i j L am _=>by
 have⟨a,t,an⟩:=am.sg;have⟨b,_,B,ad,ao⟩:=an.head;have⟨c,f,ap⟩:=ao.sg
 change (tk<|i+1).k=1 at b
 have⟨k,w,ar⟩:=ap.app;have⟨_,A,_,s,al,K⟩:=e tk n k j L ar;have af:qg 0 (tk k).k:=xu s;have⟨_,z,_,_,ak,_⟩:=(ESc.cons h g) tk n _ k O w af O;have⟨v,av,ax⟩:=w.app;have⟨r,d,a0⟩:=ax.sg;have u:qg 0 (tk v).k:=xu r;have⟨_,_,_,_,_,E⟩:=h tk n _ v d av u;refine⟨_,?_,O,zL a,.tfor a O b (.stop U f) c ak al,λq o y=>?_⟩
 .rw[dl,ft,z,A,B];rfl
 .refine DD.exp a (by decide:xE 100 19=([19,1,106,101],Q)) t (DD.tok a t<|DD.tok b ad<|DD.exp c (by decide:xE 106 47=([47,119,46,119,107,132],Q)) f<|DD.tok c f ?_);exact E _ _<|dst d u<|DD.tok r d<|C tk n _ k O a0 s _ _<|K _ _ y
def aqj(h:pj l F 0):∀(tk)(n i j),j<n->rh tk n i l j->(tk j).k=42->∀c b,DD tk n (132::c) j b->DD tk n (119::107::132::c) i b:=λtk n i j a m d c b f=>by
 have e:qg 0 (tk j).k:=xu d;have⟨_,_,_,_,_,g⟩:=h tk n i j a m e;exact g _ _<|dst a e<|DD.exp d (by decide:xE 107 42=([],Q)) a f
def aji(h:pj l F 0)(g:pj m G 0):∀(tk)(n i j),j<n->rh tk n i (l++(sgF 46::m)) j->(tk j).k=42->∀d c,DD tk n (132::d) j c->DD tk n (119::107::132::d) i c:=λtk n i j e t q d c p=>by
 have f:qg 0 (tk j).k:=xu q;have⟨k,u,v⟩:=t.app;have⟨b,a,w⟩:=v.sg;have o:qg 0 (tk k).k:=xu b;have⟨_,_,_,_,_,r⟩:=h tk n i k a u o;have⟨_,_,_,_,_,s⟩:=g tk n _ j e w f;exact r _ _<|dst a o<|DD.exp b (by decide:xE 107 46=([46,119],Q)) a<|DD.tok b a<|s _ _<|dst e f p
def pj.each(h:pj l F 0)(g:BLc m G):Jh (sgF 19::(nmL (x::r)++(sgF 21::(l++m)))) (one (bN 10 0 0 z0 (x::r))<|F.app G):=λa p e L B H _=>by
 have⟨b,n,af⟩:=H.sg;have⟨ad,ak,al⟩:=af.app;have⟨f,o,am⟩:=al.sg;have⟨c,an,ao⟩:=am.app;have⟨i,v,_,j,w⟩:=alI r x _ ad ak o O;have⟨_,u,_,k,E,z⟩:=g a p c L B ao;have d:qg 0 (a c).k:=xu k;have⟨q,t,_,_,C,y⟩:=h a p _ c O an d;refine⟨_,?_,O,zL b,.teach b O i j f (C 0 q c O<|mst O d) k O E,λ_ _ s=>?_⟩
 .rw[dl,ft,v,t,u];rfl
 .have A:(a<|e+1+1).k=46\/(a<|e+1+1).k=21:=by
   cases j with
   |stop=>omega|go K=>omega
  have K:xE 106 (a<|e+1+1).k=([104,21,119,132],Q):=by obtain g|g:=A<;>rw[g]<;>decide
  refine DD.exp b (by decide:xE 100 19=([19,1,106,101],Q)) n<|DD.tok b n<|DD.tok i O<|DD.exp R K O<|w _ _<|DD.tok f o ?_;exact y _ _<|dst O d<|z _ _ s
theorem BLc.try_(h:BLc l F)(g:BLc m G)(ao:M r<=1):Jh (sgF 30::(l++(sgF 12::(nmL (x::r)++m)))) (one (bN 14 0 0 z0 (x::r))<|F.app G):=λo n _ K B H _=>by
 have⟨a,b,ad⟩:=H.sg;have⟨L,af,ak⟩:=ad.app;have⟨e,j,al⟩:=ak.sg;have⟨k,am,an⟩:=al.app;have⟨_,v,_,y,E,A⟩:=g o n k K B an;have⟨f,w,_,i,_⟩:=alI r x _ k am O O;have⟨_,u,_,_,C,z⟩:=h o n _ L j af;refine⟨_,?_,O,zL a,.ttry a b C e O f i E,λ_ _ t=>?_⟩
 .rw[dl,ft,w,u,v];rfl
 .refine DD.exp a (by decide:xE 100 30=([30,132,12,1,109,132,101],Q)) b (DD.tok a b<|z _ _<|DD.tok e j<|DD.tok f O ?_);have d:=A _ _ t;cases i with
  |stop=>exact DD.exp y (by decide:xE 109 42=([],Q)) O d|go c p q s=>
   cases s with
   |stop=>exact DD.exp c (by decide:xE 109 46=([46,1],Q)) O<|DD.tok c O<|DD.tok q p d|go=>grind
def pj.br0(h:pj l F 0)(g:BLc m G):BRc (l++m) (one (bN 7 0 0 z0 [])<|F.app G):=λc j _ i x t d w a=>by
 have⟨b,y,z⟩:=w.app;have⟨_,p,_,q,v,s⟩:=g c j b i d z;have f:qg 0 (c b).k:=xu q;have⟨k,o,_,_,u,r⟩:=h c j _ b O y f;exact⟨_,by rw[dl,ft,o,p];rfl,O,.bno x t (u 0 k b O<|mst O f) v a.e.2.2.2.1 a.e.2.2.2.2.1 d,λ_ _ n=>r _ _<|dst O f<|s _ _<|DD.exp R (by simp[xE,aiC,a.e.2.2.2.1,a.e.2.2.2.2.1]:xE 105 (c i).k=([],Q)) d n⟩
theorem pj.br1(h:pj l F 0)(g:BLc m G)(e:BLc p H):BRc (l++(m++(sgF 16::p))) (one (bN 7 0 0 z0 [])<|(F.app G).app H):=λc i _ C B v w A _=>by
 have⟨b,K,L⟩:=A.app;have⟨E,ad,af⟩:=L.app;have⟨d,a,ak⟩:=af.sg;have⟨_,o,_,r,y,t⟩:=g c i b E a ad;have f:qg 0 (c b).k:=xu r;have⟨j,n,_,_,x,s⟩:=h c i _ b O K f;have⟨_,q,_,_,z,u⟩:=e c i _ C w ak;exact⟨_,by rw[dl,ft,ft,n,o,q];rfl,O,.belse B v (x 0 j b O<|mst O f) y d a z,λ_ _ k=>s _ _<|dst O f<|t _ _<|DD.exp d (by decide:xE 105 16=([16,132],Q)) a<|DD.tok d a<|u _ _ k⟩
theorem pj.br2(h:pj l F 0)(g:BLc m G)(e:BRc p H):BRc (l++(m++(sgF 15::p))) (one (bN 7 0 0 z0 [])<|(F.app G).app H):=λd i _ K E x y C w=>by
 have⟨c,L,ad⟩:=C.app;have⟨j,af,ak⟩:=ad.app;have⟨b,a,al⟩:=ak.sg;have⟨_,q,_,s,A,u⟩:=g d i c j a af;have f:qg 0 (d c).k:=xu s;have⟨k,o,_,_,z,t⟩:=h d i _ c O L f;have⟨_,r,_,B,v⟩:=e d i j K (.inr b) a y al w;exact⟨_,by rw[dl,ft,ft,o,q,r];rfl,O,.belif E x (z 0 k c O<|mst O f) A b a B,λ_ _ n=>t _ _<|dst O f<|u _ _<|DD.exp b (by decide:xE 105 15=([15,119,132,105],Q)) a<|DD.tok b a<|v _ _ n⟩
def BRc.st(h:BRc l F):Jh (sgF 20::l) F:=λq o m n i k g=>by
 have⟨a,b,p⟩:=k.sg;have⟨c,e,_,j,f⟩:=h q o m n (.inl a) b i p g;exact⟨c,e,O,zL a,.tif a b j,λr _ d=>DD.exp a (by decide:xE 100 20=([20,119,132,105,101],Q)) b<|DD.tok a b<|f _ _ d⟩
end
