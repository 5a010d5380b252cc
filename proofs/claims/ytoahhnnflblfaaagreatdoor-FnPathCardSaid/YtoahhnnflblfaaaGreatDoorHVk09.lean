import Derived.Test.YtoahhnnflblfaaaGreatDoorHVk07
set_option linter.all false
set_option maxRecDepth 100000
set_option maxHeartbeats 3200000
open Bool renaming true->M,false->O
open Go renaming Value->Q,World->S,Calls->T
namespace Go.Proofs.YtoahhnnflblfaaaGreatDoor
open Go.RowKit Go.Maps Go.WideMaps
theorem adc{w:S}{J:Q}{ns:List Nd}{N:Nd}{vn vk:Q}(f:gn w J ns N vn vk)(h:N.k=33):
  T Tryz.prog 46 #[.agg #[J],dy N vn vk] w fun e g=>e= .returned (.bool (((N.ks.length:Int)==1)&&iF ns N 1 0&&(eu ns N 0 !=27)&&aD N O O M O&&jo N.x))/\Below w.heap.size w g:=by
 obtain⟨am,ap,rfl⟩:=f.t.form;obtain⟨an,av,rfl⟩:=f.n.form;obtain⟨ao,a0,rfl⟩:=f.k.form;have c:=St.start f;have a4:=f.lx;have al:Hid (N.x.size<=1100000):=by show _<=_;omega
 clear f;have a5:=ci h;have a6:=kH h 33 rfl;clear h;cases t0:((N.ks.length:Int)==1)
 case' true=>
  have L:N.ks.length=1:=by have:=ga t0;omega
  have af:Hid (1<=N.ks.length):=by show _<=_;omega
  have ak:Hid (0<N.ks.length):=by show _<_;omega
  clear L;cases t1:iF ns N 1 0
  case' true=>
   cases t2:(eu ns N 0 !=27)
   case' true=>
    cases t3:aD N O O M O
    case' true=>
     cases t4:jo N.x
 all_goals
  unfold dy;go_in;go_wp2_with (first|(go_at_call 99;refine(dz _ _ ns N _ _ 0 1 c.a.t c.a.n c.a.k c.a.ok af.out c.a.ln c.a.l2).mono ?_;rintro e g ⟨rfl,d⟩;replace c:=c.below d;clear d;obtain⟨i,j,o,s,u,v,A,B,C,E⟩:=aq c.bn;have I:=c.bt)|(go_at_call 96;refine(lg c.a 0 ak.out).mono ?_;rintro e g ⟨rfl,d⟩;replace c:=c.below d;clear d;obtain⟨i,j,o,s,u,v,A,B,C,E⟩:=aq c.bn;have I:=c.bt)|(go_at_call 97;refine(ng _ N _ _ c.a.n c.a.k c.a.l1).mono ?_;rintro e g ⟨rfl,d⟩;replace c:=c.below d;clear d;obtain⟨i,j,o,s,u,v,A,B,C,E⟩:=aq c.bn;have I:=c.bt)|(go_at_call 102;refine(oC N.x al.out _).mono ?_;rintro e g ⟨rfl,d⟩;replace c:=c.below d;clear d;obtain⟨i,j,o,s,u,v,A,B,C,E⟩:=aq c.bn;have I:=c.bt));go_ret;exact⟨rfl,c.bel⟩
theorem ade{w:S}{i:Q}{ns:List Nd}{N:Nd}{vn vk:Q}(f:gn w i ns N vn vk)(h:N.k=34):
  T Tryz.prog 46 #[.agg #[i],dy N vn vk] w fun e g=>e= .returned (.bool (decide ((1:Int)<=(N.ks.length:Int))&&iF ns N N.ks.length 0&&(eu ns N 0 !=27)&&aD N O O O O))/\Below w.heap.size w g:=by
 obtain⟨ak,an,rfl⟩:=f.t.form;obtain⟨al,ao,rfl⟩:=f.n.form;obtain⟨am,ap,rfl⟩:=f.k.form;have c:=St.start f;have av:=f.lx;have af:Hid (N.x.size<=1100000):=by show _<=_;omega
 clear f;have a0:=ci h;have a4:=kH h 34 rfl;clear h;cases t0:decide ((1:Int)<=(N.ks.length:Int))
 case' true=>
  have L:Hid (0<N.ks.length):=by show _<_;have:=aH t0;omega
  cases t1:iF ns N N.ks.length 0
  case' true=>
   cases t2:(eu ns N 0 !=27)
   case' true=>
    cases t3:aD N O O O O
 all_goals
  unfold dy;go_in;go_wp2_with (first|(go_at_call 99;refine(dz _ _ ns N _ _ 0 N.ks.length c.a.t c.a.n c.a.k c.a.ok (ag _) c.a.ln c.a.l2).mono ?_;rintro e g ⟨rfl,d⟩;replace c:=c.below d;clear d;obtain⟨j,o,s,u,v,A,B,C,E,I⟩:=aq c.bn;have J:=c.bt)|(go_at_call 96;refine(lg c.a 0 L.out).mono ?_;rintro e g ⟨rfl,d⟩;replace c:=c.below d;clear d;obtain⟨j,o,s,u,v,A,B,C,E,I⟩:=aq c.bn;have J:=c.bt)|(go_at_call 97;refine(de _ N _ _ c.a.n c.a.k c.a.l1).mono ?_;rintro e g ⟨rfl,d⟩;replace c:=c.below d;clear d;obtain⟨j,o,s,u,v,A,B,C,E,I⟩:=aq c.bn;have J:=c.bt));go_ret;exact⟨rfl,c.bel⟩
def C7(ns:List Nd)(N:Nd):Nat->Nat->Bool
 |0,_=>M
 |f+1,j=>rx (eu ns N j)&&C7 ns N f (j+1)
structure aj0 (ns:List Nd) (N:Nd) (f j:Nat) (R:Bool):Prop where
 out:C7 ns N f j=R
theorem agK{w:S}{a5:Q}{ns:List Nd}{N:Nd}{vn vk:Q}(i:gn w a5 ns N vn vk)(am:N.k=5):
  T Tryz.prog 45 #[.agg #[a5],dy N vn vk] w fun e h=>e= .returned (.bool (aD N O M O O&&(decide (1<=N.n/\N.n<(N.ks.length:Int))&&(C7 ns N N.n.toNat 0&&iF ns N (N.ks.length-N.n.toNat) N.n.toNat))))/\Below w.heap.size w h:=by
 obtain⟨a9,bf,rfl⟩:=i.t.form;obtain⟨ba,bj,rfl⟩:=i.n.form;obtain⟨bb,bk,rfl⟩:=i.k.form;have c:=St.start i;have br:=i.l2;clear i;have bx:=ci am;have bA:=kH am 5 rfl;clear am;unfold dy;cases t0:aD N O M O O with
 |false=>
  go_in;go_wp2_with (first|(go_at_call 97;refine(nc _ N _ _ c.a.n c.a.k c.a.l1).mono ?_;rintro e h ⟨rfl,d⟩;replace c:=c.below d;clear d;obtain⟨j,o,s,u,v,A,B,C,E,I⟩:=aq c.bn;have J:=c.bt));go_ret;exact⟨rfl,c.bel⟩
 |true=>
  by_cases bo:N.n<1
  ·rw[az (by omega)];go_in;go_wp2_with (first|(go_at_call 97;refine(nc _ N _ _ c.a.n c.a.k c.a.l1).mono ?_;rintro e h ⟨rfl,d⟩;replace c:=c.below d;clear d;obtain⟨j,o,s,u,v,A,B,C,E,I⟩:=aq c.bn;have J:=c.bt));go_ret;exact⟨rfl,c.bel⟩
  by_cases bp:(N.ks.length:Int)<=N.n
  ·rw[az (by omega)];go_in;go_wp2_with (first|(go_at_call 97;refine(nc _ N _ _ c.a.n c.a.k c.a.l1).mono ?_;rintro e h ⟨rfl,d⟩;replace c:=c.below d;clear d;obtain⟨j,o,s,u,v,A,B,C,E,I⟩:=aq c.bn;have J:=c.bt));go_ret;exact⟨rfl,c.bel⟩
  rw[bg (by omega)];obtain⟨m,a0⟩:∃m:Nat,N.n=(m:Int):=⟨N.n.toNat,by omega⟩;have a4:N.n.toNat=m:=by omega
  rw[a4];have bw:m<N.ks.length:=by omega
  have a7:=aj a0;obtain⟨al,an⟩:=aA (C7 ns N m 0);rw[an];have a8:aj0 ns N m 0 al:=⟨an⟩;clear an a0 a4;go_in;go_wp2_with (first|(go_at_call 97;refine(nc _ N _ _ c.a.n c.a.k c.a.l1).mono ?_;rintro e h ⟨rfl,d⟩;replace c:=c.below d;clear d;obtain⟨j,o,s,u,v,A,B,C,E,I⟩:=aq c.bn;have J:=c.bt));go_loopw [7] (fun av wr=>∃(f:Nat),av= .int .i64 f/\f<=m/\aj0 ns N (m-f) f al/\St w (.slice a9 ns.length bf) ns N (.slice ba N.nm.length bj) (.slice bb N.ks.length bk) wr) (fun av _=>m-(intOf av).toNat)
  case atStart=>exact⟨0,rfl,by omega,a8,c⟩
  case round=>
   clear c;obtain⟨f,rfl,bq,a6,c⟩:=hrel;obtain⟨bD,bE,b0,b1,b2,b3,b4,b5,b6,b7⟩:=aq c.bn;have b8:=c.bt;have g:=a6.out;have ao:=a7.out;by_cases bs:f<m
   ·rw[show m-f=(m-(f+1))+1 by omega,C7]at g;have bl:(f:Int)<N.n:=by omega
    have ak:=lg c.a f (by omega);unfold dy at ak;have af:=fun w=>Eb (eu ns N f) w;clear ao;generalize eu ns N f=bd at g ak af;cases hx:rx bd with
    |false=>
     rw[hx,eG]at g;rw[hx]at af;have L:=aj g;clear g hx;go_wp2_with (first|(go_at_call 96;refine ak.mono ?_;rintro e h ⟨rfl,d⟩;replace c:=c.below d;clear d;obtain⟨j,o,s,u,v,A,B,C,E,I⟩:=aq c.bn;have J:=c.bt)|(go_at_call 100;refine fc (af _) ?_));go_ret;exact⟨by rw[<-L.out];rfl,c.bel⟩
    |true=>
     rw[hx,fC]at g;rw[hx]at af;have L:aj0 ns N (m-(f+1)) (f+1) al:=⟨g⟩;clear g hx;go_wp2_with (first|(go_at_call 96;refine ak.mono ?_;rintro e h ⟨rfl,d⟩;replace c:=c.below d;clear d;obtain⟨j,o,s,u,v,A,B,C,E,I⟩:=aq c.bn;have J:=c.bt)|(go_at_call 100;refine fc (af _) ?_));exact⟨⟨f+1,by go_num,by omega,L,c⟩,by simp[intOf];omega⟩
   ·rw[show m-f=0 by omega,C7]at g;have L:=aj g;have bl:¬(f:Int)<N.n:=by omega
    have ap:=dz _ _ ns N _ _ m N.ks.length c.a.t c.a.n c.a.k c.a.ok (ag _) c.a.ln c.a.l2;unfold dy at ap;rw[<-ao]at ap;clear g ao;go_wp2_with (go_at_call 99;refine ap.mono ?_;rintro e h ⟨rfl,d⟩;replace c:=c.below d;clear d;obtain⟨j,o,s,u,v,A,B,C,E,I⟩:=aq c.bn;have J:=c.bt);go_ret;exact⟨by rw[<-L.out];rfl,c.bel⟩
structure Wt where
 k:Int
 n:Int
 x:ByteArray
 w:ByteArray
def sgF(k:Int):Wt:=⟨k,0,z0,ed k⟩
def jK(x:ByteArray):Wt:=⟨1,0,x,x⟩
def nlW:Wt:=⟨7,0,z0,⟨#[10]⟩⟩
def bN(k op n:Int)(x:ByteArray)(nm:List ByteArray):Nd:=⟨k,0,0,0,op,n,x,nm,[]⟩
def Nd.bare(N:Nd):Nd:=bN N.k N.op N.n N.x N.nm
def Fo.bare:Fo->Fo
 | .nil=> .nil
 | .cons N k r=> .cons N.bare k.bare r.bare
theorem eD:∀(a b:Fo),(a.app b).bare=a.bare.app b.bare
 | .nil,b=>rfl
 | .cons N k r,b=>by simp only[Fo.app,Fo.bare,eD r b]
theorem Gq:∀(a:Fo),a.bare.len=a.len
 | .nil=>rfl
 | .cons N k r=>by simp only[Fo.bare,Fo.len,Gq r]
theorem cD(N:Nd)(k:Fo):(one N k).bare=one N.bare k.bare:=rfl
theorem adf{X:Fo}{N:Nd}{K:Fo}(h:X.bare=one N K):∃c L,X=one c L/\c.bare=N/\L.bare=K:=by
 cases X with
 |nil=>cases h
 |cons c L r=>
  unfold one at h;simp only[Fo.bare,Fo.cons.injEq]at h;cases r with
  |nil=>exact⟨c,L,rfl,h.1,h.2.1⟩
  |cons _ _ _=>exact absurd h.2.2 (by simp[Fo.bare])
def abg(k:Int):Nd:=if k=10 then bN 28 0 0 z0 [] else if k=26 then bN 29 0 0 z0 [] else bN 31 (k-60) 0 z0 []
theorem adg(k:Int)(s:Tk)(e:Int):(qx k s e).bare=abg k:=by unfold qx abg;split;rfl;split<;>rfl
inductive oq (tk:Nat->Tk) (n:Nat):Nat->List Wt->Nat->Prop where
 |nil {i:Nat}:oq tk n i [] i
 |tok {i j:Nat}{t:Wt}{l:List Wt}:t.k≠7->(tk i).k=t.k->(tk i).n=t.n->(tk i).x=t.x->i<n->oq tk n (i+1) l j->oq tk n i (t::l) j
 |sep {i j:Nat}{t:Wt}{l:List Wt}:t.k=7->(tk i).k=5->i<n->oq tk n (i+1) l j->oq tk n i (t::l) j
 |more {i j:Nat}{t:Wt}{l:List Wt}:t.k=7->(tk i).k=5->i<n->oq tk n (i+1) (t::l) j->oq tk n i (t::l) j
def DD(tk:Nat->Tk)(n:Nat)(st:List Int)(i j:Nat):Prop:=∃m,D tk n m st i j
section
variable {tk : Nat → Tk} {n : Nat}
theorem oq.split{i j:Nat}{l:List Wt}(h:oq tk n i l j):∀a b,l=a++b->∃k,oq tk n i a k/\oq tk n k b j:=by
 induction h with
 |nil=>
  intro a b c;obtain⟨rfl,rfl⟩:a=[]/\b=[]:=by simpa using c.symm
  exact⟨_,.nil,.nil⟩
 |@tok i j g l d e A B f t u=>
  intro a b c;cases a with
  |nil=>exact⟨i,.nil,by rw[<-(show g::l=b from c)];exact .tok d e A B f t⟩
  |cons C a=>
   obtain⟨rfl,v⟩:=mH c;obtain⟨k,o,s⟩:=u a b v;exact⟨k,.tok d e A B f o,s⟩
 |@sep i j g l d e f t u=>
  intro a b c;cases a with
  |nil=>exact⟨i,.nil,by rw[<-(show g::l=b from c)];exact .sep d e f t⟩
  |cons C a=>
   obtain⟨rfl,v⟩:=mH c;obtain⟨k,o,s⟩:=u a b v;exact⟨k,.sep d e f o,s⟩
 |@more i j g l d e f t u=>
  intro a b c;cases a with
  |nil=>exact⟨i,.nil,by rw[<-(show g::l=b from c)];exact .more d e f t⟩
  |cons C a=>
   obtain⟨rfl,v⟩:=mH c;obtain⟨k,o,s⟩:=u (g::a) b c;exact⟨k,.more d e f o,s⟩
theorem oq.app{i j:Nat}{a b:List Wt}(h:oq tk n i (a++b) j):∃k,oq tk n i a k/\oq tk n k b j:=h.split a b rfl
theorem oq.le{i j:Nat}{l:List Wt}(h:oq tk n i l j):i<=j:=by
 induction h with
 |nil=>exact ag _
 |tok _ _ _ _ _ _ c=>omega
 |sep _ _ _ _ c=>omega
 |more _ _ _ _ c=>omega
theorem oq.head{i j:Nat}{t:Wt}{l:List Wt}(h:oq tk n i (t::l) j)(d:t.k≠7:=by simp[sgF,jK]):(tk i).k=t.k/\(tk i).n=t.n/\(tk i).x=t.x/\i<n/\oq tk n (i+1) l j:=by
 cases h with
 |tok c e f g o s=>exact⟨e,f,g,o,s⟩
 |sep c=>exact absurd c d
 |more c=>exact absurd c d
theorem oq.sg{i j:Nat}{k:Int}{l:List Wt}(h:oq tk n i (sgF k::l) j)(d:k≠7:=by decide):(tk i).k=k/\i<n/\oq tk n (i+1) l j:=by
 obtain⟨a,_,_,b,c⟩:=h.head d;exact⟨a,b,c⟩
theorem oq.nl{i j:Nat}{l:List Wt}(h:oq tk n i l j):∀{m},l=nlW::m->∃k,i<k/\oq tk n k m j/\∀q,i<=q->q<k->(tk q).k=5/\q<n:=by
 induction h with
 |nil=>intro m c;cases c
 |tok d=>intro m c;obtain⟨rfl,_⟩:=mH c;exact absurd rfl d
 |@sep i j u l d e f o s=>
  intro m c;obtain⟨rfl,rfl⟩:=mH c;exact⟨i+1,Nat.lt_succ_self _,o,fun q a b=>by
   obtain rfl:q=i:=by omega
   exact⟨e,f⟩⟩
 |@more i j u l d e f o s=>
  intro m c;obtain⟨k,a,b,t⟩:=s c;exact⟨k,by omega,b,fun q a b=>by
   rcases jg a with rfl|g
   ·exact⟨e,f⟩
   ·exact t q g b⟩
theorem oq.nils{i j:Nat}(h:oq tk n i [] j):i=j:=by cases h;rfl
theorem DD.tok{s:Int}{r:List Int}{i j:Nat}(h:(tk i).k=s)(c:i<n)(d:DD tk n r (i+1) j)(e:s<100:=by decide):DD tk n (s::r) i j:=by
 obtain⟨m,d⟩:=d;exact⟨m+1,.tok e h c d⟩
theorem DD.exp{s t:Int}{r L:List Int}{i j:Nat}(c:(tk i).k=t)(e:xE s t=(L,M))(f:i<n)(d:DD tk n (L++r) i j)(g:100<=s:=by decide):DD tk n (s::r) i j:=by
 obtain⟨m,d⟩:=d;exact⟨m+1,.exp g f (by rw[c,e]) (by rw[c,e];exact d)⟩
end
theorem amj(t:Int):xE 119 t=([120,121],dJ t):=by simp[xE,ajy]
theorem aiF(t:Int):xE 120 t=Ad t:=by simp[xE,ama]
theorem amk{t:Int}(h:ie t=M):xE 121 t=([t,119],M):=by simp[xE,agE,h]
theorem vH{t:Int}(h:ie t=O):xE 121 t=([],M):=by simp[xE,agE,h]
theorem aml{t:Int}(h:vA t=O):xE 122 t=([],M):=by
 have:t≠48/\t≠44/\t≠40:=by unfold vA at h;have:=lB h;omega
 simp[xE,ajz,Ec,this.1,this.2.1,this.2.2]
theorem adh(t:Int):xE 124 t=([119,125],dJ t):=by simp[xE,ajB]
theorem amm{t:Int}(h:t≠46):xE 125 t=([],M):=by simp[xE,ajC,h]
theorem amn{t:Int}(h:t≠46):xE 104 t=([],M):=by simp[xE,ajw,h]
def lkw(k:Int):Int:=if k=72 then 5 else B7 k
def nh(q k:Int):Prop:=vA k=O/\(ie k=M->lkw k<=q)
theorem nh.mono{q r k:Int}(h:nh q k)(d:q<=r):nh r k:=⟨h.1,fun c=>Int.le_trans (h.2 c) d⟩
theorem si{tk:Nat->Tk}{i:Nat}{q k:Int}(h:(tk i).k=k)(d:vA k=O:=by decide)(e:ie k=O:=by decide):nh q (tk i).k:=by rw[h];exact⟨d,fun c=>by rw[e]at c;cases c⟩
theorem El(k:Int):1<=B7 k/\B7 k<=10:=by
 unfold B7
 repeat' split
 all_goals omega
theorem Em(k:Int):B7 k<=lkw k/\lkw k<=10:=by
 have:=El k;unfold lkw;split
 ·rename_i c;subst c;decide
 ·omega
theorem K0(k:Int):B7 k<=rpw k/\rpw k<=11:=by
 have:=El k;unfold rpw;split
 ·rename_i c;subst c;decide
 ·omega
theorem agL{t k:Int}(h:lkw t<=B7 k):B7 t<rpw k:=by
 unfold rpw;unfold lkw at h;by_cases c:k=72
 ·subst c;rw[ab rfl];have e:B7 72=4:=by decide
  rw[e]at h;split at h
  ·omega
  ·rename_i d;have:B7 t≠4:=by
    unfold B7
    repeat' split
    all_goals omega
   omega
 ·rw[aa c];split at h
  ·rename_i d;subst d;have:B7 72=4:=by decide
   omega
  ·omega
def mg(l:List Wt)(F:Fo)(q:Int):Prop:=∀(tk:Nat->Tk)(n c d:Nat),d<n->oq tk n c l d->nh q (tk d).k->
 ∃g:Fo,g.bare=F/\c<d/\dJ (tk c).k=M/\(∀p f e,p<=q->P tk n (.more p (tk c) g) d f e->P tk n (.expr p) c f e)/\∀h e,DD tk n (121::h) d e->DD tk n (119::h) c e
def xd(l:List Wt)(F:Fo):Prop:=∀(tk:Nat->Tk)(n d c:Nat),c<n->oq tk n d l c->vA (tk c).k=O->
 ∃e:Fo,e.bare=F/\d<c/\dJ (tk d).k=M/\P tk n .unit d e c/\∀g f,DD tk n g c f->DD tk n (120::g) d f
def sta(c:Nat):Int:=if c=0 then 120 else if c=1 then 100 else if c=2 then 113 else 116
def aft(c kd:Nat):Int:=if c=0 then 122 else if c=1 then(if kd=2 then 111 else if kd=3 then 112 else 110) else if c=2 then(if 2<=kd then 115 else 114) else(if kd=2 then 118 else 117)
def pst(c:Nat):List Int:=if c=1 then [101] else []
def uu(l:List Wt)(F:Fo)(kd:Nat):Prop:=∀(tk:Nat->Tk)(n c d:Nat),d<n->oq tk n c l d->
 ∃h:Fo,h.bare=F/\c<d/\((tk c).k=1\/(tk c).k=40)/\(∀g e,P tk n (.post (tk c) h) d g e->P tk n .base c g e)/\
  ∀f i e,f<4->DD tk n (aft f kd::(pst f++i)) d e->DD tk n (sta f::i) c e
def In(l:List Wt)(F:Fo):Prop:=∀(tk:Nat->Tk)(n d c:Nat),c<n->oq tk n d l c->nh 0 (tk c).k->(tk c).k≠46->
 ∃e:Fo,e.bare=F/\d<c/\dJ (tk d).k=M/\P tk n .exprs d e c/\∀g f,DD tk n g c f->DD tk n (124::g) d f
def MEc(l:List Wt)(F:Fo):Prop:=∀(tk:Nat->Tk)(n d c:Nat),c<n->oq tk n d l c->nh 0 (tk c).k->(tk c).k≠46->
 ∃e:Fo,e.bare=F/\nh 0 (tk d).k/\P tk n .moreE d e c/\∀g f,DD tk n g c f->DD tk n (125::g) d f
theorem adi:∀c:Fin 4,xE (sta c.val) 1=([1,aft c.val 0]++pst c.val,M)/\xE (sta c.val) 40=([40,119,41,aft c.val 3]++pst c.val,M)/\100<=sta c.val:=by decide
theorem En:∀c:Fin 4,∀kd:Fin 4,xE (aft c.val kd.val) 48=([48,1,aft c.val 1],M)/\xE (aft c.val kd.val) 44=([44,119,45,aft c.val 1],M)/\xE (aft c.val kd.val) 40=([40,123,41,aft c.val 2],M)/\100<=aft c.val kd.val:=by decide
section
variable {l m a b : List Wt} {F G K : Fo} {N : Nd} {q k : Int} {kd : Nat} {w x y z : ByteArray}
theorem xd.ex(h:xd l F)(q:Int):mg l F q:=fun tk n A B o v j=>by
 obtain⟨d,f,s,c,u,i⟩:=h tk n A B o v j.1;refine⟨d,f,s,c,fun p E C _ t=> .ex (fun g=>by rw[g]at c;exact absurd c (by decide)) (by omega) u t,fun I C e=>?_⟩;exact DD.exp rfl (by rw[amj,c]) (by omega) (i _ _ e)
theorem mg.le{r:Int}(h:mg l F q)(u:r<=q):mg l F r:=fun tk n A B j v i=>by
 obtain⟨d,e,o,f,t,g⟩:=h tk n A B j v (i.mono u);exact⟨d,e,o,f,fun p c C E s=>t p c C (by omega) s,g⟩
theorem uu.un(h:uu l F kd):xd l F:=fun tk n v A c u d=>by
 obtain⟨f,j,s,e,t,o⟩:=h tk n v A c u;refine⟨f,j,s,by rcases e with g|g<;>rw[g]<;>decide,.ubas e (by omega) (t _ _ (.pstop c d)),fun C B i=>?_⟩;exact o 0 C B (by decide) (DD.exp rfl (aml d) c i (by decide:(100:Int)<=122))
theorem mg.bin(h:mg l F (lkw k))(g:mg m G (rpw k))(e:ie k=M)(an:k<100)(ao:k≠7)(a1:vA k=O):mg (l++(sgF k::m)) (one (abg k) (F.app G)) (B7 k):=fun tk n A i s a0 o=>by
 obtain⟨C,a2,a3⟩:=a0.app;obtain⟨c,d,a4⟩:=a3.sg ao;obtain⟨I,L,a5,ak,ap,al⟩:=h tk n A C d a2 (by rw[c];exact⟨a1,fun _=>Int.le_refl _⟩);obtain⟨j,af,a6,_,av,am⟩:=g tk n (C+1) i s a4 (o.mono (K0 k).1);refine⟨one (qx k (tk A) (tk (i-1)).t) (I.app j),by rw[cD,adg,eD,L,af],by omega,ak,fun p E B f u=>?_,fun a7 B J=>?_⟩
 ·refine ap p E B (Int.le_trans f (Em k).1) ?_;have v:=av (rpw k) j i (Int.le_refl _) (.mstop s fun g=>agL (o.2 g));rw[<-c]at f e v u;exact .mgo d e f v u
 ·exact al _ _ (DD.exp c (amk e) d (DD.tok c d (am _ _ J) an))
theorem xd.pre(h:xd l F)(e:jk k=M)(C:k≠7)(B:k<100):xd (sgF k::l) (one (bN 30 (Iv k) 0 z0 []) F):=fun tk n f g A I v=>by
 obtain⟨c,d,J⟩:=I.sg C;obtain⟨i,o,af,L,E,u⟩:=h tk n (f+1) g A J v;have s:dJ k=M:=by unfold dJ;rw[e];simp
 refine⟨one (nd 30 (tk f) (tk (g-1)).t (Iv (tk f).k) 0 z0 []) i,by rw[cD,o,c];rfl,by omega,by rw[c];exact s,.upre (by rw[c];exact e) d E,fun al ak j=>?_⟩;exact DD.exp c (by rw[aiF];unfold Ad;rw[ab e]) d (DD.tok c d (u _ _ j) B)
theorem xd.atom{t:Wt}(A:∀(tk:Nat->Tk) (n i:Nat),(tk i).k=t.k->(tk i).n=t.n->(tk i).x=t.x->i+1<n->∃X:Fo,X.bare=F/\P tk n .unit i X (i+1))(o:t.k≠7:=by simp[sgF])(j:t.k<100:=by simp[sgF])(C:Ad t.k=([t.k],M):=by simp[sgF,Ad,jk,dJ])(u:dJ t.k=M:=by simp[sgF,jk,dJ]):xd [t] F:=fun tk n i J v B I=>by
 obtain⟨c,f,g,d,E⟩:=B.head o;obtain rfl:=E.nils;obtain⟨X,h,s⟩:=A tk n i c f g v;exact⟨X,h,Nat.lt_succ_self _,by rw[c];exact u,s,fun af L e=>DD.exp c (by rw[aiF,C]) d (DD.tok c d e j)⟩
theorem aj1{v:Int}:xd [⟨2,v,z,w⟩] (one (bN 23 0 v z0 []) .nil):=xd.atom fun tk n f c d g e=>⟨_,by rw[cD];show one (bN 23 0 (tk f).n z0 []) .nil=_;rw[d],.uint c e⟩
theorem aj2:xd [⟨3,0,x,w⟩] (one (bN 24 0 0 x []) .nil):=xd.atom fun tk n f c g d e=>⟨_,by rw[cD];show one (bN 24 0 0 (tk f).x []) .nil=_;rw[d],.uflt c e⟩
theorem aj3:xd [⟨4,0,x,w⟩] (one (bN 25 0 0 x []) .nil):=xd.atom fun tk n f c g d e=>⟨_,by rw[cD];show one (bN 25 0 0 (tk f).x []) .nil=_;rw[d],.ustr c e⟩
theorem aj4:xd [sgF 24] (one (bN 20 0 0 z0 []) .nil):=xd.atom fun tk n g c e f d=>⟨_,rfl,.unil c d⟩
theorem aj5:xd [sgF 29] (one (bN 21 0 0 z0 []) .nil):=xd.atom fun tk n g c e f d=>⟨_,rfl,.utru c d⟩
theorem aj6:xd [sgF 17] (one (bN 22 0 0 z0 []) .nil):=xd.atom fun tk n g c e f d=>⟨_,rfl,.ufls c d⟩
theorem aj7:xd [sgF 49] (one (bN 27 0 0 z0 []) .nil):=xd.atom fun tk n g c e f d=>⟨_,rfl,.urst c d⟩
theorem ag0:uu [jK x] (one (bN 26 0 0 x []) .nil) 0:=fun tk n e E C o=>by
 obtain⟨c,_,g,d,A⟩:=o.head;obtain rfl:=A.nils;refine⟨one (nd 26 (tk e) (tk e).t 0 0 (tk e).x []) .nil,by rw[cD,g];rfl,Nat.lt_succ_self _,.inl c,fun B s j=> .bname c d j,fun h I s i f=>?_⟩;obtain⟨u,_,v⟩:=adi ⟨h,i⟩;exact DD.exp c u d (DD.tok c d f) v
theorem uu.field(h:uu l F kd)(E:kd<4):uu (l++[sgF 48,jK x]) (one (bN 33 0 0 x []) F) 1:=fun tk n j a2 a0 L=>by
 obtain⟨k,al,am⟩:=L.app;obtain⟨c,d,an⟩:=am.sg;obtain⟨e,_,v,i,ao⟩:=an.head;obtain rfl:=ao.nils;obtain⟨s,A,a1,B,J,C⟩:=h tk n j k d al;refine⟨one (nd 33 (tk j) (tk (k+1)).t 0 0 (tk (k+1)).x []) s,by rw[cD,A,v];rfl,by omega,B,fun av o I=>J _ _ (.pdot c e i I),fun f ap o g u=>?_⟩;obtain⟨af,_,_,ak⟩:=En ⟨f,g⟩ ⟨kd,E⟩;exact C f ap o g (DD.exp c af d (DD.tok c d (DD.tok e i u)) ak)
theorem nh.of{q k:Int}(h:vA k=O)(d:ie k=O):nh q k:=⟨h,fun c=>by rw[d]at c;cases c⟩
theorem uu.index(h:uu l F kd)(af:kd<4)(g:mg m G 0):uu (l++(sgF 44::(m++[sgF 45]))) (one (bN 32 0 0 z0 []) (F.app G)) 1:=fun tk n u ba a7 an=>by
 obtain⟨k,av,a0⟩:=an.app;obtain⟨f,e,a1⟩:=a0.sg;obtain⟨i,a2,a3⟩:=a1.app;obtain⟨c,d,a4⟩:=a3.sg;obtain rfl:=a4.nils;obtain⟨A,C,a8,I,al,J⟩:=h tk n u k e av;obtain⟨j,E,a9,_,am,L⟩:=g tk n (k+1) i d a2 (si c);refine⟨one (iB 32 (tk u) (tk i).t) (A.app j),by rw[cD,eD,C,E];rfl,by omega,I,fun a6 v ak=>al _ _ (.psq f e (am 0 j i (Int.le_refl _) (.mstop d fun g=>by rw[c]at g;exact absurd g (by decide))) c d ak),fun o a5 v s B=>?_⟩;obtain⟨_,ao,_,ap⟩:=En ⟨o,s⟩ ⟨kd,af⟩;exact J o a5 v s (DD.exp f ao e (DD.tok f e (L _ _ (DD.exp c (vH (by decide)) d (DD.tok c d B)))) ap)
theorem uu.call0(h:uu l F kd)(C:kd<4):uu (l++[sgF 40,sgF 41]) (one (bN 34 0 0 z0 []) F) 2:=fun tk n j a1 av J=>by
 obtain⟨k,ak,al⟩:=J.app;obtain⟨c,e,am⟩:=al.sg;obtain⟨d,f,an⟩:=am.sg;obtain rfl:=an.nils;obtain⟨s,v,a0,A,I,B⟩:=h tk n j k e ak;refine⟨one (iB 34 (tk j) (tk (k+1)).t) s,by rw[cD,v];rfl,by omega,A,fun ap o E=>I _ _ (.pcall0 c d f E),fun g ao o i u=>?_⟩;obtain⟨_,_,L,af⟩:=En ⟨g,i⟩ ⟨kd,C⟩;exact B g ao o i (DD.exp c L e (DD.tok c e (DD.exp d (by decide:xE 123 41=([],M)) f (DD.tok d f u))) af)
theorem amo{t:Int}(h:dJ t=M):xE 123 t=([124],M):=by simp[xE,ajA,h]
theorem uu.call(h:uu l F kd)(ak:kd<4)(g:In m G):uu (l++(sgF 40::(m++[sgF 41]))) (one (bN 34 0 0 z0 []) (F.app G)) 2:=fun tk n s bd a9 ap=>by
 obtain⟨k,a1,a2⟩:=ap.app;obtain⟨d,f,a3⟩:=a2.sg;obtain⟨v,a4,a5⟩:=a3.app;obtain⟨c,i,a6⟩:=a5.sg;obtain rfl:=a6.nils;obtain⟨A,E,ba,J,an,L⟩:=h tk n s k f a1;obtain⟨B,I,bb,e,ao,af⟩:=g tk n (k+1) v i a4 (si c) (by rw[c];decide);have am:(tk (k+1)).k≠41:=fun g=>by rw[g]at e;exact absurd e (by decide)
 refine⟨one (iB 34 (tk s) (tk v).t) (A.app B),by rw[cD,eD,E,I];rfl,by omega,J,fun a8 u al=>an _ _ (.pcall d (by omega) am ao c i al),fun j a7 u o C=>?_⟩;obtain⟨_,_,av,a0⟩:=En ⟨j,o⟩ ⟨kd,ak⟩;exact L j a7 u o (DD.exp d av f (DD.tok d f (DD.exp rfl (amo e) (by omega) (af _ _ (DD.tok c i C)))) a0)
theorem K4(h:mg l (one N K) 0)(tk:Nat->Tk)(n i j:Nat)(a4:j<n)(am:oq tk n i (sgF 40::(l++[sgF 41])) j):
  ∃g L k,(tk i).k=40/\g.bare=N/\L.bare=K/\k+1=j/\i+1<k/\(∀R c,P tk n (.post (tk i) (mo g L (tk i) (tk k).t)) j R c->P tk n .base i R c)/\∀d st c,d<4->DD tk n (aft d 3::(pst d++st)) j c->DD tk n (sta d::st) i c:=by
 obtain⟨o,s,ap⟩:=am.sg;obtain⟨u,av,a0⟩:=ap.app;obtain⟨e,f,a1⟩:=a0.sg;obtain rfl:=a1.nils;obtain⟨a2,E,af,a3,al,I⟩:=h tk n (i+1) u f av (si e);obtain⟨g,L,rfl,C,B⟩:=adf E;refine⟨g,L,u,o,C,B,rfl,af,fun R c ak=> .bopen o s (al 0 _ u (Int.le_refl _) (.mstop f fun v=>by rw[e]at v;exact absurd v (by decide))) e f ak,fun d st c J A=>?_⟩;obtain⟨_,an,ao⟩:=adi ⟨d,J⟩;exact DD.exp o an s (DD.tok o s (I _ _ (DD.exp e (vH (by decide)) f (DD.tok e f A)))) ao
theorem mg.par(h:mg l (one N K) 0)(C:N.k≠34)(E:N.k≠27):uu (sgF 40::(l++[sgF 41])) (one N K) 3:=fun tk n g A u v=>by
 obtain⟨c,d,k,i,e,j,rfl,I,f,s⟩:=K4 h tk n g A u v;have B:c.k=N.k:=by rw[<-e];rfl
 have o:mo c d (tk g) (tk k).t=one c d:=by unfold mo;rw[aa (by omega)]
 rw[o]at f;exact⟨one c d,by rw[cD,e,j],by omega,.inr i,f,s⟩
theorem mg.held(h:mg l (one N K) 0)(u:N.k=34\/N.k=27):uu (sgF 40::(l++[sgF 41])) (one (bN 37 0 0 z0 []) (one N K)) 3:=fun tk n d C A B=>by
 obtain⟨c,e,k,i,f,j,rfl,E,g,v⟩:=K4 h tk n d C A B;have s:c.k=N.k:=by rw[<-f];rfl
 have o:mo c e (tk d) (tk k).t=one (iB 37 (tk d) (tk k).t) (one c e):=by unfold mo;rw[ab (by rw[s];exact u)]
 rw[o]at g;exact⟨_,by rw[cD,cD,f,j];rfl,by omega,.inr i,g,v⟩
theorem MEc.nil:MEc [] .nil:=fun tk n h i d g f c=>by
 obtain rfl:=g.nils;exact⟨.nil,rfl,f,.estop c d,fun o j e=>DD.exp rfl (amm c) d e⟩
theorem nh.no{k:Int}(h:nh 0 k):ie k=O:=by
 cases hx:ie k with
 |false=>rfl
 |true=>have:=h.2 hx;have:=El k;have:=Em k;omega
theorem MEc.all(h:mg l F 0)(g:MEc m G):In (l++m) (F.app G):=fun tk n J L B I A t=>by
 obtain⟨k,af,f⟩:=I.app;obtain⟨i,s,c,E,v⟩:=g tk n k L B f A t;have ak:=f.le;obtain⟨d,o,al,e,C,u⟩:=h tk n J k (by omega) af c;refine⟨d.app i,by rw[eD,o,s],by omega,e,.es (C 0 d k (Int.le_refl _) (.mstop (by omega) fun g=>by rw[c.no]at g;cases g)) E,fun an am j=>?_⟩;exact DD.exp rfl (by rw[adh,e]) (by omega) (u _ _ (DD.exp rfl (vH c.no) (by omega) (v _ _ j)))
end
def Gr(k:Int):Prop:=k=5\/k=6\/k=43
theorem Gr.e{k:Int}(h:Gr k):nh 0 k/\k≠46/\k≠47/\k≠15/\k≠16/\dJ k=O/\vA k=O/\k≠42:=by
 rcases h with rfl|rfl|rfl<;>exact⟨.of (by decide) (by decide),by decide⟩
def Eo(l:List Wt)(F:Fo):Prop:=∀(tk:Nat->Tk)(n c d:Nat),d<n->oq tk n c l d->
 ∃e:Fo,e.bare=F/\c<d/\(tk c).k=42/\P tk n .block c e d/\∀g f,DD tk n g d f->DD tk n (132::g) c f
def BDc(l:List Wt)(F:Fo):Prop:=∀(tk:Nat->Tk)(n c d:Nat)(h:Tk),d<n->oq tk n c l d->
 ∃e:Fo,e.bare=F/\c<d/\(tk c).k=40/\P tk n (.body h) c e d/\∀g f,DD tk n g d f->DD tk n (133::g) c f
def C9(l:List Wt)(F:Fo):Prop:=∀(tk:Nat->Tk)(n d c:Nat),c<n->oq tk n d l c->Gr (tk c).k->
 ∃e:Fo,e.bare=F/\d<c/\¬Gr (tk d).k/\P tk n .stat d e c/\∀g f,DD tk n (101::g) c f->DD tk n (100::g) d f
def BRc(l:List Wt)(F:Fo):Prop:=∀(tk:Nat->Tk)(n c d:Nat),((tk c).k=20\/(tk c).k=15)->c<n->d<n->oq tk n (c+1) l d->Gr (tk d).k->
 ∃e:Fo,e.bare=F/\c+1<d/\P tk n .branch c e d/\∀g f,DD tk n g d f->DD tk n (119::132::105::g) (c+1) f
def ENc(l:List Wt)(F:Fo):Prop:=∀(tk:Nat->Tk)(n c d:Nat),d<n->oq tk n c l d->nh 0 (tk d).k->
 ∃e:Fo,e.bare=F/\c<d/\(dJ (tk c).k=M\/(tk c).k=48\/(tk c).k=44)/\P tk n .entry c e d/\∀g f,DD tk n g d f->DD tk n (131::g) c f
def TBc(l:List Wt)(F:Fo):Prop:=∀(tk:Nat->Tk)(n d c:Nat),c<n->oq tk n d l c->(tk c).k=43->
 ∃e:Fo,e.bare=F/\d<=c/\P tk n .entries d e c/\∀g f,DD tk n (43::g) c f->DD tk n (129::43::g) d f
def ID(l:List Wt)(F:Fo):Prop:=∀(tk:Nat->Tk)(n d c:Nat),c<n->oq tk n d l c->((tk c).k=43\/(tk c).k=6)->
 ∃g:Fo,g.bare=F/\(tk d).k=5/\d<c/\P tk n .stats d g c/\∀f e,DD tk n ((tk c).k::f) c e->DD tk n (100::(tk c).k::f) d e/\DD tk n (101::(tk c).k::f) d e
def Gs:List ByteArray->List Wt
 |[]=>[]
 |[x]=>[jK x]
 |x::r=>jK x::sgF 46::Gs r
def Al:List ByteArray->Bool->List Wt
 |[],false=>[]
 |[],true=>[sgF 49]
 |x::r,t=>jK x::(if r=[]/\t=O then [] else sgF 46::Al r t)
section
variable {tk : Nat → Tk} {n : Nat}
theorem DD.ex{s t:Int}{r L:List Int}{b:Bool}{i j:Nat}(g:(tk i).k=t)(e:xE s t=(L,b))(u:100<=s)(d:DD tk n (s::r) i j):DD tk n (L++r) i j:=by
 obtain⟨m,d⟩:=d;cases d with
 |tok f=>omega
 |exp f h o c=>rw[g,e]at c;exact⟨_,c⟩
theorem adj:∀(r:List ByteArray)(x:ByteArray)(i j:Nat),oq tk n i (Gs (x::r)) j->j<n->(tk j).k≠46->
  (tk i).k=1/\(tk i).x=x/\i<j/\F8 tk n (i+1) r j/\∀st d,DD tk n st j d->DD tk n (104::st) (i+1) d
 |[],x,i,j,s,c,h=>by
  obtain⟨g,_,o,E,t⟩:=s.head;obtain rfl:=t.nils;exact⟨g,o,Nat.lt_succ_self _,.stop h c,fun st d f=>DD.exp rfl (amn h) c f⟩
 |y::r,x,i,j,s,c,h=>by
  obtain⟨g,_,o,E,t⟩:=s.head;obtain⟨e,v,I⟩:=t.sg;obtain⟨u,A,J,B,C⟩:=adj r y (i+1+1) j I c h;refine⟨g,o,by omega,?_,fun st d f=>?_⟩
  ·have:=F8.go e (by omega) u B;rw[A]at this;exact this
  ·exact DD.exp e (by decide:xE 104 46=([46,1,104],M)) v (DD.tok e v (DD.tok u (by omega) (C _ _ f)))
theorem aiG:∀(nm:List ByteArray)(t:Bool)(i k:Nat),oq tk n i (Al nm t) k->(tk k).k=41->k+1<n->
  KA tk n i nm t (k+1)/\i<=k/\∀st c,DD tk n (41::st) k c->DD tk n (126::41::st) i c/\((nm≠[]\/t=M)->DD tk n (128::41::st) i c)
 |[],false,i,k,j,h,g=>by
  obtain rfl:=j.nils;exact⟨.close h g,ag _,fun st c e=>⟨DD.exp h (by decide:xE 126 41=([],M)) (by omega) e,fun E=>by simp at E⟩⟩
 |[],true,i,k,j,h,g=>by
  obtain⟨d,f,o⟩:=j.sg;obtain rfl:=o.nils;exact⟨.rest d h g,by omega,fun st c e=>⟨DD.exp d (by decide:xE 126 49=([49],M)) f (DD.tok d f e),fun _=>DD.exp d (by decide:xE 128 49=([49],M)) f (DD.tok d f e)⟩⟩
 |x::r,t,i,k,j,h,g=>by
  rw[Al]at j;obtain⟨d,_,v,f,o⟩:=j.head
  change (tk i).x=x at v
  have C:∀st c,DD tk n (127::41::st) (i+1) c->DD tk n (126::41::st) i c/\((x::r≠[]\/t=M)->DD tk n (128::41::st) i c):=fun st c e=>
   ⟨DD.exp d (by decide:xE 126 1=([1,127],M)) f (DD.tok d f e),fun _=>DD.exp d (by decide:xE 128 1=([1,127],M)) f (DD.tok d f e)⟩
  by_cases s:r=[]/\t=O
  ·rw[ab s]at o;obtain⟨rfl,rfl⟩:=s;obtain rfl:=o.nils;have:=KA.last d h g;rw[v]at this;exact⟨this,by omega,fun st c e=>C st c (DD.exp h (by decide:xE 127 41=([],M)) (by omega) e)⟩
  ·rw[aa s]at o;obtain⟨u,A,L⟩:=o.sg;obtain⟨I,af,J⟩:=aiG r t (i+1+1) k L h g;have:=KA.go d u (by omega) I;rw[v]at this;refine⟨this,by omega,fun st c e=>C st c ?_⟩;refine DD.exp u (by decide:xE 127 46=([46,128],M)) A (DD.tok u A ((J st c e).2 ?_));by_cases B:r=[]
   ·right;cases t with
    |true=>rfl
    |false=>exact absurd ⟨B,rfl⟩ s
   ·exact .inl B
theorem amp{i k:Nat}(h:∀q,i<=q->q<k->(tk q).k=5/\q<n)(t:i<k):(∀R j,P tk n .stats k R j->P tk n .stats i R j)/\∀st d,DD tk n (100::st) k d->DD tk n (100::st) i d/\DD tk n (101::st) i d:=by
 have v:∀c,i+c<=k->(∀R j,P tk n .stats k R j->P tk n .stats (k-c) R j)/\∀st d,DD tk n (100::st) k d->DD tk n (100::st) (k-c) d:=by
  intro c
  induction c with
  |zero=>intro _;exact⟨fun R j h=>h,fun st d h=>h⟩
  |succ c u=>
   intro s;obtain⟨a,b⟩:=u (by omega);obtain⟨e,f⟩:=h (k-(c+1)) (by omega) (by omega);have o:k-(c+1)+1=k-c:=by omega
   refine⟨fun R j g=> .ssep e f (by rw[o];exact a R j g),fun st d s=>?_⟩;exact DD.exp e (by decide:xE 100 5=([5,100],M)) f (DD.tok e f (by rw[o];exact b st d s))
 obtain⟨a,b⟩:=v (k-(i+1)) (by omega);rw[show k-(k-(i+1))=i+1 by omega]at a b;obtain⟨e,f⟩:=h i (ag _) t;exact⟨fun R j g=> .ssep e f (a R j g),fun st d c=>⟨DD.exp e (by decide:xE 100 5=([5,100],M)) f (DD.tok e f (b st d c)),DD.exp e (by decide:xE 101 5=([5,100],M)) f (DD.tok e f (b st d c))⟩⟩
end
section
variable {l m a b : List Wt} {F G K : Fo} {N : Nd} {q k : Int} {kd : Nat} {w x y z : ByteArray}
theorem mg.es(h:mg l F 0):In l F:=by
 have:=MEc.all h MEc.nil;rw[fj,Fo.app_nil]at this;exact this
theorem In.cons(h:mg l F 0)(g:In m G):In (l++(sgF 46::m)) (F.app G):=fun tk n J L B I A t=>by
 obtain⟨k,am,an⟩:=I.app;obtain⟨c,d,ao⟩:=an.sg;obtain⟨i,s,a1,av,E,v⟩:=g tk n (k+1) L B ao A t;obtain⟨e,o,a0,f,C,u⟩:=h tk n J k d am (si c);refine⟨e.app i,by rw[eD,o,s],by omega,f,.es (C 0 e k (Int.le_refl _) (.mstop d fun g=>by rw[c]at g;exact absurd g (by decide))) ?_,fun ap af j=>?_⟩
 ·cases E with
  |es ak al=>exact .ego c d ak al
 ·refine DD.exp rfl (by rw[adh,f]) (by omega) (u _ _ (DD.exp c (vH (by decide)) d (DD.exp c (by decide:xE 125 46=([46,119,125],M)) d (DD.tok c d ?_))));exact DD.ex rfl (adh _) (by decide) (v ap af j)
theorem mg.item(h:mg l F 0):ENc l (one (bN 40 0 0 z0 []) F):=fun tk n c j i C g=>by
 obtain⟨o,u,A,f,B,v⟩:=h tk n c j i C g;have d:(tk c).k≠48/\(tk c).k≠44/\(tk c).k≠6:=by refine⟨?_,?_,?_⟩<;>(intro e;rw[e]at f;exact absurd f (by decide))
 refine⟨one (iB 40 (tk c) (tk (j-1)).t) o,by rw[cD,u];rfl,A,.inl f,.item d.1 d.2.1 d.2.2 (by omega) (B 0 o j (Int.le_refl _) (.mstop i fun e=>by rw[g.no]at e;cases e)),fun I E s=>?_⟩;exact DD.exp rfl (by simp[xE,ajE,d.1,d.2.1,f]:xE 131 (tk c).k=([119],M)) (by omega) (v _ _ (DD.exp rfl (vH g.no) i s))
theorem mg.pair(h:mg l F 0)(g:mg m G 0):ENc (sgF 44::(l++(sgF 45::sgF 47::m))) (one (bN 41 0 0 z0 []) (F.app G)):=fun tk n B o j al f=>by
 obtain⟨d,i,am⟩:=al.sg;obtain⟨k,an,ao⟩:=am.app;obtain⟨c,e,ap⟩:=ao.sg;obtain⟨v,A,av⟩:=ap.sg;obtain⟨s,E,a2,a0,af,J⟩:=h tk n (B+1) k e an (si c);obtain⟨u,I,a3,a1,ak,L⟩:=g tk n (k+1+1) o j av f;refine⟨one (iB 41 (tk B) (tk (o-1)).t) (s.app u),by rw[cD,eD,E,I];rfl,by omega,.inr (.inr d),.pair d i (af 0 s k (Int.le_refl _) (.mstop e fun g=>by rw[c]at g;exact absurd g (by decide))) c v A (ak 0 u o (Int.le_refl _) (.mstop j fun g=>by rw[f.no]at g;cases g)),fun a5 a4 C=>?_⟩;exact DD.exp d (by decide:xE 131 44=([44,119,45,47,119],M)) i (DD.tok d i (J _ _ (DD.exp c (vH (by decide)) e (DD.tok c e (DD.tok v A (L _ _ (DD.exp rfl (vH f.no) j C)))))))
theorem mg.named(h:mg l F 0):ENc (sgF 48::jK x::sgF 47::l) (one (bN 42 0 0 x []) F):=fun tk n d i g L f=>by
 obtain⟨c,u,af⟩:=L.sg;obtain⟨e,_,C,I,ak⟩:=af.head;obtain⟨o,v,al⟩:=ak.sg
 change (tk (d+1)).k=1 at e
 obtain⟨j,B,an,am,J,E⟩:=h tk n (d+1+1+1) i g al f;refine⟨one (nd 42 (tk d) (tk (i-1)).t 0 0 (tk (d+1)).x []) j,by rw[cD,B,C];rfl,by omega,.inr (.inl c),.named c e o v (J 0 j i (Int.le_refl _) (.mstop g fun s=>by rw[f.no]at s;cases s)),fun ap ao A=>?_⟩;exact DD.exp c (by decide:xE 131 48=([48,1,47,119],M)) u (DD.tok c u (DD.tok e I (DD.tok o v (E _ _ (DD.exp rfl (vH f.no) g A)))))
theorem aiH{t:Int}(h:dJ t=M\/t=48\/t=44):xE 129 t=([131,130],M):=by
 rcases h with h|rfl|rfl
 ·simp[xE,ajD,h]
 ·decide
 ·decide
theorem aiI{t:Int}(h:dJ t=M\/t=48\/t=44):t≠43:=by
 rcases h with h|rfl|rfl
 ·intro c;rw[c]at h;exact absurd h (by decide)
 ·decide
 ·decide
theorem TBc.nil:TBc [] .nil:=fun tk n g h d f c=>by
 obtain rfl:=f.nils;exact⟨.nil,rfl,ag _,.nstop c d,fun j i e=>DD.exp c (by decide:xE 129 43=([],M)) d e⟩
theorem ENc.last(h:ENc l F):TBc l F:=fun tk n t u d s c=>by
 obtain⟨f,i,v,e,o,j⟩:=h tk n t u d s (si c);refine⟨f,i,by omega,?_,fun B A g=>DD.exp rfl (aiH e) (by omega) (j _ _ (DD.exp c (by decide:xE 130 43=([],M)) d g))⟩;have:=P.nlast (aiI e) (by omega) o (by rw[c];decide) d (.nstop c d);rw[Fo.app_nil]at this;exact this
theorem ENc.cons(h:ENc l F)(g:TBc m G):TBc (l++(sgF 46::m)) (F.app G):=fun tk n I J A E t=>by
 obtain⟨k,L,af⟩:=E.app;obtain⟨c,d,ak⟩:=af.sg;obtain⟨i,s,am,C,v⟩:=g tk n (k+1) J A ak t;obtain⟨f,o,al,e,B,u⟩:=h tk n I k d L (si c);refine⟨f.app i,by rw[eD,o,s],by omega,.ncom (aiI e) (by omega) B c d C,fun ao an j=>?_⟩;exact DD.exp rfl (aiH e) (by omega) (u _ _ (DD.exp c (by decide:xE 130 46=([46,129],M)) d (DD.tok c d (v _ _ j))))
theorem TBc.un(h:TBc l F):xd (sgF 42::(l++[sgF 43])) (one (bN 35 0 0 z0 []) F):=fun tk n g af u A J=>by
 obtain⟨c,e,B⟩:=A.sg;obtain⟨k,C,E⟩:=B.app;obtain⟨d,f,I⟩:=E.sg;obtain rfl:=I.nils;obtain⟨i,o,L,v,s⟩:=h tk n (g+1) k f C d;exact⟨one (iB 35 (tk g) (tk k).t) i,by rw[cD,o];rfl,by omega,by rw[c];decide,.utab c e v d u,fun al ak j=>DD.exp c (by decide:xE 120 42=([42,129,43],M)) e (DD.tok c e (s _ _ (DD.tok d f j)))⟩
theorem aj8:Eo [sgF 42,sgF 43] (one (bN 1 0 0 z0 []) .nil):=fun tk n g u i j=>by
 obtain⟨c,e,o⟩:=j.sg;obtain⟨d,f,s⟩:=o.sg;obtain rfl:=s.nils;exact⟨one (iB 1 (tk g) (tk (g+1)).t) .nil,rfl,by omega,c,.block c e (.sstop (.inl d) f) d i,fun A v h=>DD.exp c (by decide:xE 132 42=([42,100,43],M)) e (DD.tok c e (DD.exp d (by decide:xE 100 43=([],M)) f (DD.tok d f h)))⟩
theorem ID.bl(h:ID l F):Eo (sgF 42::(l++[sgF 43])) (one (bN 1 0 0 z0 []) F):=fun tk n i af u A=>by
 obtain⟨c,e,B⟩:=A.sg;obtain⟨k,C,E⟩:=B.app;obtain⟨d,g,I⟩:=E.sg;obtain rfl:=I.nils;obtain⟨j,s,J,L,v,f⟩:=h tk n (i+1) k g C (.inl d);rw[d]at f;exact⟨one (iB 1 (tk i) (tk k).t) j,by rw[cD,s];rfl,by omega,c,.block c e v d u,fun al ak o=>DD.exp c (by decide:xE 132 42=([42,100,43],M)) e (DD.tok c e (f _ _ (DD.tok d g o)).1)⟩
theorem amq{t:Int}(h:t=43\/t=6):xE 100 t=([],M):=by rcases h with rfl|rfl<;>decide
theorem ID.nil:ID [nlW] .nil:=fun tk n i o e h d=>by
 obtain⟨k,c,j,f⟩:=h.nl rfl;obtain rfl:=j.nils;obtain⟨a,b⟩:=amp f c;exact⟨.nil,rfl,(f i (ag _) c).1,c,a _ _ (.sstop d e),fun t s g=>b _ _ (DD.exp rfl (amq d) e g)⟩
theorem ID.cons(h:C9 l F)(g:ID m G):ID (nlW::(l++m)) (F.app G):=fun tk n L af C J B=>by
 obtain⟨k,d,ak,e⟩:=J.nl rfl;obtain⟨f,al,am⟩:=ak.app;obtain⟨a,b⟩:=amp e d;obtain⟨j,t,u,ao,I,A⟩:=g tk n f af C am B;obtain⟨i,s,an,c,E,v⟩:=h tk n k f (by omega) al (.inl u);refine⟨i.app j,by rw[eD,s,t],(e L (ag _) d).1,by omega,a _ _ (.sgo (fun g=>c (.inl g)) (fun g=>c (.inr (.inl g))) (fun g=>c (.inr (.inr g))) (by omega) E I),fun av ap o=>b _ _ (v _ _ (A _ _ o).2)⟩
theorem aj9(h:C9 l F)(g:ID m G):∀(tk:Nat->Tk)(n j:Nat),j<n->oq tk n 0 (l++m) j->(tk j).k=6->∃X:Fo,X.bare=F.app G/\P tk n .stats 0 X j/\DD tk n [100,6] 0 (j+1):=fun tk n j f C d=>by
 obtain⟨i,E,I⟩:=C.app;obtain⟨o,t,u,L,B,e⟩:=g tk n i j f I (.inr d);obtain⟨X,s,J,c,A,v⟩:=h tk n 0 i (by omega) E (.inl u);rw[d]at e;exact⟨X.app o,by rw[eD,s,t],.sgo (fun g=>c (.inl g)) (fun g=>c (.inr (.inl g))) (fun g=>c (.inr (.inr g))) (by omega) A B,v _ _ (e _ _ (DD.tok d f ⟨0,.nil⟩)).2⟩
theorem Eo.body(h:Eo l F)(nm:List ByteArray)(r:Bool):BDc (sgF 40::(Al nm r++(sgF 41::l))) (one (bN 36 (if r=M then 1 else 0) 0 z0 nm) F):=fun tk n E f I v C=>by
 obtain⟨c,d,J⟩:=C.sg;obtain⟨k,L,af⟩:=J.app;obtain⟨e,A,ak⟩:=af.sg;obtain⟨g,j,an,am,B,u⟩:=h tk n (k+1) f v ak;obtain⟨o,al,s⟩:=aiG nm r (E+1) k L e (by omega);refine⟨one (nd 36 I (tk (f-1)).t (if r=M then 1 else 0) 0 z0 nm) g,by rw[cD,j];rfl,by omega,c,.body c d o B,fun ap ao i=>?_⟩;exact DD.exp c (by decide:xE 133 40=([40,126,41,132],M)) d (DD.tok c d (s _ _ (DD.tok e A (u _ _ i))).1)
theorem BDc.un(h:BDc l F):xd (sgF 18::l) F:=fun tk n e u o t B=>by
 obtain⟨c,d,v⟩:=t.sg;obtain⟨f,i,C,A,s,j⟩:=h tk n (e+1) u (tk e) o v;exact⟨f,i,by omega,by rw[c];decide,.ufn c d s,fun I E g=>DD.exp c (by decide:xE 120 18=([18,133],M)) d (DD.tok c d (j _ _ g))⟩
end
def TMc(l:List Wt)(F:Fo):Prop:=∀(tk:Nat->Tk)(n d c:Nat),c<n->oq tk n d l c->(tk c).k=47->
 ∃e:Fo,e.bare=F/\d<=c/\P tk n .moreB d e c/\∀g f a,(a=110\/a=114)->DD tk n (47::124::g) c f->DD tk n (a::g) d f
theorem tJ{tk:Nat->Tk}{i:Nat}{k:Int}(h:(tk i).k=k)(c:¬(k=5\/k=6\/k=43):=by decide):¬Gr (tk i).k:=by rw[h];exact c
section
variable {l m p a b : List Wt} {F G H K : Fo} {N : Nd} {q k : Int} {kd : Nat} {w x y z : ByteArray} {r : List ByteArray}
theorem TMc.nil:TMc [] .nil:=fun tk n h i d g c=>by
 obtain rfl:=g.nils;exact⟨.nil,rfl,ag _,.bstop (by rw[c];decide) d,fun o j a f e=>by rcases f with rfl|rfl<;>exact DD.exp (L:=[47,124]) c (by decide) d e⟩
theorem TMc.cons(h:uu l F kd)(a2:kd<2)(g:TMc m G):TMc (sgF 46::(l++m)) (F.app G):=fun tk n an ao af am f=>by
 obtain⟨c,d,ap⟩:=am.sg;obtain⟨k,av,a0⟩:=ap.app;obtain⟨t,B,a4,i,J⟩:=g tk n k ao af a0 f;obtain⟨s,A,a3,a1,al,I⟩:=h tk n (an+1) k (by omega) av;have C:aft 2 kd=114:=by rcases(show kd=0\/kd=1 by omega) with rfl|rfl<;>rfl
 have ak:vA (tk k).k=O:=by
  cases i with
  |bstop e=>rw[f];decide
  |bgo e=>rw[e];decide
 refine⟨s.app t,by rw[eD,A,B],by omega,.bgo c d (al _ _ (.pstop (by omega) ak)) i,fun o j a E u=>?_⟩;have v:=I 2 o j (by decide) (by rw[C];exact J o j 114 (.inr rfl) u);rcases E with rfl|rfl<;>exact DD.exp (L:=[46,113]) c (by decide) d (DD.tok c d v)
theorem Eo.st(h:Eo l F):C9 l F:=fun tk n t u i s v=>by
 obtain⟨d,f,j,c,o,g⟩:=h tk n t u i s;exact⟨d,f,j,tJ c,.tblock c (by omega) o,fun st A e=>DD.exp c (by decide:xE 100 42=([132,101],M)) (by omega) (g _ _ e)⟩
theorem ag1:C9 (sgF 22::Gs (x::r)) (one (bN 2 0 0 z0 (x::r)) .nil):=fun tk n B i h A v=>by
 obtain⟨c,g,C⟩:=A.sg;obtain⟨E,o,d,_⟩:=v.e;obtain⟨f,s,I,t,u⟩:=adj r x (B+1) i C h o;refine⟨_,?_,by omega,tJ c,.tlet0 c (by omega) f t d,fun L J j=>?_⟩
 ·rw[cD,s];rfl
 ·exact DD.exp c (by decide:xE 100 22=([22,1,104,103,101],M)) g (DD.tok c g (DD.tok f (by omega) (u _ _ (DD.exp rfl (by simp[xE,ajv,d]:xE 103 (tk i).k=([],M)) h j))))
theorem In.let_(h:In l F):C9 (sgF 22::(Gs (x::r)++(sgF 47::l))) (one (bN 2 0 0 z0 (x::r)) F):=fun tk n I J B E i=>by
 obtain⟨c,j,L⟩:=E.sg;obtain⟨k,af,ak⟩:=L.app;obtain⟨d,f,al⟩:=ak.sg;obtain⟨g,t,an,u,v⟩:=adj r x (I+1) k af f (by rw[d];decide);obtain⟨am,s,ap,ao,C,A⟩:=h tk n (k+1) J B al i.e.1 i.e.2.1;refine⟨_,?_,by omega,tJ c,.tlet c (by omega) g u d C,fun a0 av o=>?_⟩
 ·rw[cD,t,s];rfl
 ·exact DD.exp c (by decide:xE 100 22=([22,1,104,103,101],M)) j (DD.tok c j (DD.tok g (by omega) (v _ _ (DD.exp d (by decide:xE 103 47=([47,124],M)) f (DD.tok d f (A _ _ o))))))
theorem mst{tk:Nat->Tk}{n j:Nat}{s:Tk}{X:Fo}(d:j<n)(h:nh 0 (tk j).k):P tk n (.more 0 s X) j X j:= .mstop d fun c=>by rw[h.no]at c;cases c
theorem dst{tk:Nat->Tk}{n j c:Nat}{st:List Int}(e:j<n)(h:nh 0 (tk j).k)(d:DD tk n st j c):DD tk n (121::st) j c:=DD.exp rfl (vH h.no) e d
theorem mg.const(h:mg l F 0):C9 (sgF 13::jK x::sgF 47::l) (one (bN 3 0 0 z0 [x]) F):=fun tk n s t g J f=>by
 obtain⟨c,j,L⟩:=J.sg;obtain⟨d,_,B,E,af⟩:=L.head;obtain⟨i,o,ak⟩:=af.sg
 change (tk (s+1)).k=1 at d
 obtain⟨u,A,am,al,I,C⟩:=h tk n (s+1+1+1) t g ak f.e.1;refine⟨_,?_,by omega,tJ c,.tcon c d i o (I 0 u t (Int.le_refl _) (mst g f.e.1)),fun ao an v=>?_⟩
 ·rw[cD,B,A];rfl
 ·exact DD.exp c (by decide:xE 100 13=([13,1,47,119,101],M)) j (DD.tok c j (DD.tok d E (DD.tok i o (C _ _ (dst g f.e.1 v)))))
theorem BDc.fn(h:BDc l F):C9 (sgF 18::jK x::l) (one (bN 4 0 0 z0 [x]) F):=fun tk n e B t A J=>by
 obtain⟨c,f,C⟩:=A.sg;obtain⟨d,_,j,u,E⟩:=C.head
 change (tk (e+1)).k=1 at d
 obtain⟨I,i,L,o,v,s⟩:=h tk n (e+1+1) B (tk (e+2)) t E;refine⟨_,?_,by omega,tJ c,.tfn c d o (by omega) v,fun ak af g=>?_⟩
 ·rw[cD,j,i];rfl
 ·exact DD.exp c (by decide:xE 100 18=([18,1,133,101],M)) f (DD.tok c f (DD.tok d u (s _ _ g)))
theorem uu.fol{tk:Nat->Tk}{i:Nat}(h:(tk i).k=1\/(tk i).k=40):¬Gr (tk i).k:=by rcases h with g|g<;>rw[g]<;>unfold Gr<;>decide
theorem uu.set(h:uu l F kd)(ba:kd<2)(g:TMc m G)(e:In p H):C9 (l++(m++(sgF 47::p))) (one (bN 5 0 (F.app G).len z0 []) ((F.app G).app H)):=fun tk n B C ao a1 v=>by
 obtain⟨k,a3,a4⟩:=a1.app;obtain⟨E,a5,a6⟩:=a4.app;obtain⟨c,i,a7⟩:=a6.sg;obtain⟨f,s,bd,A,am⟩:=g tk n k E i a5 c;obtain⟨d,o,bb,u,av,al⟩:=h tk n B k (by omega) a3;obtain⟨I,af,bf,a9,a0,an⟩:=e tk n (E+1) C ao a7 v.e.1 v.e.2.1;have ak:aft 1 kd=110:=by rcases(show kd=0\/kd=1 by omega) with rfl|rfl<;>rfl
 have ap:vA (tk k).k=O:=by
  cases A with
  |bstop j=>rw[c];decide
  |bgo j=>rw[j];decide
 refine⟨one (nd 5 (tk B) (tk (C-1)).t 0 ((d.app f).len:Nat) z0 []) ((d.app f).app I),?_,by omega,uu.fol u,.tset u (by omega) (av _ _ (.pstop (by omega) ap)) A c i a0,fun a8 a2 J=>?_⟩
 ·have L:(d.app f).len=(F.app G).len:=by rw[<-Gq,eD,o,s]
  rw[cD,eD,eD,o,s,af,L];rfl
 ·exact al 1 a8 a2 (by decide) (by rw[ak];exact am _ _ 110 (.inl rfl) (DD.tok c i (an _ _ J)))
theorem uu.do_(h:uu l F 2):C9 l (one (bN 6 0 0 z0 []) F):=fun tk n j o c E i=>by
 obtain⟨s,v,B,f,C,A⟩:=h tk n j o c E;have d:=i.e;refine⟨one (iB 6 (tk j) (tk (o-1)).t) s,by rw[cD,v];rfl,B,uu.fol f,.tdo f (by omega) (C _ _ (.pstop c d.2.2.2.2.2.2.1)) d.2.1 d.2.2.1 c,fun J I u=>?_⟩;refine A 1 J I (by decide) (DD.exp (L:=[]) rfl ?_ c u);rcases i with g|g|g<;>rw[g]<;>decide
theorem uu.defer(h:uu l F 2):C9 (sgF 14::l) (one (bN 16 0 0 z0 []) F):=fun tk n j o f C i=>by
 obtain⟨c,d,I⟩:=C.sg;obtain⟨s,v,af,J,B,A⟩:=h tk n (j+1) o f I;refine⟨one (iB 16 (tk j) (tk (o-1)).t) s,by rw[cD,v];rfl,by omega,tJ c,.tdefer c d (B _ _ (.pstop f i.e.2.2.2.2.2.2.1)),fun ak E u=>?_⟩;refine DD.exp c (by decide:xE 100 14=([14,116,101],M)) d (DD.tok c d (A 3 _ E (by decide) (DD.exp (L:=[]) rfl ?_ f u)));rcases i with g|g|g<;>rw[g]<;>decide
theorem mg.throw(h:mg l F 0):C9 (sgF 28::l) (one (bN 15 0 0 z0 []) F):=fun tk n o i g B d=>by
 obtain⟨c,f,C⟩:=B.sg;obtain⟨j,u,I,E,A,v⟩:=h tk n (o+1) i g C d.e.1;exact⟨one (iB 15 (tk o) (tk (i-1)).t) j,by rw[cD,u];rfl,by omega,tJ c,.tthrow c f (A 0 j i (Int.le_refl _) (mst g d.e.1)),fun L J s=>DD.exp c (by decide:xE 100 28=([28,119,101],M)) f (DD.tok c f (v _ _ (dst g d.e.1 s)))⟩
theorem K7{k:Int}{f:Int}(h:(k=11/\f=11)\/(k=23/\f=12)):C9 [sgF k] (one (bN f 0 0 z0 []) .nil):=fun tk n o v i j u=>by
 rcases h with⟨rfl,rfl⟩|⟨rfl,rfl⟩
 ·obtain⟨c,d,g⟩:=j.sg
  change (tk o).k=11 at c
  obtain rfl:=g.nils;exact⟨_,rfl,by omega,tJ c,.tbreak c i,fun t s e=>DD.exp c (by decide:xE 100 11=([11,101],M)) d (DD.tok c d e)⟩
 ·obtain⟨c,d,g⟩:=j.sg
  change (tk o).k=23 at c
  obtain rfl:=g.nils;exact⟨_,rfl,by omega,tJ c,.tnext c i,fun t s e=>DD.exp c (by decide:xE 100 23=([23,101],M)) d (DD.tok c d e)⟩
theorem ag2:C9 [sgF 27] (one (bN 13 0 0 z0 []) .nil):=fun tk n j s g i d=>by
 obtain⟨c,f,o⟩:=i.sg;obtain rfl:=o.nils;exact⟨_,rfl,by omega,tJ c,.tret0 c g d,fun u t h=>DD.exp c (by decide:xE 100 27=([27,108,101],M)) f (DD.tok c f (DD.exp rfl (by simp[xE,agD,d.e.2.2.2.2.2.1]:xE 108 (tk (j+1)).k=([],M)) g h))⟩
theorem In.ret(h:In l F):C9 (sgF 27::l) (one (bN 13 0 0 z0 []) F):=fun tk n d j A C g=>by
 obtain⟨c,i,E⟩:=C.sg;obtain⟨o,u,I,f,B,v⟩:=h tk n (d+1) j A E g.e.1 g.e.2.1;exact⟨one (iB 13 (tk d) (tk (j-1)).t) o,by rw[cD,u];rfl,by omega,tJ c,.tret c (by omega) f B,fun L J s=>DD.exp c (by decide:xE 100 27=([27,108,101],M)) i (DD.tok c i (DD.exp rfl (by simp[xE,agD,f]:xE 108 (tk (d+1)).k=([124],M)) (by omega) (v _ _ s)))⟩
theorem mg.while_(h:mg l F 0)(g:Eo m G):C9 (sgF 31::(l++m)) (one (bN 8 0 0 z0 []) (F.app G)):=fun tk n i j E L an=>by
 obtain⟨c,d,af⟩:=L.sg;obtain⟨k,ak,al⟩:=af.app;obtain⟨o,v,ap,A,J,C⟩:=g tk n k j E al;have e:nh 0 (tk k).k:=si A;obtain⟨f,u,ao,am,I,B⟩:=h tk n (i+1) k (by omega) ak e;exact⟨one (iB 8 (tk i) (tk (j-1)).t) (f.app o),by rw[cD,eD,u,v];rfl,by omega,tJ c,.twhile c d (I 0 f k (Int.le_refl _) (mst (by omega) e)) J,fun a0 av s=>DD.exp c (by decide:xE 100 31=([31,119,132,101],M)) d (DD.tok c d (B _ _ (dst (by omega) e (C _ _ s))))⟩
theorem mg.for_(h:mg l F 0)(g:In m G)(e:Eo p H)(ak:∀(tk:Nat->Tk) (n i j:Nat),j<n->oq tk n i m j->(tk j).k=42->∀st u,DD tk n (132::st) j u->DD tk n (119::107::132::st) i u):
  C9 (sgF 19::jK x::sgF 47::((l++(sgF 46::m))++p)) (one (bN 9 0 0 z0 [x]) ((F.app G).app H)):=fun tk n i j an a1 bk=>by
 obtain⟨c,B,a2⟩:=a1.sg;obtain⟨f,_,af,ao,a3⟩:=a2.head;obtain⟨d,t,a4⟩:=a3.sg
 change (tk (i+1)).k=1 at f
 obtain⟨k,E,a5⟩:=a4.app;obtain⟨bb,L,bo,o,a0,am⟩:=e tk n k j an a5;have ap:nh 0 (tk k).k:=si o;obtain⟨ba,J,bn,bj,av,_⟩:=(In.cons h g) tk n (i+1+1+1) k (by omega) E ap (by rw[o];decide);obtain⟨v,a6,a7⟩:=E.app;obtain⟨A,s,a8⟩:=a7.sg;have C:nh 0 (tk v).k:=si A;obtain⟨a9,bd,bl,bf,bp,al⟩:=h tk n (i+1+1+1) v s a6 C;refine⟨_,?_,by omega,tJ c,.tfor c (by omega) f (.stop (by rw[d];decide) t) d av a0,fun st u I=>?_⟩
 ·rw[cD,eD,J,L,af];rfl
 ·refine DD.exp c (by decide:xE 100 19=([19,1,106,101],M)) B (DD.tok c B (DD.tok f ao (DD.exp d (by decide:xE 106 47=([47,119,46,119,107,132],M)) t (DD.tok d t ?_))));exact al _ _ (dst s C (DD.tok A s (ak tk n (v+1) k (by omega) a8 o _ _ (am _ _ I))))
theorem ag3(h:mg l F 0):∀(tk:Nat->Tk)(n i j:Nat),j<n->oq tk n i l j->(tk j).k=42->∀st d,DD tk n (132::st) j d->DD tk n (119::107::132::st) i d:=fun tk n i j c s e st d g=>by
 have f:nh 0 (tk j).k:=si e;obtain⟨t,u,A,v,B,o⟩:=h tk n i j c s f;exact o _ _ (dst c f (DD.exp e (by decide:xE 107 42=([],M)) c g))
theorem abh(h:mg l F 0)(g:mg m G 0):∀(tk:Nat->Tk)(n i j:Nat),j<n->oq tk n i (l++(sgF 46::m)) j->(tk j).k=42->∀st e,DD tk n (132::st) j e->DD tk n (119::107::132::st) i e:=fun tk n i j f B u st e t=>by
 have o:nh 0 (tk j).k:=si u;obtain⟨k,C,E⟩:=B.app;obtain⟨d,c,I⟩:=E.sg;have s:nh 0 (tk k).k:=si d;obtain⟨J,af,an,al,ap,v⟩:=h tk n i k c C s;obtain⟨L,ak,ao,am,av,A⟩:=g tk n (k+1) j f I o;exact v _ _ (dst c s (DD.exp d (by decide:xE 107 46=([46,119],M)) c (DD.tok d c (A _ _ (dst f o t)))))
theorem mg.each(h:mg l F 0)(g:Eo m G):C9 (sgF 19::(Gs (x::r)++(sgF 21::(l++m)))) (one (bN 10 0 0 z0 (x::r)) (F.app G)):=fun tk n e av al ao a9=>by
 obtain⟨c,t,a0⟩:=ao.sg;obtain⟨k,a1,a2⟩:=a0.app;obtain⟨d,u,a3⟩:=a2.sg;obtain⟨f,a4,a5⟩:=a3.app;obtain⟨j,I,a7,o,J⟩:=adj r x (e+1) k a1 u (by rw[d];decide);obtain⟨a6,E,bb,s,an,af⟩:=g tk n f av al a5;have i:nh 0 (tk f).k:=si s;obtain⟨v,C,ba,a8,am,L⟩:=h tk n (k+1) f (by omega) a4 i;refine⟨_,?_,by omega,tJ c,.teach c (by omega) j o d (am 0 v f (Int.le_refl _) (mst (by omega) i)) s (by omega) an,fun bf bd B=>?_⟩
 ·rw[cD,eD,I,C,E];rfl
 ·have ak:(tk (e+1+1)).k=46\/(tk (e+1+1)).k=21:=by
   cases o with
   |stop=>exact .inr d
   |go A=>exact .inl A
  have ap:xE 106 (tk (e+1+1)).k=([104,21,119,132],M):=by rcases ak with g|g<;>rw[g]<;>decide
  refine DD.exp c (by decide:xE 100 19=([19,1,106,101],M)) t (DD.tok c t (DD.tok j (by omega) (DD.exp rfl ap (by omega) (J _ _ (DD.tok d u ?_)))));exact L _ _ (dst (by omega) i (af _ _ B))
theorem Eo.try_(h:Eo l F)(g:Eo m G)(an:r.length<=1):C9 (sgF 30::(l++(sgF 12::(Gs (x::r)++m)))) (one (bN 14 0 0 z0 (x::r)) (F.app G)):=fun tk n ap av ak ao bb=>by
 obtain⟨c,d,a0⟩:=ao.sg;obtain⟨k,a1,a2⟩:=a0.app;obtain⟨i,t,a3⟩:=a2.sg;obtain⟨u,a4,a5⟩:=a3.app;obtain⟨a7,I,bf,s,am,af⟩:=g tk n u av ak a5;obtain⟨j,J,a8,o,a9⟩:=adj r x (k+1) u a4 (by omega) (by rw[s];decide);obtain⟨a6,E,bd,ba,al,L⟩:=h tk n (ap+1) k t a1;refine⟨_,?_,by omega,tJ c,.ttry c d al i (by omega) j o am,fun bk bj C=>?_⟩
 ·rw[cD,eD,J,E,I];rfl
 ·refine DD.exp c (by decide:xE 100 30=([30,132,12,1,109,132,101],M)) d (DD.tok c d (L _ _ (DD.tok i t (DD.tok j (by omega) ?_))));have f:=af _ _ C;cases o with
  |stop=>exact DD.exp s (by decide:xE 109 42=([],M)) (by omega) f
  |go e v A B=>
   cases B with
   |stop=>exact DD.exp e (by decide:xE 109 46=([46,1],M)) (by omega) (DD.tok e (by omega) (DD.tok A v f))
   |go=>simp at an
theorem mg.br0(h:mg l F 0)(g:Eo m G):BRc (l++m) (one (bN 7 0 0 z0 []) (F.app G)):=fun tk n o i ak I d af c=>by
 obtain⟨k,al,am⟩:=af.app;obtain⟨s,A,ap,B,L,E⟩:=g tk n k i d am;have f:nh 0 (tk k).k:=si B;obtain⟨j,v,ao,an,J,C⟩:=h tk n (o+1) k (by omega) al f;exact⟨one (iB 7 (tk o) (tk (i-1)).t) (j.app s),by rw[cD,eD,v,A];rfl,by omega,.bno ak I (J 0 j k (Int.le_refl _) (mst (by omega) f)) L c.e.2.2.2.1 c.e.2.2.2.2.1 d,fun a0 av u=>C _ _ (dst (by omega) f (E _ _ (DD.exp rfl (by simp[xE,ajx,c.e.2.2.2.1,c.e.2.2.2.2.1]:xE 105 (tk i).k=([],M)) d u)))⟩
theorem mg.br1(h:mg l F 0)(g:Eo m G)(e:Eo p H):BRc (l++(m++(sgF 16::p))) (one (bN 7 0 0 z0 []) ((F.app G).app H)):=fun tk n j o av ak al ap a7=>by
 obtain⟨k,a0,a1⟩:=ap.app;obtain⟨s,a2,a3⟩:=a1.app;obtain⟨d,c,a4⟩:=a3.sg;obtain⟨u,C,a9,I,an,L⟩:=g tk n k s c a2;have f:nh 0 (tk k).k:=si I;obtain⟨i,B,a8,a5,am,J⟩:=h tk n (j+1) k (by omega) a0 f;obtain⟨v,E,ba,a6,ao,af⟩:=e tk n (s+1) o al a4;exact⟨one (iB 7 (tk j) (tk (o-1)).t) ((i.app u).app v),by rw[cD,eD,eD,B,C,E];rfl,by omega,.belse av ak (am 0 i k (Int.le_refl _) (mst (by omega) f)) an d c ao,fun bd bb A=>J _ _ (dst (by omega) f (L _ _ (DD.exp d (by decide:xE 105 16=([16,132],M)) c (DD.tok d c (af _ _ A)))))⟩
theorem mg.br2(h:mg l F 0)(g:Eo m G)(e:BRc p H):BRc (l++(m++(sgF 15::p))) (one (bN 7 0 0 z0 []) ((F.app G).app H)):=fun tk n j o a0 al am av ak=>by
 obtain⟨k,a1,a2⟩:=av.app;obtain⟨s,a3,a4⟩:=a2.app;obtain⟨d,c,a5⟩:=a4.sg;obtain⟨u,C,a8,I,ao,L⟩:=g tk n k s c a3;have f:nh 0 (tk k).k:=si I;obtain⟨i,B,a7,a6,an,J⟩:=h tk n (j+1) k (by omega) a1 f;obtain⟨v,E,a9,ap,af⟩:=e tk n s o (.inr d) c am a5 ak;exact⟨one (iB 7 (tk j) (tk (o-1)).t) ((i.app u).app v),by rw[cD,eD,eD,B,C,E];rfl,by omega,.belif a0 al (an 0 i k (Int.le_refl _) (mst (by omega) f)) ao d c ap,fun bb ba A=>J _ _ (dst (by omega) f (L _ _ (DD.exp d (by decide:xE 105 15=([15,119,132,105],M)) c (DD.tok d c (af _ _ A)))))⟩
theorem BRc.st(h:BRc l F):C9 (sgF 20::l) F:=fun tk n u v o t j=>by
 obtain⟨c,d,A⟩:=t.sg;obtain⟨e,g,B,s,i⟩:=h tk n u v (.inl c) d o A j;exact⟨e,g,by omega,tJ c,.tif c d s,fun st C f=>DD.exp c (by decide:xE 100 20=([20,119,132,105,101],M)) d (DD.tok c d (i _ _ f))⟩
end
theorem vI{w j:S}{f i e size n:Nat}{v:Q}{s:List Q}(o:w.ownsRow f e size v n s)(h:∀g,v.ownBlock=some g->f<=g->g<w.heap.size->j.heap[g]?=w.heap[g]?/\i<=g):j.ownsRow i e size v n s:=by
 obtain⟨A,c⟩:=o;refine⟨A,?_⟩;rcases c with c|⟨g,t,u,rfl,B,d,C⟩
 ·exact .inl c
 ·have q:=h g rfl B (au d);exact .inr ⟨g,t,u,rfl,q.2,q.1.trans d,C⟩
structure Lw (w:S) (lo:Nat) (lv:Q) (L:List Mb):Prop where
 row:w.ownsRow lo 36 9 lv L.length (mi L)
 each:∀x∈L,w.ownsRow lo 9 1 x.vn x.N.nm.length (x.N.nm.map Value.string)/\w.ownsRow lo 3 1 x.vk x.N.ks.length (x.N.ks.map (Value.int .i64))
theorem Lw.mono{w j:S}{g:Nat}{v:Q}{L:List Mb}(h:Lw w g v L)(f:∀k,g<=k->k<w.heap.size->j.heap[k]?=w.heap[k]?):Lw j g v L:=
 ⟨vI h.row fun d _ c e=>⟨f d c e,c⟩,fun x i=>⟨vI (h.each x i).1 fun d _ c e=>⟨f d c e,c⟩,vI (h.each x i).2 fun d _ c e=>⟨f d c e,c⟩⟩⟩
theorem Lw.nds{w:S}{I:Nat}{v:Q}{L:List Mb}(h:Lw w I v L):co w v (L.map Mb.N):=by
 rcases bK h.row with⟨E,rfl⟩|⟨d,C,rfl⟩
 ·exact .inl ⟨by rw[jr E];rfl,_,_,rfl⟩
 ·refine .inr ⟨⟨d,0,none⟩,C,by rw[dL],fun e N c=>?_⟩;rw[cA]at c;cases hx:L[e]? with
  |none=>rw[hx]at c;cases c
  |some x=>
   rw[hx]at c;obtain rfl:=db c;rw[show(⟨d,0,none⟩:Addr).add (e*9)=⟨d,e*9,none⟩ by unfold Addr.add;split<;>simp_all];obtain⟨g,i,j,o,s,t,u,A,B⟩:=td h.row hx;have f:=h.each x (dl hx);exact⟨x.vn,x.vk,g,i,j,o,s,t,u,A,B,aa2 f.1,qw f.2⟩
