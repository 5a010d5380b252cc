import Derived.Test.YtnoembpaejlaeaaGreatDoorHLk10
import Derived.Test.YtnoembpaejlaeaaGreatDoorHLk13
set_option linter.all false
set_option maxRecDepth 100000
set_option maxHeartbeats 12800000
open Bool renaming true->M,false->O
open Go renaming World->Q,Value->V
open Option renaming some->S,none->U
open Go.Value renaming slice->T,string->Y
namespace Go.Proofs.YtnoembpaejlaeaaGreatDoor
open Go.RowKit
variable{i j n:Nat}{k t:Int}{tk:Nat->Tk}
def bgC(c k:Int):Bool:=decide ((k=1/\bK c=M)\/((k=2\/k=3)/\cD c=M)\/(k=4/\c=34))
def bgT(x:ByteArray)(k:Int):Bool:=decide (x.size<=(Cx k).size)&&(((Cx k).extract 0 x.size).toList==x.toList)
def bgL(x:ByteArray):List Int->Bool
 |[]=>O
 |k::r=>if bgC (aw x 0) k=M then M else if bgT x k=M then M else bgL x r
def amF(ks:List Int)(x:ByteArray):Bool:=if x.size=1/\aw x 0=45 then M else bgL x ks
def amG(s:ByteArray)(p n:Nat):Bool:=bK (aw s p)&&(!(bK (lk s (p+n)))&&!(cD (lk s (p+n))))
def wrL(s:ByteArray)(p:Nat)(ks:List Int):Nat->Nat->Nat
 |0,n=>n
 |f+1,n=>if p+n<s.size/\amF ks (s.extract p (p+n+1))=M then(if amG s p (n+1)=M then n+1 else wrL s p ks f (n+1)) else n
def amH(s:ByteArray)(p:Nat)(ks:List Int):Nat:=p+wrL s p ks (s.size+1) 0
def EnW(d:Q)(c:V)(t:Nat)(X:Nd)(b:ByteArray):Prop:=
 (X.k=41/\X.ks.length=2/\∃(q r:Nat) (a F:ByteArray),X.ks[0]?=S (q:Int)/\X.ks[1]?=S (r:Int)/\Hid (WE d c t q a)/\Hid (WE d c t r F)/\b=⟨#[91]⟩++a++⟨#[93,32,61,32]⟩++F)
  \/(X.ks.length=1/\∃(q:Nat) (a:ByteArray),X.ks[0]?=S (q:Int)/\Hid (WE d c t q a)/\(X.k=42/\b=⟨#[46]⟩++X.x++⟨#[32,61,32]⟩++a\/(X.k≠41/\X.k≠42)/\b=a))
def aeg{b:Q}{m:Addr}{q:Nat}{ns:List Nd}(H:eK b (T (S m) n q) ns)(I:Do b m ns)(ct:ns.length=n)(cr:n<=1048576){E:Int->ByteArray}{tab:Nat}{N:Nd}{vn vk:V}(t:dB b vk N.ks)(bd:N.ks.length<=1048576)
  (G:∀z∈N.ks,∃k:Nat,z=(k:Int)/\k<ns.length/\EnW b (T (S m) n q) tab (ae ns k) (we ns E (ae ns k))):Wr b (T (S m) n q) tab 174 #[pW b,jl N vn vk] (af6 ns E N):=by
 intro w bl x A;obtain⟨av,a3,rfl⟩:=t.form;obtain⟨d,s⟩:=aF N.ks.length;rw[s]at t bd⊢;have bh:=x.lt;have a:=aq (Bx.new x N vn (T av d a3));unfold af6 at A⊢;obtain⟨c,u⟩:∃c,(N.ks.map λk=>we ns E (ae ns k))=c:=⟨_,rfl⟩;rw[u]at A⊢;have J:c.length=d:=by rw[<-u,bi];exact s
 simp only[ay]at A;have cb:(⟨#[123]⟩:ByteArray).size=1:=rfl;have cc:iz.size=2:=rfl;have C:=gE H I;have h:=aeK t G s u J;clear x H I t G s u J;unfold jl;go_in;go_wp2_with fail;refine Bx.stp a (ai _ _) (Dn _) bh (by omega) ?_;intro au a;have a:=aq a;have a2:=a.cells.2.2.2.2.2.2.2.2;go_wp2_with fail;go_loopw [12] (λB wr=>∃k:Nat,k<=d/\B= .int .i64 k/\Hid (Pr b (T (S m) n q) (w++⟨#[123]⟩++fc (c.take k)) tab wr/\Kq b.heap.size bl wr)) (λB _=>d-(intOf B).toNat)
 case atStart=>exact⟨0,by omega,rfl,by rw[show w++⟨#[123]⟩++fc (c.take 0)=w++⟨#[123]⟩ from ByteArray.append_empty];exact a.pr,a.kq⟩
 case round=>
  clear a2 a;obtain⟨k,cl,rfl,g⟩:=hrel;by_cases ba:k<d
  .obtain⟨z,v⟩:=cA h.2.2.1 ba;obtain⟨f,rfl,K,bj⟩:=h.2.1 z (dz v);obtain⟨b9,rfl,cd⟩:=(h.1.below g.1.bel).get v;have cq:(k:Int)<(d:Int):=by omega
   have cp:(0:Int)<=(k:Int):=by omega
   have l:=rC c k (we ns E (ae ns f)) (by rw[<-h.out.2.2.2.1,cH,v];rfl);have r:=BD c (k+1);have cv:(f:Int)<(n:Int):=by omega
   have cu:(0:Int)<=(f:Int):=by omega
   obtain⟨a0,ap,a5,ax,ao,a4,i⟩:=yx C.1 C.2 K;generalize ae ns f=p at *;generalize we ns E p=b6 at *;obtain⟨b7,y⟩:=aF (fc (c.take (k+1)));rw[y]at l r;have al:=aq y;clear y v;rcases pi k with h0|h0
   case' inl=>
    rw[ab h0]at l;have bb:¬(0:Int)<(k:Int):=by omega
    clear h0;have P:=g
   case' inr=>
    rw[aa (by omega)]at l;have bb:(0:Int)<(k:Int):=by omega
    subst l;simp only[ay]at r;go_wp2_with fail;refine(gl b _ _ iz tab _ g.1 (by simp only[ay];omega)).mono ?_;rintro a6 c6 ⟨rfl,ad,L⟩;have P:=gE ad (g.2.trans L);clear ad L
   all_goals
    try subst l
    try simp only[ay]at r
    have a9:=i.hL;obtain⟨z0,b0,b3⟩:=P.1.cells;have bf:=P.1.lt;obtain⟨cw,cx,cy,cz,cB,cF,cI,c0,c2,_,_⟩:=i.rd _ P.1.bel;have a:=aq (Bx.new P.1 p (T a0 ap a5) (T ax ao a4));rcases bj with⟨e,F,f,c4,E,b4,a7,ce,ar,b5,rfl⟩|⟨F,f,E,a7,ar,⟨e,rfl⟩|⟨e,rfl⟩⟩;all_goals
     try simp only[ay]at r
     obtain⟨c3,rfl⟩:=i.ks.ptr;obtain rfl:=a9.symm.trans F;have o:=aq i;first|have a8:=kqs e;have f:=kqf e|have a8:(p.k==41)=O:=by simpa using e.1
     try have cf:(p.k==42)=O:=by simpa using e.2
     clear e;obtain⟨bn,bo,br,bs,bt,bv,bw,bx,bA⟩:=a.cells
     (try have bD:=a.kid0 o.ks (by with_reducible assumption))
     (try have bE:=a.kid o.ks (j:=1) (by with_reducible assumption) (by decide))
     clear i b3 b0 K
     repeat (go_wp2_with fail;refine Bx.stp a (by first|exact ai _ _|exact dE _ _) (by with_reducible first|exact aq (Dn _)|assumption) bf (by simp only[ay];omega) ?_;intro au a;have a:=aq a;obtain⟨bn,bo,br,bs,bt,bv,bw,bx,bA⟩:=a.cells;(try have bD:=a.kid0 o.ks (by with_reducible assumption));(try have bE:=a.kid o.ks (j:=1) (by with_reducible assumption) (by decide)))
     go_wp2_with fail;exact⟨⟨k+1,by omega,by go_num,by rw[al.out];have:=a.pr;simpa only[dh] using this,P.2.trans a.kq⟩,by simp[intOf];omega⟩
  .obtain rfl:k=d:=by omega
   go_wp2_with fail;refine(gl b _ _ ⟨#[125]⟩ _ _ g.1 (by have:=BD c k;simp only[ay];omega)).mono ?_;rintro a6 c7 ⟨rfl,af,bk⟩;go_wp2_with fail;go_end0
   refine⟨rfl,?_,g.2.trans bk⟩;rw[db (by rw[h.out.2.2.2.2];exact ag _)]at af;rw[<-dh,<-dh];exact af
structure Wt where
 k:Int
 n:Int
 x:ByteArray
 w:ByteArray
def sgF(k:Int):Wt:=⟨k,0,z0,eC k⟩
def lG(x:ByteArray):Wt:=⟨1,0,x,x⟩
def nlW:Wt:=⟨7,0,z0,⟨#[10]⟩⟩
def bN(k op n:Int)(x:ByteArray)(nm:List ByteArray):Nd:=⟨k,0,0,0,op,n,x,nm,[]⟩
def Nd.bare(N:Nd):Nd:=bN N.k N.op N.n N.x N.nm
def Fo.bare:Fo->Fo
 | .nil=> .nil
 | .cons N k r=> .cons N.bare k.bare r.bare
def fs:∀(a b:Fo),(a.app b).bare=a.bare.app b.bare
 | .nil,b=>rfl
 | .cons N k r,b=>by simp only[Fo.app,Fo.bare,fs r b]
def Kf:∀(a:Fo),a.bare.len=a.len
 | .nil=>rfl
 | .cons N k r=>by simp only[Fo.bare,Fo.len,Kf r]
def dj(N:Nd)(k:Fo):(one N k).bare=one N.bare k.bare:=rfl
def agn{X:Fo}{N:Nd}{b:Fo}(h:X.bare=one N b):∃a L,X=one a L/\a.bare=N/\L.bare=b:=by
 cases X with
 |nil=>cases h
 |cons a L c=>
  unfold one at h;simp only[Fo.bare,Fo.cons.injEq]at h;cases c with
  |nil=>exact⟨a,L,rfl,h.1,h.2.1⟩
  |cons _ _ _=>exact absurd h.2.2 (by simp[Fo.bare])
def aeh(k:Int):Nd:=if k=10 then bN 28 0 0 z0 [] else if k=26 then bN 29 0 0 z0 [] else bN 31 (k-60) 0 z0 []
def ago(k:Int)(s:Tk)(e:Int):(ue k s e).bare=aeh k:=by unfold ue aeh;split;rfl;split<;>rfl
inductive oL (tk:Nat->Tk) (n:Nat):Nat->List Wt->Nat->Prop where
 |nil {i:Nat}:oL tk n i [] i
 |tok {i j:Nat}{t:Wt}{l:List Wt}:t.k≠7->(tk i).k=t.k->(tk i).n=t.n->(tk i).x=t.x->i<n->oL tk n (i+1) l j->oL tk n i (t::l) j
 |sep {i j:Nat}{t:Wt}{l:List Wt}:t.k=7->(tk i).k=5->i<n->oL tk n (i+1) l j->oL tk n i (t::l) j
 |more {i j:Nat}{t:Wt}{l:List Wt}:t.k=7->(tk i).k=5->i<n->oL tk n (i+1) (t::l) j->oL tk n i (t::l) j
def DD(tk:Nat->Tk)(n:Nat)(st:List Int)(i j:Nat):Prop:=∃m,D tk n m st i j
section
variable {tk : Nat → Tk} {n : Nat}
def oL.split{l:List Wt}(h:oL tk n i l j):∀a b,l=a++b->∃k,oL tk n i a k/\oL tk n k b j:=by
 induction h with
 |nil=>
  intro a b c;obtain⟨rfl,rfl⟩:a=[]/\b=[]:=by simpa using c.symm
  exact⟨_,.nil,.nil⟩
 |@tok i j g l d e s t f p q=>
  intro a b c;cases a with
  |nil=>exact⟨i,.nil,by rw[<-(show g::l=b from c)];exact .tok d e s t f p⟩
  |cons u a=>
   obtain⟨rfl,r⟩:=kD c;obtain⟨k,m,o⟩:=q a b r;exact⟨k,.tok d e s t f m,o⟩
 |@sep i j g l d e f p q=>
  intro a b c;cases a with
  |nil=>exact⟨i,.nil,by rw[<-(show g::l=b from c)];exact .sep d e f p⟩
  |cons u a=>
   obtain⟨rfl,r⟩:=kD c;obtain⟨k,m,o⟩:=q a b r;exact⟨k,.sep d e f m,o⟩
 |@more i j g l d e f p q=>
  intro a b c;cases a with
  |nil=>exact⟨i,.nil,by rw[<-(show g::l=b from c)];exact .more d e f p⟩
  |cons u a=>
   obtain⟨rfl,r⟩:=kD c;obtain⟨k,m,o⟩:=q (g::a) b c;exact⟨k,.more d e f m,o⟩
def oL.app{a b:List Wt}(h:oL tk n i (a++b) j):∃k,oL tk n i a k/\oL tk n k b j:=h.split a b rfl
def oL.le{l:List Wt}(h:oL tk n i l j):i<=j:=by
 induction h with
 |nil=>exact ag _
 |tok _ _ _ _ _ _ a=>omega
 |sep _ _ _ _ a=>omega
 |more _ _ _ _ a=>omega
def oL.head{t:Wt}{l:List Wt}(h:oL tk n i (t::l) j)(b:t.k≠7:=by simp[sgF,lG]):(tk i).k=t.k/\(tk i).n=t.n/\(tk i).x=t.x/\i<n/\oL tk n (i+1) l j:=by
 cases h with
 |tok a c d e f g=>exact⟨c,d,e,f,g⟩
 |sep a=>exact absurd a b
 |more a=>exact absurd a b
def oL.sg{l:List Wt}(h:oL tk n i (sgF k::l) j)(d:k≠7:=by decide):(tk i).k=k/\i<n/\oL tk n (i+1) l j:=by
 obtain⟨a,_,_,b,c⟩:=h.head d;exact⟨a,b,c⟩
def oL.nl{i j:Nat}{l:List Wt}(h:oL tk n i l j):∀{m},l=nlW::m->∃k,i<k/\oL tk n k m j/\∀q,i<=q->q<k->(tk q).k=5/\q<n:=by
 induction h with
 |nil=>intro m a;cases a
 |tok d=>intro m a;obtain⟨rfl,_⟩:=kD a;exact absurd rfl d
 |@sep i j s l d e f o p=>
  intro m a;obtain⟨rfl,rfl⟩:=kD a;exact⟨i+1,Nat.lt_succ_self _,o,λq c b=>by
   obtain rfl:q=i:=by omega
   exact⟨e,f⟩⟩
 |@more i j s l d e f o p=>
  intro m a;obtain⟨k,c,b,r⟩:=p a;exact⟨k,by omega,b,λq c b=>by
   rcases js c with rfl|g
   .exact⟨e,f⟩
   .exact r q g b⟩
def oL.nils(h:oL tk n i [] j):i=j:=by cases h;rfl
def DD.tok{s:Int}{r:List Int}{i j:Nat}(h:(tk i).k=s)(a:i<n)(d:DD tk n r (i+1) j)(b:s<100:=by decide):DD tk n (s::r) i j:=by
 obtain⟨c,d⟩:=d;exact⟨c+1,.tok b h a d⟩
def DD.exp{s:Int}{r L:List Int}(ht:(tk i).k=t)(e:xE s t=(L,M))(a:i<n)(d:DD tk n (L++r) i j)(b:100<=s:=by decide):DD tk n (s::r) i j:=by
 obtain⟨c,d⟩:=d;exact⟨c+1,.exp b a (by rw[ht,e]) (by rw[ht,e];exact d)⟩
end
def apj(t:Int):xE 119 t=([120,121],eJ t):=by simp[xE,al5]
def alc(t:Int):xE 120 t=CD t:=by simp[xE,aoL]
def apk(h:gx t=M):xE 121 t=([t,119],M):=by simp[xE,aiG,h]
def yB(h:gx t=O):xE 121 t=([],M):=by simp[xE,aiG,h]
def apl(h:yi t=O):xE 122 t=([],M):=by
 have:t≠48/\t≠44/\t≠40:=by unfold yi at h;have:=mj h;omega
 simp[xE,al6,GD,this.1,this.2.1,this.2.2]
def agp(t:Int):xE 124 t=([119,125],eJ t):=by simp[xE,al8]
def apm(h:t≠46):xE 125 t=([],M):=by simp[xE,al9,h]
def apn(h:t≠46):xE 104 t=([],M):=by simp[xE,al3,h]
def lkw(k:Int):Int:=if k=72 then 5 else As k
def oB(q k:Int):Prop:=yi k=O/\(gx k=M->lkw k<=q)
def oB.mono{q r:Int}(h:oB q k)(b:q<=r):oB r k:=⟨h.1,λa=>Int.le_trans (h.2 a) b⟩
def uu{q:Int}(h:(tk i).k=k)(b:yi k=O:=by decide)(c:gx k=O:=by decide):oB q (tk i).k:=by rw[h];exact⟨b,λa=>by rw[c]at a;cases a⟩
def Hw(k:Int):1<=As k/\As k<=10:=by
 unfold As
 repeat' split
 all_goals omega
def Hx(k:Int):As k<=lkw k/\lkw k<=10:=by
 have:=Hw k;unfold lkw;split
 .rename_i a;subst a;decide
 .omega
def acm(k:Int):As k<=Jh k/\Jh k<=11:=by
 have:=Hw k;unfold Jh;split
 .rename_i a;subst a;decide
 .omega
def aju(h:lkw t<=As k):As t<Jh k:=by
 unfold Jh;unfold lkw at h;by_cases a:k=72
 .subst a;rw[ab rfl];have c:As 72=4:=by decide
  rw[c]at h;split at h
  .omega
  .rename_i b;have:As t≠4:=by
    unfold As
    repeat' split
    all_goals omega
   omega
 .rw[aa a];split at h
  .rename_i b;subst b;have:As 72=4:=by decide
   omega
  .omega
def ni(l:List Wt)(e:Fo)(q:Int):Prop:=∀(tk:Nat->Tk)(n i j:Nat),j<n->oL tk n i l j->oB q (tk j).k->
 ∃c:Fo,c.bare=e/\i<j/\eJ (tk i).k=M/\(∀p b a,p<=q->P tk n (.more p (tk i) c) j b a->P tk n (.expr p) i b a)/\∀d a,DD tk n (121::d) j a->DD tk n (119::d) i a
def zL(l:List Wt)(d:Fo):Prop:=∀(tk:Nat->Tk)(n i j:Nat),j<n->oL tk n i l j->yi (tk j).k=O->
 ∃a:Fo,a.bare=d/\i<j/\eJ (tk i).k=M/\P tk n .unit i a j/\∀c b,DD tk n c j b->DD tk n (120::c) i b
def sta(a:Nat):Int:=if a=0 then 120 else if a=1 then 100 else if a=2 then 113 else 116
def aft(b a:Nat):Int:=if b=0 then 122 else if b=1 then(if a=2 then 111 else if a=3 then 112 else 110) else if b=2 then(if 2<=a then 115 else 114) else(if a=2 then 118 else 117)
def pst(a:Nat):List Int:=if a=1 then [101] else []
def xn(l:List Wt)(f:Fo)(g:Nat):Prop:=∀(tk:Nat->Tk)(n i j:Nat),j<n->oL tk n i l j->
 ∃d:Fo,d.bare=f/\i<j/\((tk i).k=1\/(tk i).k=40)/\(∀c a,P tk n (.post (tk i) d) j c a->P tk n .base i c a)/\
  ∀b e a,b<4->DD tk n (aft b g::(pst b++e)) j a->DD tk n (sta b::e) i a
def LA(l:List Wt)(d:Fo):Prop:=∀(tk:Nat->Tk)(n i j:Nat),j<n->oL tk n i l j->oB 0 (tk j).k->(tk j).k≠46->
 ∃a:Fo,a.bare=d/\i<j/\eJ (tk i).k=M/\P tk n .exprs i a j/\∀c b,DD tk n c j b->DD tk n (124::c) i b
def MEc(l:List Wt)(d:Fo):Prop:=∀(tk:Nat->Tk)(n i j:Nat),j<n->oL tk n i l j->oB 0 (tk j).k->(tk j).k≠46->
 ∃a:Fo,a.bare=d/\oB 0 (tk i).k/\P tk n .moreE i a j/\∀c b,DD tk n c j b->DD tk n (125::c) i b
def agq:∀a:Fin 4,xE (sta a.val) 1=([1,aft a.val 0]++pst a.val,M)/\xE (sta a.val) 40=([40,119,41,aft a.val 3]++pst a.val,M)/\100<=sta a.val:=by decide
def Hy:∀a:Fin 4,∀kd:Fin 4,xE (aft a.val kd.val) 48=([48,1,aft a.val 1],M)/\xE (aft a.val kd.val) 44=([44,119,45,aft a.val 1],M)/\xE (aft a.val kd.val) 40=([40,123,41,aft a.val 2],M)/\100<=aft a.val kd.val:=by decide
section
variable {l m a b : List Wt} {F G K : Fo} {N : Nd} {q k : Int} {kd : Nat} {w x y z : ByteArray}
def zL.ex(h:zL l F)(q:Int):ni l F q:=λt s o p i n g=>by
 obtain⟨b,d,j,a,m,f⟩:=h t s o p i n g.1;refine⟨b,d,j,a,λv u r _ k=> .ex (λe=>by rw[e]at a;exact absurd a (by decide)) (by omega) m k,λw r c=>?_⟩;exact DD.exp rfl (by rw[apj,a]) (by omega) (f _ _ c)
def ni.le{r:Int}(h:ni l F q)(m:r<=q):ni l F r:=λv t o p g n f=>by
 obtain⟨b,c,i,d,k,e⟩:=h v t o p g n (f.mono m);exact⟨b,c,i,d,λu a s w j=>k u a s (by omega) j,e⟩
def xn.un(h:xn l F kd):zL l F:=λs q n o a m b=>by
 obtain⟨d,f,j,c,k,i⟩:=h s q n o a m;refine⟨d,f,j,by rcases c with g|g<;>rw[g]<;>decide,.ubas c (by omega) (k _ _ (.pstop a b)),λr p e=>?_⟩;exact i 0 r p (by decide) (DD.exp rfl (apl b) a e (by decide:(100:Int)<=122))
def ni.bin(h:ni l F (lkw k))(g:ni m G (Jh k))(d:gx k=M)(E:k<100)(H:k≠7)(L:yi k=O):ni (l++(sgF k::m)) (one (aeh k) (F.app G)) (As k):=λc u q f n K j=>by
 obtain⟨s,af,ak⟩:=K.app;obtain⟨a,b,al⟩:=ak.sg H;obtain⟨w,y,an,A,I,B⟩:=h c u q s b af (by rw[a];exact⟨L,λ_=>Int.le_refl _⟩);obtain⟨i,z,ao,_,J,C⟩:=g c u (s+1) f n al (j.mono (acm k).1);refine⟨one (ue k (c q) (c (f-1)).t) (w.app i),by rw[dj,ago,fs,y,z],by omega,A,λad v r e o=>?_,λap r x=>?_⟩
 .refine I ad v r (Int.le_trans e (Hx k).1) ?_;have p:=J (Jh k) i f (Int.le_refl _) (.mstop n λg=>aju (j.2 g));rw[<-a]at e d p o;exact .mgo b d e p o
 .exact B _ _ (DD.exp a (apk d) b (DD.tok a b (C _ _ x) E))
def zL.pre(h:zL l F)(d:jt k=M)(r:k≠7)(q:k<100):zL (sgF k::l) (one (bN 30 (LK k) 0 z0 []) F):=λb v e f p u o=>by
 obtain⟨a,c,w⟩:=u.sg r;obtain⟨g,j,y,x,s,n⟩:=h b v (e+1) f p w o;have m:eJ k=M:=by unfold eJ;rw[d];simp
 refine⟨one (nd 30 (b e) (b (f-1)).t (LK (b e).k) 0 z0 []) g,by rw[dj,j,a];rfl,by omega,by rw[a];exact m,.upre (by rw[a];exact d) c s,λA z i=>?_⟩;exact DD.exp a (by rw[alc];unfold CD;rw[ab d]) c (DD.tok a c (n _ _ i) q)
def zL.atom{t:Wt}(o:∀(tk:Nat->Tk) (n i:Nat),(tk i).k=t.k->(tk i).n=t.n->(tk i).x=t.x->i+1<n->∃X:Fo,X.bare=F/\P tk n .unit i X (i+1))(h:t.k≠7:=by simp[sgF])(g:t.k<100:=by simp[sgF])(q:CD t.k=([t.k],M):=by simp[sgF,CD,jt,eJ])(l:eJ t.k=M:=by simp[sgF,jt,eJ]):zL [t] F:=λtk n i u m p s=>by
 obtain⟨a,d,e,b,r⟩:=p.head h;obtain rfl:=r.nils;obtain⟨X,f,j⟩:=o tk n i a d e m;exact⟨X,f,Nat.lt_succ_self _,by rw[a];exact l,j,λw v c=>DD.exp a (by rw[alc,q]) b (DD.tok a b c g)⟩
def amI{v:Int}:zL [⟨2,v,z,w⟩] (one (bN 23 0 v z0 []) .nil):=zL.atom λe g d a b f c=>⟨_,by rw[dj];show one (bN 23 0 (e d).n z0 []) .nil=_;rw[b],.uint a c⟩
def amJ:zL [⟨3,0,x,w⟩] (one (bN 24 0 0 x []) .nil):=zL.atom λe g d a f b c=>⟨_,by rw[dj];show one (bN 24 0 0 (e d).x []) .nil=_;rw[b],.uflt a c⟩
def amK:zL [⟨4,0,x,w⟩] (one (bN 25 0 0 x []) .nil):=zL.atom λe g d a f b c=>⟨_,by rw[dj];show one (bN 25 0 0 (e d).x []) .nil=_;rw[b],.ustr a c⟩
def amL:zL [sgF 24] (one (bN 20 0 0 z0 []) .nil):=zL.atom λg f e a c d b=>⟨_,rfl,.unil a b⟩
def am0:zL [sgF 29] (one (bN 21 0 0 z0 []) .nil):=zL.atom λg f e a c d b=>⟨_,rfl,.utru a b⟩
def am1:zL [sgF 17] (one (bN 22 0 0 z0 []) .nil):=zL.atom λg f e a c d b=>⟨_,rfl,.ufls a b⟩
def am2:zL [sgF 49] (one (bN 27 0 0 z0 []) .nil):=zL.atom λg f e a c d b=>⟨_,rfl,.urst a b⟩
def ajv:xn [lG x] (one (bN 26 0 0 x []) .nil) 0:=λd r c q p j=>by
 obtain⟨a,_,f,b,n⟩:=j.head;obtain rfl:=n.nils;refine⟨one (nd 26 (d c) (d c).t 0 0 (d c).x []) .nil,by rw[dj,f];rfl,Nat.lt_succ_self _,.inl a,λo k i=> .bname a b i,λg s k h e=>?_⟩;obtain⟨l,_,m⟩:=agq ⟨g,h⟩;exact DD.exp a l b (DD.tok a b e) m
def xn.field(h:xn l F kd)(s:kd<4):xn (l++[sgF 48,lG x]) (one (bN 33 0 0 x []) F) 1:=λa y j L J w=>by
 obtain⟨d,B,C⟩:=w.app;obtain⟨b,c,E⟩:=C.sg;obtain⟨e,_,o,i,G⟩:=E.head;obtain rfl:=G.nils;obtain⟨m,p,K,q,v,r⟩:=h a y j d c B;refine⟨one (nd 33 (a j) (a (d+1)).t 0 0 (a (d+1)).x []) m,by rw[dj,p,o];rfl,by omega,q,λI k u=>v _ _ (.pdot b e i u),λf H k g n=>?_⟩;obtain⟨z,_,_,A⟩:=Hy ⟨f,g⟩ ⟨kd,s⟩;exact r f H k g (DD.exp b z c (DD.tok b c (DD.tok e i n)) A)
def oB.of{q k:Int}(h:yi k=O)(b:gx k=O):oB q k:=⟨h,λa=>by rw[b]at a;cases a⟩
def xn.index(h:xn l F kd)(z:kd<4)(g:ni m G 0):xn (l++(sgF 44::(m++[sgF 45]))) (one (bN 32 0 0 z0 []) (F.app G)) 1:=λd q n au ao E=>by
 obtain⟨p,J,K⟩:=E.app;obtain⟨e,c,L⟩:=K.sg;obtain⟨f,ad,af⟩:=L.app;obtain⟨a,b,ak⟩:=af.sg;obtain rfl:=ak.nils;obtain⟨r,u,ap,w,B,x⟩:=h d q n p c J;obtain⟨i,v,ar,_,C,y⟩:=g d q (p+1) f b ad (uu a);refine⟨one (jm 32 (d n) (d f).t) (r.app i),by rw[dj,fs,u,v];rfl,by omega,w,λan o A=>B _ _ (.psq e c (C 0 i f (Int.le_refl _) (.mstop b λg=>by rw[a]at g;exact absurd g (by decide))) a b A),λj al o k s=>?_⟩;obtain⟨_,H,_,I⟩:=Hy ⟨j,k⟩ ⟨kd,z⟩;exact x j al o k (DD.exp e H c (DD.tok e c (y _ _ (DD.exp a (yB (by decide)) b (DD.tok a b s)))) I)
def xn.call0(h:xn l F kd)(r:kd<4):xn (l++[sgF 40,sgF 41]) (one (bN 34 0 0 z0 []) F) 2:=λe w i J H v=>by
 obtain⟨k,z,A⟩:=v.app;obtain⟨a,c,B⟩:=A.sg;obtain⟨b,d,C⟩:=B.sg;obtain rfl:=C.nils;obtain⟨m,o,I,p,u,q⟩:=h e w i k c z;refine⟨one (jm 34 (e i) (e (k+1)).t) m,by rw[dj,o];rfl,by omega,p,λG j s=>u _ _ (.pcall0 a b d s),λf E j g n=>?_⟩;obtain⟨_,_,x,y⟩:=Hy ⟨f,g⟩ ⟨kd,r⟩;exact q f E j g (DD.exp a x c (DD.tok a c (DD.exp b (by decide:xE 123 41=([],M)) d (DD.tok b d n))) y)
def apo(h:eJ t=M):xE 123 t=([124],M):=by simp[xE,al7,h]
def xn.call(h:xn l F kd)(A:kd<4)(g:LA m G):xn (l++(sgF 40::(m++[sgF 41]))) (one (bN 34 0 0 z0 []) (F.app G)) 2:=λa q n ax ar I=>by
 obtain⟨i,L,ad⟩:=I.app;obtain⟨c,e,af⟩:=ad.sg;obtain⟨p,ak,al⟩:=af.app;obtain⟨b,f,an⟩:=al.sg;obtain rfl:=an.nils;obtain⟨r,v,au,x,E,y⟩:=h a q n i e L;obtain⟨s,w,av,d,H,z⟩:=g a q (i+1) p f ak (uu b) (by rw[b];decide);have C:(a (i+1)).k≠41:=λg=>by rw[g]at d;exact absurd d (by decide)
 refine⟨one (jm 34 (a n) (a p).t) (r.app s),by rw[dj,fs,v,w];rfl,by omega,x,λap o B=>E _ _ (.pcall c (by omega) C H b f B),λj ao o k u=>?_⟩;obtain⟨_,_,J,K⟩:=Hy ⟨j,k⟩ ⟨kd,A⟩;exact y j ao o k (DD.exp c J e (DD.tok c e (DD.exp rfl (apo d) (by omega) (z _ _ (DD.tok b f u)))) K)
def acn(h:ni l (one N K) 0)(tk:Nat->Tk)(n i j:Nat)(J:j<n)(z:oL tk n i (sgF 40::(l++[sgF 41])) j):
  ∃e L k,(tk i).k=40/\e.bare=N/\L.bare=K/\k+1=j/\i+1<k/\(∀R a,P tk n (.post (tk i) (lJ e L (tk i) (tk k).t)) j R a->P tk n .base i R a)/\∀b st a,b<4->DD tk n (aft b 3::(pst b++st)) j a->DD tk n (sta b::st) i a:=by
 obtain⟨f,g,C⟩:=z.sg;obtain⟨m,E,F⟩:=C.app;obtain⟨c,d,G⟩:=F.sg;obtain rfl:=G.nils;obtain⟨H,s,w,I,y,u⟩:=h tk n (i+1) m d E (uu c);obtain⟨e,L,rfl,r,q⟩:=agn s;refine⟨e,L,m,f,r,q,rfl,w,λR a x=> .bopen f g (y 0 _ m (Int.le_refl _) (.mstop d λo=>by rw[c]at o;exact absurd o (by decide))) c d x,λb st a v p=>?_⟩;obtain⟨_,A,B⟩:=agq ⟨b,v⟩;exact DD.exp f A g (DD.tok f g (u _ _ (DD.exp c (yB (by decide)) d (DD.tok c d p)))) B
def ni.par(h:ni l (one N K) 0)(s:N.k≠34)(u:N.k≠27):xn (sgF 40::(l++[sgF 41])) (one N K) 3:=λc q f p n o=>by
 obtain⟨a,b,k,g,d,i,rfl,v,e,m⟩:=acn h c q f p n o;have r:a.k=N.k:=by rw[<-d];rfl
 have j:lJ a b (c f) (c k).t=one a b:=by unfold lJ;rw[aa (by omega)]
 rw[j]at e;exact⟨one a b,by rw[dj,d,i],by omega,.inr g,e,m⟩
def ni.held(h:ni l (one N K) 0)(n:N.k=34\/N.k=27):xn (sgF 40::(l++[sgF 41])) (one (bN 37 0 0 z0 []) (one N K)) 3:=λa s c r p q=>by
 obtain⟨b,d,k,g,e,i,rfl,u,f,o⟩:=acn h a s c r p q;have m:b.k=N.k:=by rw[<-e];rfl
 have j:lJ b d (a c) (a k).t=one (jm 37 (a c) (a k).t) (one b d):=by unfold lJ;rw[ab (by rw[m];exact n)]
 rw[j]at f;exact⟨_,by rw[dj,dj,e,i];rfl,by omega,.inr g,f,o⟩
def MEc.nil:MEc [] .nil:=λk i f g b e d a=>by
 obtain rfl:=e.nils;exact⟨.nil,rfl,d,.estop a b,λj h c=>DD.exp rfl (apm a) b c⟩
def oB.no{k:Int}(h:oB 0 k):gx k=O:=by
 cases hx:gx k with
 |false=>rfl
 |true=>have:=h.2 hx;have:=Hw k;have:=Hx k;omega
def MEc.all(h:ni l F 0)(g:MEc m G):LA (l++m) (F.app G):=λi e x y t w s p=>by
 obtain⟨b,z,f⟩:=w.app;obtain⟨j,o,a,v,r⟩:=g i e b y t f s p;have A:=f.le;obtain⟨c,n,B,d,u,q⟩:=h i e x b (by omega) z a;refine⟨c.app j,by rw[fs,n,o],by omega,d,.es (u 0 c b (Int.le_refl _) (.mstop (by omega) λg=>by rw[a.no]at g;cases g)) v,λE C k=>?_⟩;exact DD.exp rfl (by rw[agp,d]) (by omega) (q _ _ (DD.exp rfl (yB a.no) (by omega) (r _ _ k)))
end
def Kg(k:Int):Prop:=k=5\/k=6\/k=43
def Kg.e(h:Kg k):oB 0 k/\k≠46/\k≠47/\k≠15/\k≠16/\eJ k=O/\yi k=O/\k≠42:=by
 rcases h with rfl|rfl|rfl<;>exact⟨.of (by decide) (by decide),by decide⟩
def Hz(l:List Wt)(d:Fo):Prop:=∀(tk:Nat->Tk)(n i j:Nat),j<n->oL tk n i l j->
 ∃a:Fo,a.bare=d/\i<j/\(tk i).k=42/\P tk n .block i a j/\∀c b,DD tk n c j b->DD tk n (132::c) i b
def BDc(l:List Wt)(d:Fo):Prop:=∀(tk:Nat->Tk)(n i j:Nat)(e:Tk),j<n->oL tk n i l j->
 ∃a:Fo,a.bare=d/\i<j/\(tk i).k=40/\P tk n (.body e) i a j/\∀c b,DD tk n c j b->DD tk n (133::c) i b
def FJ(l:List Wt)(d:Fo):Prop:=∀(tk:Nat->Tk)(n i j:Nat),j<n->oL tk n i l j->Kg (tk j).k->
 ∃a:Fo,a.bare=d/\i<j/\¬Kg (tk i).k/\P tk n .stat i a j/\∀c b,DD tk n (101::c) j b->DD tk n (100::c) i b
def BRc(l:List Wt)(d:Fo):Prop:=∀(tk:Nat->Tk)(n i j:Nat),((tk i).k=20\/(tk i).k=15)->i<n->j<n->oL tk n (i+1) l j->Kg (tk j).k->
 ∃a:Fo,a.bare=d/\i+1<j/\P tk n .branch i a j/\∀c b,DD tk n c j b->DD tk n (119::132::105::c) (i+1) b
def ENc(l:List Wt)(d:Fo):Prop:=∀(tk:Nat->Tk)(n i j:Nat),j<n->oL tk n i l j->oB 0 (tk j).k->
 ∃a:Fo,a.bare=d/\i<j/\(eJ (tk i).k=M\/(tk i).k=48\/(tk i).k=44)/\P tk n .entry i a j/\∀c b,DD tk n c j b->DD tk n (131::c) i b
def TBc(l:List Wt)(d:Fo):Prop:=∀(tk:Nat->Tk)(n i j:Nat),j<n->oL tk n i l j->(tk j).k=43->
 ∃a:Fo,a.bare=d/\i<=j/\P tk n .entries i a j/\∀c b,DD tk n (43::c) j b->DD tk n (129::43::c) i b
def SLc(l:List Wt)(d:Fo):Prop:=∀(tk:Nat->Tk)(n i j:Nat),j<n->oL tk n i l j->((tk j).k=43\/(tk j).k=6)->
 ∃c:Fo,c.bare=d/\(tk i).k=5/\i<j/\P tk n .stats i c j/\∀b a,DD tk n ((tk j).k::b) j a->DD tk n (100::(tk j).k::b) i a/\DD tk n (101::(tk j).k::b) i a
def Kh:List ByteArray->List Wt
 |[]=>[]
 |[x]=>[lG x]
 |x::r=>lG x::sgF 46::Kh r
def DA:List ByteArray->Bool->List Wt
 |[],false=>[]
 |[],true=>[sgF 49]
 |x::r,t=>lG x::(if r=[]/\t=O then [] else sgF 46::DA r t)
section
variable {tk : Nat → Tk} {n : Nat}
def DD.ex{s:Int}{r L:List Int}{b:Bool}(ht:(tk i).k=t)(e:xE s t=(L,b))(h:100<=s)(d:DD tk n (s::r) i j):DD tk n (L++r) i j:=by
 obtain⟨l,d⟩:=d;cases d with
 |tok c=>omega
 |exp c f g a=>rw[ht,e]at a;exact⟨_,a⟩
def agr:∀(r:List ByteArray)(x:ByteArray)(i j:Nat),oL tk n i (Kh (x::r)) j->j<n->(tk j).k≠46->
  (tk i).k=1/\(tk i).x=x/\i<j/\GG tk n (i+1) r j/\∀st b,DD tk n st j b->DD tk n (104::st) (i+1) b
 |[],x,i,j,g,a,h=>by
  obtain⟨e,_,f,t,l⟩:=g.head;obtain rfl:=l.nils;exact⟨e,f,Nat.lt_succ_self _,.stop h a,λst b d=>DD.exp rfl (apn h) a d⟩
 |y::r,x,i,j,g,a,h=>by
  obtain⟨e,_,f,t,l⟩:=g.head;obtain⟨c,o,u⟩:=l.sg;obtain⟨m,p,v,q,s⟩:=agr r y (i+1+1) j u a h;refine⟨e,f,by omega,?_,λst b d=>?_⟩
  .have:=GG.go c (by omega) m q;rw[p]at this;exact this
  .exact DD.exp c (by decide:xE 104 46=([46,1,104],M)) o (DD.tok c o (DD.tok m (by omega) (s _ _ d)))
def ald:∀(nm:List ByteArray)(t:Bool)(i k:Nat),oL tk n i (DA nm t) k->(tk k).k=41->k+1<n->
  Lx tk n i nm t (k+1)/\i<=k/\∀st a,DD tk n (41::st) k a->DD tk n (126::41::st) i a/\((nm≠[]\/t=M)->DD tk n (128::41::st) i a)
 |[],false,i,k,f,h,e=>by
  obtain rfl:=f.nils;exact⟨.close h e,ag _,λst a c=>⟨DD.exp h (by decide:xE 126 41=([],M)) (by omega) c,λs=>by simp at s⟩⟩
 |[],true,i,k,f,h,e=>by
  obtain⟨b,d,g⟩:=f.sg;obtain rfl:=g.nils;exact⟨.rest b h e,by omega,λst a c=>⟨DD.exp b (by decide:xE 126 49=([49],M)) d (DD.tok b d c),λ_=>DD.exp b (by decide:xE 128 49=([49],M)) d (DD.tok b d c)⟩⟩
 |x::l,t,i,k,f,h,e=>by
  rw[DA]at f;obtain⟨b,_,o,d,g⟩:=f.head
  change (tk i).x=x at o
  have r:∀st a,DD tk n (127::41::st) (i+1) a->DD tk n (126::41::st) i a/\((x::l≠[]\/t=M)->DD tk n (128::41::st) i a):=λst a c=>
   ⟨DD.exp b (by decide:xE 126 1=([1,127],M)) d (DD.tok b d c),λ_=>DD.exp b (by decide:xE 128 1=([1,127],M)) d (DD.tok b d c)⟩
  by_cases j:l=[]/\t=O
  .rw[ab j]at g;obtain⟨rfl,rfl⟩:=j;obtain rfl:=g.nils;have:=Lx.last b h e;rw[o]at this;exact⟨this,by omega,λst a c=>r st a (DD.exp h (by decide:xE 127 41=([],M)) (by omega) c)⟩
  .rw[aa j]at g;obtain⟨m,p,w⟩:=g.sg;obtain⟨u,y,v⟩:=ald l t (i+1+1) k w h e;have:=Lx.go b m (by omega) u;rw[o]at this;refine⟨this,by omega,λst a c=>r st a ?_⟩;refine DD.exp m (by decide:xE 127 46=([46,128],M)) p (DD.tok m p ((v st a c).2 ?_));by_cases q:l=[]
   .right;cases t with
    |true=>rfl
    |false=>exact absurd ⟨q,rfl⟩ j
   .exact .inl q
def apq{k:Nat}(h:∀q,i<=q->q<k->(tk q).k=5/\q<n)(o:i<k):(∀R j,P tk n .stats k R j->P tk n .stats i R j)/\∀st b,DD tk n (100::st) k b->DD tk n (100::st) i b/\DD tk n (101::st) i b:=by
 have r:∀a,i+a<=k->(∀R j,P tk n .stats k R j->P tk n .stats (k-a) R j)/\∀st b,DD tk n (100::st) k b->DD tk n (100::st) (k-a) b:=by
  intro a
  induction a with
  |zero=>intro _;exact⟨λR j h=>h,λst b h=>h⟩
  |succ a p=>
   intro m;obtain⟨f,e⟩:=p (by omega);obtain⟨c,d⟩:=h (k-(a+1)) (by omega) (by omega);have l:k-(a+1)+1=k-a:=by omega
   refine⟨λR j g=> .ssep c d (by rw[l];exact f R j g),λst b m=>?_⟩;exact DD.exp c (by decide:xE 100 5=([5,100],M)) d (DD.tok c d (by rw[l];exact e st b m))
 obtain⟨f,e⟩:=r (k-(i+1)) (by omega);rw[show k-(k-(i+1))=i+1 by omega]at f e;obtain⟨c,d⟩:=h i (ag _) o;exact⟨λR j g=> .ssep c d (f R j g),λst b a=>⟨DD.exp c (by decide:xE 100 5=([5,100],M)) d (DD.tok c d (e st b a)),DD.exp c (by decide:xE 101 5=([5,100],M)) d (DD.tok c d (e st b a))⟩⟩
end
section
variable {l m a b : List Wt} {F G K : Fo} {N : Nd} {q k : Int} {kd : Nat} {w x y z : ByteArray}
def ni.es(h:ni l F 0):LA l F:=by
 have:=MEc.all h MEc.nil;rw[dr,Fo.app_nil]at this;exact this
def LA.cons(h:ni l F 0)(g:LA m G):LA (l++(sgF 46::m)) (F.app G):=λi f x y t w s p=>by
 obtain⟨c,C,E⟩:=w.app;obtain⟨a,b,H⟩:=E.sg;obtain⟨j,o,L,J,v,r⟩:=g i f (c+1) y t H s p;obtain⟨d,n,K,e,u,q⟩:=h i f x c b C (uu a);refine⟨d.app j,by rw[fs,n,o],by omega,e,.es (u 0 d c (Int.le_refl _) (.mstop b λg=>by rw[a]at g;exact absurd g (by decide))) ?_,λI z k=>?_⟩
 .cases v with
  |es A B=>exact .ego a b A B
 .refine DD.exp rfl (by rw[agp,e]) (by omega) (q _ _ (DD.exp a (yB (by decide)) b (DD.exp a (by decide:xE 125 46=([46,119,125],M)) b (DD.tok a b ?_))));exact DD.ex rfl (agp _) (by decide) (r I z k)
def ni.item(h:ni l F 0):ENc l (one (bN 40 0 0 z0 []) F):=λa s b i g r f=>by
 obtain⟨j,n,p,e,q,o⟩:=h a s b i g r f;have c:(a b).k≠48/\(a b).k≠44/\(a b).k≠6:=by refine⟨?_,?_,?_⟩<;>(intro d;rw[d]at e;exact absurd e (by decide))
 refine⟨one (jm 40 (a b) (a (i-1)).t) j,by rw[dj,n];rfl,p,.inl e,.item c.1 c.2.1 c.2.2 (by omega) (q 0 j i (Int.le_refl _) (.mstop g λd=>by rw[f.no]at d;cases d)),λv u m=>?_⟩;exact DD.exp rfl (by simp[xE,amb,c.1,c.2.1,e]:xE 131 (a b).k=([119],M)) (by omega) (o _ _ (DD.exp rfl (yB f.no) g m))
def ni.pair(h:ni l F 0)(g:ni m G 0):ENc (sgF 44::(l++(sgF 45::sgF 47::m))) (one (bN 41 0 0 z0 []) (F.app G)):=λd s r j i B e=>by
 obtain⟨b,f,C⟩:=B.sg;obtain⟨k,E,H⟩:=C.app;obtain⟨a,c,I⟩:=H.sg;obtain⟨p,q,J⟩:=I.sg;obtain⟨n,v,ad,K,z,x⟩:=h d s (r+1) k c E (uu a);obtain⟨o,w,af,L,A,y⟩:=g d s (k+1+1) j i J e;refine⟨one (jm 41 (d r) (d (j-1)).t) (n.app o),by rw[dj,fs,v,w];rfl,by omega,.inr (.inr b),.pair b f (z 0 n k (Int.le_refl _) (.mstop c λg=>by rw[a]at g;exact absurd g (by decide))) a p q (A 0 o j (Int.le_refl _) (.mstop i λg=>by rw[e.no]at g;cases g)),λal ak u=>?_⟩;exact DD.exp b (by decide:xE 131 44=([44,119,45,47,119],M)) f (DD.tok b f (x _ _ (DD.exp a (yB (by decide)) c (DD.tok a c (DD.tok p q (y _ _ (DD.exp rfl (yB e.no) i u)))))))
def ni.named(h:ni l F 0):ENc (sgF 48::lG x::sgF 47::l) (one (bN 42 0 0 x []) F):=λa y c g f w e=>by
 obtain⟨b,n,z⟩:=w.sg;obtain⟨d,_,r,u,A⟩:=z.head;obtain⟨j,o,B⟩:=A.sg
 change (a (c+1)).k=1 at d
 obtain⟨i,q,E,C,v,s⟩:=h a y (c+1+1+1) g f B e;refine⟨one (nd 42 (a c) (a (g-1)).t 0 0 (a (c+1)).x []) i,by rw[dj,q,r];rfl,by omega,.inr (.inl b),.named b d j o (v 0 i g (Int.le_refl _) (.mstop f λm=>by rw[e.no]at m;cases m)),λH G p=>?_⟩;exact DD.exp b (by decide:xE 131 48=([48,1,47,119],M)) n (DD.tok b n (DD.tok d u (DD.tok j o (s _ _ (DD.exp rfl (yB e.no) f p)))))
def ale(h:eJ t=M\/t=48\/t=44):xE 129 t=([131,130],M):=by
 rcases h with h|rfl|rfl
 .simp[xE,ama,h]
 .decide
 .decide
def alf(h:eJ t=M\/t=48\/t=44):t≠43:=by
 rcases h with h|rfl|rfl
 .intro a;rw[a]at h;exact absurd h (by decide)
 .decide
 .decide
def TBc.nil:TBc [] .nil:=λj h e f b d a=>by
 obtain rfl:=d.nils;exact⟨.nil,rfl,ag _,.nstop a b,λi g c=>DD.exp a (by decide:xE 129 43=([],M)) b c⟩
def ENc.last(h:ENc l F):TBc l F:=λo n k m b j a=>by
 obtain⟨d,f,p,c,i,g⟩:=h o n k m b j (uu a);refine⟨d,f,by omega,?_,λr q e=>DD.exp rfl (ale c) (by omega) (g _ _ (DD.exp a (by decide:xE 130 43=([],M)) b e))⟩;have:=P.nlast (alf c) (by omega) i (by rw[a];decide) b (.nstop a b);rw[Fo.app_nil]at this;exact this
def ENc.cons(h:ENc l F)(g:TBc m G):TBc (l++(sgF 46::m)) (F.app G):=λf e w x s v p=>by
 obtain⟨d,y,z⟩:=v.app;obtain⟨a,b,A⟩:=z.sg;obtain⟨j,o,C,u,r⟩:=g f e (d+1) x s A p;obtain⟨i,n,B,c,t,q⟩:=h f e w d b y (uu a);refine⟨i.app j,by rw[fs,n,o],by omega,.ncom (alf c) (by omega) t a b u,λH E k=>?_⟩;exact DD.exp rfl (ale c) (by omega) (q _ _ (DD.exp a (by decide:xE 130 46=([46,129],M)) b (DD.tok a b (r _ _ k))))
def TBc.un(h:TBc l F):zL (sgF 42::(l++[sgF 43])) (one (bN 35 0 0 z0 []) F):=λd q f y n p w=>by
 obtain⟨a,c,r⟩:=p.sg;obtain⟨g,s,u⟩:=r.app;obtain⟨b,e,v⟩:=u.sg;obtain rfl:=v.nils;obtain⟨i,k,x,o,m⟩:=h d q (f+1) g e s b;exact⟨one (jm 35 (d f) (d g).t) i,by rw[dj,k];rfl,by omega,by rw[a];decide,.utab a c o b n,λA z j=>DD.exp a (by decide:xE 120 42=([42,129,43],M)) c (DD.tok a c (m _ _ (DD.tok b e j)))⟩
def am3:Hz [sgF 42,sgF 43] (one (bN 1 0 0 z0 []) .nil):=λf n e l h i=>by
 obtain⟨a,c,j⟩:=i.sg;obtain⟨b,d,k⟩:=j.sg;obtain rfl:=k.nils;exact⟨one (jm 1 (f e) (f (e+1)).t) .nil,rfl,by omega,a,.block a c (.sstop (.inl b) d) b h,λo m g=>DD.exp a (by decide:xE 132 42=([42,100,43],M)) c (DD.tok a c (DD.exp b (by decide:xE 100 43=([],M)) d (DD.tok b d g)))⟩
def SLc.bl(h:SLc l F):Hz (sgF 42::(l++[sgF 43])) (one (bN 1 0 0 z0 []) F):=λd q g y n p=>by
 obtain⟨a,c,r⟩:=p.sg;obtain⟨i,s,u⟩:=r.app;obtain⟨b,f,v⟩:=u.sg;obtain rfl:=v.nils;obtain⟨j,m,w,x,o,e⟩:=h d q (g+1) i f s (.inl b);rw[b]at e;exact⟨one (jm 1 (d g) (d i).t) j,by rw[dj,m];rfl,by omega,a,.block a c o b n,λA z k=>DD.exp a (by decide:xE 132 42=([42,100,43],M)) c (DD.tok a c (e _ _ (DD.tok b f k)).1)⟩
def apr(h:t=43\/t=6):xE 100 t=([],M):=by rcases h with rfl|rfl<;>decide
def SLc.nil:SLc [nlW] .nil:=λp n i k c h b=>by
 obtain⟨m,a,j,d⟩:=h.nl rfl;obtain rfl:=j.nils;obtain⟨e,f⟩:=apq d a;exact⟨.nil,rfl,(d i (ag _) a).1,a,e _ _ (.sstop b c),λo l g=>f _ _ (DD.exp rfl (apr b) c g)⟩
def SLc.cons(h:FJ l F)(g:SLc m G):SLc (nlW::(l++m)) (F.app G):=λf e z A v y u=>by
 obtain⟨B,b,C,c⟩:=y.nl rfl;obtain⟨d,E,H⟩:=C.app;obtain⟨k,n⟩:=apq c b;obtain⟨j,q,r,J,x,t⟩:=g f e d A v H u;obtain⟨i,p,I,a,w,s⟩:=h f e B d (by omega) E (.inl r);refine⟨i.app j,by rw[fs,p,q],(c z (ag _) b).1,by omega,k _ _ (.sgo (λg=>a (.inl g)) (λg=>a (.inr (.inl g))) (λg=>a (.inr (.inr g))) (by omega) w x),λL K o=>n _ _ (s _ _ (t _ _ o).2)⟩
def am4(h:FJ l F)(g:SLc m G):∀(tk:Nat->Tk)(n j:Nat),j<n->oL tk n 0 (l++m) j->(tk j).k=6->∃X:Fo,X.bare=F.app G/\P tk n .stats 0 X j/\DD tk n [100,6] 0 (j+1):=λtk n j d t b=>by
 obtain⟨e,u,v⟩:=t.app;obtain⟨f,o,p,x,s,c⟩:=g tk n e j d v (.inr b);obtain⟨X,i,w,a,r,q⟩:=h tk n 0 e (by omega) u (.inl p);rw[b]at c;exact⟨X.app f,by rw[fs,i,o],.sgo (λg=>a (.inl g)) (λg=>a (.inr (.inl g))) (λg=>a (.inr (.inr g))) (by omega) r s,q _ _ (c _ _ (DD.tok b d ⟨0,.nil⟩)).2⟩
def Hz.body(h:Hz l F)(nm:List ByteArray)(r:Bool):BDc (sgF 40::(DA nm r++(sgF 41::l))) (one (bN 36 (if r=M then 1 else 0) 0 z0 nm) F):=λf v u d w o s=>by
 obtain⟨a,b,x⟩:=s.sg;obtain⟨e,y,z⟩:=x.app;obtain⟨c,p,A⟩:=z.sg;obtain⟨g,j,E,C,q,n⟩:=h f v (e+1) d o A;obtain⟨k,B,m⟩:=ald nm r (u+1) e y c (by omega);refine⟨one (nd 36 w (f (d-1)).t (if r=M then 1 else 0) 0 z0 nm) g,by rw[dj,j];rfl,by omega,a,.body a b k q,λH G i=>?_⟩;exact DD.exp a (by decide:xE 133 40=([40,126,41,132],M)) b (DD.tok a b (m _ _ (DD.tok c p (n _ _ i))).1)
def BDc.un(h:BDc l F):zL (sgF 18::l) F:=λd o c n j m r=>by
 obtain⟨a,b,p⟩:=m.sg;obtain⟨e,g,s,q,k,i⟩:=h d o (c+1) n (d c) j p;exact⟨e,g,by omega,by rw[a];decide,.ufn a b k,λu t f=>DD.exp a (by decide:xE 120 18=([18,133],M)) b (DD.tok a b (i _ _ f))⟩
end
def TMc(l:List Wt)(e:Fo):Prop:=∀(tk:Nat->Tk)(n i j:Nat),j<n->oL tk n i l j->(tk j).k=47->
 ∃b:Fo,b.bare=e/\i<=j/\P tk n .moreB i b j/\∀d c a,(a=110\/a=114)->DD tk n (47::124::d) j c->DD tk n (a::d) i c
def wh(h:(tk i).k=k)(a:¬(k=5\/k=6\/k=43):=by decide):¬Kg (tk i).k:=by rw[h];exact a
section
variable {l m p a b : List Wt} {F G H K : Fo} {N : Nd} {q k : Int} {kd : Nat} {w x y z : ByteArray} {r : List ByteArray}
def TMc.nil:TMc [] .nil:=λl j g h b e a=>by
 obtain rfl:=e.nils;exact⟨.nil,rfl,ag _,.bstop (by rw[a];decide) b,λk i f d c=>by rcases d with rfl|rfl<;>exact DD.exp (L:=[47,124]) a (by decide) b c⟩
def TMc.cons(h:xn l F kd)(af:kd<2)(g:TMc m G):TMc (sgF 46::(l++m)) (F.app G):=λd k C E y B f=>by
 obtain⟨a,b,H⟩:=B.sg;obtain⟨c,I,J⟩:=H.app;obtain⟨p,t,al,i,x⟩:=g d k c E y J f;obtain⟨o,s,ak,ad,A,w⟩:=h d k (C+1) c (by omega) I;have u:aft 2 kd=114:=by rcases(show kd=0\/kd=1 by omega) with rfl|rfl<;>rfl
 have z:yi (d c).k=O:=by
  cases i with
  |bstop e=>rw[f];decide
  |bgo e=>rw[e];decide
 refine⟨o.app p,by rw[fs,s,t],by omega,.bgo a b (A _ _ (.pstop (by omega) z)) i,λn j K v q=>?_⟩;have r:=w 2 n j (by decide) (by rw[u];exact x n j 114 (.inr rfl) q);rcases v with rfl|rfl<;>exact DD.exp (L:=[46,113]) a (by decide) b (DD.tok a b r)
def Hz.st(h:Hz l F):FJ l F:=λo n k m f j p=>by
 obtain⟨b,d,g,a,i,e⟩:=h o n k m f j;exact⟨b,d,g,wh a,.tblock a (by omega) i,λst q c=>DD.exp a (by decide:xE 100 42=([132,101],M)) (by omega) (e _ _ c)⟩
def ajw:FJ (sgF 22::Kh (x::r)) (one (bN 2 0 0 z0 (x::r)) .nil):=λs w p g f o n=>by
 obtain⟨a,d,q⟩:=o.sg;obtain⟨t,i,b,_⟩:=n.e;obtain⟨c,j,u,l,m⟩:=agr r x (p+1) g q f i;refine⟨_,?_,by omega,wh a,.tlet0 a (by omega) c l b,λy v h=>?_⟩
 .rw[dj,j];rfl
 .exact DD.exp a (by decide:xE 100 22=([22,1,104,103,101],M)) d (DD.tok a d (DD.tok c (by omega) (m _ _ (DD.exp rfl (by simp[xE,al0,b]:xE 103 (s g).k=([],M)) f h))))
def LA.let_(h:LA l F):FJ (sgF 22::(Kh (x::r)++(sgF 47::l))) (one (bN 2 0 0 z0 (x::r)) F):=λC w u v q t f=>by
 obtain⟨a,g,y⟩:=t.sg;obtain⟨i,z,A⟩:=y.app;obtain⟨b,c,B⟩:=A.sg;obtain⟨d,m,G,n,o⟩:=agr r x (u+1) i z c (by rw[b];decide);obtain⟨E,k,I,H,s,p⟩:=h C w (i+1) v q B f.e.1 f.e.2.1;refine⟨_,?_,by omega,wh a,.tlet a (by omega) d n b s,λK J j=>?_⟩
 .rw[dj,m,k];rfl
 .exact DD.exp a (by decide:xE 100 22=([22,1,104,103,101],M)) g (DD.tok a g (DD.tok d (by omega) (o _ _ (DD.exp b (by decide:xE 103 47=([47,124],M)) c (DD.tok b c (p _ _ j))))))
def mst{s:Tk}{X:Fo}(b:j<n)(h:oB 0 (tk j).k):P tk n (.more 0 s X) j X j:= .mstop b λa=>by rw[h.no]at a;cases a
def dst{a:Nat}{st:List Int}(b:j<n)(h:oB 0 (tk j).k)(d:DD tk n st j a):DD tk n (121::st) j a:=DD.exp rfl (yB h.no) b d
def ni.const(h:ni l F 0):FJ (sgF 13::lG x::sgF 47::l) (one (bN 3 0 0 z0 [x]) F):=λn w j m d v c=>by
 obtain⟨a,g,y⟩:=v.sg;obtain⟨b,_,r,t,z⟩:=y.head;obtain⟨f,i,A⟩:=z.sg
 change (n (j+1)).k=1 at b
 obtain⟨o,q,C,B,u,s⟩:=h n w (j+1+1+1) m d A c.e.1;refine⟨_,?_,by omega,wh a,.tcon a b f i (u 0 o m (Int.le_refl _) (mst d c.e.1)),λG E p=>?_⟩
 .rw[dj,r,q];rfl
 .exact DD.exp a (by decide:xE 100 13=([13,1,47,119,101],M)) g (DD.tok a g (DD.tok b t (DD.tok f i (s _ _ (dst d c.e.1 p)))))
def BDc.fn(h:BDc l F):FJ (sgF 18::lG x::l) (one (bN 4 0 0 z0 [x]) F):=λd s c r n q w=>by
 obtain⟨a,e,t⟩:=q.sg;obtain⟨b,_,i,o,u⟩:=t.head
 change (d (c+1)).k=1 at b
 obtain⟨v,g,y,j,p,m⟩:=h d s (c+1+1) r (d (c+2)) n u;refine⟨_,?_,by omega,wh a,.tfn a b j (by omega) p,λA z f=>?_⟩
 .rw[dj,i,g];rfl
 .exact DD.exp a (by decide:xE 100 18=([18,1,133,101],M)) e (DD.tok a e (DD.tok b o (m _ _ f)))
def xn.fol(h:(tk i).k=1\/(tk i).k=40):¬Kg (tk i).k:=by rcases h with g|g<;>rw[g]<;>unfold Kg<;>decide
def xn.set(h:xn l F kd)(ax:kd<2)(g:TMc m G)(e:LA p H):FJ (l++(m++(sgF 47::p))) (one (bN 5 0 (F.app G).len z0 []) ((F.app G).app H)):=λa j u v J af r=>by
 obtain⟨i,al,an⟩:=af.app;obtain⟨w,ao,ap⟩:=an.app;obtain⟨b,f,ar⟩:=ap.sg;obtain⟨d,o,a1,s,E⟩:=g a j i w f ao b;obtain⟨c,n,a0,q,L,C⟩:=h a j u i (by omega) al;obtain⟨x,A,a2,av,ad,I⟩:=e a j (w+1) v J ar r.e.1 r.e.2.1;have B:aft 1 kd=110:=by rcases(show kd=0\/kd=1 by omega) with rfl|rfl<;>rfl
 have K:yi (a i).k=O:=by
  cases s with
  |bstop k=>rw[b];decide
  |bgo k=>rw[k];decide
 refine⟨one (nd 5 (a u) (a (v-1)).t 0 ((c.app d).len:Nat) z0 []) ((c.app d).app x),?_,by omega,xn.fol q,.tset q (by omega) (L _ _ (.pstop (by omega) K)) s b f ad,λau ak y=>?_⟩
 .have z:(c.app d).len=(F.app G).len:=by rw[<-Kf,fs,n,o]
  rw[dj,fs,fs,n,o,A,z];rfl
 .exact C 1 au ak (by decide) (by rw[B];exact E _ _ 110 (.inl rfl) (DD.tok b f (I _ _ y)))
def xn.do_(h:xn l F 2):FJ l (one (bN 6 0 0 z0 []) F):=λc u i j a r f=>by
 obtain⟨k,n,p,d,q,o⟩:=h c u i j a r;have b:=f.e;refine⟨one (jm 6 (c i) (c (j-1)).t) k,by rw[dj,n];rfl,p,xn.fol d,.tdo d (by omega) (q _ _ (.pstop a b.2.2.2.2.2.2.1)) b.2.1 b.2.2.1 a,λv s m=>?_⟩;refine o 1 v s (by decide) (DD.exp (L:=[]) rfl ?_ a m);rcases f with g|g|g<;>rw[g]<;>decide
def xn.defer(h:xn l F 2):FJ (sgF 14::l) (one (bN 16 0 0 z0 []) F):=λd s i j c q f=>by
 obtain⟨a,b,u⟩:=q.sg;obtain⟨k,n,w,v,p,o⟩:=h d s (i+1) j c u;refine⟨one (jm 16 (d i) (d (j-1)).t) k,by rw[dj,n];rfl,by omega,wh a,.tdefer a b (p _ _ (.pstop c f.e.2.2.2.2.2.2.1)),λx r m=>?_⟩;refine DD.exp a (by decide:xE 100 14=([14,116,101],M)) b (DD.tok a b (o 3 _ r (by decide) (DD.exp (L:=[]) rfl ?_ c m)));rcases f with g|g|g<;>rw[g]<;>decide
def ni.throw(h:ni l F 0):FJ (sgF 28::l) (one (bN 15 0 0 z0 []) F):=λg q j f d p b=>by
 obtain⟨a,c,r⟩:=p.sg;obtain⟨i,m,u,s,o,n⟩:=h g q (j+1) f d r b.e.1;exact⟨one (jm 15 (g j) (g (f-1)).t) i,by rw[dj,m];rfl,by omega,wh a,.tthrow a c (o 0 i f (Int.le_refl _) (mst d b.e.1)),λw v k=>DD.exp a (by decide:xE 100 28=([28,119,101],M)) c (DD.tok a c (n _ _ (dst d b.e.1 k)))⟩
def aco{k:Int}{d:Int}(h:(k=11/\d=11)\/(k=23/\d=12)):FJ [sgF k] (one (bN d 0 0 z0 []) .nil):=λj p i o f g n=>by
 rcases h with⟨rfl,rfl⟩|⟨rfl,rfl⟩
 .obtain⟨a,b,e⟩:=g.sg
  change (j i).k=11 at a
  obtain rfl:=e.nils;exact⟨_,rfl,by omega,wh a,.tbreak a f,λm l c=>DD.exp a (by decide:xE 100 11=([11,101],M)) b (DD.tok a b c)⟩
 .obtain⟨a,b,e⟩:=g.sg
  change (j i).k=23 at a
  obtain rfl:=e.nils;exact⟨_,rfl,by omega,wh a,.tnext a f,λm l c=>DD.exp a (by decide:xE 100 23=([23,101],M)) b (DD.tok a b c)⟩
def ajx:FJ [sgF 27] (one (bN 13 0 0 z0 []) .nil):=λj n h l d g b=>by
 obtain⟨a,c,i⟩:=g.sg;obtain rfl:=i.nils;exact⟨_,rfl,by omega,wh a,.tret0 a d b,λo m f=>DD.exp a (by decide:xE 100 27=([27,108,101],M)) c (DD.tok a c (DD.exp rfl (by simp[xE,aiF,b.e.2.2.2.2.2.1]:xE 108 (j (h+1)).k=([],M)) d f))⟩
def LA.ret(h:LA l F):FJ (sgF 27::l) (one (bN 13 0 0 z0 []) F):=λb s c i p r f=>by
 obtain⟨a,g,u⟩:=r.sg;obtain⟨j,n,v,d,q,o⟩:=h b s (c+1) i p u f.e.1 f.e.2.1;exact⟨one (jm 13 (b c) (b (i-1)).t) j,by rw[dj,n];rfl,by omega,wh a,.tret a (by omega) d q,λx w m=>DD.exp a (by decide:xE 100 27=([27,108,101],M)) g (DD.tok a g (DD.exp rfl (by simp[xE,aiF,d]:xE 108 (b (c+1)).k=([124],M)) (by omega) (o _ _ m)))⟩
def ni.while_(h:ni l F 0)(g:Hz m G):FJ (sgF 31::(l++m)) (one (bN 8 0 0 z0 []) (F.app G)):=λa k i j v y E=>by
 obtain⟨b,d,z⟩:=y.sg;obtain⟨c,A,B⟩:=z.app;obtain⟨n,q,I,r,x,u⟩:=g a k c j v B;have e:oB 0 (a c).k:=uu r;obtain⟨f,p,H,C,w,s⟩:=h a k (i+1) c (by omega) A e;exact⟨one (jm 8 (a i) (a (j-1)).t) (f.app n),by rw[dj,fs,p,q];rfl,by omega,wh b,.twhile b d (w 0 f c (Int.le_refl _) (mst (by omega) e)) x,λK J o=>DD.exp b (by decide:xE 100 31=([31,119,132,101],M)) d (DD.tok b d (s _ _ (dst (by omega) e (u _ _ o))))⟩
def ni.for_(h:ni l F 0)(g:LA m G)(e:Hz p H)(B:∀(tk:Nat->Tk) (n i j:Nat),j<n->oL tk n i m j->(tk j).k=42->∀st q,DD tk n (132::st) j q->DD tk n (119::107::132::st) i q):
  FJ (sgF 19::lG x::sgF 47::((l++(sgF 46::m))++p)) (one (bN 9 0 0 z0 [x]) ((F.app G).app H)):=λtk n i j I af a4=>by
 obtain⟨a,t,ak⟩:=af.sg;obtain⟨c,_,A,J,al⟩:=ak.head;obtain⟨b,o,an⟩:=al.sg
 change (tk (i+1)).k=1 at c
 obtain⟨k,v,ao⟩:=an.app;obtain⟨a0,z,a7,d,ad,E⟩:=e tk n k j I ao;have K:oB 0 (tk k).k:=uu d;obtain⟨ax,y,a6,a3,L,_⟩:=(LA.cons h g) tk n (i+1+1+1) k (by omega) v K (by rw[d];decide);obtain⟨r,ap,ar⟩:=v.app;obtain⟨s,f,au⟩:=ar.sg;have u:oB 0 (tk r).k:=uu s;obtain⟨av,a1,a5,a2,a8,C⟩:=h tk n (i+1+1+1) r f ap u;refine⟨_,?_,by omega,wh a,.tfor a (by omega) c (.stop (by rw[b];decide) o) b L ad,λst q w=>?_⟩
 .rw[dj,fs,y,z,A];rfl
 .refine DD.exp a (by decide:xE 100 19=([19,1,106,101],M)) t (DD.tok a t (DD.tok c J (DD.exp b (by decide:xE 106 47=([47,119,46,119,107,132],M)) o (DD.tok b o ?_))));exact C _ _ (dst f u (DD.tok s f (B tk n (r+1) k (by omega) au d _ _ (E _ _ w))))
def ajy(h:ni l F 0):∀(tk:Nat->Tk)(n i j:Nat),j<n->oL tk n i l j->(tk j).k=42->∀st b,DD tk n (132::st) j b->DD tk n (119::107::132::st) i b:=λtk n i j a g c st b e=>by
 have d:oB 0 (tk j).k:=uu c;obtain⟨m,o,q,p,r,f⟩:=h tk n i j a g d;exact f _ _ (dst a d (DD.exp c (by decide:xE 107 42=([],M)) a e))
def aei(h:ni l F 0)(g:ni m G 0):∀(tk:Nat->Tk)(n i j:Nat),j<n->oL tk n i (l++(sgF 46::m)) j->(tk j).k=42->∀st c,DD tk n (132::st) j c->DD tk n (119::107::132::st) i c:=λtk n i j d s p st c o=>by
 have e:oB 0 (tk j).k:=uu p;obtain⟨k,t,u⟩:=s.app;obtain⟨b,a,v⟩:=u.sg;have f:oB 0 (tk k).k:=uu b;obtain⟨w,y,C,A,H,q⟩:=h tk n i k a t f;obtain⟨x,z,E,B,I,r⟩:=g tk n (k+1) j d v e;exact q _ _ (dst a f (DD.exp b (by decide:xE 107 46=([46,119],M)) a (DD.tok b a (r _ _ (dst d e o)))))
def ni.each(h:ni l F 0)(g:Hz m G):FJ (sgF 19::(Kh (x::r)++(sgF 21::(l++m)))) (one (bN 10 0 0 z0 (x::r)) (F.app G)):=λa q d L E J av=>by
 obtain⟨b,n,ad⟩:=J.sg;obtain⟨p,af,ak⟩:=ad.app;obtain⟨c,o,al⟩:=ak.sg;obtain⟨e,an,ao⟩:=al.app;obtain⟨i,y,ar,j,z⟩:=agr r x (d+1) p af o (by rw[c];decide);obtain⟨ap,w,a0,k,I,B⟩:=g a q e L E ao;have f:oB 0 (a e).k:=uu k;obtain⟨s,v,ax,au,H,A⟩:=h a q (p+1) e (by omega) an f;refine⟨_,?_,by omega,wh b,.teach b (by omega) i j c (H 0 s e (Int.le_refl _) (mst (by omega) f)) k (by omega) I,λa2 a1 u=>?_⟩
 .rw[dj,fs,y,v,w];rfl
 .have C:(a (d+1+1)).k=46\/(a (d+1+1)).k=21:=by
   cases j with
   |stop=>exact .inr c
   |go t=>exact .inl t
  have K:xE 106 (a (d+1+1)).k=([104,21,119,132],M):=by rcases C with g|g<;>rw[g]<;>decide
  refine DD.exp b (by decide:xE 100 19=([19,1,106,101],M)) n (DD.tok b n (DD.tok i (by omega) (DD.exp rfl K (by omega) (z _ _ (DD.tok c o ?_)))));exact A _ _ (dst (by omega) f (B _ _ u))
def Hz.try_(h:Hz l F)(g:Hz m G)(I:r.length<=1):FJ (sgF 30::(l++(sgF 12::(Kh (x::r)++m)))) (one (bN 14 0 0 z0 (x::r)) (F.app G)):=λq p K L C J a0=>by
 obtain⟨a,b,ad⟩:=J.sg;obtain⟨n,af,ak⟩:=ad.app;obtain⟨e,k,al⟩:=ak.sg;obtain⟨o,an,ao⟩:=al.app;obtain⟨ar,y,a2,j,H,B⟩:=g q p o L C ao;obtain⟨f,z,au,i,av⟩:=agr r x (n+1) o an (by omega) (by rw[j];decide);obtain⟨ap,w,a1,ax,E,A⟩:=h q p (K+1) n k af;refine⟨_,?_,by omega,wh a,.ttry a b E e (by omega) f i H,λa4 a3 v=>?_⟩
 .rw[dj,fs,z,w,y];rfl
 .refine DD.exp a (by decide:xE 100 30=([30,132,12,1,109,132,101],M)) b (DD.tok a b (A _ _ (DD.tok e k (DD.tok f (by omega) ?_))));have d:=B _ _ v;cases i with
  |stop=>exact DD.exp j (by decide:xE 109 42=([],M)) (by omega) d
  |go c s t u=>
   cases u with
   |stop=>exact DD.exp c (by decide:xE 109 46=([46,1],M)) (by omega) (DD.tok c (by omega) (DD.tok t s d))
   |go=>simp at I
def ni.br0(h:ni l F 0)(g:Hz m G):BRc (l++m) (one (bN 7 0 0 z0 []) (F.app G)):=λa n k i A w d z b=>by
 obtain⟨c,B,C⟩:=z.app;obtain⟨o,r,I,s,y,v⟩:=g a n c i d C;have f:oB 0 (a c).k:=uu s;obtain⟨j,q,H,E,x,u⟩:=h a n (k+1) c (by omega) B f;exact⟨one (jm 7 (a k) (a (i-1)).t) (j.app o),by rw[dj,fs,q,r];rfl,by omega,.bno A w (x 0 j c (Int.le_refl _) (mst (by omega) f)) y b.e.2.2.2.1 b.e.2.2.2.2.1 d,λK J p=>u _ _ (dst (by omega) f (v _ _ (DD.exp rfl (by simp[xE,al4,b.e.2.2.2.1,b.e.2.2.2.2.1]:xE 105 (a i).k=([],M)) d p)))⟩
def ni.br1(h:ni l F 0)(g:Hz m G)(e:Hz p H):BRc (l++(m++(sgF 16::p))) (one (bN 7 0 0 z0 []) ((F.app G).app H)):=λa i k n L B C K ar=>by
 obtain⟨c,ad,af⟩:=K.app;obtain⟨o,ak,al⟩:=af.app;obtain⟨d,b,an⟩:=al.sg;obtain⟨q,v,av,x,I,z⟩:=g a i c o b ak;have f:oB 0 (a c).k:=uu x;obtain⟨j,u,au,ao,E,y⟩:=h a i (k+1) c (by omega) ad f;obtain⟨r,w,ax,ap,J,A⟩:=e a i (o+1) n C an;exact⟨one (jm 7 (a k) (a (n-1)).t) ((j.app q).app r),by rw[dj,fs,fs,u,v,w];rfl,by omega,.belse L B (E 0 j c (Int.le_refl _) (mst (by omega) f)) I d b J,λa1 a0 s=>y _ _ (dst (by omega) f (z _ _ (DD.exp d (by decide:xE 105 16=([16,132],M)) b (DD.tok d b (A _ _ s)))))⟩
def ni.br2(h:ni l F 0)(g:Hz m G)(e:BRc p H):BRc (l++(m++(sgF 15::p))) (one (bN 7 0 0 z0 []) ((F.app G).app H)):=λa i k n ad C E L B=>by
 obtain⟨d,af,ak⟩:=L.app;obtain⟨o,al,an⟩:=ak.app;obtain⟨c,b,ao⟩:=an.sg;obtain⟨q,v,au,x,J,z⟩:=g a i d o b al;have f:oB 0 (a d).k:=uu x;obtain⟨j,u,ar,ap,I,y⟩:=h a i (k+1) d (by omega) af f;obtain⟨r,w,av,K,A⟩:=e a i o n (.inr c) b E ao B;exact⟨one (jm 7 (a k) (a (n-1)).t) ((j.app q).app r),by rw[dj,fs,fs,u,v,w];rfl,by omega,.belif ad C (I 0 j d (Int.le_refl _) (mst (by omega) f)) J c b K,λa0 ax s=>y _ _ (dst (by omega) f (z _ _ (DD.exp c (by decide:xE 105 15=([15,119,132,105],M)) b (DD.tok c b (A _ _ s)))))⟩
def BRc.st(h:BRc l F):FJ (sgF 20::l) F:=λq o m n i k g=>by
 obtain⟨a,b,p⟩:=k.sg;obtain⟨c,e,r,j,f⟩:=h q o m n (.inl a) b i p g;exact⟨c,e,by omega,wh a,.tif a b j,λst s d=>DD.exp a (by decide:xE 100 20=([20,119,132,105,101],M)) b (DD.tok a b (f _ _ d))⟩
end
open Go.Maps Go.WideMaps
def aaC(w:Q)(tt:TypeId)(fr:Nat×Nat)(g:w.heap[1]?=S (.cells JJ tt fr))(m:Int)(k:∀i,i<20->tz.getD i 0≠m):
  Calls Tryz.prog 225 #[.int .i64 m] w λe u=>e= .returned (.tuple #[.agg #[.int .i64 0,.int .i64 0,.int .i64 0],.bool O])/\Below w.heap.size w u:=by
 have r:=aj g;have h:∀a,Below w.heap.size w (w.alloc a):=λa=>(ai _ w).alloc (ag _) a;have o:Hid (nB w.heap.size (w.alloc (.cells #[.int .i64 0,.int .i64 0,.int .i64 0] 189)) 0 0 0/\Below w.heap.size w (w.alloc (.cells #[.int .i64 0,.int .i64 0,.int .i64 0] 189))):=⟨aB w _,h _⟩;have p:=aq k;clear k;go_in;go_wp2_with (refine uJ rfl 190 _ rfl 1 rfl tt _ fr _ (((h _).block _ r).trans g) Tryz.underlying190 rfl (by kernel_rfl) ?_);go_loopw [7] (λf wr=>∃b:Nat,b<=20/\f= .int .i64 b/\Hid (nB w.heap.size wr 0 0 0/\Below w.heap.size w wr)) (λf _=>20-(intOf f).toNat)
 case atStart=>exact⟨0,by omega,rfl,o⟩
 case round=>
  obtain⟨b,A,rfl,c⟩:=hrel;by_cases l:b<20
  .have d:=λw=>ak6 b l w;have t:=aj c.1;have j:∀a,Below wr.heap.size wr (wr.alloc a):=λa=>(ai _ wr).alloc (ag _) a;have s:=p.out b l;generalize tA (3*b+1)=C at d;generalize tA (3*b+2)=E at d;generalize tz.getD b 0=B at d s;have q:Hid (∀a,nB w.heap.size (wr.alloc a) 0 0 0/\Below w.heap.size w (wr.alloc a)):=λa=>⟨((j a).block _ t).trans c.1,c.2.trans ((j a).mono c.2.size)⟩;go_wp21
   exact⟨⟨b+1,by omega,by go_num,q _⟩,by simp[intOf];omega⟩
  .obtain rfl:b=20:=by omega
   obtain⟨v,x,y,z⟩:=c.1.cells;have n:Hid (nB w.heap.size (((wr.setCell ⟨w.heap.size,0,U⟩ (.int .i64 0)).setCell ⟨w.heap.size,1,U⟩ (.int .i64 0)).setCell ⟨w.heap.size,2,U⟩ (.int .i64 0)) 0 0 0/\Below w.heap.size w (((wr.setCell ⟨w.heap.size,0,U⟩ (.int .i64 0)).setCell ⟨w.heap.size,1,U⟩ (.int .i64 0)).setCell ⟨w.heap.size,2,U⟩ (.int .i64 0))):=⟨nB.put c.1 0 0 0,((c.2.setCell (ag _) _).setCell (ag _) _).setCell (ag _) _⟩;go_wp21
   exact aH (Dh rfl _ _ _ ⟨w.heap.size,0,U⟩ (.bool O) _ rfl rfl (ab2 _ _ _ _ _ n.1)) rfl ⟨rfl,n.2⟩
def acp:∀j,j<20->tA (3*j+1)=As (tz.getD j 0)/\tA (3*j+2)=Jh (tz.getD j 0)/\gx (tz.getD j 0)=M/\∀i,i<j->tz.getD i 0≠tz.getD j 0:=by decide
def am5(b:gx k=M)(d:k<=78):∃j,j<20/\tz.getD j 0=k:=by
 have c:=aE b;have a:k=10\/k=26\/k=61\/k=62\/k=63\/k=64\/k=65\/k=66\/k=67\/k=68\/k=69\/k=70\/k=71\/k=72\/k=73\/k=74\/k=75\/k=76\/k=77\/k=78:=by omega
 rcases a with rfl|rfl|rfl|rfl|rfl|rfl|rfl|rfl|rfl|rfl|rfl|rfl|rfl|rfl|rfl|rfl|rfl|rfl|rfl|rfl
 .exact⟨1,by decide,rfl⟩
 .exact⟨0,by decide,rfl⟩
 .exact⟨14,by decide,rfl⟩
 .exact⟨15,by decide,rfl⟩
 .exact⟨16,by decide,rfl⟩
 .exact⟨17,by decide,rfl⟩
 .exact⟨18,by decide,rfl⟩
 .exact⟨19,by decide,rfl⟩
 .exact⟨11,by decide,rfl⟩
 .exact⟨9,by decide,rfl⟩
 .exact⟨10,by decide,rfl⟩
 .exact⟨12,by decide,rfl⟩
 .exact⟨13,by decide,rfl⟩
 .exact⟨8,by decide,rfl⟩
 .exact⟨2,by decide,rfl⟩
 .exact⟨3,by decide,rfl⟩
 .exact⟨4,by decide,rfl⟩
 .exact⟨5,by decide,rfl⟩
 .exact⟨6,by decide,rfl⟩
 .exact⟨7,by decide,rfl⟩
attribute [local go_sem] lu
def pv(w:Q)(b i:Nat)(v:V):w.grownBy (w.setCell ⟨b,i,U⟩ v) (S b):=
 ⟨rfl,rfl,rfl,by simp[World.setCell],λd c a=>aC _ _ _ _ (by simpa using a)⟩
def ags(s:ByteArray)(p:Nat)(w:Q):Calls Tryz.prog 55 #[Y (s.extract p s.size),Y ⟨#[45,45]⟩] w λe b=>e= .returned (.bool (decide (aw s p=45/\aw s (p+1)=45)))/\b=w:=by
 have a:=Tryz.strings_HasPrefix (s.extract p s.size) ⟨#[45,45]⟩ w;rw[show(⟨#[45,45]⟩:ByteArray).data.toList=[45,45] from rfl,G5]at a;exact a
structure alg (q:Int->Bool) (s:ByteArray) (f p e:Nat):Prop where
 out:iI q s f p=e
attribute [local go_sem] lu
def ScX(b:Nat)(W:Q):Prop:=∃a c,W.heap[b]?=S (.cells a 81 c)
def BI.x{b:Nat}{W:Q}{s:ByteArray}{m:V}{p l:Int}{k:Bool}(h:BI b W s m p l k):ScX b W:=by obtain⟨a,h⟩:=h;exact⟨_,_,h⟩
structure Iw (b mb B:Nat) (s:ByteArray) (I:Nat->Int->Q->Prop) (W:Q) (q:Nat) (l2:Int) (p:Nat) (l:Int):Prop where
 sc:BI b W s (.map (S mb)) q l2 O
 mp:W.ownsMap Tryz.prog 9 (plainElem (H:=Unit) Tryz.prog 3) mb 22 (zi 22)
 ly:Lay W
 ii:I p l W
 sz:B<=W.heap.size
def Iw.gr{b mb d:Nat}{s:ByteArray}{I:Nat->Int->Q->Prop}{W a:Q}{p q g i:Nat}{l o e f:Int}(h:Iw b mb d s I W q o p l)(j:∀p l W a,I p l W->ScX b W->W.grownBy a (S b)->I p l a)(m:mb≠b)(t:12<=b)(r:12<=d)(c:W.grownBy a (S b))(hS:BI b a s (.map (S mb)) i f O)(k:I p l a->I g e a):Iw b mb d s I a i f g e:=
 ⟨hS,h.mp.kept c (by simp[m]),h.ly.blocks (λn u=>c.block n (by have:=h.sz;omega) (by simp;omega)),k (j _ _ _ _ h.ii h.sc.x c),bG h.sz c.size⟩
structure DB (s:ByteArray) (p:Nat):Prop where
 lt:p<s.size
 nb:¬iK (aw s p)=M
 nd:¬(aw s p=45/\aw s (p+1)=45)
