import Derived.Test.YthkcmkmkapijkaaGreatDoorh31
import Derived.Test.YthkcmkmkapijkaaGreatDoorh42
import Derived.Test.YthkcmkmkapijkaaGreatDoorh32
import Derived.Test.YthkcmkmkapijkaaGreatDoorh39
import Derived.Test.YthkcmkmkapijkaaGreatDoorh34
set_option linter.all false
set_option maxRecDepth 100000
set_option maxHeartbeats 25600000
open Go.Proofs.Tryz
open List renaming length->M
open Go.Value renaming slice->S,string->T,string->A0,agg->B4
open Go.Proofs.Tryz renaming prog->V
open Go.Obj renaming cells->Y
open Option renaming some->Ax,none->A3
open Go.RowKit renaming Below->A1,Hid->A2,intOf->B1
open Go renaming World->A5,Value->Br,Calls->B0,ownsRow_succ->B3
open Go.Ending renaming returned->A9
open Go.World renaming news_of_block->B2
namespace Go.Proofs.YthkcmkmkapijkaaGreatDoor
open Go.RowKit Go.Maps Go.WideMaps
variable{N:Nd}{R1:Fo}{W W' w:World}{a c k:Int}{i j m n:Nat}{ns:zLD}{s:Bz}{v v7 v8 vk vn:Value}
structure ayv (ns:zLD):Prop where
 h:iL ns=false
 n:∀(i:Nat) N,ns[i]?=Ax N->kK ns i N=true
 s:∀i,i<M ns->(jh ns).getD i 0≠0
 l:(jh ns).getD (M ns-1) 0=(M ns:Int)
 d:jc (jK<|Ji ns) (M ns) 0=A3
def av7(h:bH ns=(0,0)):ayv ns:=by
 unfold bH at h;split at h
 .simp at h
 .rename_i d;cases h1:jc (fI ns) (M ns) 0 with
  |some a=>rw[h1]at h;simp[tf2]at h|none=>
   rw[h1,tf2]at h;cases h2:jc (gw<|jh ns) (M ns) 0 with
   |some a=>rw[h2]at h;simp[tf3]at h|none=>
    rw[h2,tf3]at h;split at h
    .simp at h
    .rename_i f;refine⟨by simpa using d,λa e b=>?_,λa g c=>?_,O,Is<|congrArg _ h⟩
     .have:=po h1 a O (by have:=(dr.1 b).1;omega);unfold fI at this;rw[ed,b,li]at this;simpa using this
     .have:=po h2 a O O;unfold gw at this;rw[c]at this;simp at this
theorem uk.strs{c xs}(h:uk c W v xs):bv W v xs/\vB v:=by
 have e:W.ownsRow c 9 1 v (M xs) (xs.map A0):=h;obtain⟨a,g⟩|⟨d,l,_,a,g,_,_,_,_,_⟩:=e.2
 .exact⟨.inl ⟨ze g,A3,0,a⟩,λj o k m=>U⟩
 .refine⟨.inr ⟨_,l,a,λb _ i=>?_⟩,λj o k m=>?_⟩
  .have p:=(dr.1 i).1;have f:=e;rw[a]at f;have n:(⟨d,0,A3⟩:Addr).add b=⟨d,b,A3⟩:=by unfold Addr.add;grind
   rw[n,f.cellAt b O,cJ,i];rfl
  grind
theorem agb(w g G H c x)(j:bv w G c)(l:bv w H [x])(al:M c<=1000)(h:w.cell? (aj g 0)=Ax G)(i:w.cell? (aj g 1)=Ax H):
  B0 V 327 #[bI g 2 2] w λe w'=>∃v,e=A9 v/\bv w' v (c++[x])/\vB v/\A1 w.heap.size w w':=by
 obtain⟨s,B,rfl⟩:=j.form;obtain⟨t,C,rfl⟩:=l.form;obtain⟨a,o⟩:∃a,M c=a:=⟨_,R⟩;rw[o]at al j h;have f:A2 (bv w (S s a B) c/\bv w (S t 1 C) [x]/\M c=a/\w.cell? (aj g 0)=Ax (S s a B)/\w.cell? (aj g 1)=Ax (S t 1 C)):=⟨j,l,o,h,i⟩;have ar:((a:Int)+1)<=2000:=O;have q:=anb (a+1) O O w;rw[(O:((a+1:Nat):Int)=(a:Int)+1)]at q;clear j l o h i;go_enter func327,ntmps327;go_wp2;go_loopw [3,11] (λr d wr=>A2 (wr=w)/\((d=zI 0/\r=zI 0)\/(d=zI 1/\r=zI a)\/(d=zI 2/\r=zI (a+1)))) (λ_ d _=>2-(B1 d).toNat)
 .exact⟨R,.inl ⟨R,R⟩⟩
 .
  obtain⟨af,n⟩:=hrel;have an:=af.out;subst wr;obtain⟨rfl,rfl⟩|⟨rfl,rfl⟩|⟨rfl,rfl⟩:=n
  .have h:=f.out.2.2.2.1;have b:¬(a:Int)<0:=O;go_wp2_with fail;refine⟨⟨by exact True.intro,.inr<|.inl ⟨R,U⟩⟩,by simp[B1]⟩
  .have i:=f.out.2.2.2.2;have b:¬(a:Int)+1<0:=O;have an:IntKind.i64.wrap ((a:Int)+1)=(a:Int)+1:=by rw[du];omega
   go_wp2_with fail;refine⟨⟨by exact True.intro,.inr<|.inr ⟨R,U⟩⟩,by simp[B1]⟩
  .go_wp2_with (go_at_call 359;fail);apply q.mono;rintro e K ⟨ak,rfl,ad,E⟩;have ap:A2 (uk w.heap.size K (bI w.heap.size 0 ak) []/\A1 w.heap.size w K):=⟨ad,E⟩;clear ad E q;go_wp2;go_loopw [6,27] (λk d wr=>∃u F z,k=S u F z/\((d=zI 0/\A2 (uk w.heap.size wr k []/\A1 w.heap.size w wr))\/(d=zI 1/\A2 (uk w.heap.size wr k c/\A1 w.heap.size w wr))\/(d=zI 2/\A2 (uk w.heap.size wr k (c++[x])/\A1 w.heap.size w wr)))) (λ_ d _=>2-(B1 d).toNat)
   .grind
   .
    obtain⟨u,F,z,rfl,n⟩:=hrel;obtain⟨rfl,b⟩|⟨rfl,b⟩|⟨rfl,b⟩:=n
    .have h:=ag b.out.2 f.out.2.2.2.1;have p:=b.out.2.size;have am:=f.out.2.2.1;go_wp2_with (at_builtin;refine qe R _ _ R _ _ _ R b.out.1 p _ c R (f.out.1.below b.out.2) I O a U ?_;intro y A w1 L m);have ao:uk w.heap.size w1 (S y a A) c:=U;exact⟨⟨_,_,_,R,.inr<|.inl ⟨R,ao,b.out.2.trans m⟩⟩,by simp[B1]⟩
    .have i:=ag b.out.2 f.out.2.2.2.2;have p:=b.out.2.size;have am:=f.out.2.2.1;go_wp2_with (at_builtin;refine qe R _ _ R _ _ c R b.out.1 p _ _ R (f.out.2.1.below b.out.2) O I (a+1) U ?_;intro y A w1 L m);exact⟨⟨_,_,_,R,.inr<|.inr ⟨R,L,b.out.2.trans m⟩⟩,by simp[B1]⟩
    .go_wp2;go_ret;exact⟨_,R,b.out.1.strs.1,b.out.1.strs.2,b.out.2⟩
def akl:Bz:=⟨#[46,46,46]⟩
def re(N:Nd):zLB:=ite (N.op=1) (N.nm++[akl]) N.nm
def NdQ.rest{e L N b f a n c}(h:NdQ e L N b f a n c)(i:eG N.k=5){W}(g:A1 e.heap.size e W):W.cell? (aj b 6)=Ax f/\W.cell? (aj b 7)=Ax (.bool<|decide (N.op=1)):=by
 have⟨_,d⟩:=h.rd W g;unfold im at d;rw[i]at d;exact⟨crV d,crV d⟩
theorem agc(d g L t N b G a n c)(Q:NdQ d L N b G a n c)(a9:eG N.k=5)(bs:M N.nm<=200)(bt:(cD<|re N).size<=1000000):
  Pw d g 270 #[vP g,kH d t,be b 0] (⟨#[40]⟩++cD (re N)++⟨#[41]⟩):=by
 intro o h C;have bz:=λh=>sr d.heap.size (gB t) h;have ax:A2 (Pw d g 403 #[th d t,T ⟨#[40]⟩] ⟨#[40]⟩):=mm d g t _ Z;have ad:A2 (Pw d g 403 #[th d t,T<|cD<|re N]<|cD<|re N):=mm d g t _ O;have a0:A2 (∀o h,Ps d g o h->∀F,CallsD V 403 #[th d t,T ⟨#[41]⟩] F h λi ao H=>ao=F/\(i=A9 (.tuple #[])/\Ps d g (o++⟨#[41]⟩) H/\Kq d.heap.size h H)):=λo h C F=>pu d g t _ o Z F h C;have z:A2 (∀j y,bv j y (re N)->vB y->B0 V 160 #[y,T ⟨#[44,32]⟩] j λi H=>i=A9 (T<|cD<|re N)/\A1 j.heap.size j H):=λj y bl bn=>KA j y _ bl bn (by unfold re;grind) O;have l:A2 (∀j,A1 d.heap.size d j->j.cell? (aj b 6)=Ax G/\j.cell? (aj b 7)=Ax (.bool<|decide (N.op=1))):=λj br=>Q.rest a9 br;have av:=ah C;have K:A2 (bv d G N.nm/\vB G/\M N.nm<=200):=⟨Q.nm,Q.jn,bs⟩;obtain⟨B,a7⟩:∃B,cD (re N)=B:=⟨_,R⟩;rw[a7]at ad z bt⊢;unfold kH th at *;generalize gB t=bA at *;have⟨r,s,bb⟩:=Q.nm.form;generalize M N.nm=u at bb;subst bb;clear C Q a7 a9;cases ho:decide (N.op=1) with
 |false=>
  have w:re N=N.nm:=by unfold re;grind
  rw[ho]at l;have A:A2 (bv d (S r u s)<|re N):=by rw[w];exact K.out.1
  clear ho w;go_enter_defers func270,ntmps270
  go_wp2_with (go_at_call 403;fail);apply(ax.out _ _ av.out).mono;rintro i e ⟨rfl,f,m⟩;have p:A2 (Ps d g (o++⟨#[40]⟩) e/\Kq d.heap.size h e):=⟨f,m⟩;obtain⟨bj,bk⟩:=l.out _ f.pg.bel;clear f m;go_wp2_with fail;go_region_held3 (λaf=>af.cell? (aj b 6)=Ax (S r u s)) (first|exact(l.out _ _).1|exact(l.out _ ((p.out.1.below blW).below q).pg.bel).1|exact(l.out _ f.pg.bel).1|go_keep) (first|(go_at_call 160;apply(z.out _ _ (A.out.below (p.out.1.below blW).pg.bel) K.out.2.1).mono;rintro i bx ⟨rfl,q⟩)|(go_at_call 403;apply(ad.out _ _<|(p.out.1.below blW).below q).mono;rintro i x ⟨rfl,f,m⟩))
  all_goals
   have v:A2 (Ps d g (o++⟨#[40]⟩++B) x/\Kq d.heap.size h x):=⟨f,((p.out.2.trans<|Kq.of_below blW).trans<|Kq.of_below q).trans m⟩;clear f m;go_wp2_with fail;apply pf I<|xd _ _ _ _;apply(a0.out _ _ v.out.1 _).mono;rintro i ao bw ⟨rfl,rfl,am,al⟩;refine⟨_,fE R _ _ _,R,?_,v.out.2.trans al⟩;simpa only[aB] using am
 |true=>
  have w:re N=N.nm++[akl]:=by unfold re;grind
  rw[ho]at l;rw[w]at z;clear ho w;go_enter_defers func270,ntmps270
  go_wp2_with (go_at_call 403;fail);apply(ax.out _ _ av.out).mono;rintro i e ⟨rfl,f,m⟩;have p:A2 (Ps d g (o++⟨#[40]⟩) e/\Kq d.heap.size h e):=⟨f,m⟩;obtain⟨bj,bk⟩:=l.out _ f.pg.bel;clear f m;go_wp2_with (go_at_call 327;fail);have bo:=au e<|Y #[T ⟨#[46,46,46]⟩] 9;have a5:=au (e.alloc<|Y #[T ⟨#[46,46,46]⟩] 9)<|Y #[S r u s,bI e.heap.size 1 1] 34;rw[dC]at a5;have E:A1 e.heap.size e ((e.alloc<|Y #[T ⟨#[46,46,46]⟩] 9).alloc<|Y #[S r u s,bI e.heap.size 1 1] 34):=((ay _ e).alloc O _).alloc I _;have a6:((e.alloc<|Y #[T ⟨#[46,46,46]⟩] 9).alloc<|Y #[S r u s,bI e.heap.size 1 1] 34).cell? ⟨e.heap.size,0,A3⟩=Ax (T ⟨#[46,46,46]⟩):=ag (blR.alloc O _) byS;have bf:=agb _ (e.heap.size+1) _ _ _ akl (K.out.1.below<|p.out.1.pg.bel.trans<|E.mono p.out.1.pg.bel.size) (.inr ⟨_,1,R,λbc _ ba=>by
    cases bc with
    |zero=>simp at ba;subst ba;exact a6|succ bc=>grind⟩) O byS byS
  apply bf.mono;rintro i ap ⟨_,rfl,an,bd,a8⟩;have ak:=E.trans<|a8.mono E.size;have A:A2 (Ps d g (o++⟨#[40]⟩) ap/\Kq d.heap.size h ap):=⟨p.out.1.below ak,p.out.2.trans<|Kq.of_below ak⟩;have⟨a1,a2,a4⟩:=an.form;generalize M (N.nm++[akl])=bh at a4;subst a4;have ar:A2 (bv ap (S a1 bh a2) (N.nm++[akl])/\vB (S a1 bh a2)):=⟨an,bd⟩;obtain⟨bj,bk⟩:=l.out _ A.out.1.pg.bel;clear bo a5 a6 E bf a8 ak an bd;go_wp2_with fail;go_region_held3 (λaf=>af.cell? (aj b 6)=Ax (S r u s)) (first|exact(l.out _ _).1|exact(l.out _ ((A.out.1.below blW).below q).pg.bel).1|exact(l.out _ f.pg.bel).1|go_keep) (first|(go_at_call 160;apply(z.out _ _ (ar.out.1.below blW) ar.out.2).mono;rintro i bx ⟨rfl,q⟩)|(go_at_call 403;apply(ad.out _ _<|(A.out.1.below blW).below q).mono;rintro i x ⟨rfl,f,m⟩))
  all_goals
   have v:A2 (Ps d g (o++⟨#[40]⟩++B) x/\Kq d.heap.size h x):=⟨f,((A.out.2.trans<|Kq.of_below blW).trans<|Kq.of_below q).trans m⟩;clear f m;go_wp2_with fail;apply pf I<|xd _ _ _ _;apply(a0.out _ _ v.out.1 _).mono;rintro i ao bw ⟨rfl,rfl,am,al⟩;refine⟨_,fE R _ _ _,R,?_,v.out.2.trans al⟩;simpa only[aB] using am
section
variable (w0 : World) (vb : Nat) (L : zLJ) (t : Nat)
inductive MV (N:Nd) (i:Nat):FuncId->Bz->Prop|flt:Hid (N.k=24)->MV N i 91 N.x|nam:Hid (N.k=26)->MV N i 93 N.x|str:Hid (N.k=25)->MV N i 92 (dK<|eJ N.x)|nmd {X:Bz}:Hid (N.k=42)->LX w0 vb L t N.ks X->MV N i 105 (⟨#[46]⟩++N.x++⟨#[32,61,32]⟩++X)|fld {q:Nat}{E:Bz}:Hid (N.k=33)->N.ks[0]?=some (q:Int)->Hid (VX w0 vb L t 187 q E)->MV N i 98 (E++(⟨#[46]⟩++N.x))|int_:Hid (N.k=23)->Kh w0-> -9223372036854775808<=N.n->N.n<=9223372036854775807->MV N i 90 (Aa N.n)|set {m:Nat}{X Z1:Bz}:Hid (N.k=5)->Hid (N.n=(m:Int))->1<=m/\m<List.length N.ks->LX w0 vb L t (N.ks.take m) X->LX w0 vb L t (N.ks.drop m) Z1->MV N i 75 (X++(⟨#[32,61,32]⟩++Z1))
end
def m_v{a j L am a5}(F:Tp a ns L am a5){t}(bw:t<=100000)(ax:i<M ns)(ao:ab ns i=N)(bo:M N.ks<=1048576)(a1:N.x.size<=4000){f G}(ap:MV a j L t N i f G):
  Pw a j f #[vP j,kH a t,nV<|qj L i] G:=by
 intro ak c d;obtain⟨m,_,_,A,r,y,g⟩:=Ai F ax;rw[ao]at y g;have z:=λc=>eD m c;have br:=λc=>sr a.heap.size (gB t) c;have bt:=λc=>Bj a.heap.size (gB t) c;have bs:=g.hn;have K:=λc=>sF (eG N.k) m c;have C:A2 (∀h:Bz,h.size<=100000000->Pw a j 403 #[th a t,T h] h):=λh d=>mm a j t h d;have E:A2 (∀(h l:Bz)(v:Br),h.size<=100000000->A2 (Pw a j 178 #[vP j,kH a t,v] l)->Pw a j 176 #[vP j,kH a t,T h,v] (h++l)):=λh l v d an=>qk a j t h l d v an;have r5:=λb (k:A1 a.heap.size a b)=>(g.cells k).2.1;have o:=d.pg.bel;have P:A2 (Pq a j c ak c):=⟨d,Kq.refl _ _⟩;have ad:=ah g;have u:N.x.size<=1000000:=O;cases ap
 case' str d=>
  have w:A2 (∀b,A1 a.heap.size a b->B0 V 159 #[T N.x] b λn B=>n=A9 (T<|dK<|eJ N.x)/\A1 b.heap.size b B):=λb k=>afB _ a1 b;have H:=zA N.x;unfold ye at H;have a0:(dK<|eJ N.x).size<=100000000:=O;generalize dK (eJ N.x)=a4 at *
 case' int_ d hLay h0 h1=>
  have w:A2 (∀b,A1 a.heap.size a b->B0 V 181 #[zI N.n] b λn B=>n=A9 (T<|Aa N.n)/\A1 b.heap.size b B):=λb k=>acI _ h0 h1 b<|hLay.below k O;have H:=Ee _ h1;have a0:(Aa N.n).size<=100000000:=O;have p:eG N.k=2:=by rw[d.out];rfl
  generalize Aa N.n=a4 at *
 case' set e l Z1 d hm h1 hX hZ=>
  have p:eG N.k=1:=by rw[d.out];rfl
  obtain⟨a2,rfl,av, -⟩:=g.ks.get<|bm (O:0<M N.ks);have af:=ah<|hX _<|g.ks.take e O;have a8:=ah<|hZ _<|g.ks.drop e (A-e) O O;have bf:¬r=0:=O;have bh:(e:Int)<=(r:Int):=O;have bj:¬r=e:=O;have bk:(0:Int)<=(e:Int):=O;have bl:(e:Int)<=(A:Int):=O;have ar:e<=A/\e<=r:=O;obtain⟨_,_⟩:=ar
 case' nmd hX=>have af:=ah<|hX _ g.ks
 all_goals
  try (have p:eG N.k=3:=by rw[(by assumption:A2 (N.k=_)).out];rfl)
  have a3:=λb (k:A1 a.heap.size a b)=>(g.cells k).2.2 _ (by rw[p];rfl);try (rw[(by with_reducible assumption:A2 (N.n=_)).out]at a3)
  try (have a7:=g.ks.get O;obtain⟨a2,rfl,av, -⟩:=a7)
  (try have bz:=ad.kid0 O)
  try (have bn:=wF O)
  rw[y,p];rw[p]at K;simp[nC]at K⊢;have bb:=λc=>azI m c;have bc:=λc=>azJ m c;have bd:=λc=>azK m c;have a9:∀q:Nat,q<=100->¬9223372036854775807<q+N.x.size:=O;have ba:∀q e:Nat,q<=100->e<=100->¬9223372036854775807<q+N.x.size+e:=O;unfold VX at *;unfold kH th at *;generalize gB t=bx at *;clear d g y F;go_in
  repeat' (go_wp2_with (first|(go_at_call 404;apply ez<|z _)|((first|go_at_call 159|go_at_call 181);refine(w.out _ o).mono ?_;rintro n a6 ⟨rfl,s⟩;have P:=ah<|P.below s;have o:=P.ps.pg.bel));first|(refine Pq.stp P blR (by with_reducible first|assumption|exact ah (C.out _ (by first|assumption|decide|omega|exact sz2 Z u))|exact ah (E.out _ _ _ (by first|decide|exact sz3 Z u Z) byA)) ?_;intro b P o)|(go_region_held3 (λal=>A1 a.heap.size a al) (first|exact(P.below blW).ps.pg.bel|exact((P.below blW).below s).ps.pg.bel|exact o|go_keep) (first|(go_at_call 404;apply ez<|z _)|((first|go_at_call 159|go_at_call 181);apply(w.out _ O).mono;rintro n a6 ⟨rfl,s⟩)|(refine Pq.stp P (by first|exact eC blR|exact blW.trans s) (by with_reducible first|assumption|exact ah (C.out _ (by first|assumption|decide|omega|exact sz2 Z u))|exact ah (E.out _ _ _ (by first|decide|exact sz3 Z u Z) byA)) ?_;intro b P o))))
  all_goals
   go_wp2_with (go_at_call 404;refine ez (z _) ?_);go_end0
   exact Pq.fin P (by simp only[aB])
theorem awa(a c w L a1 bc)(a0:Tp a w L a1 bc)(t)(br:t<=100000)(i)(a6:i<M w)(N)(a3:ab w i=N)(H:N.k=36)(bk:M N.ks<=1048576)(a7:M N.nm<=200)(a9:(cD<|re N).size<=1000000)(x:Nat)(K:N.ks[0]?=Ax (x:Int))(m)(a4:Jk a c L t (x:Int) m):
  Pw a c 177 #[vP c,kH a t,nV<|qj L i] (⟨#[40]⟩++cD (re N)++⟨#[41]⟩++⟨#[32]⟩++m):=by
 intro n b r;have⟨g,ap,_,ak,a2,u,e⟩:=Ai a0 a6;rw[a3]at u e;have q:=λb=>eD g b;have bo:=λb=>sr a.heap.size (gB t) b;have bn:=λb=>aaa a.heap.size (gB t) b;have bl:=λb=>agI a.heap.size (gB t) b;have a8:=e.hn;have ad:=λb=>sF (eG N.k) g b;have s:eG N.k=5:=by rw[H];rfl
 obtain⟨al,rfl,a5,_⟩:=e.ks.get K;rw[a8]at a5;have bj:(0:Int)<(ak:Int):=U;have av:A2 (Pw a c 270 _<|⟨#[40]⟩++cD (re N)++⟨#[41]⟩):=agc a c L t N g ap _ _ _ e s a7 a9;have ax:A2 (Pw a c 403 _<|⟨#[32]⟩):=mm a c t _ Z;have G:A2 (Pw a c 106 _<|m):=a4;obtain⟨bb,af⟩:∃ba,nV (qj L x)=ba:=⟨_,R⟩;rw[af]at G;have o:A2 (∀l,A1 a.heap.size a l->l.cell? (aj g 0)=Ax (zI N.k)/\l.cell? (aj g 5)=Ax (S (Ax al) ak a2)/\l.cell? (aj g 6)=Ax ap/\l.cell? al=Ax bb):=λl p=>⟨(e.cells p).1,(e.cells p).2.1,(e.cells p).2.2 _ (by rw[s];rfl),by rw[<-af];obtain⟨_,f,_,bd⟩:=(e.ks.below p).get K;cases f;simpa [Addr.add] using bd⟩;have ar:A2 (Ps a c n b/\Kq a.heap.size b b):=⟨r,Kq.refl _ _⟩;obtain⟨y,z,A,B⟩:=o.out _ r.pg.bel;rw[u];rw[s]at ad⊢;simp[nC]at ad⊢;have bh:=λb=>azL g b;unfold kH th at *;generalize gB t=bs at *;have bf:=ah e;clear r e u H;go_enter func177,ntmps177;go_wp2_with (first|(go_at_call 404;refine(q _).mono ?_;rintro f j ⟨rfl,v⟩;subst j)|(go_at_call 270;fail));apply(av.out _ _ ar.out.1).mono;rintro f am ⟨rfl,d,h⟩;have C:A2 (Ps a c (n++(⟨#[40]⟩++cD (re N)++⟨#[41]⟩)) am/\Kq a.heap.size b am):=⟨d,O⟩;obtain⟨y,z,A,B⟩:=o.out _ d.pg.bel;clear d h;go_wp2_with (first|(go_at_call 404;refine(q _).mono ?_;rintro f j ⟨rfl,v⟩;subst j)|(go_at_call 403;fail));apply(ax.out _ _ C.out.1).mono;rintro f an ⟨rfl,d,h⟩;have E:A2 (Ps a c (n++(⟨#[40]⟩++cD (re N)++⟨#[41]⟩)++(⟨#[32]⟩)) an/\Kq a.heap.size b an):=⟨d,C.out.2.trans h⟩;obtain⟨y,z,A,B⟩:=o.out _ d.pg.bel;clear d h;go_wp2_with (first|(go_at_call 404;refine(q _).mono ?_;rintro f j ⟨rfl,v⟩;subst j)|(go_at_call 106;fail));apply(G.out _ _ E.out.1).mono;rintro f ao ⟨rfl,d,h⟩;have F:A2 (Ps a c (n++(⟨#[40]⟩++cD (re N)++⟨#[41]⟩)++(⟨#[32]⟩)++(m)) ao/\Kq a.heap.size b ao):=⟨d,E.out.2.trans h⟩;obtain⟨y,z,A,B⟩:=o.out _ d.pg.bel;clear d h;go_wp2_with (first|(go_at_call 404;refine(q _).mono ?_;rintro f j ⟨rfl,v⟩;subst j));go_end0
 refine⟨R,?_,F.out.2⟩;have:=F.out.1;simpa only[aB] using this
structure Bt (w:A5) (N:Nd) (vn vk v7 v8:Br) (W:A5):Prop where
 b1:nA w.heap.size W 37 N vn vk
 b2:nA (w.heap.size+1) W 37 zNd fe fe
 b3:nA (w.heap.size+1+1) W 37 N v7 v8
 bl:A1 w.heap.size w W
def Bt.below(h:Bt w N vn vk v7 v8 W)(a:A1 W.heap.size W W'):Bt w N vn vk v7 v8 W':=
 ⟨h.b1.below a,h.b2.below a,h.b3.below a,h.bl.trans<|a.mono h.bl.size⟩
theorem Bt.grown{row:zON}(h:Bt w N vn vk v7 v8 W)(a:W.grownBy W' row)(c:∀g,row=Ax g->w.heap.size+1+1+1<=g):Bt w N vn vk v7 v8 W':=
 ⟨(a.block _ (ai h.b1) (λb=>U)).trans h.b1,(a.block _ (ai h.b2) (λb=>U)).trans h.b2,(a.block _ (ai h.b3) (λb=>U)).trans h.b3,h.bl.grown a h.bl.size (λg a=>U)⟩
theorem Bt.put7(h:Bt w N vn vk v7 v8 W)(u):Bt w N vn vk u v8 (W.setCell (aj (w.heap.size+1+1) 7) u):=
 ⟨(jg U).trans h.b1,(jg I).trans h.b2,aD W _ 7 _ _ _ h.b3,h.bl.setCell U _⟩
theorem Bt.put8(h:Bt w N vn vk v7 v8 W)(u):Bt w N vn vk v7 u (W.setCell (aj (w.heap.size+1+1) 8) u):=
 ⟨(jg U).trans h.b1,(jg I).trans h.b2,aD W _ 8 _ _ _ h.b3,h.bl.setCell U _⟩
theorem agd(w N br bo)(ar:bv w br N.nm)(E:dt w bo N.ks)(bE:M N.nm<=1048576)(bF:M N.ks<=1048576):
  B0 V 113 #[jq N br bo] w λe w'=>∃v7 v8,e=A9 (jq N v7 v8)/\
   w'.ownsRow w.heap.size 9 1 v7 (M N.nm) (N.nm.map A0)/\w'.ownsRow w.heap.size 3 1 v8 (M N.ks) (N.ks.map zI)/\A1 w.heap.size w w':=by
 obtain⟨B,C,rfl⟩:=ar.form;obtain⟨s,t,rfl⟩:=E.form;unfold jq;have H:A2 (bv w (S B (M N.nm) C) N.nm/\dt w (S s (M N.ks) t) N.ks):=⟨ar,E⟩;clear ar E;obtain⟨l,am⟩:∃a3,M N.nm=a3:=⟨_,R⟩;obtain⟨h,an⟩:∃a3,M N.ks=a3:=⟨_,R⟩;have A:A2 (M N.nm=l/\M N.ks=h):=⟨am,an⟩;rw[am]at H bE⊢;rw[an]at H bF⊢;clear am an;go_enter func113,ntmps113;go_wp2_with fail;generalize bd:((w.alloc _).alloc _).alloc _=bw;have⟨bj,bk,bn,bf,b9⟩:=al3 bd;have bc:Bt w N (S B l C) (S s h t) fe (S s h t) bw:=⟨bj,bk,bn,bf⟩;clear bd bj bk bn bf;have⟨ce,b5,cb,cc,cd⟩:=dw apF;have⟨cf,cg,ch,ck,cl⟩:=dw tD;have a6:=H;go_loopw [13] (λq wr=>∃c p,c<=l/\q=zI c/\Bt w N (S B l C) (S s h t) p (S s h t) wr/\wr.ownsRow (w.heap.size+1+1+1) 9 1 p c ((N.nm.take c).map A0)/\w.heap.size+1+1+1<=wr.heap.size) (λq _=>l-(B1 q).toNat)
 .exact⟨0,_,O,R,bc,onN,O⟩
 .
  obtain⟨c,p,E,rfl,d,g,G⟩:=hrel;clear bc b9;by_cases ap:c<l
  .have b7:(c:Int)<(l:Int):=O;have b6:(0:Int)<=(c:Int):=O;have⟨o,n⟩:=bg A.out.1 ap;obtain⟨bx,rfl,b4⟩:=(a6.out.1.below d.bl).get n;obtain⟨bz,bA,rfl⟩:=aF g;have ax:=λaf ao=>(g.lt af ao).1;have f:=(aE d.b3).2.2.2.2.2.2.2.1;have ad:w.heap.size+1+1<wr.heap.size:=O;have K:A2 ((N.nm.take<|c+1).map A0=(N.nm.take c).map A0++[T o]):=by
    show _=_;rw[L6 n,ej];rfl
   have v:=ah d;have r:=ah g;clear n d g;go_wp2_with (at_builtin;apply nJ _ R _ _ _ R _ 9 ce _ 1 _ underlying34 b5 cb cc cd R Z _ _ _ R (r.out.alloc _) _ 1 1 [T o] rfl R (B2 (cs:=#[T o])<|au wr _) (by intro cm y;simp at y;subst y;rfl) byM O lr;intro cn z x u b8;obtain⟨ak,L,rfl⟩:=B3 x;have m:=(v.out.below<|(ay _ wr).alloc O _).grown u ax;have bs:=(aE m.b3).2.2.2.2.2.2.2.1;have bt:=(aE m.b3).2.2.2.2.2.2.2.2.2);have a0:=u.size;rw[dC]at a0;have ca:(z.setCell ⟨w.heap.size+1+1,7,A3⟩<|S (Ax ⟨ak,0,A3⟩) (c+1) L).heap.size=z.heap.size:=byS;refine⟨⟨c+1,_,O,by go_num,m.put7 _,?_,O⟩,by simp[B1];omega⟩;rw[K.out];exact jo x I _
  .obtain rfl:c=l:=O;obtain⟨i,j,rfl⟩:=aF g;have a9:A2 (wr.ownsRow (w.heap.size+1+1+1) 9 1 (S i c j) c<|N.nm.map A0):=by rw[ci (by rw[A.out.1];omega)]at g;exact g
   have a5:=ah d;have ba:=(aE d.b1).2.2.2.2.2.2.2.2.1;have k:=(aE d.b3).2.2.2.2.2.2.2.2.1;have bD:=(aE d.b3).2.2.2.2.2.2.2.2.2;have ad:w.heap.size+1+1<wr.heap.size:=O;clear d g;go_wp2_with fail;have al:=a5.out.put8 fe;have a4:=jo (a:=⟨w.heap.size+1+1,8,A3⟩) a9.out I fe;have bh:(wr.setCell ⟨w.heap.size+1+1,8,A3⟩<|S A3 0 0).heap.size=wr.heap.size:=byS;rw[<-bh]at G;clear ba k bD ad a9 a5 bh;generalize wr.setCell (aj (w.heap.size+1+1) 8) fe=cp at al a4 G⊢;go_loopw [28] (λq wr=>∃f p,f<=h/\q=zI f/\Bt w N (S B c C) (S s h t) (S i c j) p wr/\wr.ownsRow (w.heap.size+1+1+1) 9 1 (S i c j) c (N.nm.map A0)/\wr.ownsRow (w.heap.size+1+1+1) 3 1 p f ((N.ks.take f).map zI)/\w.heap.size+1+1+1<=wr.heap.size) (λq _=>h-(B1 q).toNat)
   .exact⟨0,_,O,R,al,a4,onN,G⟩
   .
    obtain⟨f,p,_,rfl,d,F,g,G⟩:=hrel;clear al a4;by_cases ap:f<h
    .have b7:(f:Int)<(h:Int):=O;have b6:(0:Int)<=(f:Int):=O;have⟨o,n⟩:=bg A.out.2 ap;obtain⟨bx,rfl,b4⟩:=(a6.out.2.below d.bl).get n;obtain⟨bz,bA,rfl⟩:=aF g;have ax:=λaf ao=>(g.lt af ao).1;have ba:=(aE d.b3).2.2.2.2.2.2.2.2.1;have ad:w.heap.size+1+1<wr.heap.size:=O;have K:A2 ((N.ks.take<|f+1).map zI=(N.ks.take f).map zI++[zI o]):=by
      show _=_;rw[L6 n,ej];rfl
     have b0:=wv F g Z;have v:=ah d;have r:=ah g;clear n d g;go_wp2_with (at_builtin;apply nJ _ R _ _ _ R _ 3 cf _ 1 8 underlying35 cg ch ck cl R Z _ _ _ R (r.out.alloc _) _ 1 1 [.int _ o] rfl R (B2 (cs:=#[.int _ o])<|au wr _) (by intro cm y;simp at y;subst y;rfl) byM O lr;intro cn z x u b8;obtain⟨ak,L,rfl⟩:=B3 x;have m:=(v.out.below<|(ay _ wr).alloc O _).grown u ax;have bs:=(aE m.b3).2.2.2.2.2.2.2.2.1;have bt:=(aE m.b3).2.2.2.2.2.2.2.2.2);have a0:=u.size;rw[dC]at a0;have ca:(z.setCell ⟨w.heap.size+1+1,8,A3⟩<|S (Ax ⟨ak,0,A3⟩) (f+1) L).heap.size=z.heap.size:=byS;refine⟨⟨f+1,_,O,by go_num,m.put8 _,jo ((F.alloc _).kept u b0) I _,?_,O⟩,by simp[B1];omega⟩;rw[K.out];exact jo x I _
    .obtain rfl:f=h:=O;obtain⟨m,k,rfl⟩:=aF g;rw[ci (by rw[A.out.2];omega)]at g;have v:=ah d;have r:A2 (wr.ownsRow (w.heap.size+1+1+1) 9 1 (S i c j) c (N.nm.map A0)/\wr.ownsRow (w.heap.size+1+1+1) 3 1 (S m f k) f (N.ks.map zI)):=⟨F,g⟩;obtain⟨_,_,_,_,_,_,_,_,_,of⟩:=aE d.b3;obtain⟨z0,_,_,_,_,_,_,bs,_,bt⟩:=aE d.b2;have z:w.heap.size+1<wr.heap.size:=O;have K:w.heap.size+1+1<wr.heap.size:=O;clear d g F;go_wp2_with fail;have d:=v.out;have o:=apH d.b2 N (S i c j)<|S m f k;have u:=ab9 (b:=w.heap.size+1) r.out.1 O N (S i c j)<|S m f k;have x:=ab9 (b:=w.heap.size+1) r.out.2 O N (S i c j)<|S m f k;have n:=aep (b:=w.heap.size+1) d.bl O N (S i c j)<|S m f k
     change bodyPost _ _ _ _ _ (ab8 wr (w.heap.size+1) N (S i c j)<|S m f k)
     generalize ab8 wr (w.heap.size+1) N (S i c j) (S m f k)=y at o u x n⊢;exact aA (fD R _ _ _ _ _ _ _ R o underlying37 R byR) R ⟨_,_,R,pL u O,pL x O,n⟩
structure abz (w:A5) (v:Br) (Q:zLM) (W:A5):Prop where
 b2:W.heap[w.heap.size+1]?=Ax (.cells #[fe] 26 (0,0))
 b3:W.heap[w.heap.size+1+1]?=Ax (.cells #[v] 26 (0,0))
 row:W.ownsRow (w.heap.size+1+1+1) 37 9 v (M Q) (mG Q)
 each:∀x∈Q,W.ownsRow (w.heap.size+1+1+1) 9 1 x.vn (M x.N.nm) (x.N.nm.map A0)/\W.ownsRow (w.heap.size+1+1+1) 3 1 x.vk (M x.N.ks) (x.N.ks.map zI)
 bl:A1 w.heap.size w W
def abz.below{Q}(h:abz w v Q W)(a:A1 W.heap.size W W'):abz w v Q W':=
 ⟨(a.block _<|ai h.b2).trans h.b2,(a.block _<|ai h.b3).trans h.b3,cj h.row a,λc b=>⟨cj (h.each c b).1 a,cj (h.each c b).2 a⟩,h.bl.trans<|a.mono h.bl.size⟩
theorem abz.appended{c}{Q:zLM}{x k}(g:M Q=k)(h:abz w v Q W)(n:W.ownsRow (w.heap.size+1+1+1) 9 1 x.vn (M x.N.nm) (x.N.nm.map A0)/\W.ownsRow (w.heap.size+1+1+1) 3 1 x.vk (M x.N.ks) (x.N.ks.map zI))
  (i:W'.ownsRow (w.heap.size+1+1+1) 37 9 c (k+1) (mG Q++cMb x)) (b:W.grownBy W' v.ownBlock):W'.heap[w.heap.size+1+1]?=Ax (Y #[v] 26 (0,0))/\abz w c (Q++[x]) (W'.setCell (aj (w.heap.size+1+1) 0) c):=by
 subst g;have m:=λd b=>(h.row.lt d b).1;have j:=(b.block _ (ai h.b2) (λf=>U)).trans h.b2;have e:=(b.block _ (ai h.b3) (λf=>U)).trans h.b3;have l:∀{a:Mb},(W.ownsRow (w.heap.size+1+1+1) 9 1 a.vn (M a.N.nm) (a.N.nm.map A0)/\W.ownsRow (w.heap.size+1+1+1) 3 1 a.vk (M a.N.ks) (a.N.ks.map zI))->((W'.setCell (aj (w.heap.size+1+1) 0) c).ownsRow (w.heap.size+1+1+1) 9 1 a.vn (M a.N.nm) (a.N.nm.map A0)/\(W'.setCell (aj (w.heap.size+1+1) 0) c).ownsRow (w.heap.size+1+1+1) 3 1 a.vk (M a.N.ks) (a.N.ks.map zI)):=λhy=>
  ⟨jo (hy.1.kept b<|wv hy.1 h.row Z) I _,jo (hy.2.kept b<|wv hy.2 h.row Z) I _⟩
 refine⟨e,(jg I).trans j,aD W' _ 0 _ _ _ e,?_,?_,(h.bl.grown b h.bl.size (λd b=>U)).setCell U _⟩
 .rw[aG,uC,DB];simp only[dD,jl];rw[(byR:cMb x++mG []=cMb x)];exact jo i I _
 .intro a hy;obtain hy|hy:=dg.1 hy
  .exact l (h.each a hy)
  grind
theorem ao3{b}{L:zLM}(h:W.ownsRow b 37 9 v (M L) (mG L))(p:∀x∈L,W.ownsRow b 9 1 x.vn (M x.N.nm) (x.N.nm.map A0)/\W.ownsRow b 3 1 x.vk (M x.N.ks) (x.N.ks.map zI)):dE W v (L.map Mb.N):=by
 obtain⟨_,rfl⟩|⟨o,n,rfl⟩:=aC h
 .exact .inl ⟨U,_,_,R⟩
 .refine .inr ⟨⟨o,0,A3⟩,n,U,λq N a=>?_⟩;rw[cJ]at a;cases hx:L[q]? with
  |none=>grind|some x=>
   rw[hx]at a;obtain rfl:=de a;rw[Kc];have⟨d,e,f,g,i,j,k,l,m⟩:=qa h hx;have c:=p x<|db hx;exact⟨_,_,d,e,f,g,i,j,k,l,m,DC c.1,uD c.2⟩
theorem Dq(w v d)(h:dE w v d)(b7:M d<=1048576)(a1:∀N∈d,M N.nm<=1048576/\M N.ks<=1048576):
  B0 V 36 #[B4 #[v]] w λe w'=>∃L,e=A9 (B4 #[L])/\dE w' L (d.map ti)/\A1 w.heap.size w w':=by
 obtain⟨a,br,rfl⟩:=h.form;have bj:=ah a1;obtain⟨g,n⟩:∃g,M d=g:=⟨_,R⟩;have af:=ah n;have bf:A2 (dE w (S a g br) d):=U;rw[n]at b7⊢;clear h a1 n;have⟨ch,b6,ce,cf,cg⟩:=dw aln;go_enter func36,ntmps36;go_wp2_with fail;generalize a3:((w.alloc _).alloc _).alloc _=bo;have⟨K,t,bc,a5,cb⟩:=al3 a3;have bd:abz w fe [] bo:=⟨t,bc,onN,λx E=>U,a5⟩;clear a3 K t bc a5;go_loopw [10] (λad wr=>∃(b:Nat) (v:Br) (f:zLM),b<=g/\ad=zI b/\M f=b/\A2 (f.map Mb.N=(d.take b).map ti)/\abz w v f wr/\w.heap.size+1+1+1<=wr.heap.size) (λad _=>g-(B1 ad).toNat)
 case atStart=>exact⟨0,_,[],leZ,R,R,R,bd,O⟩
 case round=>
  obtain⟨b,v,f,_,rfl,A,an,c,_⟩:=hrel;clear bd cb;by_cases b8:b<g
  .have⟨N,s⟩:=bg af.out b8;have⟨b9,ca⟩:=bj.out N<|db s;obtain⟨_,rfl,_,_,b5⟩:=(bf.out.below c.bl).get s;have cr:(b:Int)<(g:Int):=O;have cq:(0:Int)<=(b:Int):=O;obtain⟨bs,bt,bw,bx,bz,bA,bD,bE,bF,n,C⟩:=b5;obtain⟨ap,a0,rfl⟩:=n.form;obtain⟨ao,ar,rfl⟩:=C.form;have bk:A2 ((d.take<|b+1).map ti=(d.take b).map ti++[ti N]):=by
    show _=_;rw[L6 s,ej];rfl
   have al:A2 (bv wr (S ap (M N.nm) a0) N.nm/\dt wr (S ao (M N.ks) ar) N.ks):=⟨n,C⟩;have z:=ah c;clear s n C c;go_wp2_with (go_at_call 113;fail);generalize a2:wr.alloc _=bn;have⟨K,q,t⟩:=al1 a2;clear a2 K t;have F:=agd bn N (S ap (M N.nm) a0) (S ao (M N.ks) ar) (al.out.1.below q) (al.out.2.below q) b9 ca;unfold jq at F;refine F.mono ?_;rintro e i ⟨_,_,rfl,G,H,a4⟩;obtain⟨j,l,rfl⟩:=aF G;obtain⟨k,m,rfl⟩:=aF H;have r:=(z.out.below q).below a4;have ct:=q.size;have cu:=a4.size;have am:A2 (i.ownsRow (w.heap.size+1+1+1) 9 1 (S j (M N.nm) l) (M N.nm) (N.nm.map A0)/\i.ownsRow (w.heap.size+1+1+1) 3 1 (S k (M N.ks) m) (M N.ks) (N.ks.map zI)):=⟨pL G O,pL H O⟩;have y:=ah r;have cp:w.heap.size+1+1<i.heap.size:=O;have b1:i.cell? (aj (w.heap.size+1+1) 0)=Ax v:=crV r.b3;obtain⟨o,p,rfl⟩:=aF r.row;have bh:A2 (i.ownsRow (w.heap.size+1+1+1) 37 9 (S o b p) b<|mG f):=by have:=y.out.row;grind
   rw[A]at b1 y;have B:=λcl cm=>((ay _ i).alloc eE cl).alloc I cm;clear bs bt bw bx bz bA bD bE bF F G H r;go_wp2_with (at_builtin;refine nJ _ R _ _ 24 R (w.heap.size+1+1+1) 37 ch _ 9 112 underlying24 b6 ce cf cg R Z _ _ _ R ((bh.out.alloc _).alloc _) ⟨i.heap.size+1,0,A3⟩ 1 1 [zI N.k,zI 0,zI 0,zI 0,zI N.op,zI N.n,T N.x,S j (M N.nm) l,S k (M N.ks) m] rfl R (B2 (cs:=#[zI N.k,zI 0,zI 0,zI 0,zI N.op,zI N.n,T N.x,S j (M N.nm) l,S k (M N.ks) m]) (fr:=(0,0)) (by have:=au (i.alloc<|Y #[zI N.k,zI 0,zI 0,zI 0,zI N.op,zI N.n,T N.x,S j (M N.nm) l,S k (M N.ks) m] 37)<|Y #[zI N.k,zI 0,zI 0,zI 0,zI N.op,zI N.n,T N.x,S j (M N.nm) l,S k (M N.ks) m] 37;rw[dC]at this;omega)) (by intro _ ba;simp at ba;obtain rfl|rfl|rfl|rfl|rfl|rfl|rfl|rfl|rfl:=ba<;>rfl) byM O lr ?_;intro L u a9 a6 _;obtain⟨b4,b0,rfl⟩:=B3 a9;obtain⟨bb,cc⟩:=abz.appended (x:=⟨ti N,S j (M N.nm) l,S k (M N.ks) m⟩) A (y.out.below<|B _ _) ⟨cj am.out.1<|B _ _,cj am.out.2<|B _ _⟩ a9 a6;have cy:u.cell? (aj (w.heap.size+1+1) 0)=Ax (S o b p):=by {rw[oe bb];rfl};have cn:u.frozen? (aj (w.heap.size+1+1) 0)=false:=frR bb);have cd:=a6.size;rw[dC,dC]at cd;have cw:(u.setCell ⟨w.heap.size+1+1,0,A3⟩<|S (Ax ⟨b4,0,A3⟩) (b+1) b0).heap.size=u.heap.size:=byS;refine⟨⟨b+1,_,f++[⟨ti N,S j (M N.nm) l,S k (M N.ks) m⟩],O,by go_num,U,?_,cc,O⟩,by simp[B1];omega⟩;show _=_;rw[bk.out,ej,an.out];rfl
  .obtain rfl:b=g:=O;have z:=ah c;have z0:wr.cell? (aj (w.heap.size+1) 0)=Ax fe:=crV c.b2;have cn:wr.frozen? (aj (w.heap.size+1) 0)=false:=frR c.b2;have k:wr.cell? (aj (w.heap.size+1+1) 0)=Ax v:=crV c.b3;have of:wr.frozen? (aj (w.heap.size+1+1) 0)=false:=frR c.b3;obtain⟨o,p,rfl⟩:=aF c.row;clear c;go_wp2_with fail;have c:=z.out;have j:f.map Mb.N=d.map ti:=by rw[an.out,ci (by rw[af.out];omega)]
   have i:dE (wr.setCell (aj (w.heap.size+1) 0)<|S o (M f) p) (S o (M f) p) (d.map ti):=by
    rw[<-j];exact ao3 (jo (a:=⟨w.heap.size+1,0,A3⟩) c.row I _) λx E=>⟨jo (a:=⟨w.heap.size+1,0,A3⟩) (c.each x E).1 I _,jo (a:=⟨w.heap.size+1,0,A3⟩) (c.each x E).2 I _⟩
   rw[A]at i;exact aA (fD R _ _ (w.heap.size+1) _ _ _ _ R (aD _ _ 0 _ _ _ c.b2) underlying26 R byR) R ⟨_,R,i,c.bl.setCell I _⟩
structure Tm (ns:zLD):Prop where
 n:M ns<=1048576
 l:∀N∈ns,M N.nm<=1048576/\M N.ks<=1048576
section
variable {s : Bz} {ns : zLD}
end
open Go.Lib (strCells strCells_length wpList_append_own_string)
def JI(a b:Bz):strCells (a++b)=strCells a++strCells b:=by
 unfold strCells;rw[vJ,agp,ej]
def akm{d g b}{a:Bz}(c:w.ownsRow d 5 1 (bI g n b) n (strCells a)):
  (convert 22 9<|bI g n b).run V w= .ok (T a) w:=by
 have e:strCells a=B8 (uH a.data.toList):=by
  unfold strCells B8 uH;rw[List.map_map];rfl
 rw[e]at c;rw[lK c,uI]
def akn(k w):B0 V 198 #[zI k] w λe w'=>(∃b,e=A9 (.bool b))/\w'=w:=by
 go_in;go_wp2;all_goals
  go_ret;exact⟨⟨_,R⟩,R⟩
def asa:Rq 199 [] 2 (PS 60):=by
 intro _ _ w _ b _;have a:=b.cw;exact cgo
def asb{f c n k g d o n2:Nat}{a e}{p q:zLV}(l:w.ownsRow f c n a k p)(m:w.ownsRow g d o e n2 q)(j:c≠d):a.ownBlock=A3\/a.ownBlock≠e.ownBlock:=by
 obtain⟨b,_⟩|⟨_,_,_,b,_,i,_⟩:=m.2
 .rw[b];cases h:a.ownBlock with
  |none=>exact .inl R|some r=>exact .inr (by simp[Value.ownBlock])
 .right;rw[b];exact gG l i<|dG j
structure Lo (C:Cd) (E:Bs) (W w:A5) (m:Nat) (v:Br) (t:Bz) (tv:Br) (ts:zLT) (X:Option (Nat×zAV)):Prop where
 cu:Cq C E w m
 out:w.ownsRow E.base 5 1 v t.size (strCells t)
 tok:w.ownsRow E.base 58 6 tv (M ts) (DF ts)
 bel:A1 E.base W w
 tb:∀b cs,X=Ax (b,cs)->w.heap[b]?=Ax (.cells cs 58 (0,0))
section
variable {C : Cd} {E : Bs} {W w w' : World} {m k : Nat} {v tv u : Value} {t : Bz} {ts : zLT} {f : FuncId} {ar : zLV} {Q : Ending → World → Prop} {P : Value → Prop} {X : Option (Nat × zAV)}
def Lo.below(h:Lo C E W w m v t tv ts X)(a:A1 w.heap.size w w'):Lo C E W w' m v t tv ts X:=
 ⟨h.cu.below a,cj h.out a,cj h.tok a,h.bel.trans<|a.mono h.cu.lo.2,λb c d=>(a.block _<|ai<|h.tb b c d).trans<|h.tb b c d⟩
def Lo.al{o}(h:Lo C E W w m v t tv ts X):Lo C E W (w.alloc o) m v t tv ts X:=h.below<|dj w o
def Lo.new{cs:zAV}(h:Lo C E W w m v t tv ts X):Lo C E W (w.alloc<|Y cs 58) m v t tv ts (Ax (w.heap.size,cs)):=
 have a:=h.al (o:=Y cs 58)
 ⟨a.cu,a.out,a.tok,a.bel,λ_ cs b=>by cases b;exact au w _⟩
def Lo.end_(h:Lo C E W w m v t tv ts X)(b:k<=m:=by omega):Lo C E W w k v t tv ts A3:=⟨h.cu.le b,h.out,h.tok,h.bel,λ_ _ a=>by cases a⟩
def Lo.cell{b cs}(h:Lo C E W w m v t tv ts (Ax (b,cs)))(i):w.cell? (aj b i)=cs[i]?:=yL w b i _ _ _<|h.tb b cs R
def Lo.run(a:Lo C E W w m v t tv ts X)(h:Rq f ar k P)(H:∀u w',P u->Lo C E W w' (m-k) v t tv ts X->w.grownBy w' (Ax E.cb)->Q (A9 u) w')(j:k<=m:=by omega):B0 V f (cV E::ar).toArray w Q:=by
 apply(h a.cu j).mono;rintro c w' ⟨u,rfl,l,i,b⟩;have⟨_,g⟩:=a.cu.cur;exact H u w' l ⟨i,a.out.kept b<|.inr<|gG a.out g Z,a.tok.kept b<|.inr<|gG a.tok g Z,a.bel.trans<|xC b a.cu.lo.1 a.cu.lo.2,λd e c=>(b.block _ (ai<|a.tb d e c) λn=>by have:=a.tb d e c;rw[de n,g]at this;simp at this).trans<|a.tb d e c⟩ b
def Lo.app{q r o a Q}(h:Lo C E W w m v t tv ts X)(s:Bz)(al:t.size+s.size<=100000000)(y:o.guard=A3)(sl x)
  (z:o.op= .call {callee:= .builtin .append,args:=#[sl,x],argTypes:=#[22,9]}) (F:a.eval sl=v) (G:a.eval x=T s)
  (k:∀e w1,Lo C E W w1 m e (t++s) tv ts X->wpList V q Q r (a.put o.dst e) w1):wpList V q Q (o::r) a w:=by
 have⟨H,K,L,ad,af⟩:=dw Tryz.info5;have⟨l,ak⟩:=h.cu.cur;apply wpList_append_own_string _ y sl x _ 9 z _ 5 H underlying22 underlying9 K L ad af _ _ _ F h.out s G byM O h.cu.lo.2;intro e u A g _;have p:=(ay _ w).grown g h.cu.lo.2 (λk b=>(h.out.lt k b).1);have j:∀{c:Nat}{d:zAV}{i:TypeId}{n:Nat×Nat},w.heap[c]?=Ax (Y d i n)->i≠5->u.heap[c]?=Ax (Y d i n):=λb B=>(g.block _ (ai b) (λf=>gG h.out b B f.symm)).trans b;exact k e u ⟨h.cu.keep p λl=>j l Z,by rw[az,JI];exact A,h.tok.kept g<|asb h.tok h.out Z,h.bel.trans p,λc d f=>j (h.tb c d f) Z⟩
theorem Lo.conv(h:Lo C E W w m v t tv ts X):(convert 22 9 v).run V w= .ok (T t) w:=by
 obtain⟨b,rfl⟩|⟨_,_,rfl⟩:=aC h.out
 .have a:t=ByteArray.empty:=by
   have:=Array.eq_empty_of_size_eq_zero b;cases t;simp_all;first|rfl|done
  rw[a];exact Ch w
 .exact akm h.out
def Lo.cells{a:zOA}{o}(h:Lo C E W w m v t (S a n o) ts X)(p:M ts=n){b}(j:ts[i]?=Ax b):∃g,a=Ax (aj g 0)/\w.cell? (aj g<|i*6)=Ax (zI b.k)/\w.cell? (aj g<|i*6+1)=Ax (zI b.f)/\w.cell? (aj g<|i*6+2)=Ax (zI b.t)/\w.cell? (aj g<|i*6+3)=Ax (zI b.l)/\w.cell? (aj g<|i*6+4)=Ax (zI b.n)/\w.cell? (aj g<|i*6+5)=Ax (T b.x):=by
 subst p;have s:=(dr.1 j).1;obtain⟨_,_⟩|⟨g,_,e⟩:=aC h.tok
 .omega
 .have r:=e;cases e;have k:=h.tok;refine⟨g,R,?_⟩;have c:∀d,d<6->w.cell? (aj g<|i*6+d)=(cTk b)[d]?:=λd q=>by rw[k.cellAt _ O,aa8 ts i d b j q]
  exact⟨c 0 O,c 1 O,c 2 O,c 3 O,c 4 O,c 5 O⟩
end
def asd{C E}(i:aj1 s)(bs:s.size<=65536)(h:Cq C E W m)(br:400000<=m):B0 V 115 #[cV E,T s] W λe w'=>∃t:Bz,e=A9 (T t)/\t.size<=9000000/\Cq C E w' (m-400000)/\A1 E.base W w':=by
 replace i:=i W;have K:=anJ s;have ap:(nF s).1.length<=65537:=by have:=anK s;omega
 unfold TkP at i;generalize (nF s).1=q at i K ap;generalize (nF s).2=bt at i;have⟨n,x⟩:=aw<|M q;rw[x]at i ap;go_in;go_wp2_with fail;apply i.mono;rintro e w1 ⟨am,an,rfl,ar,L⟩;have bb:=h.lo;have ak:Lo C E W w1 m fe zE0 (S am n an) q A3:=⟨h.below L,onN,by rw[x];exact lu ar (λj _ _ _=>⟨R,O⟩),L.mono bb.2,λG cs e=>by cases e⟩;have r:=fs x K;clear i ar L x K h;go_wp2;go_loopw [7,20] (λaf iv wr=>∃(b y:Nat) (t:_),iv=zI b/\b<=n/\(y<=s.size/\t.size<=y+130*b/\∀c,q[b]?=Ax c->y<=c.f)/\Lo C E W wr (m-6*b) af t (S am n an) q A3) (λ_ iv _=>n-(B1 iv).toNat)
 .exact⟨0,0,zE0,R,leZ,⟨leZ,leZ,λc h=>by have:=r.2.each c<|db h;omega⟩,ak⟩
 .
  clear ak;obtain⟨b,y,t,rfl,_,⟨bf,a0,ad⟩,a⟩:=hrel;by_cases bn:b<n
  .obtain⟨c,v⟩:∃c,q[b]?=Ax c:=⟨_,bm (by have:=r.1;omega)⟩;have a8:=r.2.each c<|db v;obtain⟨j,rfl,a5,a6,a7,_,_,_⟩:=a.cells r.1 v;have bo:(0:Int)<=(b:Int):=O;have ba:(b:Int)<(n:Int):=O;have⟨p,ao⟩:=iJ (O:0<=c.f);have⟨f,av⟩:=iJ (O:0<=c.t);have ad:=ad c v;rw[ao]at a6;rw[av]at a7;have l:(s.extract p f).size<=f-p:=by rw[lh];omega
   have d:=Cg (O:t.size+f-p<=f+130*b/\p<=f/\f<=65536/\b<=65537) l (O:f<=s.size) (show ∀A,q[b+1]?=Ax A->(f:Int)<=A.f from λA a9=>by have:=r.2.at_ v a9;omega);have bj:(0:Int)<=(p:Int):=O;have bk:(p:Int)<=(f:Int):=O;have bl:(f:Int)<=(s.size:Int):=O;clear ao av a8 v ad l bf;by_cases H:c.k=6
   .rw[H]at a5;have bd:=λo=>(a.al (o:=o)).conv;have g:=fs (λo=>a.al (o:=o)) (show t.size<=9000000/\m-400000<=m-6*b by have:=d.1;omega);clear a a0;go_wp2;go_ret;exact⟨_,R,g.2.1,(g.1 _).cu.le g.2.2,(g.1 _).bel⟩
   .have bh:(c.k==6)=false:=by simpa using H
    clear H a0
    repeat' (go_wp2_with (at_builtin;(first|refine Lo.app a _ (by have B:=d.1;have F:=d.2.1;(try simp only[az]);omega) R _ _ R R R ?_|refine Lo.app a.new _ (by have B:=d.1;have F:=d.2.1;(try simp only[az]);omega) R _ _ R R R ?_);clear a;intro af w a;have l:=λb=>a.cell b);first
     |(go_at_call 38;first
      |(with_reducible refine Lo.run a gc ?_;clear a;rintro _ w ⟨a4,rfl,z0,z⟩ a -;have l:=λb=>a.cell b)
      |(have u:=a.cu;with_reducible refine Lo.run a.al gc ?_;clear a;rintro _ w ⟨a4,rfl,z0,z⟩ a j;obtain⟨bc,G,rfl,ax,a3⟩:=Km u j z0 (by simpa using z);clear u j;have l:=λb=>a.cell b)
      |(have u:=λcs=>(a.new (cs:=cs)).cu;refine Lo.run a.new.al gc ?_;clear a;rintro _ w ⟨a4,rfl,z0,z⟩ a j;obtain⟨bc,G,rfl,ax,a3⟩:=Km (u _) j z0 (by exact z);rw[dC]at a3;clear u j;have l:=λb=>a.cell b))
     |(go_at_call 199;with_reducible refine Lo.run a asa ?_;clear a;rintro _ w ⟨G,rfl,ax⟩ a -;have l:=λb=>a.cell b)
     |(go_at_call 198;refine(akn _ _).mono ?_;rintro _ _ ⟨⟨_,rfl⟩,rfl⟩))
    all_goals (try go_wp2_with (at_builtin;refine Lo.app a _ (by have B:=d.1;have F:=d.2.1;(try simp only[az]);omega) R _ _ R R R ?_;clear a;intro af w a))
    all_goals
     go_roundw
     .exact⟨b+1,f,_,by go_num,O,⟨d.2.2.1,by have B:=d.1;have F:=d.2.1;simp only[az];omega,d.2.2.2⟩,a.end_⟩
     simp[B1];omega
  .have ba:¬(b:Int)<(n:Int):=O;have bd:=a.conv;have g:=fs a (O:t.size<=9000000/\m-400000<=m-6*b);clear a;go_wp2;go_ret;exact⟨_,R,g.2.1,g.1.cu.le g.2.2,g.1.bel⟩
end Go.Proofs.YthkcmkmkapijkaaGreatDoor
namespace Go.Proofs.YthkcmkmkapijkaaGreatDoor
open Go.RowKit Go.Maps Go.WideMaps
variable{N:Nd}{R1:Fo}{W W' w:World}{a c k:Int}{i j m n:Nat}{ns:zLD}{s:Bz}{v v7 v8 vk vn:Value}
theorem Lw.kcap{p g c L}(h:Lw w p (bI g n c) L)(m:M L=n):D5 w ⟨g,0,A3⟩ (L.map Mb.N):=λa N _ _ d b=>by
 subst m;rw[cJ]at d;obtain⟨q,e,rfl⟩:=Option.map_eq_some_iff.1 d;have⟨_,_,_,_,_,_,_,_,k⟩:=qa h.row e;have l:(⟨((⟨g,0,A3⟩:Addr).add<|a*9).block,((⟨g,0,A3⟩:Addr).add<|a*9).off+8,A3⟩:Addr)=⟨g,a*9+8,A3⟩:=by
  unfold Addr.add;split<;>simp_all
 unfold aj at b;rw[l,k]at b;have o:=de b;have f:=(h.each q<|db e).2;rw[o]at f;obtain⟨i,j⟩|⟨_,_,_,i,_,_,j,_⟩:=f.2
 .omega
 .cases i;exact j
def yJ(a):(jv a).size<=65536:=by
 unfold jv;split
 .unfold yq;split
  .decide
  .omega
 .decide
structure Cy (C:Cd) (E:Bs) (W w:A5) (m:Nat):Prop where
 cu:Cq C E w m
 bel:A1 E.base W w
section
variable {C : Cd} {E : Bs} {w w' W : World} {m k : Nat} {ar : zLV} {f : FuncId} {Q : Ending → World → Prop} {P : Value → Prop}
def Cy.below(a:Cy C E W w m)(b:A1 w.heap.size w w'):Cy C E W w' m:=⟨a.cu.below b,a.bel.trans<|b.mono a.cu.lo.2⟩
def Cy.le(a:Cy C E W w m)(b:k<=m:=by omega):Cy C E W w k:=⟨a.cu.le b,a.bel⟩
def Cy.run(a:Cy C E W w m)(h:Rq f ar k P)(H:∀v w',P v->Cy C E W w' (m-k)->Q (A9 v) w')(d:k<=m:=by omega):B0 V f (cV E::ar).toArray w Q:=
 (h a.cu d).mono λ_ w' ⟨v,g,e,b,c⟩=>g ▸ H v w' e ⟨b,a.bel.trans<|xC c a.cu.lo.1 a.cu.lo.2⟩
end
def awb{C E}(q:∀s:Bz,s.size<=65536->aj1 s)(h:Cq C E W m)(y:240000000000<=m):B0 V 37 #[cV E] W λe w'=>∃t:Bz,e=A9 (T t)/\t.size<=9000000/\Cy C E W w' (m-240000000000):=by
 have w:=avu h O;go_in;go_wp2_with fail;apply w.mono;rintro e w1 ⟨_,p,b,rfl,u,c,f,n,a⟩;have d:=yJ<|b.map Mb.N;have g:=λx=>by
  have l:=dj w1 x;have nd:=f.lw.nds;exact AB _ _ _ p _ (nd.below l) ((f.lw.kcap R).below nd l) (dm _) u (λo h=>by obtain⟨j,i,rfl⟩:=rm.1 h;exact(c j i).1) (λo h=>by obtain⟨j,i,rfl⟩:=rm.1 h;exact(c j i).2)
 have j:=ah<|Cy.mk n a;generalize M b=z at g;clear f c n a;generalize jv (b.map Mb.N)=P at g d;go_wp2_with fail;refine dd (g _) λ_ o=>?_;have i:=ah<|(j.out.below<|dj _ _).below o;go_wp2_with fail;apply(asd (q P d) d i.out.cu O).mono;rintro e _ ⟨t,rfl,v,r,a⟩;have l:=ah<|Cy.mk (r.le (k:=m-240000000000) O)<|i.out.bel.trans a;go_wp2;go_ret;exact⟨_,R,v,l⟩
def xi(w)(s:Bz)(al:s.size<=65536):B0 V 14 #[T s] w (TkP s w):=by
 have x:AF (w.alloc<|Y #[fe] 96) w.heap.size w.heap.size []:=⟨⟨_,au w _,onN⟩,O⟩;have b:=afc _ _ _ s x O;have l:A2 (A1 w.heap.size w<|w.alloc<|Y #[fe] 96):=dj w _;have e:A2 (nF s=ite (0<=(jz s).2.2) ([],(jz s).2.2) (ite ((feedL (jz s).2.1 6).2=true) ((jz s).1, -1) ([],(s.size:Nat)))):=rfl;obtain⟨⟨m,n,z⟩,p⟩:∃C,jz s=C:=⟨_,R⟩;rw[p]at b e;unfold ac7 at b;simp only at b e;have⟨_,f⟩:=aw<|M m;rw[f]at b;clear p x;go_in;go_wp2_with fail;generalize w.alloc (Y #[fe] 96)=ak at b l⊢;apply b.mono;rintro a af ⟨E,F,ad,A,rfl,i,h,k,j,_,_,_⟩;have r:=l.out.trans O;clear b;by_cases o:0<=z
 .have a:=e.out;rw[ae o]at a;have c:=ah a;clear i h k j a f;go_wp2;go_ret2;exact(⟨A3,0,by rw[c.out];rfl,by rw[c.out];exact onN,r⟩)
 .have a:=e.out;rw[aa o]at a;have g:=Cp af _ _ A n ad 6 h k j Z Z O;unfold xJ at g;obtain⟨_,u,_⟩:=h.ex;have d:=jG i u f;have⟨G,t⟩:=aw<|(feedL n 6).2;rw[t]at g a;have c:=ah a;clear a i h k j f u t;go_wp2_with fail;apply g.mono;rintro a _ ⟨_,D,rfl,K,L,_,v,_⟩;have q:=r.trans O;have y:=v.row d.2.1 d.1 Z Z;have B:=ah y;clear g K L v y;cases G with
  |true=>
   go_wp2;go_ret2;have a:=c.out;rw[ae trivial]at a;have H:(nF s).1=m:=by rw[a]
   exact(⟨E,F,by rw[a];simp only[d.out.2.2];rfl,by rw[H,d.out.2.2];exact B,q⟩)|false=>
   go_wp2;go_ret2;have a:=c.out;rw[aa I]at a;exact(⟨A3,0,by rw[a];rfl,by rw[a];exact onN,q⟩)
def PM(E:Pe):Tsk->Nat->Fo->Nat->Prop| .unit,i,R1,j=>CU E i R1 j| .expr p,i,R1,j=>CX E p i R1 j| .more p s x,i,R1,j=>∃m,Ms E (CX E) p s m x i R1 j| .base,i,R1,j=>CB E i R1 j| .post s x,i,R1,j=>∃m,Pss E (CX E 0) (CLx E) s m x i R1 j| .exprs,i,R1,j=>CLx E i R1 j| .moreE,i,R1,j=>∃m,Ls E (CX E 0) m i R1 j| .moreB,i,R1,j=>∃m,Ls E (CB E) m i R1 j| .stat,i,R1,j=>CI E 134 #[pV E] i R1 j| .stats,i,R1,j=>∃m,Ss E (CI E 134 #[pV E]) m i R1 j| .block,i,R1,j=>CK E i R1 j| .body s,i,R1,j=>CBd E s i R1 j| .entry,i,R1,j=>CI E 334 #[pV E] i R1 j| .entries,i,R1,j=>∃m,Es E (CI E 334 #[pV E]) m i R1 j| .branch,i,R1,j=>CBr E (E.tk i).k i R1 j
def awc(h:k=5\/k=6\/k=43):dv k=false:=by obtain rfl|rfl|rfl:=h<;>decide
def awd(h:lm k=true):k=25\/k=50\/k=62\/k=69:=by
 have:=aL h;omega
def brK{E}(h:CBr E (E.tk i).k i R1 j)(e:(E.tk i).k=k):CBr E k i R1 j:=e ▸ h
def ako{E}(y:∀q,(E.tk q).k<=78){t}(h:P E.tk E.n t i R1 j):PM E t i R1 j:=by
 induction h with
 |upre a b d c=>have:=d.pos;simp[dL]at this;exact ss<|.pre (awd a) R b c O O|uint a b=>exact ss<|.intg a b|uflt a b=>exact ss<|.word O a b|ustr a b=>exact ss<|.word O a b|unil a b=>exact ss<|.leaf O a b|utru a b=>exact ss<|.leaf O a b|ufls a b=>exact ss<|.leaf O a b|urst a b=>exact ss<|.leaf O a b|ufn a b d c=>exact ss<|.fn a b c|utab a b d e f c=>obtain⟨o,c⟩:=c;exact alK a b c e f
 |ubas a b d c=>exact ss<|.base a R b c|ex a b d e g m=>obtain⟨o,c⟩:=m;exact auC a b y g c
 |mstop a b=>exact⟨0,.stop a b⟩|mgo a b d e f m v=>obtain⟨o,c⟩:=v;have:=e.pos;simp[dL]at this;exact⟨_,.go a b d m O O c⟩
 |bname a b d c=>obtain⟨o,c⟩:=c;have:=d.pos;simp only[dL]at this;exact amo a b .name O c
 |@bopen i k j u x R1 a b d e f l g r=>
  obtain⟨o,c⟩:=r;have:=d.pos;have:=l.pos;simp only[dL]at *;by_cases p:u.k=34\/u.k=27
  .rw[show lI u x (E.tk i) (E.tk k).t=_ from ae p]at c;exact amo a b (.held g e O p R) O c
  .rw[show lI u x (E.tk i) (E.tk k).t=_ from aa p]at c;exact amo a b (.par g e O lr lr) O c
 |pstop a b=>exact⟨0,.stop a b⟩|pdot a b d e c=>obtain⟨o,c⟩:=c;have:=e.pos;exact⟨_,.dot a b O c⟩
 |psq a b d e f l g r=>obtain⟨o,c⟩:=r;have:=d.pos;simp[dL]at this;have:=l.pos;exact⟨_,.sq a b g e O c⟩
 |pcall0 a b d e c=>obtain⟨o,c⟩:=c;have:=e.pos;exact⟨_,.call0 a b O c⟩
 |pcall a b d e f l p m s=>obtain⟨o,c⟩:=s;have:=e.pos;simp[dL]at this;have:=p.pos;exact⟨_,.call a b d m f O c⟩
 |es a b A B=>obtain⟨o,c⟩:=B;exact aqk A c
 |estop a b=>exact⟨0,.stop a b⟩|ego a b d e g m=>obtain⟨o,c⟩:=m;exact⟨_,.go a b g c⟩
 |bstop a b=>exact⟨0,.stop a b⟩|bgo a b d e g m=>obtain⟨o,c⟩:=m;exact⟨_,.go a b g c⟩
 |@body i k j L H K G a b d e c=>
  have⟨o,z,C,_,F⟩:=Pt.of d;have:=e.pos;simp[dL]at this;obtain⟨w,rfl⟩:∃w,k=w+1:=⟨k-1,O⟩;exact auA a b z C F c O O
 |block a b d e f c=>obtain⟨o,c⟩:=c;exact ss<|.block a b (ag3 O e c) e f
 |sstop a b=>exact⟨0,.stop b⟩|ssep a b d c=>obtain⟨o,c⟩:=c;exact⟨_,.sep a b c⟩
 |sgo a b d e f l v r=>obtain⟨o,c⟩:=r;exact⟨_,.go a b d e v c⟩
 |nstop a b=>exact⟨0,.stop a b⟩|ncom a b d e f l g r=>obtain⟨o,c⟩:=r;exact⟨_,.com a b g e f c⟩
 |nlast a b d e f l g r=>obtain⟨o,c⟩:=r;exact⟨_,.last a b g e f c⟩
 |item a b d e f c=>have:=f.pos;simp[dL]at this;exact aaD d e<|.item a b c O O|pair a b d e f l p g s=>have:=d.pos;have:=p.pos;simp[dL]at *;exact aaD O O<|.pair a g e f l s O O|named a b d e f c=>have:=f.pos;simp[dL]at this;exact aaD O O<|.named a b d e c O O|belif a b d e f l p g m s=>have:=d.pos;have:=e.pos;have:=p.pos;simp[dL]at *;exact ju<|.belif a R b g m l f (brK s f) O O|belse a b d e f l p g m s=>have:=d.pos;have:=e.pos;have:=p.pos;simp[dL]at *;exact ju<|.belse a R b g m l f s O O|bno a b d e f l p g m=>have:=d.pos;have:=e.pos;simp only[dL]at *;exact ju<|.bno a R b g m O p f l|tlet0 a b d e f=>have:=e.pos;exact ju<|.let0 a O (zC d b e) O O f|tlet a b d e f l c=>have:=e.pos;have:=l.pos;simp[dL]at *;exact ju<|.let1 a O (zC d b e) O f c O O|@tcon i j ad a b d e f c=>have:=f.pos;simp[dL]at *;exact ju<|.con a O (zC b O<|.stop (by rw[d];decide) O) O d c O O|tfn a b d e f c=>have:=f.pos;simp[dL]at *;exact aq4 a b d e c O O|tif a b d c=>exact ju<|.iff a b<|brK c a|twhile a b d e g m=>have:=d.pos;have:=e.pos;simp[dL]at *;exact ju<|.whl a b g m O O|tfor a b d e f l p r s=>have:=e.pos;have:=l.pos;have:=p.pos;simp[dL]at *;exact ju<|.for_ a O<|ju<|.lfor a O (zC d b e) O f r s O O|teach a b d e f l p w z r F=>have:=e.pos;have:=l.pos;have:=z.pos;simp[dL]at *;exact ju<|.for_ a O<|ju<|.leach a O (zC d b e) O f r F O O|tbreak a b=>exact ju<|.leaf O a b|tnext a b=>exact ju<|.leaf O a b|tret0 a b d=>exact ju<|.ret0 a b<|awc d|tret a b d e c=>have:=e.pos;simp[dL]at *;exact ju<|.ret1 a b d c O O|ttry a b d e f l p w g C=>have:=d.pos;have:=p.pos;have:=w.pos;simp[dL]at *;exact ju<|.try_ a b g e O (zC l f p) C O O|tthrow a b d c=>have:=d.pos;simp[dL]at *;exact ju<|.thr a b c O O|tdefer a b d c=>have:=d.pos;simp[dL]at *;exact ju<|.dfr a b c O O|tblock a b d c=>exact ju<|.blk a b c|tdo a b d e f l c=>have:=d.pos;simp only[dL]at *;exact ju<|.smp a R b<|ac8 a R b c (.inl ⟨e,f,l,R,R⟩) O|tset a b d e f l p g m s=>obtain⟨o,m⟩:=m;have:=d.pos;have:=e.pos;have:=p.pos;simp only[dL]at *;exact ju<|.smp a R b<|ac8 a R b g (.inr ⟨_,_,_,o,by cases m with|stop _ _=>exact .inr f|go h _ _ _=>exact .inl h,m,f,l,s,O,O,rfl⟩) O
def JJ(w)(s:Bz)(c:65536<s.size)(b:s.size<=10000000):B0 V 5 #[T s] w (PsP w 2 0 []):=by
 have d:∀w:A5,(zeroValue 28).run V w= .ok (B4 #[zI 0,zI 0,fe]) w:=λw=>J;have a:(65536:Int)<(s.size:Int):=O;go_in;go_wp2;exact aA (fD R _ _ _ _ _ _ _ R (au w _) underlying28 R J) R<|⟨_,R,afA _,dj w _⟩
def abA(w s)(j:s.size<=65536){z}(l:0<=z)(a:aj1 s)(e:nF s=([],z)):B0 V 5 #[T s] w (PsP w 1 z []):=by
 have k:∀w:A5,(zeroValue 28).run V w= .ok (B4 #[zI 0,zI 0,fe]) w:=λw=>J;have i:¬(65536:Int)<(s.size:Int):=O;unfold aj1 TkP at a;rw[e]at a;clear e;have b:=dj w<|Y #[zI 0,zI 0,fe] 28;have c:=au w<|Y #[zI 0,zI 0,fe] 28;go_in;go_wp2_with fail;generalize w.alloc (Y #[zI 0,zI 0,fe] 28)=h at b c⊢;apply(a _).mono;rintro _ _ ⟨_,_,rfl,_,d⟩;have f:=(d.block _<|ai c).trans c;have g:=b.trans<|d.mono b.size;have⟨_,_,_,_⟩:=row3 f;clear a;go_wp2;exact aA (fD R _ _ _ _ _ _ _ R (set3 f _ _ _) underlying28 R J) R<|⟨_,R,afA _,KB g _ _ _⟩
def abB(w s)(b7:s.size<=65536){toks bD}(q:aj1 s)(a8:nF s=(toks, -1))(a3:PF s toks m R1 bD):B0 V 5 #[T s] w (PsP w (okC<|qG s R1) 0<|okN<|qG s R1):=by
 have b8:∀w:A5,(zeroValue 28).run V w= .ok (B4 #[zI 0,zI 0,fe]) w:=λw=>J;have b1:¬(65536:Int)<(s.size:Int):=O;unfold aj1 TkP at q;rw[a8]at q;clear a8;have⟨h,an⟩:=aw<|M toks;have a:=fs a3 an;simp[an]at q;clear a3 an;have af:=dj w<|Y #[zI 0,zI 0,fe] 28;have ao:=au w<|Y #[zI 0,zI 0,fe] 28;go_in;go_wp2_with fail;generalize w.alloc (Y #[zI 0,zI 0,fe] 28)=bF at af ao⊢;apply(q _).mono;rintro bt x ⟨k,f,rfl,bl,a5⟩;have ap:=(a5.block _<|ai ao).trans ao;have a7:=af.trans<|a5.mono af.size;have bd:h=m+1:=by rw[<-a.out.2];exact a.out.1.len
 obtain⟨u,A,rfl,bc,a9⟩:∃u A,k=Ax (aj u 0)/\x.heap[u]?=Ax (Y A 58 (0,0))/\TkR A (rJ toks) h:=by
  obtain⟨_,g⟩|⟨c,_,b,i,_,e,_,_,_,d⟩:=bl.2
  .omega
  .cases i;exact⟨c,b,R,e,anH d a.out.2 (λbE _ bf=>by rw[xe bf];exact⟨R,λ_=>rfl⟩)⟩
 obtain⟨bE,hS⟩:=ako (E:=⟨x.heap.size,x.heap.size+1,u,f,h,rJ toks⟩) a.out.1.k78<|bd ▸ a.out.1.p;have bk:=ar4 s x u f h m _ A _ bc a9 (by have:=a.out.1.le;omega) O (ag3 O (by show(rJ toks m).k=6;rw[a.out.1.end_]) hS) (by have:=a.out.1.sz;omega);clear hS;clear q bl bc a9 bd;go_wp2_with fail;apply bk.mono;rintro bt e ⟨bn,K,rfl,a0,am,a6⟩;have a1:dE e bn (qG s R1):=by have:=a0.nds;rw[am]at this;exact this
 have n:=(a6.block _<|ai ap).trans ap;have ak:=a7.trans<|a6.mono a7.size;obtain⟨y,G,B,rfl⟩:∃k h f,bn=S k h f:=by obtain⟨k,f,C⟩:=a1.form;exact⟨k,_,f,C⟩
 have bz:=a.out.1.ct;have b4:M (qG s R1)<=1048576:=by
  have:=a.out.1.sz;unfold qG;rw[Fo.flat_len,dh];omega
 have ax:=λr=>Bh _ _ _ (a1.below<|dj e r) O a.out.1.sm;have a4:A2 (Lw e x.heap.size (S y G B) K/\K.map Mb.N=qG s R1):=⟨a0,am⟩;have i:A2 (okC (qG s R1)=(if(bH<|qG s R1).1=0 then 0 else 2)/\okN (qG s R1)=(if(bH<|qG s R1).1=0 then qG s R1 else [])):=⟨R,R⟩;have⟨H,ar⟩:=aw<|(bH<|qG s R1).1;have⟨v,bj⟩:=aw<|(bH<|qG s R1).2;rw[ar]at i;simp only[ar,bj]at ax;have ba:=au e<|Y #[S y G B] 26;have l:=dj e<|Y #[S y G B] 26;have bA:=l.size;clear bk a1 ar bj bz a0 am;go_wp2_with fail;refine dd (ax _) λb z=>?_;have bb:=(z.block _<|ai ba).trans ba;have bh:=(z.block _<|ai<|(l.block _<|ai n).trans n).trans<|(l.block _<|ai n).trans n;have F:=(ak.trans<|l.mono ak.size).trans<|z.mono<|bK ak.size bA;have b0:=ai bb;clear ax;have t:∀(d:Nat)(L:zAV)(a2:TypeId)(ad:Nat×Nat)(r:Obj),b.heap[d]?=Ax (Y L a2 ad)->(b.alloc r).heap[d]?=Ax (Y L a2 ad):=λd L a2 ad r C=>((dj b r).block _<|ai C).trans C;have b5:w.heap.size≠e.heap.size:=by have:=ai n;omega
 by_cases g:H=0
 .subst g;have o:=t _ _ _ _ (Y #[zI 0,zI v] 49) bh;have⟨bo,br,bs,bw⟩:=row3 o;have b9:(b.alloc<|Y #[zI 0,zI v] 49).cell? ⟨e.heap.size,0,A3⟩=Ax (S y G B):=by rw[oe<|t _ _ _ _ _ bb];rfl
  have c:=i.out;rw[ae R,ae rfl]at c;have j:=ah c;have al:A1 w.heap.size w (b.alloc<|Y #[zI 0,zI v] 49):=F.trans<|(dj b _).mono F.size;clear c i t;go_wp2;exact aA (fD R _ _ _ _ _ _ _ R (set3 o _ _ _) underlying28 R J) R (by rw[j.out.1,j.out.2];exact⟨_,R,⟨K,_,a4.out.2,a4.out.1.mono λd _ bx=>(as4 (by have:=ai ap;omega) _ _ _).trans<|((dj b _).block d O).trans<|(z.block d O).trans<|l.block d bx⟩,KB al _ _ _⟩)
 .have o:=t _ _ _ _ (Y #[zI H,zI v] 49) bh;have⟨bo,br,bs,bw⟩:=row3 o;have c:=i.out;rw[aa g,aa g]at c;have j:=ah c;have bf:(H==0)=false:=by simpa using g
  have al:A1 w.heap.size w (b.alloc<|Y #[zI H,zI v] 49):=F.trans<|(dj b _).mono F.size;clear c i g t;go_wp2;exact aA (fD R _ _ _ _ _ _ _ R (set3 o _ _ _) underlying28 R J) R (by rw[j.out.1,j.out.2];exact⟨_,R,afA _,KB al _ _ _⟩)
def JK(w s)(h:s.size<=10000000)(g:Jl s c a ns):B0 V 5 #[T s] w (PsP w c a ns):=by
 cases g with
 |big b=>exact JJ w s b h|at_ b f d=>exact abA w s b f (λw=>xi w s b) d|ok b d e=>exact abB w s b (λw=>xi w s b) d e
def TkI(a:Tk):Prop:=(0<=a.k/\a.k<=78)/\Eo a.f/\Eo a.t/\Eo a.l/\Eo a.n
def NiB(N:Nd):Prop:=Eo N.k/\Eo N.f/\Eo N.t/\Eo N.l/\Eo N.op/\Eo N.n
def ayw:Tsk->Prop| .more _ s x=>TkI s/\x.all NiB| .post s B=>TkI s/\B.all NiB| .body s=>TkI s|_=>True
theorem nib{e b m s x nm}(a:TkI s)(d:Eo k)(c:Eo e)(g:Eo b)(f:Eo m):NiB (nd k s e b m x nm):=⟨d,a.2.1,c,a.2.2.2.1,g,f⟩
theorem ase{e s}(d:TkI s)(c:Eo e)(a:0<=k)(b:k<=78):NiB (uF k s e):=by
 grind [Eo,uv,uF,lF,nib]
theorem awe(k):Eo (acp k):=by
 grind [acp,uv]
theorem ao4{ks s e}(d:TkI s)(b:Eo e)(h:NiB N)(c:ks.all NiB):(lI N ks s e).all NiB:=by
 have a:Eo 0:=uv _ Z Z;unfold lI;split
 .rw[bu,bu];exact⟨nib d (uv _ Z Z) b a a,h,c⟩
 grind [bu]
theorem P.ni{tk}(g:n<=100000)(a:∀q,TkI<|tk q){t}(h:P tk n t i R1 j):ayw t->R1.all NiB:=by
 have c:=λq=>(a q).2.2.1;have f:=λq=>(a q).2.2.2.2
 induction h
 case mgo s x y R1 k k1 j h1 h2 h3 h4 h5 i1 i2=>intro b;exact i2 ⟨b.1,(bu _ _ _).2 ⟨ase b.1 (c _) (a k).1.1 (a k).1.2,(gx _ _ _).2 ⟨b.2,i1 trivial⟩⟩⟩
 case bopen h1 h2 h3 h4 h5 h6 i1 i2=>intro _;have:=i1 trivial;rw[bu]at this;exact i2 ⟨a _,ao4 (a _) (c _) this.1 this.2⟩
 case body nm r B h1 h2 h3 h4 ih=>
  intro b;rw[bu];exact⟨nib b (uv _ Z Z) (c _) (by grind [uv])<|uv _ Z Z,ih trivial⟩
 case tset x R1 E h1 h2 h3 h4 h5 h6 h7 i1 i2 i3=>
  intro _;have e:=h3.pos;have p2:=h4.pos;have d:=(x.app R1).len_le;rw[Fo.sz_app]at d;simp only[dL,slk,bas]at e p2;rw[bu,gx,gx];exact⟨nib (a _) (uv _ Z Z) (c _) (uv _ Z Z)<|uv _ O O,⟨i1 trivial,i2 trivial⟩,i3 trivial⟩
 all_goals
  intro b
  simp_all [bu,gx,ayw,Fo.all,nib,awe,lF,uv]
theorem ais(s)(o:s.size<=65536):∀(f:Nat)(t)(p)(l:Int)(d),p<=s.size->0<=l->l+f<=1000000->(∀a∈d,TkI a)->∀a∈(sJ s f t p l d).1,TkI a
 |0,t,p,l,d,n,g,v,h=>λa b=>by cases b
 |f+1,t,p,l,d,n,g,v,h=>by
  have k:∀(j:Tk),TkI j->∀a∈d++[j],TkI a:=λj g a b=>by
   grind [List.mem_singleton]
  have q:∀(i:Int)(p e:Nat)(r:Int)(u:Bz),p<=s.size->0<=i->i<=78->e<=s.size->Eo r->TkI ⟨i,(p:Nat),(e:Nat),l,r,u⟩:=λi p e r u z B C F x=>⟨⟨B,C⟩,uv p O O,uv e O O,uv l g O,x⟩;have m:=λE A=>(na s (s.size+1) E A).2;rw[sJ];split
  .exact k _ (q _ _ _ _ _ O Z Z O<|uv _ Z Z)
  .rename_i z;split
   .rename_i w;have c:=mH s p O (afa s p w).1;split
    .exact ais s o f _ _ _ _ (m _ c.2.1) O O (k _<|q _ _ _ _ _ n Z Z c.2.1<|atg s p)
    .exact ais s o f _ _ _ _ (m _ c.2.1) O O h
   .split
    .split
     .rename_i y;have c:=mH s p O y;exact ais s o f _ _ _ _ (m _ c.2.1) g O<|k _<|q _ _ _ _ _ n (ae9 s p).1 (ae9 s p).2 c.2.1<|atg s p
     .exact λa b=>by cases b
    .exact λa b=>by cases b
def ait:∀(R1:Fo)(b),∀z∈R1.tops b,0<=z/\z<=((b+R1.sz:Nat):Int)
 | .nil,b=>λz hz=>by cases hz
 | .cons N k r,b=>λz hz=>by
  rw[Fo.sz];obtain rfl|hz:=dI.1 hz
  .exact⟨O,O⟩
  .have:=ait r _ z hz;exact⟨O,O⟩
def abC:∀(R1:Fo)(b),∀N∈R1.flat b,∀z∈N.ks,0<=z/\z<=((b+R1.sz:Nat):Int)
 | .nil,b=>λN hN=>by cases hN
 | .cons c k r,b=>λN hN z a=>by
  rw[Fo.flat,dg,dI]at hN;rw[Fo.sz];obtain hN|rfl|hN:=hN
  .have:=abC k b N hN z a;exact⟨O,O⟩
  .have:=ait k b z a;exact⟨O,O⟩
  .have:=abC r _ N hN z a;exact⟨O,O⟩
theorem aeh:∀l,(∀s∈l,s.size<=1048576)->aiI l<=1048576*M l
 |[],_=>lg _|s::l,h=>by
  have c:=aeh l λb a=>h b<|dJ _ a;grind [List.mem_cons_self,aiI]
theorem aei:∀(l)(K),(∀N∈l,iE N)->ajd l+1048577*K<=1048577*cnt K l
 |[],K,_=>by simp[ajd,cnt]|N::l,K,h=>by
  have d:=aei l (nxt K N) λc b=>h c<|dJ _ b;have a:=h N bG;have e:=aeh _ a.ls;have f:=a.lx;grind [ab7,ajd,cnt,nxt,alc]
structure ayx (s:Bz) (c a:Int) (ns:zLD):Prop where
 len:M ns<=1048576
 sm:∀N∈ns,iE N
 int:∀N∈ns,oC N
 dz:(kG ns).size<=70368744177664
 cs:c=0\/c=1\/c=2
def Jf(s c a)(h:c=0\/c=1\/c=2):ayx s c a []:=⟨leZ,λd b=>(by cases b),λd b=>(by cases b),Z,h⟩
theorem Jl.nn(h:Jl s c a ns):ayx s c a ns:=by
 cases h with
 |big _=>simp[Jf]|at_ _ _ _=>simp[Jf]|@ok j L f K C l b=>
  by_cases k:(bH<|qG s f).1=0
  .have y:okC (qG s f)=0:=by unfold okC;rw[ae k]
   have g:okN (qG s f)=qG s f:=by unfold okN;rw[ae k]
   rw[y,g];have H:M (qG s f)<=200001:=by
    have:=b.sz;grind [qG,Fo.flat_len,dh]
   have E:j=(jz s).1:=by
    grind [nF]
   have z:∀i,TkI (rJ j i):=λi=>by
    unfold rJ;rw[ed];cases hq:j[i]? with
    |none=>
     have e:Eo (0:Int):=uv _ Z Z;exact⟨⟨Z,Z⟩,e,e,e,e⟩|some d=>
     have m:=db hq;rw[E]at m;exact ais s C _ _ _ _ _ (na s _ 0 O).2 Z O (λd l=>by cases l) d m
   have B:=b.p.ni (by have:=b.le;omega) z trivial;have m:∀d∈qG s f,oC d:=λd g=>by
    have e:Eo 0:=uv _ Z Z;have A:=abC _ _ d g;obtain⟨n,_⟩:=Dk NiB (λd _ h=>h) _ 0 ((bu _ _ f).2 ⟨⟨uv (1) Z Z,e,uv s.size O O,uv (1) Z Z,e,e⟩,B⟩) d g;obtain⟨o,q,r,t,u,v⟩:=n;refine⟨o,q,r,t,u,v,λG F=>?_⟩;have w:=A G F;have x:=b.sz;grind [dh]
   refine⟨O,b.sm,m,?_,.inl R⟩;have w:=aeH _ m λd g=>⟨(b.sm d g).l1,(b.sm d g).l2⟩;have x:=aei _ 1 b.sm;have e:=b.ct;omega
  simp_all [okN,qG,aa,okC,Jf]
def ao5(s p ks):∀f n,p+n<=s.size->p+wrL s p ks f n<=s.size
 |0,n,h=>h|f+1,n,h=>by
  rw[wrL];split
  .rename_i a;split
   .omega
   .exact ao5 s p ks f _ O
  .exact h
theorem ao6(s):∀(f)(a)(p)(l)(b),p<=s.size->(sJ s f a p l b).2.2<=(s.size:Int)
 |0,a,p,l,b,h=>by show(0:Int)<=_;omega|f+1,a,p,l,b,h=>by
  have c:=λg e=>(na s (s.size+1) g e).2;rw[sJ];split
  .grind [Int]
  .rename_i i;have d:=abr s p O;split
   .split<;>exact ao6 s f _ _ _ _<|c _ d.2
   .split
    .split
     .exact ao6 s f _ _ _ _ (c _ d.2)
     grind [rdI,Int]
    .have:=ao5 s p (Cs a) (s.size+1) 0 h;grind [wrongF,Cs,Nat,Int]
theorem Jl.le(h:Jl s c a ns):0<=a/\a<=(s.size:Int):=by
 cases h with
 |big _=>exact⟨Z,O⟩|@at_ f _ b d=>
  refine⟨b,?_⟩;have e:(jz s).2.2<=(s.size:Int):=ao6 s _ _ _ _ _ (na s _ 0 O).2;grind [nF]|ok _ _ _=>exact⟨Z,O⟩
