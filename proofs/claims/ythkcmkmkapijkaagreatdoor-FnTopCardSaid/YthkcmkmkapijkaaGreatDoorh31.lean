import Derived.Test.YthkcmkmkapijkaaGreatDoorh30
set_option linter.all false
set_option maxRecDepth 100000
set_option maxHeartbeats 12800000
open Go.Proofs.Tryz
open List renaming length->M,set->A5,replicate->E0
open Go renaming undef->Q,World->Ax,Value->A9,Calls->B2,grownBy_putObj'->B4,wpAnyH_ready->E3,TypeId->F2
open Option renaming some->T,none->Br
open Go.Proofs.Tryz renaming prog->V
open Go.Obj renaming cells->X
open Go.World renaming putObj_heap_other->Y
open Go.Value renaming slice->A0,string->B0,iface->B5,bool->B6,agg->B7,tuple->C2,nilIface->D1,pointer->D2,string->F1,int->G0
open Go.RowKit renaming Below->A1,Hid->B9,intOf->Fs
open Go.KeepsOthers renaming setCell->A2
open Go.Ending renaming returned->A3
open Bool renaming false->B1,true->F4
open Go.Lib renaming asciiSpaceTab->B3,TabIs->F0
open Go.AllReadyH renaming cons->E1,nil->E2
namespace Go.Proofs.YthkcmkmkapijkaaGreatDoor
open Go.RowKit
variable{B b base k n:Nat}{L:zLJ}{S:zLI}{W w:World}{a c:Int}{ns:zLD}{r:Loop}{vs:Value}
def adH(n l Bs b o)(a:zOA)(f:Nat->A9)(C:b<=3000)(B:b<=o)(c:Nat->Ax->Prop)(k:Ax->Prop)
  (q:∀m W,c m W->W.cell? (aj Bs 0)=T (A0 a b o))
  (y:∀m W,c m W->∀j,j<b->∃h,a=T h/\W.cell? (h.add j)=T (f j))
  (x:∀m W,m<b->c (m+1) W->YieldAt Fence.wide (n-1) V l #[zI (m:Int),f m] W λe d=>(e=A3 (B6 F4)/\c m d)\/(e=A3 (B6 B1)/\k d))
  (W) (p:c b W):
  CallsIn Fence.wide n V 269 #[.func (.yield l) #[] #[],be Bs 0] W λe d=>(∃v,e=A3 v)/\(c 0 d\/k d):=by
 have A:=q _ _ p;refine callsIn_of_wp func269 R trivial ?_ R;simp[iC,fh]
 gi_wp2
 gi_loopw [3] (λi wr=>∃d:Nat,d<=b/\i=zI ((d:Int)-1)/\c d wr) (λi _=>(Fs i+1).toNat)
 .exact⟨b,O,R,p⟩
 .
  obtain⟨d,_,rfl,g⟩:=hrel;have z:=q _ _ g;obtain rfl|hp:=F7 d
  .gi_wp2
   go_end0
   exact⟨⟨_,R⟩,.inl g⟩
  .obtain⟨m,rfl⟩:∃m,d=m+1:=⟨d-1,O⟩;obtain⟨h,rfl,_⟩:=y _ _ g m O;have⟨_,tmps,_,_,_,w⟩:=x m wr O g;have r:((m+1:Nat):Int)-1=(m:Int):=O;rw[r];have E:(m:Int)<(b:Int):=O;have F:(0:Int)<=(m:Int):=O
   gi_wp2
   refine⟨λs=>by simp[Fence.wide]at s,w.mono ?_⟩;rintro e _ (⟨rfl,t⟩|⟨rfl,u⟩)
   .gi_wp2
    go_roundw
    .exact⟨m,O,I,t⟩
    simp[Fs]
   .gi_wp2
    apply aA (fE R _ _ _) R;exact⟨⟨_,R⟩,.inr u⟩
def Dm(a:zOA)(c b w):
  B2 V 174 #[A0 a c b] w λe d=>e=A3 (.func (.func 269) #[] #[be w.heap.size 0])/\d=w.alloc (X #[A0 a c b] 126):=by
 apply calls_of_wp func174 R;simp[iC,fh];exact gwR
attribute [local go_sem] oJ
def aog:zON->A9|some i=> C2 #[zI (i:Int),B6 F4]|none=> C2 #[zI 0,B6 B1]
structure I2 (w:Ax) (B:Nat) (vs:A9) (n:Nat) (D:zLI) (W:Ax):Prop where
 bl:A1 w.heap.size w W
 row:W.ownsRow w.heap.size 3 1 (bI w.heap.size n n) n (D.map zI)
 bx:W.heap[B]?=T (.cells #[bI w.heap.size n n] 35 (0,0))
 bs:W.heap[B+1]?=T (.cells #[vs] 126 (0,0))
 ok:ajH n D
theorem I2.put{D}(h:I2 w B vs n D W)(b:w.heap.size<B)(c:B+1<k)(a:W.heap[k]?=T (.loop r))(o):I2 w B vs n D (W.putObj k o):=
 ⟨h.bl.grown (B4 W k o) h.bl.size (λ_ _=>U),ownsRow_putObj h.row o a R,(Y O).trans h.bx,(Y O).trans h.bs,h.ok⟩
structure avv (w:Ax) (B:Nat) (vs:A9) (n t:Nat) (ks D:zLI) (j:Nat) (E:zLI) (W0 W:Ax):Prop where
 st:I2 w B vs n E W
 rest:dpK t (ks.drop j) E=dpK t ks D
 kf:KeepsFrom (B+2) W0 W
theorem Ei{e size:Nat}{v}{xs:zLV}(h:W.ownsRow base e size v n xs):∃a b,v=A0 a n b:=by
 obtain⟨rfl,_⟩|⟨_,b,_,rfl,_⟩:=h.2;all_goals grind
theorem adI{e size m c:Nat}{a:zOA}{xs:zLV}(h:W.ownsRow base e size (A0 a n c) m xs):n=m:=by
 have⟨_,_,e⟩:=Ei h;grind
def oy.at{g c}(h:oy W base (bI g n c) L){i x}(a:L[i]?=T x):W.cell? (aj g i)=T (B5 (nC<|eG x.N.k)<|be x.b 0):=by
 have e:=(dr.1 a).1;have d:=adI h.row;subst d;rw[h.row.cellAt i O,cJ,a];rfl
theorem oy.kidAt(h:oy W base vs L){i x}(d:L[i]?=T x){g c}(m:x.kv=bI g n c){j z}(f:x.N.ks[j]?=T z):
  ∃q a,z=((q:Nat):Int)/\q<i/\L[q]?=T a/\W.cell? (aj g j)=T (B5 (nC<|eG a.N.k)<|be a.b 0):=by
 have⟨z0,_⟩:=h.rng i x z d U;obtain⟨q,rfl⟩:=iJ z0;have o:=(dr.1 d).1;have p:=(dr.1 f).1;have e:q<i:=O;refine⟨q,L[q]'(O),R,e,U,?_⟩;have a:=h.kid i x d;rw[m]at a;have l:=adI a;subst l;rw[a.cellAt j O];unfold sD;rw[cJ,f];simp only[BL,rj];rw[zh,ae e,bm O];rfl
theorem JF(w b6 ba L)(a3:oy w b6 ba L)(p:zLD)(cB:L.map Im.N=p)(n)(ca:M L=n)(d4:1<=n)(v:n<=3000)(cx:∀x∈L,M x.N.ks<=200):
  B2 V 70 #[ba] w λe l=>e=A3 (aog<|jc (jK<|Ji p) n 0)/\A1 w.heap.size w l:=by
 obtain⟨f,g,rfl⟩:∃f bb,ba=bI f n bb:=by
  obtain⟨h,_⟩|h:=aC a3.row;all_goals grind
 have ck:n<=g:=by
  obtain⟨v,_⟩|⟨d3,ds,dz,v,_,_,d5,_⟩:=a3.row.2;all_goals grind
 have⟨es,cr,c1,c2,eq⟩:=dw tD;have⟨a0,bj⟩:=aw<|jc (jK<|Ji p) n 0;rw[bj];have q:=Lx a3 cB ca bj cx;apply mC (n:=5).1;refine callsIn_of_wp_marks func70 R trivial ?_ R;simp[iC,fh];apply lH.2;go_wp2_with (first|(at_make;apply FK _ R _ _ _ R _ 3 _ _ 1 underlying35 cr c1 c2 _ _ _ _ n R R R R U byM eE;intro C a7 G)|(go_at_call 174;apply(Dm _ n _ _).mono;rintro e ew ⟨rfl,rfl⟩));rename_i df b9;have cg:A1 w.heap.size w C:=⟨G.os,G.tape,G.output,G.size,λi cu=>G.block i cu I⟩;rw[show(madeCells (zI 0).cells<|n*1).toList=E0 n (zI 0) by rw[zm];exact FG _ n]at a7;have a8:=(a7.lt w.heap.size R).2;have⟨d,bd⟩:=aw C.heap.size;have B:I2 w d (bI f n g) n (E0 n 0) ((C.alloc<|X #[bI w.heap.size n n] 35).alloc<|X #[bI f n g] 126):=by
  refine⟨(cg.alloc O _).alloc lr _,?_,?_,?_,?_⟩
  .rw[List.map_replicate];exact(a7.alloc _).alloc _
  .exact(alO lr).trans (by rw[<-bd];exact au _ _)
  .have:=au (C.alloc<|X #[bI w.heap.size n n] 35)<|X #[bI f n g] 126
   simp_all
  .refine⟨I,λr ak a5=>?_⟩;grind
 have K:((C.alloc<|X #[A0 (T ⟨w.heap.size,0,Br⟩) n n] 35).alloc<|X #[A0 (T ⟨f,0,Br⟩) n g] 126).heap.size=d+2:=lr;rw[bd]at a8⊢;generalize (C.alloc<|X #[bI w.heap.size n n] 35).alloc (X #[bI f n g] 126)=dn at B K⊢;apply(lH (n:=5)).1;refine zw (P:=V) (gf:=269) (lb:=#[be (d+1) 0]) R (enters_of func269 byR R)
  (λ(a:Nat)=>#[zI a,match L[a]? with|some x=> B5 (nC<|eG x.N.k) (be x.b 0)|none=> D1]) (λ_=>rfl) n
  (λa b=>∃D,I2 w d (bI f n g) n D b/\dpN p a D=Ji p)
  (λa E b=>(∃D,I2 w d (bI f n g) n D b/\dpN p (a+1) D=Ji p)/\∃x,L[a]?=T x/\
   E={tmps:=#[bI f n g,Q,zI 0,B6 B1,be d 0,zI (a:Int),B5 (nC<|eG x.N.k)<|be x.b 0,Q,Q,Q,Q,
    bI f n g,zI (n:Int),bI w.heap.size n n,bI f n g,.func (.func 269) #[] #[be (d+1) 0],zI (a:Int),B5 (nC<|eG x.N.k)<|be x.b 0,
    Q,Q,Q,Q,Q,Q,Q,Q,Q,Q,Q,Q,Q,Q,Q,Q,Q,Q,Q,Q,Q,Q,Q,Q,Q,Q,Q,Q,Q,Q,Q,Q,Q,Q],defers:=[]})
  (λ_=>False)
  ?pZ ?pAx ?pX ?h0 ?assign ?body ?seq ?done ?ret
 .
  rintro a b c3 a9 ⟨D,h,o⟩ H;rw[K]at H⊢;exact⟨D,h.put a8 O H a9,o⟩
 .
  rintro a E b c3 a9 ⟨⟨D,h,o⟩,x,s,rfl⟩ H;rw[K]at H⊢;exact⟨⟨D,h.put a8 O H a9,o⟩,x,s,R⟩
 .grind
 .
  intro dq al en;have ch:=B.bl.trans<|al.mono O;exact⟨_,⟨ch,cj B.row al,(al.block _ O).trans B.bx,(al.block _ O).trans B.bs,B.ok⟩,by rw[Ji,<-q.out.2.1,dm,q.out.2.2.1]⟩
 .
  rintro ar a b dk an ⟨D,h,o⟩ bh;have⟨x,s⟩:=bg q.2.2.1 an;rw[s]at⊢;have c9:=λE=>bh E b;have m:=jG h o s
  gi_wp2
  exact bh _ _ U<|KeepsFrom.refl _ _
 .
  rintro ar a E b an ⟨⟨D,h,o⟩,x,s,rfl⟩;rw[K];have bk:=ag h.bl (q.1.box a x s).cells.2.2.2.2.1;have am:=q.1.kid a x s;have⟨b4,d0,A⟩:=Ei am;rw[A]at bk;have cw:=q.2.2.2.2 x U;have⟨ad,bt⟩:=aw<|M x.N.ks;rw[bt]at bk cw A;have cF:p[a]?=T x.N:=U;have cm:dpN p a (dpK a x.N.ks D)=Ji p:=by
   rw[dpN,ed,cF,li]at o;exact o
  have m:=Cg s cm bt A;have da:B9 (avv w d (bI f n g) n a x.N.ks D 0 D b b):=⟨h,R,KeepsFrom.refl _ _⟩;have a6:=λw=>H8 x.N.k x.b w;have ei:(a:Int)<(n:Int):=O;have eh:(0:Int)<=(a:Int):=O;have bD:=λb5 w=>CallsIn.inRound ar<|mC (n:=2).2<|eD b5 w;generalize nC (eG x.N.k)=ev at a6⊢
  gi_wp2_with (refine⟨trivial,?_⟩;gi_at_call 404;apply(bD _ _).mono;rintro e af ⟨rfl,bz⟩;subst af)
  gi_loopw [24] (λz c6=>∃(r:Nat) (t:zLI),r<=ad/\z=zI r/\B9 (avv w d (bI f n g) n a x.N.ks D r t b c6)) (λz _=>ad-(Fs z).toNat)
  .grind
  .
   obtain⟨r,t,a5,rfl,k⟩:=hrel;by_cases cs:r<ad
   .have ec:(r:Int)<(ad:Int):=O;have ea:(0:Int)<=(r:Int):=O;have⟨ak,ap⟩:=bg m.2.2.1 cs;have A:=m.2.2.2;obtain⟨gk,cp⟩:∃gk,b4=T (aj gk 0):=by
     have am:=q.1.kid a x m.1;rw[A]at am;obtain⟨h,_⟩|⟨gk,bb,h⟩:=aC am;all_goals grind
    subst cp;obtain⟨c,u,rfl,cI,bA,cl⟩:=(q.1.below<|k.st.bl).kidAt m.1 A ap;have bw:=ag k.st.bl (q.1.box c u bA).cells.2.2.2.1;have⟨j,bn⟩:=bg k.st.ok.1 an;have⟨b8,cn⟩:=bg k.st.ok.1 (O:c<n);have d9:=k.st.ok.2 a _ bn;have F:I2 w d (bI f n g) n t wr.drew:=⟨k.st.bl.drew,k.st.row,k.st.bx,k.st.bs,k.st.ok⟩;have ao:=F.row;have bc:wr.drew.cell? (aj w.heap.size a)=T (zI j):=by rw[ao.cellAt a O,cJ,bn];rfl
    have dx:wr.drew.cell? (aj w.heap.size c)=T (zI b8):=by rw[ao.cellAt c O,cJ,cn];rfl
    have d2:=ao.frozenAt c;have bo:t.getD a 0=j:=U;have bE:=(ao.stored c<|zI<|j+1).1;rw[<-List.map_set]at bE;have bF:=k.st.ok.set a c an cI;rw[bo]at bF;have c0:dpK a (x.N.ks.drop<|r+1) (t.set c<|j+1)=dpK a x.N.ks D:=by
     have v:=k.rest;have br:=(dr.1 ap);rw[my br.1,br.2,dpK,bo]at v;exact v
    have a1:wr.drew.cell? (aj d 0)=_:=dB F.bx;have c4:I2 w d (bI f n g) n (t.set c<|j+1) (wr.drew.setCell (aj w.heap.size c)<|zI<|j+1):=
     ⟨F.bl.setCell eE _,bE,(jg U).trans F.bx,(jg U).trans F.bs,bF⟩
    have b0:B9 (avv w d (bI f n g) n a x.N.ks D (r+1) (t.set c<|j+1) b<|wr.drew.setCell (aj w.heap.size c)<|zI<|j+1):=⟨c4,c0,k.kf.trans<|((KeepsOthers.drew _).from _).trans<|(A2 _ _ _).from _⟩;have ek:c≠a:=O;have eo:IntKind.i64.wrap (j+1)=j+1:=by rw[du];omega
    have ep:=ai<|q.1.box c u bA;have cd:(wr.drew.setCell (aj w.heap.size c)<|zI<|j+1).cell? ⟨d,0,Br⟩=T (bI w.heap.size n n)/\(wr.drew.setCell (aj w.heap.size c)<|zI<|j+1).cell? ⟨u.b,4,Br⟩=T (zI (c:Int))/\(wr.drew.setCell (aj w.heap.size c)<|zI<|j+1).cell? ⟨w.heap.size,a,Br⟩=T (zI j):=
     ⟨(World.cell?_setCell_far _ _ _ _ U).trans a1,(World.cell?_setCell_far _ _ _ _ U).trans bw,(World.cell?_setCell_other _ _ _ _ U).trans bc⟩
    have em:(c:Int)<(n:Int):=O;have el:(0:Int)<=(c:Int):=O;have a6:=λw=>H8 u.N.k u.b w;generalize nC (eG u.N.k)=c5 at a6 cl
    gi_wp2_with (refine⟨trivial,?_⟩;gi_at_call 404;refine(bD _ _).mono ?_;rintro e af ⟨rfl,bz⟩;subst af)
    have cc:wr.drew.cell? (aj d 0)=T (bI w.heap.size n n)/\wr.drew.cell? (aj u.b 4)=T (zI (c:Int))/\wr.drew.cell? (aj w.heap.size a)=T (zI j):=⟨a1,bw,bc⟩;refine wy (S:=λl=>l.cell? _=T _/\l.cell? _=T _/\l.cell? _=T _) byR J (λ⟨_,_,h⟩=>h) cc (λhS=>?_);apply aI 0 (bI w.heap.size n n) R R hS (λl ⟨_,_,_⟩=>by go_simp);simp only[A5];apply aI 1 (B5 c5<|be u.b 0) R R hS (λl ⟨_,_,_⟩=>by go_simp);simp only[A5];apply aI 6 (bI w.heap.size n n) R R hS (λl ⟨_,_,_⟩=>by go_simp);simp only[A5];apply aI 7 (zI a) R R hS (λl ⟨_,_,_⟩=>by go_simp);simp only[A5];apply aI 8 (be w.heap.size a) R R hS (λl ⟨_,_,_⟩=>by go_simp);simp only[A5];apply aI 9 (zI j) R R hS (λl ⟨_,_,_⟩=>by go_simp);simp only[A5];apply aI 10 (zI<|j+1) R R hS (λl ⟨_,_,_⟩=>by go_simp);simp only[A5];refine E3 (rs:=[2]) J I<|E1 R (λb3 a2=>?_) E2;go_simp;refine dd (eD _ _) λaf bz=>?_;subst af;refine a2 _ _ hS (λhS=>?_);simp only[cA,cC];apply aI 3 (be u.b 0) R R hS (λl ⟨_,_,_⟩=>by go_simp);simp only[A5];apply aI 4 (be u.b 4) R R hS (λl ⟨_,_,_⟩=>by go_simp);simp only[A5];apply aI 5 (zI c) R R hS (λl ⟨_,_,_⟩=>by go_simp);simp only[A5];apply aI 11 (be w.heap.size c) R R hS (λl ⟨_,_,_⟩=>by go_simp);simp only[A5];refine E3 (rs:=[12]) J I<|E1 R (λb3 a2=>?_) E2;go_simp;refine a2 _ _ cd (λhS=>?_);refine wpAnyH_done byR ?_ _
    gi_wp2
    exact⟨⟨_,_,O,by go_num,b0⟩,by simp[Fs];omega⟩
   .obtain rfl:r=ad:=O;have a4:B9 (I2 w d (bI f n g) n t wr/\dpN p a t=Ji p/\KeepsFrom (d+2) b wr):=by
     refine⟨k.st,?_,k.kf⟩;have v:=k.rest;rw[lG O,dpK]at v;grind
    gi_wp2
    exact⟨a4.2.2,t,a4.1,a4.2.1⟩
 .
  intro ar b2 dc bf cf b ce;refine adH 4 ar _ n _ (T<|aj f 0) _ v ck b2 _ (λa b h=>?_) (λa b h r a5=>?_) cf b ce
  .have⟨D,o,_⟩:=bf a b h;exact dB o.bs
  .have⟨D,o,_⟩:=bf a b h;have⟨x,s⟩:=bg q.2.2.1 a5;refine⟨_,R,?_⟩;rw[yF,s];exact ag o.bl<|q.1.at s
 case ret=>grind
 .
  rintro b ⟨D,h,o⟩ d7;have d8:D=Ji p:=o;apply b9 _ _;have a1:=dB h.bx;have m:B9 (I2 w d (bI f n g) n D b/\b.heap[d+2]?=T (.deferred<|T [])):=U;have c7:Bg (jK D) (n-0) 0 a0:=⟨U⟩;have d6:w.heap.size<d+2:=O;rw[K];go_wp2;go_loop [43] (λz=>∃i:Nat,i<=n/\z=zI i/\Bg (jK D) (n-i) i a0) (λz=>n-(Fs z).toNat)
  .grind
  .
   obtain⟨i,ef,rfl,b1⟩:=hrel;have y:=b1.out;by_cases cy:i<n
   .have eg:(i:Int)<(n:Int):=O;have ee:(0:Int)<=(i:Int):=O;have⟨ak,ap⟩:=bg m.1.ok.1 cy;have d1:b.cell? (aj w.heap.size i)=T (zI ak):=by rw[m.out.1.row.cellAt i O,cJ,ap];rfl
    rw[(O:n-i=(n-(i+1))+1),jc]at y;have b7:jK D i=decide (100<ak):=by unfold jK;grind
    rw[b7]at y;by_cases er:100<ak
    .rw[ae U]at y;have ax:=ah y.symm;go_wp2_with fail;refine⟨I,.inl ⟨_,_,R,run_takeDeferred m.2,?_⟩⟩;refine⟨_,results_tmp2 R _ _ _,by rw[ax.out];rfl,?_⟩;exact m.1.bl.grown (B4 b _ _) m.1.bl.size U
    .rw[aa U]at y;have c8:Bg (jK D) (n-(i+1)) (i+1) a0:=⟨y⟩;go_wp2;go_round
     .grind
     simp[Fs];omega
   .obtain rfl:i=n:=O;rw[iI,jc]at y;have ax:=ah y.symm;go_wp2_with fail;refine⟨I,.inl ⟨_,_,R,run_takeDeferred m.2,?_⟩⟩;refine⟨_,results_tmp2 R _ _ _,by rw[ax.out];rfl,?_⟩;exact m.1.bl.grown (B4 b _ _) m.1.bl.size U
attribute [local go_sem] oJ
def abe(S:zLI)(n:Nat):zON->A9|some i=> C2 #[zI (i:Int),B6 F4]|none=> C2 #[zI<|(n:Int)-1,B6<|decide (S.getD (n-1) 0<(n:Int))]
structure Fz (w:Ax) (B n:Nat) (S:zLI) (c:zLN) (W:Ax):Prop where
 bl:A1 w.heap.size w W
 r0:W.heap[w.heap.size]?=T (.cells #[zI 0] 3 (0,0))
 r1:W.heap[w.heap.size+1]?=T (.cells #[.bool B1] 4 (0,0))
 row:W.ownsRow w.heap.size 3 1 (bI (w.heap.size+1+1) n n) n (S.map zI++E0 (n-M S) (zI 0))
 bx:W.heap[B]?=T (.cells #[bI (w.heap.size+1+1) n n] 35 (0,0))
 mks:xn (w.heap.size+1+1+1) c W
def Fz.below{c b}(h:Fz w B n S c W)(a:A1 W.heap.size W b):Fz w B n S c b:=
 ⟨h.bl.trans<|a.mono h.bl.size,(a.block _<|ai h.r0).trans h.r0,(a.block _<|ai h.r1).trans h.r1,cj h.row a,(a.block _<|ai h.bx).trans h.bx,h.mks.below a⟩
def Fz.put{c}(h:Fz w B n S c W)(f:w.heap.size+1<B)(g:B<k)(b:W.heap[k]?=T (.loop r))(o):Fz w B n S c (W.putObj k o):=
 ⟨h.bl.grown (B4 W k o) h.bl.size (λ_ e=>by cases e;omega),(Y O).trans h.r0,(Y O).trans h.r1,ownsRow_putObj h.row o b R,(Y O).trans h.bx,
  ⟨h.mks.nd,h.mks.lo,λa d=>(Y (by rintro rfl;have:=(h.mks.at_ a d).symm.trans b;cases this)).trans<|h.mks.at_ a d⟩⟩
structure abf (w:Ax) (B n:Nat) (S:zLI) (c:zLN) (sz k:Nat) (kv:A9) (a:Int) (W:Ax):Prop where
 oo:Fz w B n S c W
 b5:W.heap[sz]?=T (.cells #[zI (k:Int)] 3 (0,0))
 b7:W.heap[sz+1]?=T (.cells #[zI<|a-1] 3 (0,0))
 b8:W.heap[sz+1+1]?=T (.cells #[kv] 126 (0,0))
def abf.put{c b d}(h:abf w B n S c b k d a W)(e:w.heap.size+1<B)(i:B<b){j}(g:b+1+1<j)(f:W.heap[j]?=T (.loop r))(o):abf w B n S c b k d a (W.putObj j o):=
 ⟨h.oo.put e O f o,(Y O).trans h.b5,(Y O).trans h.b7,(Y O).trans h.b8⟩
def Aw{fn}{p q:Tmp}{t u}(h:fn.results=#[.cell p t,.cell q u])(tmps:zAV)(P w a b v c)(f:tmps.getD p Q=D2 (T a))(i:tmps.getD q Q=D2 (T b))
  (d:(loadVar t a).run P w= .ok v w) (e:(loadVar u b).run P w= .ok c w):(results fn tmps).run P w= .ok (C2 #[v,c]) w:=by
 have g:tmps[p]?.getD Q=D2 (T a):=by simpa using f
 have j:tmps[q]?.getD Q=D2 (T b):=by simpa using i
 simp only[results,h];simp[g,j,asAddr,d,e]
def adJ(w a z)(h:w.cell? a=T (G0 .i64 z)):(loadVar 3 a).run V w= .ok (G0 .i64 z) w:=by go_simp
def KG(w a z)(h:w.cell? a=T (B6 z)):(loadVar 4 a).run V w= .ok (B6 z) w:=by go_simp
def arw(a b):∃t,jh (a++b)=jh a++t:=by
 refine C1 (p:=λb=>∃t,jh (a++b)=jh a++t) ⟨[],I⟩ (λ_ _ ⟨t,c⟩=>?_) b;rw[<-fL,wK,c];exact⟨_,fL _ _ _⟩
def adK{N}(h:ns[k]?=T N):jh (ns.take<|k+1)=jh (ns.take k)++[sx (jh<|ns.take k) k N.ks]:=by
 have a:=(dr.1 h).1;rw[gD,h];show jh (ns.take k++[N])=_;rw[wK,mJ,mA,Lr O]
theorem aoh{N}(h:ns[k]?=T N):(jh ns).getD k 0=sx (jh<|ns.take k) k N.ks:=by
 have c:=(dr.1 h).1;have⟨_,a⟩:=arw (ns.take<|k+1)<|ns.drop<|k+1;rw[BE,adK h]at a;have b:M (jh<|ns.take k)=k:=by rw[mJ,mA,Lr O]
 rw[a,ed,fL,jI O,b];simp
def aoi(L:zLJ)(ks:zLI)(m:Nat):A9:=match ks[m]? with
 |some c=>(match L[c.toNat]? with|some a=> B5 (nC<|eG a.N.k) (D2<|T ⟨a.b,0,Br⟩)|none=> D1)
 |none=> D1
def aif{ks}{m q:Nat}{a}(c:ks[m]?=T (q:Int))(d:L[q]?=T a):aoi L ks m=B5 (nC<|eG a.N.k) (be a.b 0):=by
 unfold aoi;rw[c];simp[d]
structure avw (w:Ax) (c:zLN) (k:Nat) (W:Ax):Prop where
 bl:A1 w.heap.size w W
 r0:W.heap[w.heap.size]?=T (.cells #[zI (k:Int)] 3 (0,0))
 r1:W.heap[w.heap.size+1]?=T (.cells #[.bool F4] 4 (0,0))
 mks:xn (w.heap.size+1+1+1) c W
theorem I3(w e3 cI L)(a4:oy w e3 cI L)(q:zLD)(d5:L.map Im.N=q)(n)(b1:M L=n)(g4:1<=n)(v:n<=3000)(d2:∀x∈L,M x.N.ks<=200):
  B2 V 69 #[cI] w λe p=>e=A3 (abe (jh q) n<|jc (gw<|jh q) n 0)/\A1 w.heap.size w p:=by
 obtain⟨am,ao,rfl⟩:∃am k,cI=A0 _ n k:=by
  obtain⟨h,_⟩|h:=aC a4.row
  .omega
  .rw[<-b1];exact h
 have g7:n<=ao:=by
  obtain⟨v,_⟩|⟨ff,e4,e6,v,_,_,fg,_⟩:=a4.row.2
  .cases v
  .cases v;omega
 have⟨ht,ca,f3,f4,hp⟩:=dw tD;have⟨a8,b2⟩:=aw<|jc (gw<|jh q) n 0;rw[b2];have i:=Lx a4 d5 b1 b2 d2;clear a4 d5 b1 b2 d2;apply mC (n:=5).1;refine callsIn_of_wp_marks func69 R trivial ?_ R;simp[iC,fh];apply lH.2;go_wp2_with (at_make;apply FK _ R _ _ _ R w.heap.size 3 _ _ 1 underlying35 ca f3 f4 _ _ _ _ n R R R R U byM lr;intro a2 bd a5);rename_i gd fm;have a9:A1 ((w.alloc<|X #[G0 .i64 0] 3).alloc<|X #[B6 B1] 4).heap.size ((w.alloc<|X #[G0 .i64 0] 3).alloc<|X #[B6 B1] 4) a2:=⟨a5.os,a5.tape,a5.output,a5.size,λa d1=>a5.block a d1 I⟩;rw[show(madeCells (zI 0).cells<|n*1).toList=E0 n (zI 0) by rw[zm];exact FG _ n]at bd;simp[dC]at bd a9;have fF:w.heap.size+1+1<a2.heap.size:=(bd.lt _ R).2;have bA:Fz w a2.heap.size n [] [] (a2.alloc<|X #[bI (w.heap.size+1+1) n n] 35):=by
  refine⟨?_,?_,?_,?_,au _ _,⟨zo,λl hb=>by simp at hb,λl hb=>by simp at hb⟩⟩
  .exact((((ay _ w).alloc O _).alloc I _).trans<|a9.mono O).alloc O _
  .exact(alO O).trans ((a9.block _ O).trans<|(alO I).trans<|au w _)
  .refine(alO O).trans ((a9.block _ O).trans ?_);have:=au (w.alloc<|X #[zI 0] 3)<|X #[B6 B1] 4;rw[dC]at this;exact this
  .exact bd.alloc _
 have⟨s,da⟩:=aw a2.heap.size;have dc:s<(a2.alloc<|X #[A0 (T ⟨w.heap.size+1+1,0,Br⟩) n n] 35).heap.size:=lr;rw[da]at bA fF⊢;generalize a2.alloc (X #[bI (w.heap.size+1+1) n n] 35)=e0 at bA dc⊢;clear bd a5 a9 da;have c4:B9 (Fz w s n (jh<|q.take 0) [] e0/\jc (gw<|jh q) (n-0) 0=a8/\∀(af:Nat) r,(jh<|q.take 0)[af]?=T r->1<=r):=⟨bA,i.2.2.2.1,λaf r h=>by simp[jh]at h⟩;clear bA;refine(lH (n:=5)).1 (wpIn_loop (λal d=>∃(a:Nat) (k:zLN),a<=n/\s<d.heap.size/\B9 (Fz w s n (jh<|q.take a) k d/\jc (gw<|jh q) (n-a) a=a8/\∀(af:Nat) r,(jh<|q.take a)[af]?=T r->1<=r)/\
  ∃es et ev ee ef eg eh ei ek el en eo ep eq er cs ct cu cw cx cy cF:A9,al={tmps:=#[bI am n ao,Q,be w.heap.size 0,be (w.heap.size+1) 0,be s 0,es,et,ev,Q,Q,Q,bI am n ao,zI (n:Int),bI (w.heap.size+1+1) n n,bI am n ao,zI (n:Int),zI (a:Int),ee,ef,eg,eh,ei,ek,el,en,eo,ep,eq,er,Q,Q,Q,Q,Q,Q,Q,Q,Q,Q,Q,Q,Q,Q,Q,Q,cs,ct,cu,cw,cx,cy,cF,Q,Q,Q,Q,Q,Q,Q,Q,Q,Q,Q],defers:=k.map Ea}) (λal _=>n-(Fs<|al.tmps.getD 16 Q).toNat) ?start ?round)
 .exact⟨0,_,O,dc,c4,_,_,_,_,_,_,_,_,_,_,_,_,_,_,_,_,_,_,_,_,_,_,R⟩
 .
  rintro al d ⟨a,k,d1,b0,m,es,et,ev,ee,ef,eg,eh,ei,ek,el,en,eo,ep,eq,er,cs,ct,cu,cw,cx,cy,cF,rfl⟩;clear c4;apply lH.2;by_cases d3:a<n
  .have g8:(a:Int)<(n:Int):=O;have fx:(0:Int)<=(a:Int):=O;have⟨x,a7⟩:=bg i.2.2.1 d3;have dz:=ag m.1.bl<|i.1.at a7;have b6:=ag m.1.bl (i.1.box a x a7).cells.2.2.2.2.1;have H:=i.1.kid a x a7;have⟨z,F,bz⟩:=Ei H;have fy:=i.2.2.2.2 x U;have⟨E,cb⟩:=aw<|M x.N.ks;rw[bz]at b6;rw[cb]at b6 fy bz;have t:=jG a7 bz cb;have bc:=λw=>H8 x.N.k x.b w;have f2:=jm (ai<|i.1.box a x a7) m.1.bl.size;generalize nC (eG x.N.k)=cr at bc dz;clear a7 H bz cb;go_wp2_with (first|(go_at_call 404;apply(eD _ _).mono;rintro e br ⟨rfl,d8⟩;subst br)|(go_at_call 174;apply(Dm _ _ _ _).mono;rintro e f9 ⟨rfl,a0⟩;subst f9));rename_i ge dk;have⟨S,hS⟩:=aw<|jh<|q.take a;have⟨ak,b3⟩:=aw<|Af S x.N.ks.reverse a;rw[hS]at m;have⟨g,bh⟩:=aw d.heap.size;have bf:abf w s n S k g a (A0 z E F) (a:Int) (((d.alloc<|X #[zI (a:Int)] 3).alloc<|X #[zI<|(a:Int)-1] 3).alloc<|X #[A0 z E F] 126):=by
    refine⟨m.1.below<|(((ay _ d).alloc O _).alloc I _).alloc lr _,?_,?_,?_⟩
    .exact(alO lr).trans ((alO lr).trans (by rw[<-bh];exact au d _))
    .apply(alO lr).trans;have:=au (d.alloc<|X #[zI a] 3)<|X #[zI<|a-1] 3;rw[dC,bh]at this;exact this
    .have:=au ((d.alloc<|X #[zI a] 3).alloc<|X #[zI<|a-1] 3)<|X #[A0 z E F] 126;rw[dC,dC,bh]at this;exact this
   have a1:(((d.alloc<|X #[G0 .i64 (a:Int)] 3).alloc<|X #[G0 .i64<|(a:Int)-1] 3).alloc<|X #[A0 z E F] 126).heap.size=g+1+1+1:=lr;rw[bh]at b0 f2⊢;generalize ((d.alloc<|X #[zI (a:Int)] 3).alloc<|X #[zI<|(a:Int)-1] 3).alloc (X #[A0 z E F] 126)=gn at bf a1⊢;have dx:∀l∈k,l<g:=λl hb=>by rw[<-bh];exact(mE.1<|m.1.mks.at_ l hb).1
   have d6:q[a]?=T x.N:=by rw[<-i.out.2.1,cJ,t.out.1];rfl
   have ba:(jh q).getD a 0=sx S a x.N.ks:=by rw[aoh d6,hS]
   clear dz b6 bc;apply(lH (n:=5)).1;refine zw (P:=V) (gf:=269) (lb:=#[be (g+1+1) 0]) R (enters_of func269 J R)
    (λ(c:Nat)=>#[zI c,aoi L x.N.ks c]) (λ_=>rfl) E
    (λc d=>∃b:Int,abf w s n S k g a (A0 z E F) b d/\0<=b/\b<=(a:Int)/\Af S (x.N.ks.take c).reverse b=ak)
    (λc al d=>(∃b:Int,abf w s n S k g a (A0 z E F) b d/\0<=b/\b<=(a:Int)/\Af S (x.N.ks.take<|c+1).reverse b=ak)/\al={tmps:=#[bI am n ao,Q,be w.heap.size 0,be (w.heap.size+1) 0,be s 0,be g 0,B5 cr<|be x.b 0,be (g+1) 0,Q,aoi L x.N.ks c,Q,bI am n ao,zI (n:Int),bI (w.heap.size+1+1) n n,bI am n ao,zI (n:Int),zI (a:Int),B6 F4,zI (a:Int),be am a,B5 cr<|be x.b 0,zI (a:Int),zI<|(a:Int)-1,B5 cr<|be x.b 0,be x.b 0,be x.b 0,be x.b 5,A0 z E F,.func (.func 269) #[] #[be (g+1+1) 0],zI (c:Int),aoi L x.N.ks c,Q,Q,Q,Q,Q,Q,Q,Q,Q,Q,Q,Q,Q,Q,cs,ct,cu,cw,cx,cy,cF,Q,Q,Q,Q,Q,Q,Q,Q,Q,Q,Q],defers:=[]})
    (λd=>avw w k a d/\ak=Br)
    ?pZ ?pAx ?pX ?h0 ?assign ?body ?seq ?done ?ret
   .
    rintro c d eb bk ⟨b,h,ad⟩ ax;rw[a1]at ax⊢;exact⟨b,h.put O b0 O ax bk,ad⟩
   .
    rintro c al d eb bk ⟨⟨b,h,ad⟩,rfl⟩ ax;rw[a1]at ax⊢;exact⟨⟨b,h.put O b0 O ax bk,ad⟩,R⟩
   .
    rintro d eb bk ⟨h,cf⟩ ax;rw[a1]at ax⊢;exact⟨⟨h.bl.grown (B4 d _ bk) h.bl.size U,(Y O).trans h.r0,(Y O).trans h.r1,
     ⟨h.mks.nd,h.mks.lo,λl u=>(Y U).trans<|h.mks.at_ l u⟩⟩,cf⟩
   .
    intro gm hb hf;refine⟨_,⟨bf.oo.below hb,(hb.block _ O).trans bf.b5,(hb.block _ O).trans bf.b7,(hb.block _ O).trans bf.b8⟩,fx,O,?_⟩;rw[ci (by rw[t.out.2.2];exact fG _)];exact b3
   .
    rintro cl c d bt u ⟨b,h,ad⟩ ap;have ew:B9 (∃b:Int,abf w s n S k g a (A0 z E F) b d/\0<=b/\b<=(a:Int)/\Af S (x.N.ks.take<|c+1).reverse b=ak):=⟨b,h,ad⟩;clear h ad
    gi_wp2
    exact ap _ _ ⟨ew,R⟩<|KeepsFrom.refl _ _
   case seq=>
    intro cl eL gb df fq d fo;have fz:E<=F:=by
     have H:=i.1.kid a x t.1;rw[t.out.2.1,t.out.2.2]at H;obtain⟨v,c9⟩|⟨ff,e4,e6,v,_,_,fg,_⟩:=H.2
     .omega
     .cases v;omega
    refine adH 4 cl _ _ _ z _ O fz eL _ (λc d h=>?_) (λc d h af ar=>?_) fq d fo
    .have⟨b,ad,_⟩:=df c d h;exact dB ad.b8
    .have⟨b,ad,_⟩:=df c d h;have⟨r,A⟩:=bg t.2.2 ar;obtain⟨gk,ba⟩:∃gk,z=T (aj gk 0):=by
      have H:=i.1.kid a x t.1;rw[t.out.2.1]at H;obtain⟨h,_⟩|⟨gk,k,h⟩:=aC H
      .rw[t.out.2.2]at h;omega
      .cases h;exact⟨_,R⟩
     obtain⟨f,C,rfl,d7,bj,bw⟩:=i.1.kidAt t.1 (by rw[t.out.2.1,ba]) A;refine⟨_,ba,?_⟩;rw[yF,aif A bj];exact ag ad.oo.bl bw
   .
    rintro cl c al j u ⟨⟨b,h,fr,fu,y⟩,rfl⟩;rw[a1];have⟨r,A⟩:=bg t.2.2 u;obtain⟨gk,fv⟩:∃gk,z=T (aj gk 0):=by
     have H:=i.1.kid a x t.1;rw[t.out.2.1]at H;obtain⟨h,_⟩|⟨gk,k,h⟩:=aC H
     .rw[t.out.2.2]at h;omega
     .cases h;exact⟨_,R⟩
    obtain⟨f,C,rfl,d7,bj,bw⟩:=i.1.kidAt t.1 (by rw[t.out.2.1,fv]) A;rw[aif A bj];have fA:=ag h.oo.bl (i.1.box f C bj).cells.2.2.2.1;have ho:=ai<|i.1.box f C bj;have G:M S=a:=by rw[<-hS,mJ,mA,<-i.out.2.1,dm,i.out.2.2.1];omega
    have⟨B,a6⟩:=bg G d7;have hg:=m.2.2 f _ a6;have hh:B<=(f:Int)+1:=by
     have fB:JA S:=by
      rw[<-hS];refine Be _ (λN a4 r A=>?_);have⟨ch,ca,e⟩:=iD<|Ce a4;have bb:(L.map Im.N)[ch]?=T N:=by rw[i.out.2.1,bm ca,e]
      rw[cJ]at bb;cases hLi:L[ch]? with
      |none=>rw[hLi]at bb;cases bb
      |some f8=>
       rw[hLi]at bb;obtain rfl:=de bb;exact(i.1.rng ch f8 r hLi A).1
     exact(fB f _ a6).2
    have b9:S.getD f 0=B:=by rw[ed,a6];rfl
    have a0:(if(f:Int)=b-1/\B≠0 then Af S (x.N.ks.take c).reverse (b-B) else Br)=ak:=by
     rw[gD,A,Ll,List.reverse_append]at y;show _=ak;rw[<-y];show _=Af S ((f:Int)::(x.N.ks.take c).reverse) b;rw[Af,rj,b9]
    have gt:=dB h.b5;have bF:=dB h.b7;have c6:=dB h.oo.bx;have an:=h.oo.row;have e5:j.cell? (aj (w.heap.size+1+1) f)=T (zI B):=by
     rw[an.cellAt f O,nH U,cJ,a6];rfl
    have cn:=dB h.oo.r0;have cp:=dB h.oo.r1;have fb:j.frozen? (aj w.heap.size 0)=B1:=frR h.oo.r0;have fc:j.frozen? (aj (w.heap.size+1) 0)=B1:=frR h.oo.r1;have fd:j.frozen? (aj (g+1) 0)=B1:=frR h.b7;have bc:=λw=>H8 C.N.k C.b w;have o:j.drew.cell? (aj (g+1) 0)=T (zI<|b-1)/\j.drew.cell? (aj C.b 4)=T (zI (f:Int)):=⟨bF,fA⟩;have c0:=ah h;generalize nC (eG C.N.k)=ec at bc⊢;by_cases ce:(f:Int)=b-1
    .rw[ae O]at a0;have bs:=ah a0;clear a0 y A bw h a6 b9 G an;have fa:b=(f:Int)+1:=O;subst fa;have c8:(f:Int)+1-1=(f:Int):=O;rw[c8]at bF o;clear ce c8;have he:(f:Int)<(n:Int):=O;have hc:(0:Int)<=(f:Int):=O
     gi_wp2
     refine wy (S:=λp=>p.cell? _=T _/\p.cell? _=T _) J J (λ⟨_,_,h⟩=>h) o (λo=>?_);apply aI 0 (B5 ec<|be C.b 0) R R o (λp ⟨_,_⟩=>by go_simp);simp only[A5];apply aI 5 (zI f) R R o (λp ⟨_,_⟩=>by go_simp);simp only[A5];refine E3 (rs:=[1]) J I<|E1 R (λbt ap=>?_) E2;go_simp;refine dd (eD _ _) λbr d8=>?_;subst br;refine ap _ _ o (λo=>?_);clear ap bt;simp only[cA,cC];apply aI 2 (be C.b 0) R R o (λp ⟨_,_⟩=>by go_simp);simp only[A5];apply aI 3 (be C.b 4) R R o (λp ⟨_,_⟩=>by go_simp);simp only[A5];apply aI 4 (zI f) R R o (λp ⟨_,_⟩=>by go_simp);simp only[A5];apply aI 6 (B6 B1) R R o (λp ⟨_,_⟩=>by go_simp);simp only[A5];refine wpAnyH_done J ?_ _
     gi_wp2
     have g6:j.drew.cell? (aj (g+1) 0)=T (zI (f:Int))/\j.drew.cell? (aj (w.heap.size+1+1) f)=T (zI B)/\j.drew.cell? (aj s 0)=T (bI (w.heap.size+1+1) n n)/\j.drew.frozen? (aj (g+1) 0)=B1:=⟨bF,e5,c6,fd⟩;have hn:IntKind.i64.wrap ((f:Int)-B)=(f:Int)-B:=by rw[du];omega
     have K:=c0.out;have g9:g+1≠w.heap.size+1+1:=O;have d0:abf w s n S k g a (A0 z E F) ((f:Int)+1-B) (j.setCell (aj (g+1) 0)<|zI<|(f:Int)-B).drew.drew:=by
      have e9:(f:Int)+1-B-1=(f:Int)-B:=O;refine⟨⟨(K.oo.bl.setCell U _).drew.drew,(jg lr).trans K.oo.r0,(jg lr).trans K.oo.r1,?_,(jg lr).trans K.oo.bx,(K.oo.mks.keeps<|A2 _ _ _).keeps<|(KeepsOthers.drew _).trans<|KeepsOthers.drew _⟩,(jg I).trans K.b5,?_,(jg I).trans K.b8⟩
      .exact(show(j.setCell (aj (g+1) 0)<|zI<|(f:Int)-B).ownsRow _ _ _ _ _ _ from K.oo.row.kept (grownBy_setCell' j (g+1) _) (.inr (by simp[Value.ownBlock];omega)))
      .rw[e9];exact aD _ _ 0 _ _ _ K.b7
     have eF:B9 (alr (g+1+1+1) j (λd=>∃b:Int,abf w s n S k g a (A0 z E F) b d/\0<=b/\b<=(a:Int)/\Af S (x.N.ks.take c).reverse b=ak) (λd=>avw w k a d/\ak=Br) .normal {tmps:=#[],defers:=[]} (j.setCell (aj (g+1) 0)<|zI<|(f:Int)-B).drew.drew):=
      ⟨(((A2 _ _ _).trans<|KeepsOthers.drew _).trans<|KeepsOthers.drew _).from _,_,d0,O,O,bs⟩
     clear c0 bs t i m bc o K d0
     gi_region
     all_goals exact eF
    .rw[aa (λe=>ce e.1)]at a0;have bs:=ah a0;have ds:avw w k a ((j.drew.setCell (aj w.heap.size 0)<|zI (a:Int)).setCell ⟨w.heap.size+1,0,Br⟩<|B6 F4):=
      ⟨((h.oo.bl.drew.setCell I _).setCell I _),(jg I).trans<|aD _ _ 0 _ _ _ h.oo.r0,aD _ _ 0 _ _ _<|(jg I).trans h.oo.r1,
       ((h.oo.mks.keeps<|KeepsOthers.drew j).keeps<|A2 _ _ _).keeps (A2 _ _ _)⟩
     have ey:=ah ds;have gz:((f:Int)==b-1)=B1:=by rw[fC];exact ce
     clear a0 y A bw h a6 b9 G an ds
     gi_wp2
     refine wy (S:=λp=>p.cell? (aj (g+1) 0)=T (zI<|b-1)/\p.cell? (aj C.b 4)=T (zI (f:Int))) J J (λ⟨_,_,h⟩=>h) o (λo=>?_);refine aI 0 (B5 ec<|be C.b 0) R R o (λp ⟨bn,bo⟩=>by go_simp) ?_;simp only[A5];refine aI 5 (zI<|b-1) R R o (λp ⟨bn,bo⟩=>by go_simp) ?_;simp only[A5];refine E3 (rs:=[1]) J I<|E1 R (λbt ap=>?_) E2;go_simp;refine dd (eD _ _) λbr d8=>?_;subst br;refine ap _ _ o (λo=>?_);clear ap bt;try simp only[Act.put,cA,cH,cC]
     refine aI 2 (be C.b 0) R R o (λp ⟨bn,bo⟩=>by go_simp) ?_;simp only[A5];refine aI 3 (be C.b 4) R R o (λp ⟨bn,bo⟩=>by go_simp) ?_;simp only[A5];refine aI 4 (zI (f:Int)) R R o (λp ⟨bn,bo⟩=>by go_simp) ?_;simp only[A5];refine aI 6 (B6 F4) R R o (λp ⟨bn,bo⟩=>by go_simp) ?_;simp only[A5];refine wpAnyH_done J ?_ _
     gi_wp2
     exact⟨(((KeepsOthers.drew j).from _).trans<|(A2 _ _ _).from _).trans<|(A2 _ _ _).from _,ey,bs.out.symm⟩
   case ret=>
    rintro j ⟨h,cf⟩ a3;rw[a1]at a3⊢;have fn:a8=T a:=by
     have v:=m.2.1;rw[(O:n-a=(n-(a+1))+1),jc,ae]at v
     .exact v.symm
     .unfold gw;rw[ba];unfold sx;rw[b3,cf];rfl
    show LeavesInM _ _ _ _ _ _ (((g+1+1+1)::k).map Ea) .returning j;refine rz (w.heap.size+1+1+1) _ j ⟨List.nodup_cons.2 ⟨λu=>by have:=dx _ u;omega,h.mks.nd⟩,λl hb=>?_,λl hb=>?_⟩ (λbE y=>?_)
    .rcases dI.1 hb with rfl|hb
     .omega
     .exact h.mks.lo l hb
    .rcases dI.1 hb with rfl|hb
     .exact a3
     .exact h.mks.at_ l hb
    .have cc:∀l∈(g+1+1+1)::k,w.heap.size+1+1+1<=l:=λl hb=>by
      obtain rfl|hb:=dI.1 hb
      .omega
      .exact h.mks.lo l hb
     have cn:=(y.same w.heap.size (λu=>by have:=cc _ u;omega)).trans h.r0;have cp:=(y.same (w.heap.size+1) (λu=>by have:=cc _ u;omega)).trans h.r1;refine⟨_,Aw R _ _ _ ⟨w.heap.size,0,Br⟩ ⟨w.heap.size+1,0,Br⟩ _ _ R R (adJ _ _ _<|dB cn)<|KG _ _ _<|dB cp,?_,y.below h.bl (λl hb=>by have:=cc l hb;omega) eE⟩;rw[fn];rfl
   .
    rintro j ⟨b,h,fr,fu,y⟩ a3;rw[a1]at a3⊢;have dn:ak=T b:=by rw[<-y];rfl
    have cg:sx S a x.N.ks=(a:Int)-(b-1):=by unfold sx;rw[b3,dn];show(a:Int)-b+1=_;omega
    have G:M S=a:=by rw[<-hS,mJ,mA,<-i.out.2.1,dm,i.out.2.2.1];omega
    have an:=h.oo.row;have gu:j.cell? (aj (w.heap.size+1+1) a)=T (zI 0):=by
     rw[an.cellAt a O,jI lr,dm,G,iI,agl,ae O]
    have g3:=an.frozenAt a;have cm:=(an.stored a<|zI<|(a:Int)-(b-1)).1;rw[G,Ku S n a ((a:Int)-(b-1)) G d3]at cm;have b4:jh (q.take<|a+1)=S++[(a:Int)-(b-1)]:=by rw[adK d6,hS,cg]
    have d4:xn (w.heap.size+1+1+1) ((g+1+1+1)::k) j:=⟨List.nodup_cons.2 ⟨λu=>by have:=dx _ u;omega,h.oo.mks.nd⟩,λl hb=>by
      obtain rfl|hb:=dI.1 hb
      .omega
      .exact h.oo.mks.lo l hb,λl hb=>by
      obtain rfl|hb:=dI.1 hb
      .exact a3
      .exact h.oo.mks.at_ l hb⟩
    have cd:Fz w s n (S++[(a:Int)-(b-1)]) ((g+1+1+1)::k) (j.setCell (aj (w.heap.size+1+1) a)<|zI<|(a:Int)-(b-1)):=
     ⟨h.oo.bl.setCell lr _,(jg lr).trans h.oo.r0,(jg I).trans h.oo.r1,by rw[aG,G];exact cm,(jg lr).trans h.oo.bx,d4.keeps<|A2 _ _ _⟩
    have ex:B9 (Fz w s n (jh<|q.take<|a+1) ((g+1+1+1)::k) (j.setCell (aj (w.heap.size+1+1) a)<|zI<|(a:Int)-(b-1))/\jc (gw<|jh q) (n-(a+1)) (a+1)=a8/\∀(af:Nat) r,(jh<|q.take<|a+1)[af]?=T r->1<=r):=by
     refine⟨by rw[b4];exact cd,?_,λaf r ar=>?_⟩
     .have v:=m.2.1;rw[(O:n-a=(n-(a+1))+1),jc,aa]at v
      .exact v
      .unfold gw;rw[ba,cg];simp;omega
     .rw[b4]at ar;obtain g1|g1:=cG af a
      .rw[nH O]at ar;exact m.2.2 af r ar
      .rw[jI O]at ar;have⟨v,c9⟩:=dr.1 ar;simp at v c9;omega
    have gp:=dB h.oo.bx;have gr:=dB h.b5;have gs:=dB h.b7;have fl:=ai cd.bx;have g5:((a:Int)-(b-1))<=3001/\1<=((a:Int)-(b-1)):=O;refine dk _ _ ?_;clear dn cg G an cm b4 d4 cd h y a3 dk fm m;go_wp2;exact⟨⟨a+1,(g+1+1+1)::k,O,fl,ex,_,_,_,_,_,_,_,_,_,_,_,_,_,_,_,_,_,_,_,_,_,_,R⟩,by simp[Fs];omega⟩
  .obtain rfl:a=n:=O;have ha:¬(a:Int)<(a:Int):=O;obtain⟨c,rfl⟩:∃c,a=c+1:=⟨a-1,O⟩;have hS:jh (q.take<|c+1)=jh q:=by rw[ci (by rw[<-i.out.2.1,dm,i.out.2.2.1];exact fG _)]
   rw[hS]at m;have G:M (jh q)=c+1:=by rw[mJ,<-i.out.2.1,dm,i.out.2.2.1]
   obtain⟨r,A⟩:=bg G (O:c<c+1);have dq:a8=Br:=by have:=m.2.1;rw[iI,jc]at this;exact this.symm
   have d9:(jh q).getD c 0=r:=by rw[ed,A];rfl
   have bD:=jG m.1 dq d9;have gv:d.cell? (aj (w.heap.size+1+1) c)=T (zI r):=by
    rw[m.out.1.row.cellAt c O,nH lr,cJ,A];rfl
   have c6:=dB m.1.bx;have cn:=dB m.1.r0;have cp:=dB m.1.r1;have fb:d.frozen? (aj w.heap.size 0)=B1:=frR m.1.r0;have fc:d.frozen? (aj (w.heap.size+1) 0)=B1:=frR m.1.r1;have g0:(c:Int)+1-1=(c:Int):=O;have hu:(0:Int)<=(c:Int):=O;have hv:(c:Int)<(c:Int)+1:=O;clear A d9 dq hS m i;go_wp2_with fail;have hA:w.heap.size≠s:=O;have hC:w.heap.size+1≠s:=O;have hE:w.heap.size≠w.heap.size+1+1:=O;have hG:w.heap.size+1≠w.heap.size+1+1:=O;go_region_held3 (λp=>p.cell? (aj s 0)=T (bI (w.heap.size+1+1) (c+1)<|c+1)/\p.cell? (aj (w.heap.size+1+1) c)=T (zI r)) (go_keep) (fail)
   all_goals go_wp2_with fail
   have h:=bD.1;show LeavesInM _ _ _ _ _ _ (k.map Ea) .returning _;refine rz (w.heap.size+1+1+1) k _ (((h.mks.keeps<|A2 _ _ _).keeps<|A2 _ _ _).keeps<|KeepsOthers.drew _) (λbE y=>?_);have f5:bE.heap[w.heap.size]?=T (X #[zI (c:Int)] 3 (0,0)):=(y.same _ (λu=>by have:=h.mks.lo _ u;omega)).trans<|(jg I).trans<|aD _ _ 0 _ _ _ h.r0;have f6:bE.heap[w.heap.size+1]?=T (X #[B6<|decide (r<(c:Int)+1)] 4 (0,0)):=(y.same _ (λu=>by have:=h.mks.lo _ u;omega)).trans<|aD _ _ 0 _ _ _<|(jg I).trans h.r1;refine⟨_,Aw R _ _ _ ⟨w.heap.size,0,Br⟩ ⟨w.heap.size+1,0,Br⟩ _ _ R R (adJ _ _ _<|dB f5)<|KG _ _ _<|dB f6,?_,y.below (((h.bl.setCell I _).setCell I _).drew) (λl hb=>by have:=h.mks.lo l hb;omega) eE⟩;have e8:((c+1:Nat):Int)=(c:Int)+1:=O;rw[bD.out.2.1];simp only[abe,qm,bD.out.2.2,e8,Int.add_sub_cancel]
open Go.Maps Go.WideMaps
def mq{fn}{p q:Tmp}{u}(h:fn.results=#[.tmp p,.cell q u])(tmps:zAV)(P w a v b)(d:tmps.getD p Q=v)(f:tmps.getD q Q=D2 (T a))
  (c:(loadVar u a).run P w= .ok b w):(results fn tmps).run P w= .ok (C2 #[v,b]) w:=by
 have e:tmps[p]?.getD Q=v:=by simpa using d
 have g:tmps[q]?.getD Q=D2 (T a):=by simpa using f
 simp only[results,h];simp[e,g,asAddr,c]
def ud(w b c n)(h:mL b w c n):(loadVar 49 ⟨b,0,Br⟩).run V w= .ok (B7 #[zI c,zI n]) w:=
 FL w b 49 49 _ _ _ h underlying49 R J
def adL(w:Ax)(a:zLD)(e:Ending)(c:Ax):Prop:=
 A1 w.heap.size w c/\
 (((bH a).1≠0/\e=A3 (C2 #[D1,B7 #[zI (bH a).1,zI (bH a).2]]))\/
  (bH a=(0,0)/\∃base vs L b,e=A3 (C2 #[nV b,B7 #[zI 0,zI 0]])/\L[M a-1]?=T b/\L.map Im.N=a/\oy c base vs L/\∀b∈L,bv w b.vn b.N.nm))
def ad0(w v b)(h:dE w v b)(t:M b<=1048576)(m:iL b=F4):
  B2 V 31 #[B7 #[v]] w λe a=>e=A3 (C2 #[D1,B7 #[zI 1,zI 0]])/\A1 w.heap.size w a:=by
 obtain⟨_,_,rfl⟩:=h.form;have g:=λf q=>((ay _ w).alloc eE f).alloc I q;have p:=λf y E=>by
  have:=au (w.alloc f)<|X y E;rw[dC]at this;exact this
 have n:=aL m;by_cases c:M b=0
 .rw[c];go_in;go_wp2;exact aA (mq R _ _ _ _ _ _ R R<|ud _ _ 1 0<|p _ _ _) R ⟨R,g _ _⟩
 by_cases d:3000<M b
 .obtain⟨a,i⟩:∃a:Nat,M b=a+1:=⟨M b-1,O⟩;rw[i]at d t⊢;have z:decide ((a:Int)<0)=B1:=bq O;have A:(3000:Int)<=(a:Int):=O;have C:(0:Int)<=(a:Int):=O;clear h m n c d i;go_in;go_wp2;exact aA (mq R _ _ _ _ _ _ R R<|ud _ _ 1 0<|p _ _ _) R ⟨R,g _ _⟩
 .have B:(b.getD (M b-1) zNd).k≠1:=by obtain e|e|e:=n;exact absurd e c;exact absurd e d;exact e
  have o:M b-1<M b:=O;obtain⟨r,l⟩:∃r,b[M b-1]?=T r:=⟨_,bm o⟩;rw[ed,l,li]at B;obtain⟨_,rfl,_,_,s⟩:=h.get l;have j:=s.c0;have⟨x,u⟩:=aw<|M b;rw[u]at j c d t o⊢;obtain⟨a,i⟩:∃a:Nat,x=a+1:=⟨x-1,O⟩;subst i;rw[qm]at j;have F:((a+1:Nat):Int)-1=(a:Int):=O;have C:(0:Int)<=(a:Int):=O;have z:decide ((a:Int)<0)=B1:=bq O;have A:decide ((3000:Int)<=(a:Int))=B1:=bq O;have H:(a:Int)<(a:Int)+1:=O;have G:=λf q=>ag (g f q) j;clear h m n c d l s u o;go_in;go_wp2;exact aA (mq R _ _ _ _ _ _ R R<|ud _ _ 1 0<|p _ _ _) R ⟨R,g _ _⟩
structure arx (w0:Ax) (lb mb:Nat) (vs:A9) (L:zLJ) (W:Ax):Prop where
 bl:A1 w0.heap.size w0 W
 lk:Lk W lb mb vs
 ns:oy W w0.heap.size vs L
def mL.keep{a n}(h:mL b W c n)(d:A1 B W a)(e:b<B):mL b a c n:=(d.block _ e).trans h
theorem avx(c):BB c≠49:=by
 unfold BB;grind
def oy.setFt(h:oy W base vs L){n}(g:mL b W c n)(f:b<base)(j v):oy (W.setCell (aj b j) v) base vs L:=
 ⟨jo h.row f _,λe a d=>(za W ⟨b,j,Br⟩ a.b v<|ut (h.box e a d) (show W.heap[b]?=T (X #[zI c,zI n] 49 (0,0)) from g)<|avx _).trans<|h.box e a d,λe a d=>jo (h.kid e a d) f _,h.far,h.rng⟩
def oy.putFt(h:oy W base vs L){n}(e:mL b W c n)(d:b<base)(a n2):oy ((W.setCell (aj b 0)<|zI a).setCell ⟨b,1,Br⟩<|zI n2) base vs L:=
 (h.setFt e d 0 _).setFt (c:=a) (n:=n) (aD _ b 0 _ _ _ e) d 1 _
structure az6 (w:Ax) (v:A9) (w0:Ax):Prop where
 tb:w0.heap[w.heap.size]?=T (.cells #[v] 26 (0,0))
 fb:mL (w.heap.size+1) w0 0 0
 bl:A1 w.heap.size w w0
 sz:w0.heap.size=w.heap.size+1+1
def afK(d:A9->Prop)(w:Ax)(a:zLD)(e:Ending)(c:Ax):Prop:=
 A1 w.heap.size w c/\
 (((bH a).1≠0/\e=A3 (C2 #[D1,B7 #[zI (bH a).1,zI (bH a).2]]))\/
  (bH a=(0,0)/\∃base vs L b,e=A3 (C2 #[nV b,B7 #[zI 0,zI 0]])/\L[M a-1]?=T b/\L.map Im.N=a/\oy c base vs L/\∀b∈L,bv w b.vn b.N.nm/\d b.vn))
theorem abg(L w v d)(cI:∀(bj n c i N) (b3),v=A0 (T bj) n c->d[i]?=T N->w.cell? ⟨(bj.add<|i*9).block,(bj.add<|i*9).off+7,Br⟩=T b3->L b3)(h:dE w v d)(eg:M d<=1048576)(da:∀N∈d,iE N)(c6:qy w)(dc fr)(cF:w.heap[2]?=T (X iA dc fr))
  (c9:∀W,A1 w.heap.size w W->F0 V W "strings.asciiSpace" .u8 B3) (bt:iL d=B1):
  B2 V 31 #[B7 #[v]] w (afK L w d):=by
 have dk:=ah cI;clear cI;obtain⟨_,c,rfl⟩:=h.form;have d9:=jJ bt;have ar:=jG h da bt;have a3:=jG c6 cF c9;have cz:¬(M d)=0:=O;have cB:¬3000<M d:=O;have bn:(d.getD (M d-1) zNd).k=1:=by
  omega
 obtain⟨N,E⟩:∃N,d[M d-1]?=T N:=⟨_,bm O⟩;rw[ed,E,li]at bn;obtain⟨ds,rfl,b3,_,c5⟩:=h.get E;have av:=c5.c0;rw[bn]at av;have ec:=λb0 b1=>((ay _ w).alloc eE b0).alloc I b1;have⟨n,bE⟩:=aw<|M d;have C:=ah bE;rw[bE]at ar av cz cB⊢;obtain⟨a,eh⟩:∃a:Nat,n=a+1:=⟨n-1,O⟩;have c8:n-1=a:=O;rw[c8]at av;have ex:a<3000:=O;have et:((a+1:Nat):Int)-1=(a:Int):=O;have ey:(0:Int)<=(a:Int):=O;have eq:decide ((a:Int)<0)=B1:=U;have er:decide ((3000:Int)<=(a:Int))=B1:=U;have eF:(a:Int)<(a:Int)+1:=O;have ee:=λb0 b1=>ag (ec b0 b1) av;clear h bt d9 cz cB bn E c5 bE eg da c6 cF c9 c8 av;subst eh;go_in;go_wp2_with fail;generalize c4:(w.alloc _).alloc _=u;have⟨ce,b9,b7,s0⟩:=Eu c4;have l:B9 (az6 w (A0 (T ds) (a+1) c) u):=⟨ce,b9,b7,O⟩;clear ce b9 b7 s0 c4 ee;have a8:=ai a3.2.1;have a4:B9 (qy u/\u.heap[2]?=T (X iA dc fr)/\(∀W,A1 u.heap.size u W->F0 V W "strings.asciiSpace" .u8 B3)):=
  ⟨a3.1.below l.bl O,(l.bl.block _ a8).trans a3.2.1,λW e=>a3.2.2 W<|l.bl.trans<|e.mono l.bl.size⟩
 apply(uf (H:=Unit) _ _ _ a4.2.1).mono;rintro z x ⟨rfl,bA,a7⟩;have⟨A,bD⟩:=aw u.heap.size;have ei:=l.sz;have dx:=dB<|(a7.block _ O).trans l.tb;have ek:=a7.size;have el:w.heap.size<x.heap.size:=O;have en:w.heap.size≠x.heap.size:=O;rw[bD]at bA⊢;have af:=jG bA a7 bD;clear bA a7 bD a8 ei ek;go_wp2_with fail;have b8:=au x<|X #[.map<|T A,fe] 157;have bw:A1 x.heap.size x (x.alloc<|X #[.map<|T A,fe] 157):=blR.alloc O _;have bb:arx u x.heap.size A fe [] (x.alloc<|X #[.map<|T A,fe] 157):=by
  have e:=af.2.1.trans<|bw.mono af.2.1.size;have g:A<x.heap.size:=by
   obtain⟨_,_,_,_⟩:=af.1;grind
  exact⟨e,⟨b8,wL af.1<|bw.block _ g,a4.1.below e O⟩,⟨onN,λi f m=>U,λi f m=>U,λf m=>U,λi f df m=>U⟩⟩
 have bz:=af.2.1.size;generalize x.alloc (X #[.map<|T A,fe] 157)=ep at bb⊢;have⟨ba,c7⟩:=aw x.heap.size;rw[c7]at bb bz⊢;have dq:=ah bz;have⟨bh,br⟩:=aw<|jc (fI d) (a+1) 0;have bf:=ah br;have ca:Bg (fI d) (a+1-0) 0 bh:=⟨br⟩;have cc:=ah bb;clear br dx el en af b8 bw bb c7 bz;go_loopw [37] (λb2 wr=>∃g j b4,g<=a+1/\b2=zI g/\Bg (fI d) (a+1-g) g bh/\B9 (arx u ba A b4 j wr/\M j=g/\j.map Im.N=d.take g/\∀f∈j,bv w f.vn f.N.nm/\L f.vn)) (λb2 _=>a+1-(Fs b2).toNat)
 .exact⟨0,_,_,O,R,ca,cc,R,R,λf m=>U⟩
 .
  obtain⟨g,j,b4,_,rfl,bd,e⟩:=hrel;clear cc ca;have q:=bd.out;by_cases a8:g<a+1
  .have⟨r,ap⟩:=bg C.out a8;have ew:(g:Int)<(a:Int)+1:=O;have ev:(0:Int)<=(g:Int):=O;obtain⟨_,dz,_,_,ef⟩:=ar.1.get ap;obtain rfl:=de dz;have o:=l.bl.trans<|e.1.bl.mono l.bl.size;obtain⟨b5,cb,cd,cf,cg,ch,cl,a9,cm,ax,bs⟩:=ef;obtain⟨am,ao,rfl⟩:=ax.form;obtain⟨_,_,rfl⟩:=bs.form;have cp:=ag o b5;have cq:=ag o cb;have cr:=ag o cd;have cs:=ag o cf;have ct:=ag o cg;have cu:=ag o ch;have cv:=ag o cl;have bc:=ag o a9;have bk:=ag o cm;have K:=λal=>(ay _ wr).alloc eE al;have s:=λal=>an6 _ _ a4.1 (e.1.bl.trans<|(K al).mono e.1.bl.size) _ _ dq _ j (e.1.lk.below<|K al) (e.1.ns.below<|K al) _ _ _ (ax.below l.bl) (bs.below l.bl) (ar.2.1 _ U) (by rw[e.out.2.1];omega) _ (by rw[e.out.2.1];exact e.2.2.1) (by rw[e.out.2.1];omega) a4.2.2;rw[(O:a+1-g=(a+1-(g+1))+1),jc]at q;have cy:fI d g=!(kK d g r):=by unfold fI;grind
   have cw:abb d (M j) r=kK d g r:=by rw[arv,e.out.2.1]
   rw[cy]at q;unfold jq at s;have G:=ah cw;have dn:=ah ap;have⟨bF,c1⟩:=aw<|M r.nm;have⟨_,c2⟩:=aw<|M r.ks;have bx:B9 (bv w (A0 am (M r.nm) ao) r.nm/\L (A0 am (M r.nm) ao)):=⟨ax,dk.out _ _ _ g _ _ R ap a9⟩;rw[c1]at s bc;replace bx:B9 (bv w (A0 am bF ao) r.nm/\L (A0 am bF ao)):=U;rw[c2]at s bk;clear b5 cb cd cf cg ch cl a9 cm ax bs ap cw cy c1 c2 bd;cases m:kK d g r with
   |true=>
    rw[m]at q G;rw[aa Z]at q;have a6:Bg (fI d) (a+1-(g+1)) (g+1) bh:=⟨q⟩;clear q m;go_wp2_with fail;apply(s _).mono;rintro z y ⟨rfl,k,a0⟩;rw[G.out];have⟨a5,f,F,a1,t,B⟩:=a0 G.out;have eo:B9 (arx u ba A a5 (j++[f]) y/\M (j++[f])=g+1/\(j++[f]).map Im.N=d.take (g+1)/\∀p∈j++[f],bv w p.vn p.N.nm/\L p.vn):=
     ⟨⟨k,t,B⟩,by rw[aG,e.out.2.1];rfl,by rw[ej,e.out.2.2.1,gD,dn.out];grind,λp hy=>by
      obtain hy|hy:=dg.1 hy
      .exact e.2.2.2 p hy
      .obtain rfl:=ic.1 hy;rw[F,a1];exact bx⟩
    clear s a0 k t B e cp cq cr cs ct cu cv bc bk o K;go_wp2;exact⟨U,by simp[Fs];omega⟩
   |false=>
    rw[m]at q G;rw[ae Z]at q;have p:B9 (bH d=(2,(g:Int))):=by
     show bH d=(2,(g:Int));unfold bH;rw[ar.out.2.2,aa Z,C.out,bf.out,<-q];rfl
    clear q m;go_wp2_with fail;apply(s _).mono;rintro z y ⟨rfl,k,a0⟩;rw[G.out];have t:=l.fb.keep k (by rw[l.out.sz];omega);have⟨F,a5,a6⟩:=lB t;have B:B9 (mL (w.heap.size+1) y 0 0/\A1 w.heap.size w y):=⟨t,l.bl.trans<|k.mono l.bl.size⟩;clear s a0 k t e cp cq cr cs ct cu cv bc bk o K;go_wp2;exact aA (mq R _ _ _ _ _ _ R R<|ud _ _ 2 g<|sy B.1 2 g) R ⟨(B.2.setCell I _).setCell I _,.inl ⟨(by rw[p.out];omega),(by rw[p.out];rfl)⟩⟩
  .obtain rfl:g=a+1:=O;rw[iI,jc]at q;have cq:=ah q.symm;have ch:=po (by rw[bf.out];grind);have a0:j.map Im.N=d:=by rw[e.out.2.2.1];exact ci (by rw[C.out];omega)
   have cl:∀(i:Nat) f,j[i]?=T f->d[i]?=T f.N:=U;have bx:∀f∈j,M f.N.ks<=200:=λf m=>by
    have⟨i,r,z⟩:=iD m;have E:=cl i f U;have r:i<a+1:=by rw[<-C.out];grind
    have o:=ch i O O;unfold fI at o;rw[ed,E,li]at o;have s:kK d i f.N=F4:=U;unfold kK adt at s;grind
   have cg:=Be d (λN E df am=>by
    rw[<-a0]at E;obtain⟨f,m,rfl⟩:=rm.1 E;have⟨i,r,z⟩:=iD m;exact(e.1.ns.rng i f df U am).1)
   obtain⟨ax,bk,rfl⟩:∃ax c,b4=A0 _ _ c:=by
    obtain⟨h,_⟩|h:=aC e.1.ns.row
    .rw[e.out.2.1]at h;omega
    .rw[e.out.2.1]at h;exact h
   have bc:wr.cell? (aj ba 1)=T (bI ax (a+1) bk):=crV e.out.1.lk.b;have s:=I3 _ _ _ j e.1.ns _ a0 _ e.2.1 O O bx;have cb:=ah (λW cv=>JF W _ _ j (e.1.ns.below cv) _ a0 _ e.2.1 O O bx);have⟨cd,bs⟩:=aw<|jc (gw<|jh d) (a+1) 0;have r:bH d=tf3 (jh d) (Ji d) (a+1) cd:=by
    unfold bH;rw[ar.out.2.2,aa Z,C.out,bf.out,cq.out];show tf3 (jh d) (Ji d) (a+1) (jc (gw<|jh d) (a+1) 0)=_;rw[bs]
   rw[bs]at s;have cw:=l.sz;have F:=l.fb.keep e.1.bl O;have o:B9 (arx u ba A (bI ax (a+1) bk) j wr/\mL (w.heap.size+1) wr 0 0/\j.map Im.N=d/\M j=a+1/\A1 w.heap.size w wr):=⟨e.1,F,a0,e.2.1,l.bl.trans<|e.1.bl.mono O⟩;have cp:=ah e.2.2.2;have a9:=an7 cg (mJ _) (by rw[C.out];omega);rw[C.out,qm]at a9;clear q ch cl bx cg bd e F bs a0 cw;cases cd with
   |some i=>
    have p:B9 (bH d=(3,(i:Int))):=r;unfold abe at s;clear r a9;go_wp2_with fail;apply s.mono;rintro z y ⟨rfl,k⟩;have t:=o.2.1.below k;have⟨F,a5,a6⟩:=lB t;have B:B9 (mL (w.heap.size+1) y 0 0/\A1 w.heap.size w y):=⟨t,o.2.2.2.2.trans<|k.mono o.2.2.2.2.size⟩;clear k t s bc;go_wp2;exact aA (mq R _ _ _ _ _ _ R R<|ud _ _ 3 i<|sy B.1 3 i) R ⟨(B.2.setCell I _).setCell I _,.inl ⟨(by rw[p.out];omega),(by rw[p.out];rfl)⟩⟩
   |none=>
    rw[tf3,qm]at r;unfold abe at s;rw[qm]at s;have cu:((a+1:Nat):Int)-1=(a:Int):=O;rw[cu]at s r;by_cases am:(jh d).getD a 0<((a+1:Nat):Int)
    .rw[ae O]at r;rw[eI am]at s;have p:=ah r;clear r a9 am;go_wp2_with fail;apply s.mono;rintro z y ⟨rfl,k⟩;have t:=o.2.1.below k;have⟨F,a5,a6⟩:=lB t;have B:B9 (mL (w.heap.size+1) y 0 0/\A1 w.heap.size w y):=⟨t,o.2.2.2.2.trans<|k.mono o.2.2.2.2.size⟩;clear k t s bc;go_wp2;exact aA (mq R _ _ _ _ _ _ R R<|ud _ _ 3 a<|sy B.1 3 a) R ⟨(B.2.setCell I _).setCell I _,.inl ⟨(by rw[p.out];omega),(by rw[p.out];rfl)⟩⟩
    .rw[aa O]at r;rw[bq am]at s;have⟨cs,cf⟩:=aw<|jc (jK<|Ji d) (a+1) 0;rw[cf]at r cb;clear a9 am cf;go_wp2_with fail;apply s.mono;rintro z y ⟨rfl,k⟩;have ao:=cb.out _ k;have b5:=ag k bc;clear s bc;cases cs with
     |some i=>
      have p:B9 (bH d=(4,(i:Int))):=r;unfold aog at ao;clear r;have ap:=ah k;clear k;go_wp2_with fail;apply ao.mono;rintro z K ⟨rfl,al⟩;have B:=ap.out.trans<|al.mono ap.size;have G:=o.2.1.below B;have⟨F,a5,a6⟩:=lB G;have t:B9 (mL (w.heap.size+1) K 0 0/\A1 w.heap.size w K):=⟨G,o.2.2.2.2.trans<|B.mono o.2.2.2.2.size⟩;clear al B G ao b5;go_wp2;exact aA (mq R _ _ _ _ _ _ R R<|ud _ _ 4 i<|sy t.1 4 i) R ⟨(t.2.setCell I _).setCell I _,.inl ⟨(by rw[p.out];omega),(by rw[p.out];rfl)⟩⟩
     |none=>
      have p:B9 (bH d=(0,0)):=r;unfold aog at ao;clear r;have ap:=ah k;clear k;go_wp2_with fail;apply ao.mono;rintro z K ⟨rfl,al⟩;have B:=ap.out.trans<|al.mono ap.size;have cy:=ag al b5;have G:=o.2.1.below B;have bF:=o.1.ns.below B;obtain⟨f,m⟩:=bg o.2.2.2.1 (O:a<a+1);have ct:K.cell? (aj ax a)=T (nV f):=by have cm:=bF.row;rw[o.out.2.2.2.1]at cm;rw[cm.cellAt a O,cJ,m];rfl
      have⟨F,a5,a6⟩:=lB G;have t:B9 (mL (w.heap.size+1) K 0 0/\A1 w.heap.size w K/\oy K u.heap.size (bI ax (a+1) bk) j/\j[a]?=T f):=⟨G,o.2.2.2.2.trans<|B.mono o.2.2.2.2.size,bF,m⟩;have⟨_,a1⟩:=aw<|nV f;rw[a1]at ct;have cr:=ah a1;clear al B G ao b5 bF m a1;go_wp2;exact aA (mq R _ _ _ _ _ _ R R<|ud _ _ 0 0<|sy t.1 0 0) R ⟨(t.2.1.setCell I _).setCell I _,.inr ⟨p,_,_,j,f,by rw[cr.out];rfl,by rw[C.out,qm];exact t.2.2.2,o.2.2.1,t.2.2.1.putFt t.1 (by rw[l.out.sz];omega) 0 0,cp⟩⟩
theorem E6(b w v a)(j:∀(d n c i N) (f),v=A0 (T d) n c->a[i]?=T N->w.cell? ⟨(d.add<|i*9).block,(d.add<|i*9).off+7,Br⟩=T f->b f)(h:dE w v a)(e:M a<=1048576)(o:∀N∈a,iE N)(l:qy w)(p fr)(g:w.heap[2]?=T (X iA p fr))
  (m:∀W,A1 w.heap.size w W->F0 V W "strings.asciiSpace" .u8 B3):
  B2 V 31 #[B7 #[v]] w (afK b w a):=by
 cases hb:iL a with
 |true=>
  have q:bH a=(1,0):=by unfold bH;grind
  apply(ad0 w v _ h e hb).mono;rintro _ _ ⟨rfl,k⟩;exact⟨k,U⟩
 |false=>exact abg b w v _ j h e o l _ _ g m hb
def afL(w v a)(h:dE w v a)(o:M a<=1048576)(r:∀N∈a,iE N)(n:qy w)(b fr)(m:w.heap[2]?=T (X iA b fr))
  (p:∀W,A1 w.heap.size w W->F0 V W "strings.asciiSpace" .u8 B3):
  B2 V 31 #[B7 #[v]] w (adL w a):=
 (E6 (λ_=>True) w v a (λ_ _ _ _ _ _ _ _ _=>trivial) h o r n b fr m p).mono λ_ _ h=>⟨h.1,h.2.imp id λ⟨c,d,e,f,s,g,i,j,k,l⟩=>⟨c,d,e,f,s,g,i,j,k,λt q=>(l t q).1⟩⟩
def Aj(s:Bz):Nat->Nat×Nat|0=>(1,1)|k+1=>ite (aq s k=10) ((Aj s k).1+1,1) ((Aj s k).1,(Aj s k).2+1)
theorem aih(s):∀k,(Aj s k).1<=k+1/\(Aj s k).2<=k+1
 |0=>⟨eE,eE⟩|k+1=>by
  have:=aih s k;grind [Aj]
def arz(s j)(h:j<s.size):((s.data[j]!).toNat:Int)=aq s j:=by
 unfold aq;rw[pc h,getElem!_pos _ j h];rfl
def aok(s t:Bz)(c):∀k,(∀j,j<k->((s.data[j]!).toNat:Int)=((t.data[j]!).toNat:Int))->Lib.lastIdx s c k=Lib.lastIdx t c k
 |0,_=>rfl|k+1,h=>by
  rw[Lib.lastIdx,Lib.lastIdx,h k O,aok s t c k λj _=>h j O]
theorem atb(s):∀k,k<=s.size->1+Lib.countByte (s.data.toList.take k) 10=(Aj s k).1/\(k:Int)-Lib.lastIdx s 10 k=((Aj s k).2:Int)
 |0,_=>⟨R,R⟩|k+1,h=>by
  obtain⟨d,_⟩:=atb s k O;have e:=arz s k O;have i:k<M s.data.toList:=by rw[oG];exact h
  have g:s.data.toList[k]?=T (s.data[k]!):=by
   grind [List.getElem?_eq_getElem]
  have f:s.data.toList.take (k+1)=s.data.toList.take k++[s.data[k]!]:=by grind [List.take_add_one]
  unfold Lib.countByte at d⊢;rw[f,FJ,Aj];by_cases a:aq s k=10
  .have b:(s.data[k]!).toNat=10:=O;have c:s.data[k]! =10:=UInt8.toNat_inj.1 (by rw[b];rfl)
   simp_all [ae,Lib.lastIdx_hit];omega
  .have c:s.data[k]!≠10:=λb=>a (by rw[<-e,b];rfl)
   simp_all [aa,Lib.lastIdx_miss,List.count,List.count_eq_zero_of_not_mem,dG];omega
theorem avy(s k)(h:k<=s.size):1+Lib.countByte (s.extract 0 k).data.toList 10=(Aj s k).1/\(k:Int)-Lib.lastIndexByte (s.extract 0 k) 10=((Aj s k).2:Int):=by
 have⟨c,d⟩:=atb s k h;have b:(s.extract 0 k).data.toList=s.data.toList.take k:=by grind [ByteArray.toList_eq,Lib.extract_toList]
 have e:=lA s 0 k h;refine⟨by rw[b];exact c,?_⟩;unfold Lib.lastIndexByte;rw[<-d,e,F8,aok _ s _ k λa _=>?_];have f:((s.extract 0 k).data.toList[a]?)=s.data.toList[a]?:=U;grind
def af0(s:Bz)(k:Nat):Bz:=bJ ((Aj s k).1:Nat)++⟨#[58]⟩++bJ ((Aj s k).2:Nat)
def aol(s:Bz)(c a:Int)(D:Bz):Bz:=ite (c=0) (⟨#[102,105,110,101,10]⟩++D)<|ite (c=2) ⟨#[108,97,114,103,101,10]⟩<|⟨#[102,97,117,108,116]⟩++(⟨#[32]⟩++af0 s a.toNat)++⟨#[10]⟩
theorem Ek(s k)(h:k<=20000000):(bJ ((Aj s k).1:Nat)).size<=21/\(bJ ((Aj s k).2:Nat)).size<=21:=by
 grind [aih,iz]
def ad1(w)(s:Bz)(k)(p:k<=s.size)(B:s.size<=65536)(j:∀(n) (W),0<=n->n<=1000000->A1 w.heap.size w W->B2 V 66 #[zI n] W λe c=>e=A3 (B0<|bJ n)/\A1 W.heap.size W c):
  B2 V 28 #[B0 s,zI k] w λe c=>e=A3 (B0<|af0 s k)/\A1 w.heap.size w c:=by
 have⟨g,d⟩:=avy s k p;have h:=aih s k;have b:=Ek s k O;have q:=λW=>Tryz.strings_Count_one (s.extract 0 k) 10 W;have r:∀W,B2 V 65 #[B0<|s.extract 0 k,B0 ⟨#[10]⟩] W λe c=>e=A3 (zI<|Lib.lastIndexByte (s.extract 0 k) 10)/\c=W:=λW=>Tryz.strings_LastIndex_one _ _ R (by rw[lA s 0 k p];omega) W;unfold af0;generalize (Aj s k).1=l at g h b⊢;generalize (Aj s k).2=o at d h b⊢;generalize Lib.countByte (s.extract 0 k).data.toList 10=u at g q;generalize Lib.lastIndexByte (s.extract 0 k) 10=y at d r;have i:=λW=>j (l) W O O;have a:=λW=>j (o) W O O;generalize bJ (l:Nat)=m at i b⊢;generalize bJ (o:Nat)=t at a b⊢;have z:(1:Int)+(u:Int)=(l:Int):=O;have A:=d;have C:¬9223372036854775807<m.size+1:=O;have E:¬9223372036854775807<m.size+1+t.size:=O;have x:=ah a;obtain⟨_,_⟩:=h;clear g d j b a;go_in;go_wp2_with (first|(go_at_call 64;apply ez<|q _)|(go_at_call 65;apply ez<|r _));refine dd (i _ blR) λw1 f=>?_;have a:=x.out w1 f;clear i;go_wp2_with fail;refine dd a λ_ v=>?_;clear a;go_wp2;go_ret;exact⟨R,f.trans<|v.mono f.size⟩
abbrev wPq(w:Ax)(c a:Int)(x:zOA)(b z:Nat):Ax:=w.alloc<|X #[zI c,zI a,A0 x b z] 28
def erV(c a:Int)(E:A9):A9:=ite (c=0) D1<|ite (c=1) (B5 70<|B7 #[zI a]) E
def abi(w b v)(h:w.heap[b]?=T (X #[v] 26 (0,0))):(loadVar 26 ⟨b,0,Br⟩).run V w= .ok (B7 #[v]) w:=
 FL w b 26 26 _ _ _ h underlying26 R J
def AtP(w:Ax)(c a:Int)(h:zLD)(E:A9)(e:Ending)(b:Ax):Prop:=∃d f g,e=A3 (C2 #[B7 #[A0 d f g],erV c a E])/\(c=0->dE b (A0 d f g) h)/\A1 w.heap.size w b
def af1(w)(s:Bz){E}(K:c=0\/c=1\/c=2)(o:w.cell? (aj 0 0)=T E)
  (F:∀W,A1 w.heap.size w W->B2 V 6 #[B0 s] W λe b=>∃v L,e=A3 (B7 #[zI c,zI a,v])/\L.map Mb.N=ns/\wu b W.heap.size b.heap.size v L/\A1 W.heap.size W b):
  B2 V 25 #[B0 s] w (AtP w c a ns E):=by
 have ar:∀w:Ax,(zeroValue 28).run V w= .ok (B7 #[zI 0,zI 0,fe]) w:=λw=>J;have av:∀w:Ax,(zeroValue 26).run V w= .ok (B7 #[fe]) w:=λw=>J;have ax:∀w:Ax,(zeroValue 70).run V w= .ok (B7 #[zI 0]) w:=λw=>J;have i:=dj w<|X #[fe] 26;have p:=au w<|X #[fe] 26;have r:(w.alloc<|X #[A0 Br 0 0] 26).heap.size=w.heap.size+1:=dC _ _;have t:=F _ i;clear F;go_in;go_wp2_with fail;generalize w.alloc (X #[fe] 26)=ad at i p r t⊢;apply t.mono;rintro e f ⟨v,L,rfl,z,l,m⟩;have G:Lw f (w.heap.size+1) v L:=⟨r ▸ l.row,λb B=>r ▸ ⟨(l.each b B).on,(l.each b B).ok⟩⟩;obtain⟨b,g,d,rfl⟩:∃b g d,v=A0 b g d:=by obtain⟨b,d,k⟩:=aF l.row;exact⟨b,_,d,k⟩
 have u:=dj f<|X #[zI c,zI a,A0 b g d] 28;have x:=au f<|X #[zI c,zI a,A0 b g d] 28;have n:=(m.block _ O).trans p;have q:=(u.block _<|ai n).trans n;have y:=(i.trans<|m.mono i.size).trans<|u.mono<|bK i.size m.size;have an:=ag y o;have ap:w.heap.size≠f.heap.size:=by have:=ai n;omega
 have A:=u.block;have h:B9 (∀j:A9,((wPq f c a b g d).setCell ⟨w.heap.size,0,Br⟩ j).heap[w.heap.size]?=T (X #[j] 26 (0,0))/\A1 w.heap.size w ((wPq f c a b g d).setCell ⟨w.heap.size,0,Br⟩ j)/\dE ((wPq f c a b g d).setCell ⟨w.heap.size,0,Br⟩ j) (A0 b g d) ns):=λj=>⟨aD _ _ 0 _ _ _ q,y.setCell eE j,by rw[<-z];exact(G.mono λC _ H=>(jg (by show C≠w.heap.size;omega)).trans<|A C H).nds⟩;have af:(wPq f c a b g d).cell? ⟨f.heap.size,0,Br⟩=T (zI c):=crV x;have ak:(wPq f c a b g d).cell? ⟨f.heap.size,1,Br⟩=T (zI a):=crV x;have al:(wPq f c a b g d).cell? ⟨f.heap.size,2,Br⟩=T (A0 b g d):=crV x;have a0:(wPq f c a b g d).cell? ⟨w.heap.size,0,Br⟩=T fe:=crV q;have am:(wPq f c a b g d).frozen? ⟨w.heap.size,0,Br⟩=B1:=frR q;have ao:=ag (h.out fe).2.1 o;clear t l G A z o p n i m;obtain rfl|rfl|rfl:=K
 .go_wp2;exact aA (lp R _ _ _ _ _ _ R R<|abi _ _ _ (h.out _).1) R<|⟨_,_,_,R,λ_=>(h.out _).2.2,(h.out _).2.1⟩
 .go_wp2_with fail;go_region
  all_goals (go_wp2_with fail)
  all_goals exact aA (lp R _ _ _ _ _ _ R R<|abi _ _ _ (h.out _).1) R<|⟨_,_,_,R,λk=>by simp at k,eC (h.out _).2.1⟩
 .go_wp2_with fail;go_region
  all_goals (go_wp2_with fail)
  all_goals exact aA (lp R _ _ _ _ _ _ R R<|abi _ _ _ (h.out _).1) R<|⟨_,_,_,R,λk=>by simp at k,eC (h.out _).2.1⟩
def az7(v w):(Go.method 520 70 v "Error").run V w= .ok (399,v) w:=J
def az8(v w):(Go.method 520 379 v "Error").run V w= .ok (436,v) w:=J
def avz(z w):B2 V 399 #[B7 #[zI z]] w λe a=>e=A3 (B0 ⟨#[102,97,117,108,116]⟩)/\a=w.alloc (X #[zI z] 70):=by
 go_in;go_wp2;go_ret;exact rr
def avA(a)(t:Bz)(w)(h:w.cell? a=T (B0 t)):B2 V 436 #[D2<|T a] w λe b=>e=A3 (B0 t)/\b=w:=by
 go_in;go_wp2;go_ret;exact rr
structure AnL (w:Ax):Prop where
 ty:w.cell? (aj 1 0)=T (.iface 227<|.agg #[be 22 67])
 er:∃ea,w.cell? (aj 0 0)=T (.iface 379<|.pointer<|T ea)/\w.cell? ea=T (.string ⟨#[108,97,114,103,101]⟩)
def ad2(w)(s:Bz){D:Bz}(K:c=0\/c=1\/c=2)(a7:0<=a)(a8:a<=(s.size:Int))(ao:c=1->s.size<=65536)(a9:D.size<=70368744177664)(p:AnL w)
  (ak:∀W,A1 w.heap.size w W->B2 V 6 #[B0 s] W λe i=>∃v L,e=A3 (B7 #[zI c,zI a,v])/\L.map Mb.N=ns/\wu i W.heap.size i.heap.size v L/\A1 W.heap.size W i)
  (ad:∀W v,A1 w.heap.size w W->dE W v ns->B2 V 26 #[B7 #[v]] W λe i=>e=A3 (B0 D)/\A1 W.heap.size W i)
  (af:∀(n)(W),0<=n->n<=1000000->A1 w.heap.size w W->B2 V 66 #[zI n] W λe i=>e=A3 (B0<|bJ n)/\A1 W.heap.size W i):
  B2 V 8 #[B0 s] w λe i=>e=A3 (B0<|aol s c a D)/\A1 w.heap.size w i:=by
 obtain⟨d,rfl⟩:∃d:Nat,a=d:=⟨a.toNat,O⟩;have⟨H,ar,ax⟩:=p.er;have g:=af1 w s K ar ak;have G:=p.ty;have al:=ah ad;have am:=ah af;have bd:=az7;have bf:=az8;have bc:∀w:Ax,(zeroValue 70).run V w= .ok (B7 #[zI 0]) w:=λw=>J;have bb:∀w:Ax,(zeroValue 26).run V w= .ok (B7 #[fe]) w:=λw=>J;unfold AtP erV at g;have⟨an,z⟩:=aw<|aol s c d D;rw[z];have u:=ah z;clear ak ad af p z;obtain rfl|rfl|rfl:=K
 .rw[ae rfl]at g;go_in;go_wp2_with fail;apply g.mono;rintro e w1 ⟨q,r,f,rfl,o,b⟩;have C:=dj w1<|X #[A0 q r f] 26;have h:=fs ((o trivial).below C)<|b.trans<|C.mono b.size;have a3:¬9223372036854775807<5+D.size:=O;clear g o;go_wp2_with fail;refine dd (al.out _ _ h.out.2 h.out.1) λa5 y=>?_;go_wp2;go_ret;exact⟨congrArg (λf=>Ending.returned<|F1 f) u.out,h.out.2.trans<|y.mono h.out.2.size⟩
 .rw[aa Z,ae rfl]at g;have ap:=ao R;have m:B9 (∀(w1:Ax)(h k B:Obj),A1 w.heap.size w w1->A1 w.heap.size w (((w1.alloc h).alloc k).alloc B)):=λw1 h k B j=>((j.alloc j.size h).alloc (bK j.size (dj w1 h).size) k).alloc (bK j.size<|bK (dj w1 h).size (dj _ k).size) B;go_in;go_wp2_with fail;apply g.mono;rintro e w1 ⟨q,r,f,rfl,o,b⟩;clear g o;go_wp2_with fail;apply(avz _ _).mono;rintro e i ⟨rfl,rfl⟩;go_wp2_with fail;refine(atE d _ (zI 0) _ (ag (m.out w1 _ _ _ b) G) ?_).mono ?_
  .have:=au ((w1.alloc<|X #[A0 q r f] 26).alloc<|X #[zI d] 70)<|X #[zI 0] 70;simpa using this
  rintro e E ⟨rfl,a4,x⟩;have ba:=b.size;have l:=(m.out w1 _ _ _ b).trans<|x.mono O;have a6:E.cell? (aj (w1.heap.size+1+1) 0)=T (zI d):=crV a4;have A:=ad1 E s d O ap (λn W a1 a2 av=>am.out n W a1 a2<|l.trans<|av.mono l.size);have a0:=Ek s d O;have p:(af0 s d).size<=43:=by unfold af0;rw[az,az];have:(⟨#[58]⟩:Bz).size=1:=rfl;omega
  have F:B9 (⟨#[102,97,117,108,116]⟩++(⟨#[32]⟩++af0 s d)++⟨#[10]⟩=an):=u.out;generalize af0 s d=t at A p F;have a3:¬9223372036854775807<1+t.size:=O;have C:¬9223372036854775807<5+(1+t.size):=O;have bh:¬9223372036854775807<5+(1+t.size)+1:=O;clear a0 p;go_wp2_with fail;refine dd A λa5 y=>?_;clear A;go_wp2;go_ret;exact⟨congrArg (λf=>Ending.returned<|F1 f) F.out,l.trans<|y.mono l.size⟩
 .rw[aa Z,aa Z]at g;have m:B9 (∀(w1:Ax)(h k:Obj),A1 w.heap.size w w1->A1 w.heap.size w ((w1.alloc h).alloc k)):=λw1 h k j=>(j.alloc j.size h).alloc (bK j.size (dj w1 h).size) k;go_in;go_wp2_with fail;apply g.mono;rintro e w1 ⟨q,r,f,rfl,o,b⟩;have i:(w1.alloc<|X #[A0 q r f] 26).cell? H=T (B0 ⟨#[108,97,114,103,101]⟩):=ag (b.trans<|(dj w1 _).mono b.size) ax;clear g o;go_wp2_with fail;refine ez (avA H _ _ i) ?_;go_wp2_with fail;refine dd (ap6 _ _ _<|ag (m.out w1 _ _ b) G) λE x=>?_;have l:=(m.out w1 _ _ b).trans<|x.mono (m.out w1 _ _ b).size;go_wp2;go_ret;exact⟨congrArg (λf=>Ending.returned<|F1 f) u.out,l⟩
def E7(w v a)(h:dE w v a)(B:M a<=1048576)(G:∀N∈a,iE N)(b:qy w)(H fr)(s:w.heap[2]?=T (.cells iA H fr))
  (E:∀W,A1 w.heap.size w W->F0 V W "strings.asciiSpace" .u8 B3):
  B2 V 23 #[.agg #[v]] w λe c=>e= .returned (.agg #[zI (bH a).1,zI (bH a).2])/\A1 w.heap.size w c:=by
 have y:=λad af=>((ay _ w).alloc eE ad).alloc I af;have o:B9 (∀W,A1 w.heap.size w W->B2 V 31 #[.agg #[v]] W (adL W a)):=λW d=>
  afL W v a (h.below d) B G (b.below d O) H fr ((d.block _<|ai s).trans s) (λp c=>E p<|d.trans<|c.mono d.size)
 obtain⟨j,k,rfl⟩:=h.form;have⟨m,C⟩:=aw<|M a;rw[C]at o⊢;have⟨f,q⟩:=aw<|(bH a).1;have⟨g,r⟩:=aw<|(bH a).2;have i:=fs q r;rw[q,r];clear h B G b s E C q r;go_in;go_wp2_with fail;have n:mL (w.heap.size+1) ((w.alloc<|.cells #[.slice j m k] 26).alloc<|.cells #[zI 0,zI 0] 49) 0 0:=by
  have:=au (w.alloc<|.cells #[.slice j m k] 26)<|.cells #[zI 0,zI 0] 49;rw[dC]at this;exact this
 have c:=y (.cells #[.slice j m k] 26)<|.cells #[zI 0,zI 0] 49;generalize (w.alloc<|.cells #[.slice j m k] 26).alloc (.cells #[zI 0,zI 0] 49)=p at n c⊢;apply(o p c).mono;rintro e K ⟨t,A⟩;obtain⟨F,rfl⟩:∃F,e= .returned (.tuple #[F,.agg #[zI f,zI g]]):=by
  obtain⟨_,b⟩|⟨l,_,_,_,u,b,_⟩:=A
  .exact⟨_,by rw[b,i.out.1,i.out.2]⟩
  .refine⟨nV u,?_⟩;rw[b,<-i.out.1,<-i.out.2,l]
 have l:=n.below t;obtain⟨_,_,_⟩:=lB l;have ak:=ai l;have al:w.heap.size+1≠K.heap.size:=O;have z:=c.trans<|t.mono c.size;have u:=fs z l;clear A t n c o z l y;go_wp2_with fail;have L:=(sy u.2 f g).below<|blR.alloc O<|.cells #[zI f,zI g] 49;have x:A1 w.heap.size w ((K.setCell (aj (w.heap.size+1) 0)<|zI f).setCell ⟨w.heap.size+1,1,Br⟩<|zI g):=(u.1.setCell I _).setCell I _;exact aA (fD R _ _ _ _ _ _ _ R L underlying49 R J) R ⟨R,x.alloc x.size _⟩
