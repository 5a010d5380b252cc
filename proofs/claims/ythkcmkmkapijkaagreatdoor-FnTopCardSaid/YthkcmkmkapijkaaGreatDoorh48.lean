import Derived.Test.YthkcmkmkapijkaaGreatDoorh43
import Derived.Test.YthkcmkmkapijkaaGreatDoorh44
import Derived.Test.YthkcmkmkapijkaaGreatDoorh45
import Derived.Test.YthkcmkmkapijkaaGreatDoorh46
import Derived.Test.YthkcmkmkapijkaaGreatDoorh47
import Derived.Stop.LaidErr
set_option linter.all false
set_option maxRecDepth 100000
set_option maxHeartbeats 12800000
open Go.Proofs.Tryz
open List renaming length->M,set->A3,range->C2
open Go.Proofs.Tryz renaming prog->Q
open Go.Value renaming slice->V,string->A5,int->B0,agg->B6,bool->B9,string->D1,pointer->D2,ownBlock->E0
open Go.Obj renaming cells->X
open Go.RowKit renaming Below->Y,intOf->B2,Hid->B3
open Option renaming some->Ax,none->B4
open Go.Ending renaming returned->A0
open Bool renaming true->A1,false->B1
open Go renaming World->A2,Calls->A9,Value->B7
open ByteArray renaming empty->Br
open Go.IntKind renaming i64->B5
namespace Go.Proofs.YthkcmkmkapijkaaGreatDoor
open Go.RowKit Go.Maps Go.WideMaps
variable{C:Cd}{L:zLM}{N:Nd}{W W0 w:World}{a c:Int}{g i j m n pb t:Nat}{ns:zLD}{o:zAV}{s:Bz}{u v:Value}
structure TpC (w:A2) (t:Bz) (c a:Int) (ns:zLD) (A R1:Bz):Prop where
 n:M ns<=1048576
 l:∀N∈ns,M N.nm<=1048576/\M N.ks<=1048576
 sp:∀W,A9 Q 5 #[.string t] W<|PsP W c a ns
 ip:∀W,Y w.heap.size w W->A9 Q 6 #[.string t] W λe w'=>∃v L,e= .returned (psV c a v)/\L.map Mb.N=ns/\Lw w' W.heap.size v L/\Y W.heap.size W w'
 wp:∀W u v,dE W u ns->dE W v ns->A9 Q 7 #[.agg #[zI c,zI a,u],.agg #[zI c,zI a,v]] W λe w'=>e= .returned (.bool A1)/\Y W.heap.size W w'
 sa:∀W,Y w.heap.size w W->A9 Q 9 #[.string t] W λe w'=>e= .returned (.string A)/\Y W.heap.size W w'
 ia:∀W,Y w.heap.size w W->A9 Q 8 #[.string t] W λe w'=>e= .returned (.string A)/\Y W.heap.size W w'
 z:c=0->R1.size<=65536/\(∀W v L lo,Y w.heap.size w W->L.map Mb.N=ns->Lw W lo v L->A9 Q 10 #[.agg #[v]] W λe w'=>e= .returned (.string R1)/\Y W.heap.size W w')/\
  (∀W v,Y w.heap.size w W->Nl W v ns->A9 Q 11 #[.agg #[v]] W λe w'=>e= .returned (.string R1)/\Y W.heap.size W w')/\
  (0<R1.size->∃ms,(∀W,Y w.heap.size w W->A9 Q 6 #[.string R1] W λe w'=>∃c2 a2 v,e= .returned (.agg #[zI c2,zI a2,v])/\dE w' v ms/\Y W.heap.size W w')/\∀W u v,dE W u ms->dE W v ns->A9 Q 12 #[.agg #[u],.agg #[v]] W λe w'=>e= .returned (.bool A1)/\Y W.heap.size W w')
def Ow(W:A2)(a e s:Nat)(v:B7)(n:Nat):Prop:=∃b,W.ownsRow a e s v n b
def Ow.set{b e s}(h:Ow W b e s v n):Ow (W.setCell (aj g j) u) b e s v n:=by
 obtain⟨_,h⟩:=h;by_cases a:v.ownBlock=Ax g
 .rcases aC h with⟨rfl,rfl⟩|⟨c,_,rfl⟩
  .cases a
  .obtain rfl:c=g:=by simpa [E0] using a
   exact⟨_,(h.stored j u).1⟩
 .exact⟨_,h.kept (qv (si W _) j u)<|.inr a⟩
structure Ov (W0:A2) (pb:Nat) (o:zAV) (v:B7) (L:zLM) (m:Nat) (W:A2):Prop where
 bl:Y W0.heap.size W0 W
 p:W.heap[pb]?=Ax (.cells o 28 (0,0))
 r:∃cs,W.ownsRow W0.heap.size 37 9 v (M L) cs/\∀i,m<=i->cs[i]?=(mG L)[i]?
 e:∀x∈L,Ow W W0.heap.size 9 1 x.vn (M x.N.nm)/\Ow W W0.heap.size 3 1 x.vk (M x.N.ks)
def Ov.le{m'}(h:Ov W0 pb o v L m W)(i:m<=m'):Ov W0 pb o v L m' W:=by
 obtain⟨a,e,⟨b,g,f⟩,c⟩:=h;exact⟨a,e,⟨b,g,λd _=>f d O⟩,c⟩
def Ov.elt{e s k:Nat}{xs:zLV}(h:Ov W0 pb o v L m W)(a:W.ownsRow W0.heap.size e s (bI g n k) n xs)(p:37≠e)(q:28≠e):Ov W0 pb o v L m (W.setCell (aj g j) u):=by
 obtain⟨i,c,⟨l,d,t⟩,b⟩:=h;have r:=a.lt g R;exact⟨i.setCell r.1 u,(jg λe=>gG a c q (by rw[e];rfl)).trans c,⟨l,d.kept (qv (si W _) j u)<|wv d a p,t⟩,λf a=>⟨(b f a).1.set,(b f a).2.set⟩⟩
def Ov.nod{b}(h:Ov W0 pb o (bI g n b) L m W)(q:M L=n)(t:j<m):Ov W0 pb o (bI g n b) L m (W.setCell (aj g j) u):=by
 subst q;obtain⟨i,e,⟨_,a,s⟩,c⟩:=h;have l:=a.lt g R;exact⟨i.setCell l.1 u,(jg λk=>gG a e Z (by rw[k];rfl)).trans e,⟨_,(a.stored j u).1,λr p=>by rw[List.getElem?_set_ne O];exact s r p⟩,λf d=>⟨(c f d).1.set,(c f d).2.set⟩⟩
def Ov.at_{c W l n m k o}{a:zOA}{b L}(h:Ov c l o (V a n b) L m W)(f:M L=n)(e:k<n):∃g x,L[k]?=Ax x/\a=Ax (aj g 0):=by
 subst f;obtain⟨_,_,⟨_,p,_⟩,_⟩:=h;have⟨x,j⟩:=bg R e;obtain⟨_,_⟩|⟨g,d,i⟩:=aC p
 .omega
 .obtain⟨rfl,rfl⟩:a=Ax _/\b=d:=by simpa using i
  exact⟨g,x,j,R⟩
def Ov.cl{k e x}(h:Ov W0 pb o (bI g n e) L (k*9) W)(f:M L=n)(b:L[k]?=Ax x):(W.cell? (aj g<|k*9+7)=Ax x.vn/\W.cell? (aj g<|k*9+8)=Ax x.vk)/\(∀j,j<n*9->∃i,W.cell? (aj g j)=Ax i)/\∀j,W.frozen? (aj g j)=B1:=by
 subst f;obtain⟨_,_,⟨_,a,d⟩,_⟩:=h;have l:=(dr.1 b).1;exact⟨⟨by rw[a.cellAt _ O,d _ O,LL L k 7 x b O];rfl,by rw[a.cellAt _ O,d _ O,LL L k 8 x b O];rfl⟩,λj c=>by rw[a.cellAt _ c];exact bg (by have:=a.1;omega) c,λj=>a.frozenAt j⟩
def Ow.at_{W f e n i}{a:zOA}{c}(h:Ow W f e 1 (V a n c) n)(k:i<n):∃g xs d,a=Ax (aj g 0)/\W.ownsRow f e 1 (bI g n c) n xs/\W.cell? (aj g i)=Ax d/\W.frozen? (aj g i)=B1:=by
 obtain⟨xs,b⟩:=h;obtain⟨_,_⟩|⟨g,j,m⟩:=aC b
 .omega
 .obtain⟨rfl,rfl⟩:a=Ax _/\c=j:=by simpa using m
  obtain⟨d,o⟩:=bg (l:=xs) (by have:=b.1;omega) k;exact⟨g,xs,d,R,b,(b.cellAt _ O).trans o,b.frozenAt i⟩
def Nl.bel{a}(h:Nl w v ns)(b:Y w.heap.size w a):Nl a v ns:=by
 obtain⟨c,g,d,f⟩:=h;exact⟨c,g,d,f.mono λe _ h=>b.block e h⟩
def ao7{cB:zOA}{cm dc}(d0:A9 Q 4 #[V cB cm dc] w λe l=>∃t:Bz,e=A0 (A5 t)/\t.size<=9100000/\Y w.heap.size w l)(H:∀t:Bz,t.size<=9100000->∃c a ns cs R1,TpC w t c a ns cs R1)(eF:¬(1048576:Int)<(cm:Int)):
  A9 Q 3 #[V cB cm dc] w λe l=>e=A0 (B9 A1)/\Y w.heap.size w l:=by
 have cu:=ah H;clear H;go_in;go_wp2_with fail;apply d0.mono;rintro e w1 ⟨t,rfl,dx,bb⟩;have⟨c,a,ns,cs,R1,H⟩:=cu.out t dx;have q:=ah H;have⟨g,k⟩:=aw<|M ns;have bw:=ah k;have e4:g<=1048576:=k ▸ H.n;clear H k d0 dx cu;have ch:=q.out.sp w1;unfold PsP psV at ch;go_wp2_with fail;apply ch.mono;clear ch;rintro e d4 ⟨u,rfl,cp,bA⟩;obtain⟨a1,a3,rfl⟩:∃a c,u=V a g c:=by have:=cp.nds.form;rw[bw.out]at this;exact this
 go_wp2_with fail;generalize dq:d4.alloc _=L;obtain⟨cb,bE, -⟩:=al1 dq;have cw:Nl L (V a1 g a3) ns:=by
  obtain⟨s,f,a5,d⟩:=cp;exact⟨s,f,a5,d.mono λb _ i=>bE.block b i⟩
 have bs:=(bb.trans<|bA.mono bb.size).trans<|bE.mono (by have:=bb.size;have:=bA.size;omega);generalize d4.heap.size=a9 at cb;have d:=jG cb cw bs;have cg:=q.out.ip L bs;unfold psV at cg;clear dq bb bA bE cp cw bs cb;apply cg.mono;clear cg;rintro e d5 ⟨et,s,rfl,a5,bk,bF⟩;have cf:M s=g:=by rw[<-bw.out,<-a5,dm]
 obtain⟨br,A,rfl⟩:∃a c,et=V a g c:=by have:=aF bk.row;rw[cf]at this;exact this
 have o:=fs a5 cf;clear a5 cf;have⟨cx,ds⟩:=aw<|d5.alloc<|X #[zI c,zI a,V br g A] 28;obtain⟨ar,al, -⟩:=al1 ds;have ap:=bF.trans<|al.mono bF.size;have bo:=(ap.block _<|ai d.out.1).trans d.out.1;have ep:=row3 ar;have er:=row3 bo;have cr:dE cx (V br g A) ns:=by
  have:=(bk.mono λb _ i=>al.block b i).nds;rw[o.out.1]at this;exact this
 have d1:=q.out.wp cx _ _ cr<|(d.out.2.1.nds).below ap;have bt:=d.out.2.2.trans<|ap.mono d.out.2.2.size;go_wp2_with fail;refine dd d1 λev C=>?_;have ba:=bt.trans<|C.mono bt.size;have F:=q.out.ia ev ba;clear ep er;have ec:=al.trans<|C.mono al.size;have eq:=row3<|(C.block _<|ai ar).trans ar;have es:=row3<|(C.block _<|ai bo).trans bo;go_wp2_with fail;refine dd F λew bd=>?_;have ct:=ba.trans<|bd.mono ba.size;have dz:=q.out.sa ew ct;go_wp2_with fail;refine dd dz λcq da=>?_;have bc:=(C.trans<|bd.mono C.size).trans<|da.mono (by have:=C.size;have:=bd.size;omega);have d2:=bk.mono λb _ i=>(al.trans<|bc.mono al.size).block b i;have av:=(bc.block _<|ai ar).trans ar;have c9:=ap.trans<|bc.mono ap.size;generalize d5.heap.size=bn at av⊢;have B8:=jG c9 av d2;have av:=row3 av;clear d1 F dz ar bo bF al ap ec C bd da bc bt ba ct bk ds cr eq es c9 d2;have ef:(c==0)=B1\/c=0/\R1.size=0\/c=0/\0<R1.size:=by
  by_cases i:c=0
  .right;omega
  .exact .inl (fC.2 i)
 obtain E|⟨E,dn⟩|⟨E,dn⟩:=ef
 case' inl=>
  have B:=B8;generalize cq=cI at *
 case' inr.inl=>
  obtain⟨-,a7,G, -⟩:=q.out.z E;have df:(c==0)=A1:=by rw[E];rfl
  clear E;have bh:=d.out.2.2.trans<|B8.out.1.mono d.out.2.2.size;have F:=a7 cq _ s _ bh o.out.1 B8.out.2.2;have G:=λh v i=>G h (V a1 g a3) v i;go_wp2_with fail;refine dd F λK z=>?_;have x:Y K.heap.size K K.drew:=blW;have n:=z.trans<|x.mono z.size;have m:=B8.out.1.trans<|n.mono B8.out.1.size;have am:=(row3<|(m.block _<|ai d.out.1).trans d.out.1).2.2.1;have y:=d.out.2.2.trans<|m.mono d.out.2.2.size;have ad:=d.out.2.1.bel m;have a4:=λh v i=>G h v i;have dk:¬(0:Int)<(R1.size:Int):=O;clear F a7 G av z x;go_wp2_with fail;refine wp_region_held_drew (S:=λaf=>af.cell? _=Ax _) J am (λhS=>?_);simp[iC,fh];apply aI 0 (A5 R1) R R hS (λl r=>by go_simp);simp[A3];apply aI 1 (be a9 2) R R hS (λl r=>by go_simp);simp[A3];apply aI 2 (B6 #[V a1 g a3]) R R hS (λl r=>by go_simp);simp[A3];refine wpAnyH_ready (rs:=[3]) J I<|AllReadyH.cons R (λa6 ao=>?_) AllReadyH.nil;go_simp;refine dd (a4 _ y ad) λcF f=>?_;refine ao _ _ (ag f am) (λhS=>?_);clear ao a6;simp[cC];apply aI 4 (B9 B1) R R hS (λl r=>by go_simp);simp[A3];apply aI 5 (B9 B1) R R hS (λl r=>by go_simp);simp[A3];apply aI 6 (A5 R1) R R hS (λl r=>by go_simp);simp[A3];apply aI 7 (zI R1.size) R R hS (λl r=>by go_simp);simp[A3];apply aI 8 (B9 B1) R R hS (λl r=>by go_simp);simp[A3];apply aI 9 (B9 B1) R R hS (λl r=>by go_simp);simp[A3];apply qz 10 R R hS;simp[A3];apply qz 11 R R hS;simp[A3];apply qz 12 R R hS;simp[A3];apply qz 13 R R hS;simp[A3];apply qz 14 R R hS;simp[A3];apply qz 15 R R hS;simp[A3];apply qz 16 R R hS;simp[A3];apply aI 17 (B9 B1) R R hS (λl r=>by go_simp);simp[A3];apply aI 18 (B9 B1) R R hS (λl r=>by go_simp);simp[A3];refine wpAnyH_done J ?_ _;have ax:=m.trans<|f.mono m.size;have B:=jG ax ((((n.trans<|f.mono n.size).block _<|ai O)).trans O)<|B8.out.2.2.mono λb _ i=>(n.trans<|f.mono n.size).block b i;clear n m f ax am y ad a4 B8 hS;generalize cF=cI at *
 case' inr.inr=>
  have⟨_,a7,G,ca⟩:=q.out.z E;have⟨ms,cv,cc⟩:=ca dn;have df:(c==0)=A1:=by rw[E];rfl
  clear E;have bh:=d.out.2.2.trans<|B8.out.1.mono d.out.2.2.size;have F:=a7 cq _ s _ bh o.out.1 B8.out.2.2;go_wp2_with fail;refine dd F λK z=>?_;have x:Y K.heap.size K K.drew:=blW;have n:=z.trans<|x.mono z.size;have m:=B8.out.1.trans<|n.mono B8.out.1.size;have am:=(row3<|(m.block _<|ai d.out.1).trans d.out.1).2.2.1;have y:=d.out.2.2.trans<|m.mono d.out.2.2.size;have ad:=d.out.2.1.bel m;have a4:=λh v i=>G h (V a1 g a3) v i;have a6:=λh v=>cv h v;have bj:=λh a8 ao cd ce=>cc h a8 ao cd ce;have dk:(0:Int)<(R1.size:Int):=O;have d7:∀(d3 a8 ao:B7)(w:A2),(Instr.field 28 (B6 #[d3,a8,ao]) 2).run Q w= .ok (B6 #[ao]) w:=λ_ _ _ _=>J;clear F a7 G cv cc ca av z x;go_wp2_with fail;go_region_held3 (λaf=>af.cell? (aj a9 2)=Ax (V a1 g a3)) (first|go_keep|exact ag bx O|exact ag r O|exact ag f am) (first|(go_at_call 11;refine dd (a4 _ y ad) λcF f=>?_)|(go_at_call 6;apply(a6 _<|y.trans<|f.mono y.size).mono;rintro e _ ⟨ee,_,ao,rfl,b0,r⟩;obtain⟨_,_,rfl⟩:=b0.form)|(go_at_call 12;refine dd (bj _ _ _ b0<|(ad.nds.below f).below r) λd6 bx=>?_))
  have bf:=(f.trans<|r.mono f.size).trans<|bx.mono (by have:=f.size;have:=r.size;omega);have ax:=m.trans<|bf.mono m.size;have B:=jG ax ((((n.trans<|bf.mono n.size).block _<|ai O)).trans O)<|B8.out.2.2.mono λb _ i=>(n.trans<|bf.mono n.size).block b i;clear n m f r bx bf ax am y ad a4 a6 bj B8 b0;generalize d6=cI at *
 all_goals
  have ax:=row3 B.out.2.1;go_wp2;go_loopw [59] (λn wr=>∃b:Nat,b<=g/\n=zI b/\Ov L bn #[zI c,zI a,V br g A] (V br g A) s (b*9) wr) (λn _=>g-(B2 n).toNat)
  .exact⟨0,O,R,B.out.1,B.out.2.1,⟨_,by rw[o.out.2];have:=B.out.2.2.row;rw[o.out.2]at this;exact this,λ_ _=>rfl⟩,λad z=>⟨⟨_,(B.out.2.2.each ad z).1⟩,⟨_,(B.out.2.2.each ad z).2⟩⟩⟩
  .
   obtain⟨b,_,rfl,f⟩:=hrel;clear ax;by_cases eo:b<g
   .obtain⟨am,ad,z,rfl⟩:=f.at_ o.out.2 eo;have em:(b:Int)<(g:Int):=O;have e0:(0:Int)<=(b:Int):=O;have cc:=f.e ad<|db z;have⟨cI,dk,bh⟩:=aF cc.1.choose_spec;have⟨cF,df,bf⟩:=aF cc.2.choose_spec;have cv:=q.out.l _ (by rw[<-o.out.1];exact rm.2 ⟨ad,db z,R⟩);have⟨G,b0⟩:=aw<|M ad.N.nm;have⟨K,ca⟩:=aw<|M ad.N.ks;rw[b0]at bh cv;rw[ca]at bf cv;have bx:B3 (∀h d3,Ov L bn d3 (bI am g A) s (b*9) h->(h.cell? (aj am<|b*9+7)=Ax (V cI G dk)/\h.cell? (aj am<|b*9+8)=Ax (V cF K df))/\Ow h L.heap.size 9 1 (V cI G dk) G/\Ow h L.heap.size 3 1 (V cF K df) K):=λh d3 i=>by
     have c:=(i.cl o.out.2 z).1;have e:=i.e ad<|db z;rw[bh,bf]at c;rw[bh,bf,b0,ca]at e;exact⟨c,e⟩
    have eb:=ah z;have ax:=row3 f.p;have a4:=(bx.out _ _ f).1;have d8:=ah f;clear f cc bh bf z b0 ca;go_wp2;go_loopw [70] (λn wr=>∃r:Nat,r<=G/\n=zI r/\Ov L bn #[zI c,zI a,bI am g A] (bI am g A) s (b*9) wr) (λn _=>G-(B2 n).toNat)
    .exact⟨0,O,R,d8.out⟩
    .
     obtain⟨r,_,rfl,f⟩:=hrel;clear a4 ax;have ax:=row3 f.p;have m:=bx.out _ _ f;by_cases eh:r<G
     .obtain⟨_,ea,ey,rfl,a7,d6,d7⟩:=m.2.1.at_ eh;have eg:(r:Int)<(G:Int):=O;have d9:(0:Int)<=(r:Int):=O;have a4:=m.1;have y:=fs a7 f;clear m a7 f;go_wp2;exact⟨⟨r+1,O,by go_num,y.out.2.elt y.out.1 Z Z⟩,by simp[B2];omega⟩
     .obtain rfl:r=G:=O;have eg:¬(r:Int)<(r:Int):=O;have a4:=m.1;have d9:=ah f;clear m f;go_wp2;go_loopw [91] (λn wr=>∃j:Nat,j<=K/\n=zI j/\Ov L bn #[zI c,zI a,bI am g A] (bI am g A) s (b*9) wr) (λn _=>K-(B2 n).toNat)
      .exact⟨0,O,R,d9.out⟩
      .
       obtain⟨j,_,rfl,f⟩:=hrel;clear a4 ax;have ax:=row3 f.p;have m:=bx.out _ _ f;by_cases el:j<K
       .obtain⟨gk,ea,ey,rfl,a7,d6,d7⟩:=m.2.2.at_ el;have ei:(j:Int)<(K:Int):=O;have eL:(0:Int)<=(j:Int):=O;have a4:=m.1;have y:=fs a7 f;clear m a7 f;go_wp2;exact⟨⟨j+1,O,by go_num,y.out.2.elt y.out.1 Z Z⟩,by simp[B2];omega⟩
       .obtain rfl:j=K:=O;have ei:¬(j:Int)<(j:Int):=O;have y:=f.cl o.out.2 eb.out;have ey:=y.2.2;obtain⟨_,_⟩:=y.2.1 (b*9) O;obtain⟨_,_⟩:=y.2.1 (b*9+1) O;obtain⟨_,ee⟩:=y.2.1 (b*9+2) O;obtain⟨_,_⟩:=y.2.1 (b*9+3) O;obtain⟨_,_⟩:=y.2.1 (b*9+4) O;obtain⟨cr,_⟩:=y.2.1 (b*9+5) O;obtain⟨_,_⟩:=y.2.1 (b*9+6) O;obtain⟨_,_⟩:=m.1;have ea:=ah f;clear m f y;have k:=o.out.2;have d6:=(ea.out.le (m':=(b+1)*9) O);have d7:=((((((((d6.nod (j:=b*9) (u:=zI 77) k O).nod (j:=b*9+1) (u:=zI 0) k O).nod (j:=b*9+2) (u:=zI 0) k O).nod (j:=b*9+3) (u:=zI 0) k O).nod (j:=b*9+4) (u:=zI 0) k O).nod (j:=b*9+5) (u:=zI 0) k O).nod (j:=b*9+6) (u:=nh) k O).nod (j:=b*9+7) (u:=fe) k O).nod (j:=b*9+8) (u:=fe) k O;have a7:=ah d7;clear d6 d7 k;go_wp2_with fail;first
        |exact⟨⟨_,O,by go_num,a7.out⟩,by simp[B2];omega⟩|exact⟨⟨_,_,_,_,⟨_,O,R,a7.out⟩,R,R,R,by go_num⟩,by simp[B2];omega⟩
   .obtain rfl:b=g:=O;have em:¬(b:Int)<(b:Int):=O;have z:=f.bl;have G:=d.out.2.2.trans<|z.mono d.out.2.2.size;have x:Y wr.heap.size wr wr.drew:=blW;have tz:=row3<|(z.block _<|ai d.out.1).trans d.out.1;have ad:=G.trans<|x.mono G.size;have a6:=λh v=>q.out.ip h v;have bj:=λh a8 ao cd ce=>q.out.wp h a8 ao cd ce;have am:=(d.out.2.1.nds.below z).below x;have r:=fs ad am;unfold psV at a6;clear f z x G ad am;go_wp2_with fail;go_region_held3 (λaf=>af.cell? (aj a9 0)=Ax (zI c)/\af.cell? (aj a9 1)=Ax (zI a)/\af.cell? (aj a9 2)=Ax (V a1 b a3)) (first|go_keep|exact⟨ag y<|ag m tz.1,ag y<|ag m tz.2.1,ag y<|ag m tz.2.2.1⟩|exact⟨ag m tz.1,ag m tz.2.1,ag m tz.2.2.1⟩) (first|(go_at_call 6;apply(a6 _ r.out.1).mono;rintro e _ ⟨bf,_,rfl,a4,a7,m⟩;have K:=a7.nds;rw[a4]at K;obtain⟨_,_,rfl⟩:∃a c,bf=V a b c:=by have:=K.form;rw[bw.out]at this;exact this)|(go_at_call 7;refine dd (bj _ _ _ K<|r.out.2.below m) λ_ y=>?_))
    go_wp2;go_ret;exact⟨R,(r.out.1.trans<|m.mono r.out.1.size).trans<|y.mono (by have:=r.out.1.size;have:=m.size;omega)⟩
theorem akp(h:bH ns=(0,0))(d:1<M ns):(ab ns<|(M ns:Int)-1).ks≠[]:=by
 have c:=av7 h;obtain⟨a,_⟩:∃a,ns[M ns-1]?=Ax a:=⟨_,bm O⟩;have b:ab ns ((M ns:Int)-1)=a:=by
  simp_all [ab]
 rw[b];intro _;have e:=c.l;grind [aoh,sx,Af]
theorem asf{l:zLB}(h:l≠[])(c:∀x∈l,0<x.size):0<(iw l).size:=by
 have e:∀(l:zLB)(a:Bz),a.size<=(l.foldl (· ++·) a).size:=by
  intro l
  induction l with
  |nil=>grind|cons x b d=>grind
 match l,h with
 |x::b,_=>
  grind [Br,ByteArray.size_append,iw]
theorem ao8{L}(h:bH L=(0,0))(a:(fK L).size<=65536):jv L=fK L:=by grind [jv,yq]
theorem asg{L}(b:∀N∈L,oC N)(h:bH L=(0,0))(f:(fK L).size<=65536):∃ms,ark (fK L) ms/\ms.map Nd.bk=L.map Nd.bk/\fK ms=fK L/\(1<M L->(fK L).size≠0):=by
 obtain⟨g,_,a,d⟩:=av1 b (by rw[h]);have⟨ms,i,c⟩:=a.outV f d<|Exw.refl g;refine⟨ms,i,c,by grind [akk],λ_=>?_⟩;unfold fK;exact Nat.pos_iff_ne_zero.1 (asf (by simp_all [akp]) λ_ e=>by
  obtain⟨_,_,rfl⟩:=rm.1 e;rw[az];exact jm Z<|Nat.le_add_left _ _)
theorem ash{a}(h:1<=a/\a<=18):((tg a).2=(tg a).1+1/\(tg a).1≠4/\1<=(tg a).1/\(tg a).1<=10)\/((tg a).1=4/\(tg a).2=4):=by
 unfold tg;grind
theorem Et(h:jF N.k=A1):N.k=28\/N.k=29\/N.k=31:=by grind [jF]
theorem yK(h:jF N.k=A1)(a:N.k=31->1<=N.op/\N.op<=18):((py N=tq N+1/\tq N≠4/\1<=tq N/\tq N<=10)\/(tq N=4/\py N=4))/\iu N.k N.op=tq N/\uj N.k N.op=py N:=by
 unfold tq py iu uj;obtain e|e|e:=Et h;all_goals (simp_all [ash])
theorem ao9{a:Nd}(h:jF a.k=B1):11<=iu a.k a.op:=by
 grind [jF,iu]
theorem asi(a E N q)(d:jF N.k=A1)(f:N.k=31->1<=N.op/\N.op<=18)(e:(ab a q).k=31->1<=(ab a q).op/\(ab a q).op<=18):
  (ite (aig N (ab a q)=A1) (mI<|E q)<|E q)=je a E q (ym N<|iu N.k N.op):=by
 have⟨_,b,c⟩:=yK d f;unfold je ym aig;rw[b,c];cases hM:jF (ab a q).k with
 |false=>
  have:=ao9 hM;grind|true=>
  obtain⟨_,_,_⟩:=yK hM e;grind
theorem apa(a E N q)(c:jF N.k=A1)(e:N.k=31->1<=N.op/\N.op<=18)(d:(ab a q).k=31->1<=(ab a q).op/\(ab a q).op<=18):
  (ite (abh N (ab a q)=A1) (mI<|E q)<|E q)=je a E q (uj N.k N.op):=by
 obtain⟨_,_,b⟩:=yK c e;unfold je abh;rw[b];cases hM:jF (ab a q).k with
 |false=>
  have:=ao9 hM;grind|true=>
  obtain⟨_,_,_⟩:=yK hM d;grind
theorem ayy(a E N)(q:Nat)(b:dA N 0=(q:Int))(d:19<=N.op/\N.op<=22)(c:(ab a q).k=31->1<=(ab a q).op/\(ab a q).op<=18):
  JG N.op++(ite ((decide (N.op=19)&&yo (ab a q))=A1) ⟨#[32]⟩ Br)++(ite (jF (ab a q).k=A1) (mI<|E q)<|E q)=unB a E N:=by
 unfold unB;rw[b]
 congr 1
 .unfold JG unS;rw[b];obtain e|e|e|e:=(O:N.op=19\/N.op=20\/N.op=21\/N.op=22)
  .rw[e];cases hn:yo (ab a q)<;>simp
  all_goals simp_all
 .unfold je;cases hM:jF (ab a q).k with
  |false=>
   have:=ao9 hM;grind|true=>
   obtain⟨_,_,_⟩:=yK hM c;grind
def aiv{a}(h:1<=a/\a<=18):di (60+a)=rK (60+a):=by
 obtain⟨_,_⟩:=h;obtain rfl|rfl|rfl|rfl|rfl|rfl|rfl|rfl|rfl|rfl|rfl|rfl|rfl|rfl|rfl|rfl|rfl|rfl:=(O:a=1\/a=2\/a=3\/a=4\/a=5\/a=6\/a=7\/a=8\/a=9\/a=10\/a=11\/a=12\/a=13\/a=14\/a=15\/a=16\/a=17\/a=18);all_goals decide+kernel
def asj(h:N.k=28):Ej N=⟨#[32,97,110,100,32]⟩:=by unfold Ej pv;rw[ae h];rfl
def awh(h:N.k=29):Ej N=⟨#[32,111,114,32]⟩:=by unfold Ej pv;rw[aa O,ae h];rfl
theorem ask(h:N.k=31)(a:1<=N.op/\N.op<=18):Ej N=⟨#[32]⟩++rK (60+N.op)++⟨#[32]⟩:=by simp_all [Ej,pv,aiv]
theorem asl(a:N.k=31->1<=N.op/\N.op<=18):pv N<=100/\0<=pv N:=by
 grind [pv]
theorem akq(b:jF N.k=A1)(c:N.k=31->1<=N.op/\N.op<=18):(di<|pv N).size<=100:=by
 obtain e|e|e:=Et b
 .unfold pv;rw[ae e];decide+kernel
 .unfold pv;rw[aa O,ae e];decide+kernel
 .have a:=c e;unfold pv;rw[aa O,aa O,ae e,aiv a];grind [Iy]
def apb(x):cD [x]=x:=by rfl
theorem awi(N):⟨#[40]⟩++cD (re N)++⟨#[41]⟩++⟨#[32]⟩=Fl N:=by
 unfold Fl re;by_cases b:N.op=1
 .rw[ae b,ae b,aj0];by_cases a:N.nm=[]
  .rw[ae a,ae a,a];rfl
  .rw[aa a,aa a];have c:(⟨#[41]⟩:Bz)++⟨#[32]⟩=⟨#[41,32]⟩:=by rfl
   grind [akl,ByteArray.append_assoc]
 .rw[aa b,aa b];have c:(⟨#[41]⟩:Bz)++⟨#[32]⟩=⟨#[41,32]⟩:=by rfl
  grind [ByteArray,Br,ByteArray.append_empty,ByteArray.append_assoc]
theorem apc(h:pG ns N=A1)(c:M N.nm<=200):(cD<|re N).size<=1000000:=by
 have b:∀a∈re N,a.size<=4000:=by
  intro a hs;unfold re at hs;split at hs
  .rcases dg.1 hs with hs|hs
   .grind [vy]
   .obtain rfl:=ic.1 hs;decide
  grind [vy]
 grind [Dc,re]
theorem Dr{ks:zLI}(E){q}(b:M ks=1)(c:ks[0]?=Ax q):cD (ks.map E)=E q:=by
 match ks,b with
 |[a],_=>
  obtain rfl:a=q:=U;rfl
structure Cx (w0:A2) (ns:zLD) (L:zLJ) (base:Nat) (vs:B7):Prop where
 tp:Tp w0 ns L base vs
 pow:yE w0
 lay:Kh w0
 sz:Szd ns
 len:M ns<=3000
 n0:∀i:Int, -9223372036854775808<=(ab ns i).n
 n1:∀i:Int,(ab ns i).n<=9223372036854775807
structure VA (w0:A2) (vb:Nat) (ns:zLD) (L:zLJ) (f:Nat):Prop where
 e:∀(z t:Nat),z<f->z<M ns->gh (ab ns z).k=A1->t+f<=50000->Jk w0 vb L t z (sI ns f z t)
 s:∀(z t:Nat),z<f->z<M ns->jE (ab ns z).k=A1->t+f<=50000->Jk w0 vb L t z (ry ns f z t)
 b:∀(z t:Nat)(word:Bz),z<f->z<M ns->(ab ns z).k=7->t+f<=50000->word.size<=100->Pw w0 vb 179 #[vP vb,kH w0 t,.string word,nV<|qj L z] (uL ns f z word t)
def VA.zero(d c b L):VA d c b L 0:=⟨λ_ _ a=>absurd a O,λ_ _ a=>absurd a O,λ_ _ _ a=>absurd a O⟩
section
variable {w0 : World} {vb : Nat} {ns : zLD} {L : zLJ} {base : Nat} {vs : Value} {f : Nat}
def Cx.op(C:Cx w0 ns L base vs):∀j:Nat,j<M ns->(ab ns j).k=31->1<=(ab ns j).op/\(ab ns j).op<=18:=λj b a=>(ng (jf<|C.sz.nb j b).1).2.2 a
def JL(C:Cx w0 ns L base vs)(g:VA w0 vb ns L f){q}(n:q<=f)(a:q<M ns)(d:(ab ns q).k=1)(o:t+f<50000):Jk w0 vb L t q (Ab (λk t=>ry ns f k t) (ab ns q).ks t):=by
 have⟨j,_⟩:=jf<|C.sz.nb q a;have h:=vw j d;refine vH 1 C.tp a d<|ar0 w0 vb ns L base vs C.tp t O q a _ R O _ (λ_ l=>?_);obtain⟨e,i,rfl⟩:=pq l;have⟨m,b⟩:=ij (C.sz.nb q a) a e i;have c:=Iu _ 0 h e O O;rw[b.id]at c⊢;exact g.s m _ (by have:=b.lt;omega) b.len c O
def exV(C:Cx w0 ns L base vs)(g:VA w0 vb ns L f)(e:i<M ns)(r:i<=f)(o:t+f<=50000){a}(h:∀j,a<=j->j<a+m->gh (ab ns<|dA (ab ns i) j).k=A1)(s:a+m<=(ab ns i).ks.length):∀z∈((ab ns i).ks.drop a).take m,Jk w0 vb L t z (sI ns f z t):=by
 intro z p;have⟨j,n,c⟩:=iD p;rw[mA,tu]at n;rw[List.getElem_take,List.getElem_drop]at c;obtain⟨q,b⟩:=ij (C.sz.nb i e) e (a+j) O;have l:=yD (N:=ab ns i) (j:=a+j) O;rw[l,b.id]at c;have d:=h (a+j) O O;rw[b.id]at d;rw[<-c];exact g.e q t (by have:=b.lt;omega) b.len d o
def lsV{a:zLI}(h:∀z∈a,Jk w0 vb L t z<|sI ns f z t)(b:M a<=1048576):∀v,uu w0 L v a->Pw w0 vb 178 #[vP vb,kH w0 t,v] (cD<|a.map λk=>sI ns f k t):=λv c=>adC w0 vb L t a v c b _ h
def bsV(C:Cx w0 ns L base vs)(b:VA w0 vb ns L f){q}(d:q<f)(a:q<M ns)(c:gh (ab ns q).k=A1)(g:t+f<=50000):Pw w0 vb 187 #[vP vb,kH w0 t,nV<|qj L q] (Hn ns (λk=>sI ns f k t) q):=by
 have:=ajI w0 vb ns L base vs C.tp t q a _<|b.e q t d a c g;unfold Hn;omega
def ayz(C:Cx w0 ns L base vs)(h:VA w0 vb ns L f){q}(l:q<=f)(b:q<M ns)(e:(ab ns q).k=36)(i:t+f<50000):Pw w0 vb 177 #[vP vb,kH w0 t,nV<|qj L q] (CH ns (λk t=>ry ns f k t) (ab ns q) t):=by
 have⟨g,_⟩:=jf<|C.sz.nb q b;obtain⟨_,c,d,_⟩:=ahA g e;obtain⟨j,a⟩:=ij (C.sz.nb q b) b 0 O;rw[a.id]at c;have:=awa w0 vb ns L base vs C.tp t O q b _ R e O d (apc g d) j a.at_ _<|JL C h (by have:=a.lt;omega) a.len c i;unfold CH;rw[a.id,<-awi];omega
theorem aAh(C:Cx w0 ns L base vs)(i:VA w0 vb ns L f){q}(s:q<=f)(c:q<M ns)(H:40<=(ab ns q).k/\(ab ns q).k<=42)(n:t+f<=50000):Jk w0 vb L t q (uK ns (λk=>sI ns f k t)<|ab ns q):=by
 have⟨u,_⟩:=jf<|C.sz.nb q c;have F:=yC<|C.sz.nb q c;have r:=λh E=>ij (C.sz.nb q c) c h E;unfold uK;by_cases p:(ab ns q).k=41
 .rw[ae p];have⟨l,d,A⟩:=ng u;obtain⟨a,b⟩:=r 0 O;obtain⟨v,j⟩:=r 1 O;have x:=gI 2 0 d 0 O O;have G:=b.lt;have e:=exV C i c s n (a:=1) (m:=1) (λh y z=>by have o:h=1:=O;subst o;exact gI 2 0 d 1 O O) O;rw[ci U]at e;have g:=m_w C.tp O c R O<|.par l b.at_ (ahJ w0 vb t _ _<|i.e a t O b.len (by rw[<-b.id];exact x) n)<|lsV e U;have B:((ab ns q).ks.drop 1).map (λk=>sI ns f k t)=[sI ns f v t]:=by
   have w:=j.at_
   match hks:(ab ns q).ks,l with
   |[K,ad],_=>
    grind
  rw[B,apb]at g;rw[b.id,j.id];have w:(⟨#[93]⟩:Bz)++⟨#[32,61,32]⟩=⟨#[93,32,61,32]⟩:=by rfl
  rw[<-w];have:=vH _ C.tp c p g;simpa only[aB] using this
 rw[aa p];obtain⟨l,d,A⟩:=ou u O;obtain⟨a,b⟩:=r 0 O;have G:=b.lt;rw[b.id]at d;by_cases j:(ab ns q).k=42
 .rw[ae j];have e:=exV C i c s n (a:=0) (m:=1) (λh y z=>by have o:h=0:=O;subst o;rw[b.id];exact d) O;rw[iq,ci O]at e;have g:=m_v C.tp O c R O F<|.nmd j<|lsV e O;rw[Dr _ l b.at_]at g;rw[b.id];exact vH _ C.tp c j g
 .rw[aa j,b.id];exact vH 40 C.tp c O<|m_w C.tp O c R O<|.itm b.at_<|i.e a t O b.len d n
theorem ayA(C:Cx w0 ns L base vs)(l:VA w0 vb ns L f)(ad:i<=f)(b:i<M ns)(af:gh (ab ns i).k=A1)(ak:t+f<50000):Jk w0 vb L t i (prE ns (λq=>sI ns f q t) (λq t=>ry ns f q t) (ab ns i) t):=by
 have⟨r,_⟩:=jf<|C.sz.nb i b;have F:=yC<|C.sz.nb i b;have n:=λv H=>ij (C.sz.nb i b) b v H;have g:(ab ns i).ks.length<=1048576:=O;have h:t<=100000:=O;have an:=aL af;have K:jF (ab ns i).k=A1->Pw w0 vb 95 #[vP vb,kH w0 t,nV<|qj L i] (D3 ns (λq=>sI ns f q t) (ab ns i) (Ej<|ab ns i)<|iu (ab ns i).k (ab ns i).op):=by
  intro s;have x:=Et s;have⟨p,d,u⟩:=ng r;obtain⟨a,c⟩:=n 0 O;obtain⟨w,j⟩:=n 1 O;have o:=gI 2 0 d 0 O O;have A:=gI 2 0 d 1 O O;rw[c.id]at o;rw[j.id]at A;have E:=c.lt;have al:=j.lt;have B:=ary w0 vb ns L base vs C.tp C.pow C.lay.tabs t i b s C.op a c.at_ c.len _ (l.e a t O c.len o O) w j.at_ j.len _ (l.e w t O j.len A O) (asl O)<|akq s O;rw[asi ns (λq=>sI ns f q t) _ _ s O<|C.op a c.len,apa ns (λq=>sI ns f q t) _ _ s O<|C.op w j.len]at B;unfold D3;rw[c.id,j.id];exact B
 unfold prE;by_cases x:(ab ns i).k=28
 .rw[ae x,<-asj x];exact vH _ C.tp b x<|K (by rw[x];rfl)
 rw[aa x];by_cases y:(ab ns i).k=29
 .rw[ae y,<-awh y];exact vH _ C.tp b y<|K (by rw[y];rfl)
 rw[aa y];by_cases s:(ab ns i).k=31
 .rw[ae s,<-ask s (C.op i b s)];exact vH _ C.tp b s<|K (by rw[s];rfl)
 rw[aa s];by_cases z:(ab ns i).k=30
 .rw[ae z];have⟨p,d,u⟩:=ou r;obtain⟨a,c⟩:=n 0 O;have E:=c.lt;rw[c.id]at d;have B:=aoj w0 vb ns L base vs C.tp C.pow t i b z C.op a c.at_ c.len _<|l.e a t O c.len d O;rw[ayy ns (λq=>sI ns f q t) _ a c.id (u z)<|C.op a c.len]at B;exact vH _ C.tp b z B
 rw[aa z];by_cases G:(ab ns i).k=32
 .rw[ae G];have⟨p,d,u⟩:=ng r;obtain⟨a,c⟩:=n 0 O;obtain⟨w,j⟩:=n 1 O;have o:=gI 2 0 d 0 O O;have A:=gI 2 0 d 1 O O;have E:=c.lt;have al:=j.lt;rw[c.id]at o⊢;rw[j.id]at A⊢;have:=vH _ C.tp b G<|m_w C.tp h b R g<|.ind c.at_ j.at_ (bsV C l O c.len o O)<|ahJ w0 vb t _ _<|l.e w t O j.len A O;simpa only[aB] using this
 rw[aa G];by_cases j:(ab ns i).k=33
 .rw[ae j];have⟨p,d,u⟩:=ou r;obtain⟨a,c⟩:=n 0 O;have E:=c.lt;rw[c.id]at d⊢;exact vH _ C.tp b j<|m_v C.tp h b R g F<|.fld j c.at_<|bsV C l O c.len d O
 rw[aa j];by_cases w:(ab ns i).k=34
 .rw[ae w];have⟨p,d⟩:=Gm r w;obtain⟨a,c⟩:=n 0 O;have E:=c.lt;have o:=gI _ 0 d 0 O O;have A:=exV C l (t:=t) b ad O (a:=1) (m:=(ab ns i).ks.length-1) (λv u _=>gI _ 0 d v O O) O;rw[ci U]at A;rw[c.id]at o⊢;exact vH _ C.tp b w<|m_d C.tp h b R g<|.call c.at_ (bsV C l O c.len o O)<|lsV A U
 rw[aa w];by_cases o:(ab ns i).k=35
 .rw[ae o];have p:=Da r o;unfold ae1;refine vH _ C.tp b o<|m_d C.tp h b R g<|.tab (λam B=>adC w0 vb L t _ am B g _ (λ_ al=>?_));obtain⟨v,H,rfl⟩:=pq al;have⟨_,A⟩:=n v H;have d:=adx _ 0 p v O O;rw[A.id]at d⊢;exact aAh C l (by have:=A.lt;omega) A.len d O
 rw[aa o];by_cases A:(ab ns i).k=36
 .rw[ae A];exact vH _ C.tp b A<|m_w C.tp h b R g<|.fnx<|ayz C l ad b A ak
 rw[aa A];by_cases B:(ab ns i).k=37
 .rw[ae B];have⟨p,d,u⟩:=ou r;obtain⟨a,c⟩:=n 0 O;have E:=c.lt;rw[c.id]at d⊢;exact vH _ C.tp b B<|m_w C.tp h b R g<|.one c.at_<|Di w0 vb t _ _<|l.e a t O c.len d O
 rw[aa B];unfold Fk;obtain e|e|e|e|e|e|e|e:(ab ns i).k=20\/(ab ns i).k=21\/(ab ns i).k=22\/(ab ns i).k=23\/(ab ns i).k=24\/(ab ns i).k=25\/(ab ns i).k=26\/(ab ns i).k=27:=O
 .rw[ae e];exact vH _ C.tp b e<|m_w C.tp h b R g .nil_
 .rw[aa O,ae e];exact vH _ C.tp b e<|m_w C.tp h b R g .tru
 .rw[aa O,aa O,ae e];exact vH _ C.tp b e<|m_w C.tp h b R g .fls
 .rw[aa O,aa O,aa O,ae e];exact vH _ C.tp b e<|m_v C.tp h b R g O<|.int_ e C.lay (C.n0 i)<|C.n1 i
 .rw[aa O,aa O,aa O,aa O,ae O];exact vH _ C.tp b e<|m_v C.tp h b R g F<|.flt e
 .rw[aa O,aa O,aa O,aa O,aa O,ae e];exact vH _ C.tp b e<|m_v C.tp h b R g F<|.str e
 .rw[aa O,aa O,aa O,aa O,ae O];exact vH _ C.tp b e<|m_v C.tp h b R g F<|.nam e
 .rw[aa O,aa O,aa O,aa O,aa O,aa O,ae e];exact vH _ C.tp b e<|m_w C.tp h b R g .rst
end
section
variable {w0 : World} {vb : Nat} {ns : zLD} {L : zLJ} {base : Nat} {vs : Value} {f : Nat}
theorem ath{q:Nat}(E)(a:0<M N.ks)(b:N.ks[0]?=Ax (q:Int)):cD ((N.ks.take 1).map E)=E q:=by
 apply Dr E U;grind
theorem brV(C:Cx w0 ns L base vs)(h:VA w0 vb ns L f)(E:i<=f)(d:i<M ns)(G:(ab ns i).k=7)(z:t+f<50000)(u:Bz)(r:u.size<=100):
  Pw w0 vb 179 #[vP vb,kH w0 t,A5 u,nV<|qj L i] (yp ns (λq=>sI ns f q t) (λq t=>ry ns f q t) (λq w=>uL ns f q w t) (ab ns i) u t):=by
 have⟨H,_⟩:=jf<|C.sz.nb i d;have s:=λA F=>ij (C.sz.nb i d) d A F;have o:(ab ns i).ks.length<=1048576:=O;have p:t<=100000:=O;obtain⟨_,_,_,x,B⟩:=ahB H G;obtain⟨a,n⟩:=s 0 O;obtain⟨K,c⟩:=s 1 O;have ad:=n.lt;have af:=c.lt;have y:=exV C h (t:=t) d E O (a:=0) (m:=1) (λA _ _=>U) O;rw[iq]at y;have j:=lsV y U;rw[ath _ O n.at_]at j;rw[c.id]at x;have l:=JL C h O c.len x z;unfold yp;rw[n.id,c.id];obtain g|g:=cG (ab ns i).ks.length 3
 .rw[ae g,λ_=>lj];exact b_w C.tp p d R o r<|.two O j c.at_ l
 .rw[aa O];obtain⟨v,b⟩:=s 2 O;have wc:=b.lt;rw[b.id]at B⊢;by_cases e:(ab ns v).k=7
  .rw[ae e];exact b_w C.tp p d R o r<|.elf O j c.at_ l b.at_ b.len e<|h.b v t _ O b.len e O Z
  .rw[aa e];exact b_w C.tp p d R o r<|.els O j c.at_ l b.at_ b.len e<|JL C h O b.len O z
theorem ayB(C:Cx w0 ns L base vs)(l:VA w0 vb ns L f)(r:i<=f)(b:i<M ns)(a8:jE (ab ns i).k=A1)(y:t+f<50000):
  Jk w0 vb L t i (prS ns (λq=>sI ns f q t) (λq t=>ry ns f q t) (λ_ w=>yp ns (λq=>sI ns f q t) (λq t=>ry ns f q t) (λq w=>uL ns f q w t) (ab ns i) w t) (ab ns i) t):=by
 have⟨u,_⟩:=jf<|C.sz.nb i b;have v:=λp a7=>ij (C.sz.nb i b) b p a7;have g:(ab ns i).ks.length<=1048576:=O;have o:t<=100000:=O;have a9:=aL a8;have a6:∀k:Int,k=34->gh k=A1:=λk a5=>by rw[a5];rfl
 have am:(ab ns i).nm.length<=200->(cD (ab ns i).nm).size<=1000000:=λa2=>by have:=Dc _<|vy u;omega
 have a3:(ab ns i).nm.length=1->cD (ab ns i).nm=nm0 (ab ns i):=λa2=>by
  unfold nm0
  match hn:(ab ns i).nm,a2 with
  |[a4],_=>rfl
 unfold prS;by_cases ao:(ab ns i).k=1
 .rw[ae ao];exact JL C l r b ao y
 rw[aa ao];by_cases z:(ab ns i).k=2
 .rw[ae z];have⟨h1,h⟩:=aaH u z;by_cases B:(ab ns i).ks=[]
  .rw[ae B,λa4=>lj];exact vH 2 C.tp b z<|m_n C.tp o b R g O (am h)<|.let0 z U
  .rw[aa B];have d:=exV C l (t:=t) b r O (λp j x=>gI _ 0 h1 p O O) O;rw[iq,ci O]at d;exact vH 2 C.tp b z<|m_n C.tp o b R g O (am h)<|.let1 z U<|lsV d g
 rw[aa z];by_cases E:(ab ns i).k=3
 .rw[ae E];have⟨h1,h,j⟩:=De u E;obtain⟨a,c⟩:=v 0 O;have d:=exV C l (t:=t) b r O (a:=0) (m:=1) (λp ak al=>U) O;rw[iq,ci O]at d;have s:=m_n C.tp o b R g O O<|.cst E<|lsV d g;rw[Dr _ h1 c.at_,a3 j]at s;rw[c.id];exact vH 3 C.tp b E s
 rw[aa E];by_cases F:(ab ns i).k=4
 .rw[ae F];have⟨h1,h,j⟩:=aaI u F;obtain⟨a,c⟩:=v 0 O;have a0:=c.lt;rw[c.id]at h⊢;have s:=m_n C.tp o b R g O O<|.fns F c.at_<|ayz C l O c.len h y;rw[a3 j]at s;exact vH 4 C.tp b F s
 rw[aa F];by_cases G:(ab ns i).k=5
 .rw[ae G];have⟨h1,h,j,x⟩:=afs u G;obtain⟨m,s⟩:∃m:Nat,(ab ns i).n=m:=⟨(ab ns i).n.toNat,O⟩;have H:(ab ns i).n.toNat=m:=O;rw[H]at j x⊢;have e:=exV C l (t:=t) b r O (λp av ax=>ank _ 0 j p O O) O;rw[iq]at e;have A:=exV C l (t:=t) b r O (λp av ax=>gI _ m x p O O) O;rw[ci U]at A;have:=vH 5 C.tp b G<|m_v C.tp o b R g (yC<|C.sz.nb i b)<|.set G s O (lsV e U)<|lsV A U;simpa only[aB] using this
 rw[aa G];by_cases ar:(ab ns i).k=6
 .rw[ae ar];obtain⟨h1,h⟩:=E4 u O;obtain⟨a,c⟩:=v 0 O;have a0:=c.lt;rw[c.id]at h⊢;exact vH 6 C.tp b ar<|m_w C.tp o b R g<|.do_ c.at_<|l.e a t O c.len (a6 _ h) O
 rw[aa ar];by_cases ad:(ab ns i).k=7
 .rw[ae ad];exact vH 7 C.tp b ad<|m_w C.tp o b R g<|.iff<|brV C l r b ad y _ Z
 rw[aa ad];by_cases af:(ab ns i).k=8
 .rw[ae af];have⟨h1,h,j⟩:=Df u af;obtain⟨a,c⟩:=v 0 O;obtain⟨K,e⟩:=v 1 O;have a0:=c.lt;have an:=e.lt;have d:=exV C l (t:=t) b r O (a:=0) (m:=1) (λp ak al=>U) O;rw[iq]at d;have A:=lsV d U;rw[ath _ O c.at_]at A;rw[e.id]at j;rw[c.id,e.id];exact vH 8 C.tp b af<|m_w C.tp o b R g<|.whl h1 A e.at_<|JL C l O e.len j y
 rw[aa af];by_cases a1:(ab ns i).k=9\/(ab ns i).k=10
 .rw[ae a1];by_cases ap:(ab ns i).k=10
  .rw[aa O];have⟨h1,h,j,x⟩:=Gn u ap;rw[h1];have d:=exV C l (t:=t) b r O (a:=0) (m:=1) (λp ak al=>U) O;rw[iq]at d;obtain⟨K,e⟩:=v 1 O;have an:=e.lt;show Jk _ _ _ _ _ (_++_++_++_++_++Ab _ (ab ns<|dA (ab ns i) 1).ks t);rw[e.id]at j⊢;exact vH _ C.tp b ap<|m_n C.tp o b R g O (am x)<|.eac ap h1 (lsV d U) e.at_<|JL C l O e.len j y
  .have A:(ab ns i).k=9:=O;rw[ae A];have⟨h1,h,j,x⟩:=aaJ u A;obtain h1|h1:=h1
   .rw[h1]at h j⊢;have d:=exV C l (t:=t) b r O (m:=2) (λp av ax=>gI _ 0 h p O O) O;rw[iq]at d;obtain⟨K,e⟩:=v 2 O;have an:=e.lt;have H:(ab ns<|dA (ab ns i) 2).k=1:=j;show Jk _ _ _ _ _ (_++_++_++_++_++Ab _ (ab ns<|dA (ab ns i) 2).ks t);rw[e.id]at H⊢;exact vH 9 C.tp b A<|m_n C.tp o b R g O O<|.fr A O h1 (lsV d U) e.at_<|JL C l O e.len H y
   .rw[h1]at h j⊢;have d:=exV C l (t:=t) b r O (m:=3) (λp av ax=>gI _ 0 h p O O) O;rw[iq]at d;obtain⟨K,e⟩:=v 3 O;have an:=e.lt;have H:(ab ns<|dA (ab ns i) 3).k=1:=j;show Jk _ _ _ _ _ (_++_++_++_++_++Ab _ (ab ns<|dA (ab ns i) 3).ks t);rw[e.id]at H⊢;exact vH 9 C.tp b A<|m_n C.tp o b R g O O<|.fr A O h1 (lsV d U) e.at_<|JL C l O e.len H y
 rw[aa a1];by_cases H:(ab ns i).k=11
 .rw[ae H];exact vH _ C.tp b H<|m_w C.tp o b R g .brk
 rw[aa H];by_cases ap:(ab ns i).k=12
 .rw[ae ap];exact vH _ C.tp b ap<|m_w C.tp o b R g .nxt
 rw[aa ap];by_cases A:(ab ns i).k=13
 .rw[ae A];have h1:=afu u A;by_cases B:(ab ns i).ks=[]
  .rw[ae B,λa4=>lj];exact vH _ C.tp b A<|m_w C.tp o b R g<|.ret0 U
  .rw[aa B];have d:=exV C l (t:=t) b r O (λp j x=>gI _ 0 h1 p O O) O;rw[iq,ci O]at d;exact vH _ C.tp b A<|m_w C.tp o b R g<|.ret U<|lsV d g
 rw[aa A];by_cases B:(ab ns i).k=14
 .rw[ae B];have⟨h1,h,j,x⟩:=aaK u B;obtain⟨a,c⟩:=v 0 O;obtain⟨K,e⟩:=v 1 O;have a0:=c.lt;have an:=e.lt;rw[c.id]at h⊢;rw[e.id]at j⊢;exact vH _ C.tp b B<|m_n C.tp o b R g O (am x)<|.try_ B c.at_ e.at_ (JL C l O c.len h y)<|JL C l O e.len j y
 rw[aa B];by_cases e:(ab ns i).k=15
 .rw[ae e];have⟨h1,h⟩:=Dg u e;obtain⟨a,c⟩:=v 0 O;have d:=exV C l (t:=t) b r O (a:=0) (m:=1) (λp ak al=>U) O;rw[iq,ci O]at d;have s:=m_w C.tp o b R g<|.thr<|lsV d g;rw[Dr _ h1 c.at_]at s;rw[c.id];exact vH _ C.tp b e s
 rw[aa e,ae O];obtain⟨h1,h⟩:=E4 u O;obtain⟨a,c⟩:=v 0 O;have d:=exV C l (t:=t) b r O (a:=0) (m:=1) (λp ak al=>U) O;rw[iq,ci O]at d;have s:=m_w C.tp o b R g<|.dfr<|lsV d g;rw[Dr _ h1 c.at_]at s;rw[c.id];exact vH 16 C.tp b O s
def asm(C:Cx w0 ns L base vs)(b:VA w0 vb ns L f):VA w0 vb ns L (f+1):=
 ⟨λh g e a c d=>by rw[sI];exact ayA C b O a c O,
  λh g e a c d=>by rw[ry];exact ayB C b O a c O,
  λh g k e a i d j=>by rw[uL];exact brV C b O a i O k j⟩
def vA(C:Cx w0 ns L base vs):∀f,VA w0 vb ns L f|0=>VA.zero w0 vb ns L|f+1=>asm C<|vA C f
end
open Go.Lib (strCells strCells_length)
theorem J0(w v a)(h:dE w v a)(bl:∀(k n c i N) (F),v=V (Ax k) n c->a[i]?=Ax N->w.cell? ⟨(k.add<|i*9).block,(k.add<|i*9).off+7,B4⟩=Ax F->vB F)(bx:M a<=1048576)(bb:∀N∈a,iE N)(bw:∀N∈a,oC N)(A:Kh w)(b1:yE w)
  (bE:∀W,Y w.heap.size w W->Lib.TabIs Q W "strings.asciiSpace" .u8 Lib.asciiSpaceTab):
  A9 Q 10 #[B6 #[v]] w λe b=>e=A0 (A5<|jv a)/\Y w.heap.size w b:=by
 have bo:=λB=>(ay _ w).alloc eE B;have⟨cm,b8,ap⟩:=A.tabs.word;have L:B3 (∀W,Y w.heap.size w W->A9 Q 31 #[B6 #[v]] W (afK vB W a)):=λW f=>
  E6 vB W v a (λk n c i N F e b a2=>by
   subst e;obtain⟨_,e,d,_,an⟩:=h.get b;cases e;have:=ag f an.c7;rw[this]at a2;obtain rfl:d=F:=U;exact bl k n c i N d R b an.c7) (h.below f) bx bb (A.errs.below f O) cm b8 ((f.block _<|ai ap).trans ap) (λg j=>bE g<|f.trans<|j.mono f.size)
 obtain⟨bh,c,rfl⟩:=h.form;obtain⟨n,x⟩:∃n,M a=n:=⟨_,R⟩;rw[x]at L⊢;have m:B3 (M a=n/\(∀N∈a,iE N)/\(∀N∈a,oC N)/\Kh w/\yE w):=⟨x,bb,bw,A,b1⟩;have a7:=L.out _<|bo<|X #[V bh n c] 26;clear h bx bb bw A b1 ap bE x L bl;go_enter func10,ntmps10;go_wp2_with (go_at_call 31;fail);apply a7.mono;rintro e w1 ⟨r,a2⟩;have cp:(w.alloc<|X #[V bh n c] 26).heap.size=w.heap.size+1:=dC _ _;have t:=(bo _).trans<|r.mono O;have p:=λB=>(ay _ w1).alloc eE B;obtain⟨l,rfl⟩|⟨l,bj,b2,af,H,rfl,cd,bn,bz,a4⟩:=a2
 .have bk:((bH a).1 !=0)=A1:=U;have d:B3 (jv a=zE0):=by show _=_;unfold jv;grind
  generalize (bH a).1=b at bk;generalize (bH a).2=g;clear a7 l;go_wp21
  go_ret;exact⟨by rw[d.out];rfl,t.trans<|(p _).mono t.size⟩
 .have ba:(bH a).1=0:=by rw[l]
  have u:Y w.heap.size w (w1.alloc<|X #[zI 0,zI 0] 49):=t.trans<|(p _).mono t.size;have⟨ck,b0,a9⟩:=Bp ba;have j:Cx (w1.alloc<|X #[zI 0,zI 0] 49) a af bj b2:=by
   refine⟨⟨bz.below<|p _,bn,λg b=>(a4 g b).1.below<|r.trans<|(p _).mono r.size,λg b=>(a4 g b).2⟩,m.out.2.2.2.2.below u O,m.out.2.2.2.1.below u O,aaG ba,b0,λi=>?_,λi=>?_⟩;all_goals
    unfold ab;rw[ed];cases e:a[i.toNat]? with
    |none=>decide|some N=>have:=(m.out.2.2.1 N<|db e).n;grind
  have bk:((0:Int)!=0)=B1:=rfl;have a5:(w1.alloc<|X #[B0 B5 0,B0 B5 0] 49).heap.size=w1.heap.size+1:=dC _ _;have x:=m.out.1;have ce:qj af ((n-1:Nat):Int)=H:=by
   unfold qj;grind
  have ar:ab a ((M a:Int)-1)=ab a ((n-1:Nat):Int):=U;rw[ar]at a9;obtain⟨bD,cb⟩:=jf<|j.sz.nb (n-1) O;have bs:=vw bD a9;have cc:fK a=iw ((ab a ((n-1:Nat):Int)).ks.map λcf=>ry a (M a) cf 0++(⟨#[10]⟩:Bz)):=by unfold fK;rw[ar]
  have o:B3 (∀E,Pw (w1.alloc<|X #[zI 0,zI 0] 49) E 33 #[vP E,kH (w1.alloc<|X #[zI 0,zI 0] 49) 0,nV H]<|fK a):=λE=>by
   have:=ar1 _ E a af bj b2 j.tp (n-1) O _ R O (λz=>ry a _ z 0) (λz G=>by
    obtain⟨y,C,rfl⟩:=pq G;obtain⟨g,b⟩:=ij (j.sz.nb _ O) O y C;have q:=Iu _ 0 bs y O O;rw[b.id]at q⊢;exact(vA j _).s g 0 b.len b.len q O)
   grind
  have bf:B3 (jv a=yq a):=by show _=_;unfold jv;grind
  obtain⟨D,ao⟩:∃D,fK a=D:=⟨_,R⟩;have bd:B3 (yq a=ite (65536<D.size) Br D):=by show _=_;unfold yq;rw[ao]
  rw[ao]at o;obtain⟨bc,y⟩:∃bc,nV H=bc:=⟨_,R⟩;rw[y]at o;unfold nV iF at y;have bt:=Pg.new<|w1.alloc<|X #[zI 0,zI 0] 49;have b:B3 (Y w.heap.size w (w1.alloc<|X #[B0 B5 0,B0 B5 0] 49)/\Pg (w1.alloc<|X #[B0 B5 0,B0 B5 0] 49) Br ((w1.alloc<|X #[B0 B5 0,B0 B5 0] 49).alloc<|X #[V B4 0 0,B9 B1] 79)/\(w1.alloc<|X #[B0 B5 0,B0 B5 0] 49).heap.size=w1.heap.size+1):=⟨u,bt,a5⟩;have a8:=Hr<|(w1.alloc<|X #[zI 0,zI 0] 49).alloc<|X #[fe,B9 B1] 79;rw[dC,a5]at a8;have bA:nV H=bc:=y;rw[bA];clear a7 j bz a4 l ba r cd bn ck b0 a9 ce ar bD cb bs cc ao y bA bt u a5;go_wp2_with (go_at_call 32;fail);apply a8.mono;rintro e cn ⟨rfl,a6,br⟩;generalize w1.alloc (X #[zI 0,zI 0] 49)=b4 at o b br a6⊢;have b3:B3 (Ps b4 (w1.heap.size+1+1) Br cn):=⟨b.out.2.1.below (by rw[dC,b.out.2.2];omega),by rw[b.out.2.2];omega,a6⟩;have z:=o.out _ _ _ b3.out;unfold kH th vP at z;rw[b.out.2.2]at z;clear a6 br a8;go_wp2_with (go_at_call 33;fail);apply z.mono;rintro e G ⟨rfl,C,cg⟩;rw[aqr]at C;have K:=ah<|b.out.1.trans<|C.pg.bel.mono b.out.1.size;have⟨B,ak,cl,q,g,ca,ax,a0⟩:=C.pg.row;rw[b.out.2.2]at q;obtain⟨al,a3⟩:∃al,ak.size=al:=⟨_,R⟩;rw[a3]at g ca;obtain⟨b5,b6,rfl⟩:=aF g;have cq:G.cell? (aj (w1.heap.size+1) 0)=Ax (V b5 al b6):=crV q;have cr:G.cell? (aj (w1.heap.size+1) 1)=Ax (B9 cl):=crV q;clear C cg z q;by_cases a1:65536<D.size
  .have am:=a0 a1;subst am;have d:B3 (jv a=Br):=by show _=_;rw[bf.out,bd.out,ae a1]
   clear ax a0 g;go_wp21
   go_ret;exact⟨by rw[d.out];rfl,K.out⟩
  .obtain⟨am,b7⟩:=ax O;subst am b7;have d:B3 (jv a=ak):=by show _=_;rw[bf.out,bd.out,aa a1]
   clear ax a0;obtain⟨l,e⟩|⟨an,_,e⟩:=aC g
   .cases e;have b9:ak=zE0:=by
     apply nK
     simp_all
    have ch:(convert 22 9 fe).run Q G= .ok nh G:=by rfl
    clear g a3;go_wp21
    go_ret;exact⟨by rw[d.out,b9];rfl,K.out⟩
   .cases e;have ch:=Lc g;clear a3;go_wp21
    go_ret;exact⟨by rw[d.out];rfl,K.out⟩
end Go.Proofs.YthkcmkmkapijkaaGreatDoor
namespace Go.Proofs.YthkcmkmkapijkaaGreatDoor
open Go.RowKit Go.Maps Go.WideMaps
variable{C:Cd}{L:zLM}{N:Nd}{W W0 w:World}{a c:Int}{g i j m n pb t:Nat}{ns:zLD}{o:zAV}{s:Bz}{u v:Value}
def Tm.bare(h:Tm ns):Tm (ns.map ti):=⟨by rw[dm];exact h.n,λ_ c=>by obtain⟨a,b,rfl⟩:=rm.1 c;exact h.l a b⟩
def age{ms}(h:dE w v ns)(i:dE w u ms)(E:Tm ns)(F:Tm ms)(e:ns.map Nd.bk=ms.map Nd.bk):
  A9 Q 12 #[B6 #[v],B6 #[u]] w λe k=>e=A0 (B9 A1)/\Y w.heap.size w k:=by
 have a:=Cg h i E F;have G:B3 (ns.map ti=ms.map ti):=e;obtain⟨x,y,rfl⟩:=h.form;obtain⟨m,o,rfl⟩:=i.form;clear h i E F e;generalize M ns=C at a⊢;generalize M ms=r at a⊢;go_in;go_wp2_with fail;generalize B:(w.alloc _).alloc _=g;have⟨z,A,c,_⟩:=Eu B;clear B;have f:Y g.heap.size g g.drew:=blW;have p:g.drew.cell? (aj w.heap.size 0)=Ax (V x C y):=crV z;have q:g.drew.cell? (aj (w.heap.size+1) 0)=Ax (V m r o):=crV A;have K:=Dq _ _ ns ((a.1.below c).below f) a.2.2.1.n a.2.2.1.l;have af:=(a.2.1.below c).below f;have L:=λj (H:dE j (V m r o) ms)=>Dq j _ ms H a.2.2.2.n a.2.2.2.l;have ad:=λj v u h i=>KF j v u _ h i a.2.2.1.bare.n a.2.2.1.bare.l;clear z A;go_region_held3 (λk=>k.cell? (aj w.heap.size 0)=Ax (V x C y)/\k.cell? (aj (w.heap.size+1) 0)=Ax (V m r o)) (first|go_keep|exact⟨ag n<|ag d<|ag b p,ag n<|ag d<|ag b q⟩|exact⟨ag d<|ag b p,ag d<|ag b q⟩|exact⟨ag b p,ag b q⟩) (first|(go_at_call 36;with_reducible refine K.mono ?_;rintro e _ ⟨_,rfl,s,b⟩;obtain⟨_,_,rfl⟩:=s.form;rw[dm]at s)|(go_at_call 36;apply(L _<|af.below b).mono;rintro e _ ⟨_,rfl,t,d⟩;obtain⟨_,_,rfl⟩:=t.form;rw[dm]at t)|(go_at_call 24;apply(ad _ _ _ (s.below d) (by rw[G.out];exact t)).mono;rintro e _ ⟨rfl,n⟩))
 go_wp2;go_ret;exact⟨R,(((c.trans<|f.mono c.size).trans<|b.mono<|bK c.size f.size).trans<|d.mono (by have:=b.size;have:=f.size;have:=c.size;omega)).trans<|n.mono (by have:=d.size;have:=b.size;have:=f.size;have:=c.size;omega)⟩
def awj(t:Bz)(i j):(t.extract i j).size<=t.size:=by rw[lh];omega
def awk{E}(h:Cq C E W m)(a0:250000000000<=m):A9 Q 13 #[cV E] W λe a7=>∃t:Bz,e=A0 (A5 t)/\t.size<=9100000/\Y E.base W a7:=by
 have s:=awb (λy l k=>xi k y l) h O;obtain⟨q,G,_⟩:∃q,m-240000000000=q/\5000<=q:=⟨_,R,O⟩;rw[G]at s;clear G a0 h;go_in;go_wp2_with fail;apply s.mono;rintro e w1 ⟨y,rfl,l,a⟩;clear s;go_wp2_with fail;apply a.run gc;clear a;rintro _ w1 ⟨_,rfl,z0,a8⟩ a;obtain⟨n,rfl⟩:=iJ z0;go_wp2;go_loopw [3,4] (λa6 w wr=>∃(b:Nat) (t:_),a6=A5 t/\w=zI b/\b<=2/\t.size+17000*b<=9100000/\Cy C E W wr (500*b)) (λ_ w _=>(B2 w).toNat)
 .exact⟨n,y,R,R,O,O,a.le⟩
 .
  clear a;obtain⟨b,t,rfl,rfl,ax,l,a⟩:=hrel;by_cases F:b=0
  .subst F;go_wp2;go_ret;exact⟨_,R,O,a.bel⟩
  obtain⟨b,rfl⟩:∃g,b=g+1:=⟨b-1,O⟩;have bl:(0:Int)<((b+1:Nat):Int):=O;have bo:B5.wrap (((b+1:Nat):Int)-1)=(b:Int):=by rw[du];omega
  have bn:B5.wrap ((t.size:Int)+1)=(t.size:Int)+1:=by rw[du];omega
  have ak:=fs l ax;clear F;go_wp2_with fail;apply a.run<|gc O O;clear a;rintro _ k ⟨c,rfl,ad,a4⟩ a;obtain⟨c,rfl⟩:=iJ ad;go_wp2_with fail;apply a.run gc;clear a;rintro _ k ⟨x,rfl,af,a5⟩ a;obtain⟨x,rfl⟩:=iJ af;have⟨g,av⟩:=aw<|c+x;have a3:B5.wrap ((c:Int)+(x:Int))=(g:Int):=by rw[du];omega
  have bk:(c:Int)<=(t.size:Int):=O;obtain⟨d,ap,ar⟩:∃d:Nat,((t.size<(g:Int)/\t.size=(d:Int))\/(¬t.size<(g:Int)/\g=(d:Int)))/\d<=t.size:=by
   by_cases h:t.size<g
   .exact⟨_,O,eE⟩
   .exact⟨g,O,O⟩
  have bh:(0:Int)<=(d:Int):=O;have bj:(d:Int)<=(t.size:Int):=O;have K:(t.extract 0 c).size=c:=by rw[lh];omega
  have L:(t.extract c t.size).size=t.size-c:=by rw[lh];omega
  have a2:=awj t d t.size;have v:(t.extract 0 c).size+(t.extract c t.size).size<=t.size/\(t.extract 0 c).size+(t.extract d t.size).size<=t.size+3:=by rw[K,L];rw[lh];omega
  have⟨f,am⟩:=aw<|t.extract 0 c;have⟨z,an⟩:=aw<|t.extract c t.size;have⟨D,ao⟩:=aw<|t.extract d t.size;rw[am,an,ao]at v;have j:=fs v ak.1;clear av af a5 ad a4 l K L a2 v ar;obtain⟨H,u⟩|⟨H,u⟩:=ap;all_goals
   have B:=ah u;clear u;go_wp2_with fail;rw[B.out];apply a.run gc;clear a;rintro _ k ⟨o,rfl,_,_⟩ a;have al:=ah a;replace a:=ah<|a.below<|eC<|ay _ k;have r:∀p:Nat,p<=20000->f.size+p+z.size<9223372036854775807/\f.size+p+D.size<9223372036854775807:=λp h=>by have:=j.1;have:=j.2;omega
   have bf:¬9223372036854775807<f.size+D.size:=by have:=r 0 Z;omega
   have A:=ah r;clear H B a3 r;obtain rfl|rfl|rfl|rfl|rfl:=(O:o=0\/o=1\/o=2\/o=3\/o=4)
   case inr.inr.inr.inl=>
    go_wp2;go_roundw
    .exact⟨b,_,R,by go_num,O,by have:=j.1;have:=j.2;omega,al.out.le⟩
    simp[B2]
   all_goals
    go_wp2_with fail;go_region_held3 (λ_=>True) (trivial) (((first|(go_at_call 39;apply a.out.run ar3)|(go_at_call 40;apply a.out.run<|Gb (n:=1)));rintro _ k ⟨i,rfl,_⟩ a;have a:=ah a;have a8:=A.out i.size O;have br:=A.out (i.size+1) O;have a9:¬9223372036854775807<f.size+i.size:=O;have ba:¬9223372036854775807<f.size+i.size+z.size:=O;have bb:¬9223372036854775807<f.size+i.size+D.size:=O;have bc:¬9223372036854775807<f.size+i.size+1:=O;have bd:¬9223372036854775807<f.size+i.size+1+D.size:=O))
    go_wp2;go_roundw
    .exact⟨b,_,R,by go_num,O,by have:=j.1;have:=j.2;simp only[az];(try simp only[show(ByteArray.mk #[32]).size=1 from rfl]);omega,a.out.le⟩
    simp[B2]
section
variable {tk : Nat → Tk} {n : Nat}
theorem apd{t}(u:(tk i).k=t)(d:i<n):∀(f)(p)(c)(a r)(m b),fJ f p t c=Ax (a,Ax A1,b)->D tk n m (a++r) (i+1) j->∃m',D tk n m' (p++r) i j
 |0,_,_,_,_,_,_,h,_=>by simp[fJ]at h|f+1,[],_,_,_,_,_,h,_=>by simp[fJ]at h|f+1,s::q,c,a,r,m,b,h,o=>by
  by_cases g:s<100
  .obtain⟨rfl,e,_⟩:=qx h g;have e:decide (s=t)=A1:=U;exact⟨_,.tok g U d o⟩
  .rcases kF h O with⟨_,l⟩|⟨_,_,l,_⟩
   .obtain⟨m',_⟩:=apd u d f _ _ a r m b l o;exact⟨m'+1,.exp (r:=q++r) O d U U⟩
   grind
theorem agf{t}(g:(tk i).k=t)(c:i<n):∀e,(feedL e t).2=A1->D tk n m (feedL e t).1 (i+1) j->∃m',D tk n m' e i j
 |[],h,_=>by simp[feedL]at h|s::r,h,a=>by
  by_cases b:s<100
  .rw[iK b]at h a;exact⟨_,.tok b U c a⟩
  .by_cases f:(xE s t).1=[]/\(xE s t).2=A1
   .rw[kC O f]at h a;have⟨m',d⟩:=agf g c r h a;exact⟨m'+1,.exp O c U U⟩
   .rw[feedL,aa b,aa f]at h a;grind [apd]
theorem ayC:∀(ts)(f g)(i m j),Fd f ts g->(∀q T,ts[q]?=Ax T->tk (i+q)=T)->i+M ts<=n->D tk n m g (i+M ts) j->∃m',D tk n m' f i j
 |[],f,g,i,m,j,h,_,_,k=>by cases h;grind
 |T::ts,f,g,i,m,j,h,p,o,k=>by
  cases h with
  |cons a b c d e=>
   rw[dD]at o k;obtain⟨m',l⟩:=ayC ts _ g _ m j e (λq _ _=>by rw[(O:i+1+q=i+(q+1))];simp_all) O U;exact agf (by rw[show tk i=T from p 0 T rfl]) O f d l
end
def No6(b:zLI):Prop:=∀a∈b,a≠6/\a<=133
def asn:((C2 34).all λs=>(C2 78).all λt=>(xE ((s:Int)+100)<|(t:Int)+1).1.all λx=>decide (x≠6)||!(xE ((s:Int)+100)<|(t:Int)+1).2)=A1:=by rfl
theorem awl{s t}(e:100<=s)(f:s<=133)(k:1<=t)(i:t<=78)(h:(xE s t).2=A1):No6 (xE s t).1:=by
 have a:=fH.1 asn (s-100).toNat U;have b:=fH.1 a (t-1).toNat U;have c:(((s-100).toNat:Nat):Int)+100=s:=O;have d:(((t-1).toNat:Nat):Int)+1=t:=O;rw[c,d]at b;refine λj g=>⟨?_,(ab5 e f O i).1 j g⟩;grind
theorem aej{t}(j:1<=t)(k:t<=78):∀(f)(i)(c)(a)(d),No6 i->fJ f i t c=Ax (a,Ax A1,d)->No6 a/\t≠6
 |0,_,_,_,_,_,h=>by simp[fJ]at h|f+1,[],_,_,_,_,h=>by simp[fJ]at h|f+1,s::q,c,a,d,g,h=>by
  have n:No6 q:=λb hx=>g b<|dJ _ hx;have o:=g s<|bG ..;by_cases l:s<100
  .obtain⟨rfl,_,_⟩:=qx h l;grind
  .rcases kF h O with⟨m,e⟩|⟨_,_,e,_⟩
   .refine aej j k f _ _ a d (λb hx=>?_) e;obtain hx|hx:=dg.1 hx
    .exact awl O o.2 j k m b hx
    .exact n b hx
   grind
theorem ape{t}(j:1<=t)(d:t<=78):∀a,No6 a->(feedL (a++[6]) t).2=A1->(t=6/\(feedL (a++[6]) t).1=[])\/(t≠6/\∃b,(feedL (a++[6]) t).1=b++[6]/\No6 b)
 |[],_,h=>by
  grind [iK]|s::a,g,h=>by
  have f:No6 a:=λc hx=>g c<|dJ _ hx;have o:=g s<|bG ..;rw[fh]at h⊢;by_cases p:s<100
  .grind [iK]
  .by_cases hx:(xE s t).1=[]/\(xE s t).2=A1
   .rw[kC O hx]at h⊢;exact ape j d a f h
   .obtain⟨i,b,k,e,_⟩:=uh O o.2 O d hx;rw[lD O hx e]at h⊢;have n:b=A1:=h;subst n;obtain⟨l,m⟩:=aej j d 8 _ 0 i k (λc hx=>U) e;refine .inr ⟨m,i++a,U,λc hx=>?_⟩;obtain hx|hx:=dg.1 hx
    .exact l c hx
    .exact f c hx
theorem apf:∀(ts)(a)(c),No6 a->Fd (a++[6]) ts c->∃b,c=b++[6]/\No6 b
 |[],a,c,f,h=>by cases h;grind
 |T::ts,a,c,f,h=>by
  cases h with
  |cons g i l j d=>
   obtain⟨e,_⟩|⟨_,b,e,k⟩:=ape g i a f j
   .omega
   .rw[e]at d;exact apf ts b c k d
theorem awm{toks b}(h:jz s=(toks,b, -1))(y:(feedL b 6).2=A1):∃(m:Nat) (R1:Fo) (e:Int),M toks=m+1/\rJ toks m=⟨6,(s.size:Nat),(s.size:Nat),e,0,zE0⟩/\P (rJ toks) (m+1) .stats 0 R1 m/\∀q,q<m->(rJ toks q).k≠6:=by
 obtain⟨a,e,r,d⟩:=IE s _ _ _ _ _ toks b h;rw[ga]at r;have B:No6 [100]:=λ_ _=>U;obtain⟨_,_,_⟩:=apf a _ b B d;have F:M toks=M a+1:=U;have E:rJ toks (M a)=⟨6,(s.size:Nat),(s.size:Nat),e,0,zE0⟩:=xe U;have u:(feedL b 6).1=[]:=by
  grind [ape]
 have x:∀q c,a[q]?=Ax c->rJ toks q=c:=λq c w=>xe U;have v:∀i,(rJ toks i).k<100/\(i<M a->(rJ toks i).k≠6):=λi=>by
  obtain g|g|g:=Nat.lt_trichotomy i<|M a
  .rw[x i _<|bm g];have:=as2 d<|pd g;omega
  all_goals (grind [rJ,List.getElem?_eq_none,zTk])
 obtain⟨z,f⟩:=agf (tk:=rJ toks) (n:=M a+1) (i:=M a) U O b y (by rw[u];exact .nil);obtain⟨_,j⟩:=ayC (tk:=rJ toks) (n:=M a+1) a _ b 0 z _ d (λq c w=>U) O (by rw[qp];exact f);obtain⟨A,_,k,l,o,_⟩:=D.split j [100] _ R;obtain⟨t,_,_,p,_⟩:=o.toks;have C:=p.nils;obtain rfl:k=M a:=O;obtain⟨R1,_⟩:=(aqy (λi=>(v i).1) A).stats l O<|.inr t;grind
def ayD(i:s.size<=65536){toks b}(h:jz s=(toks,b, -1))(g:(feedL b 6).2=A1):∃m R1 a,PF s toks m R1 a:=by
 have⟨m,R1,a,c,d,e,f⟩:=awm h g;exact⟨m,R1,a,as3 i h c d e f⟩
theorem Gz(s):∀(f)(c)(p)(l)(b),¬0<=(sJ s f c p l b).2.2->(sJ s f c p l b).2.2= -1
 |0,c,p,l,b,h=>by simp[sJ]at h|f+1,c,p,l,b,h=>by
  rw[sJ]at h⊢;split
  .rfl
  .rename_i e;rw[aa e]at h;split
   .rename_i d;rw[ae d]at h;split
    .rename_i a;rw[ae a]at h;exact Gz s f _ _ _ _ h
    .rename_i a;rw[aa a]at h;exact Gz s f _ _ _ _ h
   .rename_i d;rw[aa d]at h;split
    .rename_i a;rw[ae a]at h;split
     .rename_i g;rw[ae g]at h;exact Gz s f _ _ _ _ h
     grind
    grind
def apg(s)(h:¬0<=(jz s).2.2):(jz s).2.2= -1:=Gz s _ _ _ _ _ h
theorem awn(s):∃c a ns,Jl s c a ns:=by
 by_cases i:65536<s.size
 .exact⟨_,_,_,.big i⟩
 by_cases b:0<=(jz s).2.2
 .exact⟨_,_,_,.at_ O b (by grind [nF])⟩
 by_cases e:(feedL (jz s).2.1 6).2=A1
 .obtain⟨⟨_,_,_⟩,d⟩:∃g,jz s=g:=⟨_,R⟩;rw[d]at b e;have f:=apg s U;rw[d]at f;simp only at f b e;subst f;obtain⟨_,g,_,h⟩:=ayD O d e;exact⟨_,_,_,.ok O (by grind [nF]) h⟩
 .exact⟨_,_,_,.at_ (z:=s.size) O O (by grind [nF])⟩
def awo(a B):(⟨#[102,97,117,108,116,32]⟩++a++⟨#[58]⟩++B++⟨#[10]⟩:Bz)=⟨#[102,97,117,108,116]⟩++(⟨#[32]⟩++(a++⟨#[58]⟩++B))++⟨#[10]⟩:=by
 have b:(⟨#[102,97,117,108,116,32]⟩:Bz)=⟨#[102,97,117,108,116]⟩++⟨#[32]⟩:=Z;rw[b];simp[aB]
def aek(w)(s:Bz)(a4:s.size<=10000000){D:Bz}(al:c=0\/c=1\/c=2)(a1:0<=a)(ak:a<=(s.size:Int))(a2:D.size<=70368744177664)
  (G:A9 Q 5 #[A5 s] w λe b=>∃v,e=A0 (B6 #[zI c,zI a,v])/\dE b v ns/\Y w.heap.size w b)
  (E:∀W v,dE W v ns->A9 Q 29 #[B6 #[v]] W λe b=>e=A0 (A5 D)/\Y W.heap.size W b)
  (F:∀(n)(W),0<=n->n<=20000000->A9 Q 30 #[zI n] W λe b=>e=A0 (A5<|bJ n)/\Y W.heap.size W b):
  A9 Q 9 #[A5 s] w λe b=>e=A0 (A5<|aol s c a D)/\Y w.heap.size w b:=by
 have a5:∀w:A2,(zeroValue 28).run Q w= .ok (B6 #[zI 0,zI 0,fe]) w:=λw=>J;obtain⟨d,rfl⟩:∃d:Nat,a=d:=⟨a.toNat,O⟩;have ak:d<=s.size:=O;have H:=ah E;have B:=ah F;have⟨L,z⟩:=aw<|aol s c d D;rw[z];have x:=ah z;clear E F z;go_in;go_wp2_with fail;apply G.mono;rintro e w1 ⟨v,rfl,y,C⟩;have q:=dj w1<|X #[zI c,zI d,v] 28;have r:=au w1<|X #[zI c,zI d,v] 28;have f:=fs (y.below q)<|C.trans<|q.mono C.size;obtain⟨ax,a0,rfl⟩:=y.form;generalize M ns=n at q r f⊢;clear G y;obtain⟨_,_,_⟩:(w1.alloc _).cell? ⟨_,0,B4⟩=Ax (B0 _ c)/\(w1.alloc _).cell? ⟨_,1,B4⟩=Ax (B0 _ d)/\(w1.alloc _).cell? ⟨_,2,B4⟩=Ax (V ax n a0):=⟨crV r,crV r,crV r⟩;obtain rfl|rfl|rfl:=al
 .go_wp2_with fail;refine dd (H.out _ _ f.out.1) λav m=>?_;have ao:¬9223372036854775807<5+D.size:=O;go_wp2;go_ret;exact⟨congrArg (λk=>Ending.returned<|D1 k) x.out,f.out.2.trans<|m.mono f.out.2.size⟩
 .have i:B3 (⟨#[102,97,117,108,116,32]⟩++bJ ((Aj s d).1:Nat)++⟨#[58]⟩++bJ ((Aj s d).2:Nat)++⟨#[10]⟩=L):=by
   show _=_;rw[awo,<-x.out];rfl
  go_wp2;go_loop [4,5,6] (λar ap A=>∃b:Nat,b<=d/\ar=zI ((Aj s b).1)/\ap=zI ((Aj s b).2)/\A=zI b) (λ_ _ A=>d-(B2 A).toNat)
  .exact⟨0,O,R,R,R⟩
  .
   obtain⟨b,_,rfl,rfl,rfl⟩:=hrel;have h:=aih s b;by_cases a3:b<d
   .have o:=λw=>dy (O:b<s.size) w;have K:(b:Int)<(d:Int):=O;have g:B3 (Aj s (b+1)=ite (aq s b=10) ((Aj s b).1+1,1) ((Aj s b).1,(Aj s b).2+1)):=rfl;generalize (Aj s b).1=l at h g⊢;generalize (Aj s b).2=u at h g⊢;obtain⟨am,an⟩:=h;by_cases e:aq s b=10
    .rw[e]at o;have j:B3 (Aj s (b+1)=(l+1,1)):=by show _=_;rw[g.out,ae e]
     clear g e;go_wp2;exact⟨⟨b+1,O,by rw[j.out];go_num,by rw[j.out];rfl,by go_num⟩,by simp[B2];omega⟩
    .have j:B3 (Aj s (b+1)=(l,u+1)):=by show _=_;rw[g.out,aa e]
     have p:=fC.2 e;generalize aq s b=t at o p;clear g e;go_wp2;exact⟨⟨b+1,O,by rw[j.out],by rw[j.out];go_num,by go_num⟩,by simp[B2];omega⟩
   .obtain rfl:b=d:=O;have g:=Ek s b O;have o:=λW=>B.out ((Aj s b).1) W O O;have p:=λW=>B.out ((Aj s b).2) W O O;generalize (Aj s b).1=l at h g o i⊢;generalize (Aj s b).2=u at h g p i⊢;generalize bJ (l:Nat)=j at g o i;generalize bJ (u:Nat)=t at g p i;have ao:¬9223372036854775807<6+j.size:=O;have q:¬9223372036854775807<6+j.size+1:=O;have a6:¬9223372036854775807<6+j.size+1+t.size:=O;have a7:¬9223372036854775807<6+j.size+1+t.size+1:=O;obtain⟨am,an⟩:=h;have K:=ah p;clear g p;go_wp2_with fail;refine dd (o _) λav m=>?_;clear o;go_wp2_with fail;refine dd (K.out _) λ_ af=>?_;go_wp2;go_ret;have ad:=m.trans<|af.mono m.size;exact⟨congrArg (λk=>Ending.returned<|D1 k) i.out,f.out.2.trans<|ad.mono f.out.2.size⟩
 .go_wp2;go_ret;exact⟨congrArg (λk=>Ending.returned<|D1 k) x.out,f.out.2⟩
open Go.Lib (strCells strCells_length wpList_append_own_string)
theorem J2(a b:Bz):strCells (a++b)=strCells a++strCells b:=by
 unfold strCells
 simp_all
theorem ael(a:Bz):strCells a=B8 (uH a.data.toList):=by
 unfold strCells B8 uH
 simp_all
def aph{d b}{a:Bz}(c:w.ownsRow d 5 1 (bI g n b) n (strCells a)):
  (convert 22 9<|bI g n b).run Q w= .ok (A5 a) w:=by
 rw[ael]at c;rw[lK c,uI]
theorem akr{b e size c:Nat}{a:zOA}{xs:zLV}(h:W.ownsRow b e size (V a n c) m xs):n=m:=by
 obtain⟨_,_,e⟩:=aF h;grind
def sH(a:zLD):Bz:=if(bH a).1=0 then kG a else zE0
theorem abE(w v a)(h:dE w v a)(F:M a<=1048576)(i:∀N∈a,iE N)(bf:∀N∈a,oC N)(bl:(kG a).size<=70368744177664):
  A9 Q 29 #[B6 #[v]] w λe b=>e=A0 (A5<|sH a)/\Y w.heap.size w b:=by
 obtain⟨ap,ax,rfl⟩:=h.form;have⟨g,G⟩:=aw<|M a;rw[G]at h F⊢;have ba:=λf=>(ay _ w).alloc eE f;have j:=Lx h i bf bl G;have L:=λf=>Bh _ _ a (h.below<|ba f) O i;have⟨al,z⟩:=aw<|(bH a).1;have⟨am,a6⟩:=aw<|(bH a).2;rw[z,a6]at L;have r:=ah z;clear h i bf bl G z a6;go_in;go_wp2_with fail;have af:=au w<|X #[V ap g ax] 26;have b9:(w.alloc<|X #[V ap g ax] 26).heap.size=w.heap.size+1:=dC _ _;refine dd (L _) λw1 B=>?_;have p:=(B.block _ O).trans af;have n:=(ba _).trans<|B.mono O;clear af B L;by_cases t:al=0
 .subst t;have a0:=dB p;have b6:=ai p;have a5:((0:Int)!=0)=B1:=rfl;go_wp2_with fail;have C:Y w1.heap.size w1 (w1.alloc<|X #[zI 0,zI am] 49):=(ay _ w1).alloc O _;generalize w1.alloc (X #[zI 0,zI am] 49)=y at C⊢;have q:=ah<|n.trans<|C.mono n.size;have ao:=It r.out;have bt:=ah (λo N d=>yC<|ao o N d);obtain⟨cb,cc,cd,ce,cf⟩:=dw<|(byR:(Q.info? 5).map (λo=>(o.zero,o.size,o.bytes))=Ax (Ax<|zU 0,1,1));clear ao C a0 b6 p n b9 a5;go_loopw [4,15] (λbr ad wr=>∃b:Nat,b<=g/\ad=zI b/\(∃ar a1,∃bn:Nat,br=V ar bn a1)/\B3 (wr.ownsRow y.heap.size 5 1 br (kG<|a.take b).size (strCells<|kG<|a.take b)/\Y y.heap.size y wr)) (λ_ ad _=>g-(B2 ad).toNat)
  .exact⟨0,O,R,⟨B4,0,0,R⟩,onN,blR⟩
  .
   obtain⟨b,bh,rfl,⟨ar,a1,bn,rfl⟩,c⟩:=hrel;by_cases b5:b<g
   .have⟨N,d⟩:=bg j.out.2.2.2.2 b5;have s:=q.out.trans<|c.out.2.mono q.out.size;obtain⟨_,b2,_,_,b3⟩:=(j.out.1.below s).get d;subst b2;obtain⟨bz,bA,bD,bE,bF,b0,b1,a3,a4,H,E⟩:=b3;obtain⟨_,_,rfl⟩:=H.form;obtain⟨_,_,rfl⟩:=E.form;have i:=j.out.2.1 N<|db d;have a7:=j.out.2.2.1 N<|db d;have u:=Hf a b N d;have K:=xk a<|b+1;have ca:=j.out.2.2.2.1;rw[u]at K;simp[az]at K;have bk:(qJ N).size<=70368744177664:=O;have m:=λf=>(ay _ wr).alloc eE f;have l:=λf=>af7 _ N _ _ (H.below<|m f) (E.below<|m f) a7 (bt.out b N d) i.l1 i.l2 bk;have⟨bx,k⟩:=aw<|kG<|a.take b;have⟨x,A⟩:=aw<|qJ N++He;have cg:x.size<=70368744177664:=U;have ch:bx.size+x.size<=70368744177664:=U;rw[k]at c;rw[k,A]at u;rw[A]at l;have bs:=ah u;have b7:=akr c.out.1;subst b7;have cm:(b:Int)<(g:Int):=O;have cl:(0:Int)<=(b:Int):=O;unfold jq at l;have⟨_,a8⟩:=aw<|M N.nm;have⟨_,a9⟩:=aw<|M N.ks;rw[a8]at l a3;rw[a9]at l a4;clear u K ca bk k A i a7 d s H E a8 a9;go_wp2_with fail;refine dd (l _) λ_ bd=>?_;have bb:=(m _).trans<|bd.mono (m _).size;have bj:=cj c.out.1 bb;have bc:=c.out.2.trans<|bb.mono c.out.2.size;have cp:=bc.size;clear l bd m bz bA bD bE bF b0 b1 a3 a4;go_wp2_with (at_builtin;apply wpList_append_own_string _ R _ _ _ 9 R _ 5 cb underlying22 underlying9 cc cd ce cf _ _ _ R bj x R byM O O;intro _ _ b8 b4 _;obtain⟨_,_,rfl⟩:=aF b8);refine⟨⟨b+1,O,by go_num,⟨_,_,_,R⟩,by rw[bs.out,az,J2];omega,bc.grown b4 O (λb bh=>(bj.lt b bh).1)⟩,by simp[B2];omega⟩
   .obtain rfl:b=g:=O;have k:=ci (by rw[j.out.2.2.2.2];omega);rw[k]at c;have m:B3 (sH a=kG a):=by show _=_;unfold sH;rw[ae r.out]
    have s:=q.out.trans<|c.out.2.mono q.out.size;have u:1<=(kG a).size:=by
     obtain⟨N,l,F⟩:∃N l,a=N::l:=by
      cases a with
      |nil=>have:=r.out;simp[bH,iL]at this|cons N l=>grind
     rw[F];show 1<=((qJ N++He)++kG l).size;rw[az,az];show 1<=(qJ N).size+1+_;omega
    have⟨D,l⟩:=aw<|kG a;rw[l]at c m u;obtain⟨t,_⟩|⟨_,_,e⟩:=aC c.out.1
    .omega
    .cases e;have x:=aph c.out.1;clear k l;go_wp2;go_ret;exact⟨by rw[m.out];rfl,s⟩
 .have a5:(al !=0)=A1:=U;have a0:=dB p;have b:B3 (sH a=zE0):=by show _=_;unfold sH;rw[aa (by rw[r.out];exact t)]
  clear t;go_wp2;go_ret;exact⟨by rw[b.out];rfl,n.trans<|((ay _ w1).alloc O _).mono n.size⟩
end Go.Proofs.YthkcmkmkapijkaaGreatDoor
namespace Go.Proofs.YthkcmkmkapijkaaGreatDoor
open Go.RowKit Go.Maps Go.WideMaps
variable{C:Cd}{L:zLM}{N:Nd}{W W0 w:World}{a c:Int}{g i j m n pb t:Nat}{ns:zLD}{o:zAV}{s:Bz}{u v:Value}
theorem Bu.below{B b c d}(h:Bu B b c W)(a:Y W.heap.size W d):Bu B b c d:=by
 have g:∀e,Lib.BuilderAtF 138 5 B b e (Lib.strCells c) W->Lib.BuilderAtF 138 5 B b e (Lib.strCells c) d:=by
  rintro e ⟨i,n,f,j,k⟩;exact⟨i,n,(a.block _<|ai f).trans f,j.kept (row:=B4) ⟨a.os,a.tape,a.output,a.size,λm l _=>a.block m l⟩ U,k⟩
 obtain h|h:=h
 .exact .inl (g _ h)
 .exact .inr (g _ h)
def aso(W a b):(Instr.field 49 (B6 #[zI a,zI b]) 0).run Q W= .ok (zI a) W:=by
 simp[Instr.field,asAgg,part]
theorem abF(w v a)(h:dE w v a)(b9:M a<=1048576)(o:∀N∈a,iE N)(bd:∀N∈a,oC N)(bj:(kG a).size<=70368744177664)(bf:Fe w)
  (al:∀W,Y w.heap.size w W->A9 Q 23 #[B6 #[v]] W λe b=>e=A0 (B6 #[zI (bH a).1,zI (bH a).2])/\Y W.heap.size W b):
  A9 Q 26 #[B6 #[v]] w λe b=>e=A0 (A5<|sH a)/\Y w.heap.size w b:=by
 obtain⟨ar,a0,rfl⟩:=h.form;have⟨j,K⟩:=aw<|M a;rw[K]at h b9 al⊢;have a9:=λd=>(ay _ w).alloc eE d;have g:=aku h o bd bj K bf;have af:=λd=>al _<|a9 d;have⟨u,B⟩:=aw<|(bH a).1;have⟨br,a5⟩:=aw<|(bH a).2;rw[B,a5]at af;have z:=ah B;clear h o bd bj K B a5 bf al;have cm:=λW=>aso W u br;go_in;go_wp2_with fail;have ao:=au w<|X #[V ar j a0] 26;have cc:(w.alloc<|X #[V ar j a0] 26).heap.size=w.heap.size+1:=dC _ _;refine dd (af _) λw1 E=>?_;have t:=(E.block _ O).trans ao;have G:=(a9 _).trans<|E.mono O;clear ao E af;by_cases A:u=0
 .subst A;have bA:=dB t;have cb:=ai t;have a4:((0:Int)!=0)=B1:=rfl;go_wp2_with fail;have k:B3 (Y w.heap.size w w1/\Bu w1.heap.size w1.heap.size zE0 (w1.alloc<|X #[D2 B4,fe] 138)):=⟨G,atB _ w1 O⟩;have F:Y w1.heap.size w1 (w1.alloc<|X #[D2 B4,fe] 138):=(ay _ w1).alloc O _;have ap:=It z.out;have bz:=ah (λce N f=>yC<|ap ce N f);generalize w1.alloc (X #[D2 B4,fe] 138)=cf at F k⊢;have bs:=ah F;clear ap F bA cb t G cc a4;go_loopw [13] (λam wr=>∃b:Nat,b<=j/\am=zI b/\B3 (Bu w1.heap.size w1.heap.size (kG<|a.take b) wr/\Y w1.heap.size w1 wr)) (λam _=>j-(B2 am).toNat)
  .exact⟨0,O,R,k.out.2,bs.out⟩
  .
   obtain⟨b,_,rfl,c⟩:=hrel;by_cases ca:b<j
   .have⟨N,f⟩:=bg g.out.2.2.2.2.1 ca;have m:=k.out.1.trans<|c.out.2.mono k.out.1.size;obtain⟨_,b7,_,_,b8⟩:=(g.out.1.below m).get f;subst b7;obtain⟨bD,bE,bF,b0,b1,b2,b3,a1,a3,L,H⟩:=b8;obtain⟨_,_,rfl⟩:=L.form;obtain⟨_,_,rfl⟩:=H.form;have o:=g.out.2.1 N<|db f;have a6:=g.out.2.2.1 N<|db f;have s:=Hf a b N f;have ad:=xk a<|b+1;have cd:=g.out.2.2.2.1;rw[s]at ad;simp[az]at ad;have bh:(qJ N).size<=70368744177664:=O;have l:=λd=>(ay _ wr).alloc eE d;have n:=λd=>aef _ N _ _ (L.below<|l d) (H.below<|l d) a6 (bz.out b N f) o.l1 o.l2 bh<|g.out.2.2.2.2.2.below<|m.trans<|(l d).mono m.size;have⟨p,i⟩:=aw<|kG<|a.take b;have⟨q,r⟩:=aw<|qJ N;have cg:p.size+q.size+1<=70368744177664:=by rw[<-r,<-i];have:He.size=1:=rfl;omega
    rw[i]at c;rw[i,r]at s;rw[r]at n;have bx:=ah s;have cl:(b:Int)<(j:Int):=O;have ch:(0:Int)<=(b:Int):=O;unfold jq at n;have⟨_,a7⟩:=aw<|M N.nm;have⟨_,a8⟩:=aw<|M N.ks;rw[a7]at n a1;rw[a8]at n a3;clear s ad cd bh i r o a6 f m L H a7 a8;go_wp2_with fail;refine dd (n _) λbk ba=>?_;have C:=(l _).trans<|ba.mono (l _).size;have x:B3 (Bu w1.heap.size w1.heap.size p bk/\Y w1.heap.size w1 bk):=⟨c.out.1.below C,c.out.2.trans<|C.mono c.out.2.size⟩;clear n ba l bD bE bF b0 b1 b2 b3 a1 a3 C;go_wp2_with fail;apply(qd _ _ p q _ x.out.1 O x.out.2.size).mono;rintro e bl ⟨rfl,av,bb⟩;have y:B3 (Bu w1.heap.size w1.heap.size (p++q) bl/\Y w1.heap.size w1 bl):=⟨av,x.out.2.trans bb⟩;clear av bb;go_wp2_with fail;apply(qd _ _ _ He _ y.out.1 (by rw[az];show p.size+q.size+1<=_;omega) y.out.2.size).mono;rintro e bn ⟨rfl,ax,bc⟩;have bt:B3 (Bu w1.heap.size w1.heap.size (kG<|a.take<|b+1) bn/\Y w1.heap.size w1 bn):=⟨by rw[bx.out,<-aB];exact ax,y.out.2.trans bc⟩;clear ax bc;go_wp2;exact⟨⟨_,O,by go_num,bt⟩,by simp[B2];omega⟩
   .obtain rfl:b=j:=O;have i:=ci (by rw[g.out.2.2.2.2.1];omega);rw[i]at c;have n:B3 (sH a=kG a):=by show _=_;unfold sH;rw[ae z.out]
    clear i;go_wp2_with fail;apply(AJ _ _ _ _ c.out.1 c.out.2.size).mono;rintro e _ ⟨rfl,p,l⟩;have m:=k.out.1.trans<|(c.out.2.trans l).mono k.out.1.size;clear p l;go_wp2;go_ret;exact⟨by rw[n.out];rfl,m⟩
 .have a4:(u !=0)=A1:=U;have b:B3 (sH a=zE0):=by show _=_;unfold sH;rw[aa (by rw[z.out];exact A)]
  clear A;go_wp2;go_ret;exact⟨by rw[b.out];rfl,G⟩
theorem aiw(p w):
  CallsD Q 17 #[D2<|Ax p] .returning w λe a b=>e=A0 (.tuple #[])/\a= .returning/\b=w.alloc (X #[zI 0] 52):=by
 have b:=λw=>atG w;refine callsD_of_wpS func17 R λa _ c=>?_;apply wpS_seq;apply Cf;simp[wpOpsS,go_sem,recoverD,c,Exit.thenS,b];apply wpS_seq;apply Cf;simp[wpOpsS,go_sem,Exit.thenS,iC];apply wpS_cond (t:=B1) (by simp[Act.eval]);simp[if_false];refine wpS_of_wp<|wp_skip ?_;cases a
 simp_all [bodyPostS,results,results17]
def Bv(a):∀ks,LCs a ks| .nil=>trivial| .cons N k r=>⟨E5<|Bv a k,Bv a r⟩
def Jg(f):∀(L:zLM),(L.flatMap λx=>(f x).ownBlock.toList).Nodup->∀(i j:Nat)(a b:B7),i<j->(L.map f)[i]?=Ax a->(L.map f)[j]?=Ax b->a.ownBlock=B4\/a.ownBlock≠b.ownBlock
 |[],h,i,j,a,b,k,c,d=>by simp at c|x::r,h,i,0,a,b,k,c,d=>O|x::r,h,0,j+1,a,b,k,c,d=>by
  simp at c;subst c;rw[Cb,oK]at h;cases hx:(f x).ownBlock with
  |none=>exact .inl R|some g=>
   right;intro e;have m:=db (show(r.map f)[j]?=Ax b by simpa using d);have⟨o,n,l⟩:=rm.1 m;exact h.2.2 g (by simp[hx]) g (List.mem_flatMap.2 ⟨o,n,by rw[l,<-e];simp⟩) R
 |x::r,h,i+1,j+1,a,b,k,c,d=>by
  rw[Cb,oK]at h;exact Jg f r h.2.1 i j a b O (by simpa using c) (by simpa using d)
def Ff(f)(h:(L.flatMap λx=>(f x).ownBlock.toList).Nodup):alp (L.map f):=λb c a d _ e i=>by
 obtain q|q:=cG b c
 .exact Jg f L h b c a d q e i
 .rcases Jg f L h c b d a O i e with g|g
  .cases ho:a.ownBlock with
   |none=>exact .inl R|some j=>right;rw[g];simp
  .exact .inr (dG g)
def awp{e}(h:Lw w e v L)(g:(nB' L).Nodup)(f:(kB L).Nodup):wu w e w.heap.size v L:=
 ⟨h.row,λa b=>(h.row.lt a b).2,λd c=>⟨(h.each d c).1,(h.each d c).2,λa b=>((h.each d c).1.lt a b).2,λa b=>((h.each d c).2.lt a b).2⟩,Ff _ g,Ff _ f⟩
def GA(w i e):wu w i e fe []:=⟨onN,λ_ d=>(by simp[E0]at d),λ_ f=>(by cases f),λg h b c _ a=>(by simp at a),λg h b c _ a=>(by simp at a)⟩
def PiP(w:A2)(c a:Int)(d:zLD)(e:Ending)(b:A2):Prop:=∃v L,e=A0 (psV c a v)/\L.map Mb.N=d/\wu b w.heap.size b.heap.size v L/\Y w.heap.size w b
structure PL (w:A2):Prop where
 lay:Kh w
 gn:14<=w.heap.size
 pow:∃tt fr,w.heap[3]?=Ax (.cells Fg tt fr)
 asc:Lib.TabIs Q w "strings.asciiSpace" .u8 Lib.asciiSpaceTab
def PL.below{d B}(h:PL w)(a:Y B w d)(b:w.heap.size<=B):PL d:=by
 have⟨f,e,c⟩:=h.pow;exact⟨h.lay.below a b,bK h.gn a.size,⟨f,e,(a.block _<|jm (ai c) b).trans c⟩,uJ h.asc a b⟩
def awq{f c}{cs:zAV}(h:Gp f W c)(p:W.heap[f]?=Ax (X cs 113 (0,0))){d e size:Nat}{xs:zLV}(o:W.ownsRow d e size v n xs)(k:e≠113)(l:e≠115):c.ownsRow d e size v n xs:=by
 obtain⟨r,b⟩:=o;refine⟨r,?_⟩;obtain b|⟨j,g,i,q,m,a,s⟩:=b
 .exact .inl b
 .exact .inr ⟨j,g,i,q,m,mu h a (λe=>by rw[e,p]at a;cases a;exact k R) l,s⟩
def aix(r l m n z w)(a:w.heap[r]?=Ax (X #[l,m,n] 28 (0,0))):
  CallsD Q 17 #[be r 0] (.panicking<|akd z) w λe c b=>
   e=A0 (.tuple #[])/\c= .panicking [{v:= .iface 52 (B6 #[zI z]),recovered:=A1}]/\b.heap[r]?=Ax (X #[zI 1,zI z,fe] 28 (0,0))/\Y r w b:=by
 have i:=λw=>atF z w;unfold akd;refine callsD_of_wpS func17 R λ_ _ j=>?_;apply wpS_seq;apply Cf;simp[wpOpsS,go_sem,recoverD,j,Exit.thenS,i];apply wpS_seq;apply Cf;simp[wpOpsS,go_sem,Exit.thenS,iC];apply wpS_cond byR;simp[oL];have k:∀w:A2,(zeroValue 28).run Q w= .ok (B6 #[zI 0,zI 0,fe]) w:=λw=>J;have b:(w.alloc<|X #[zI z] 52).heap[r]?=_:=(zb w _ r<|ai a).trans a;have h:Y r w (w.alloc<|X #[zI z] 52):=(dj w _).mono<|gL<|ai a;have⟨c,d,f,g⟩:=row3 b;apply Cf;simp[wpOpsS,go_sem,c,d,f,g,k,bodyPostS,results,results17];exact⟨set3 b _ _ _,KB h _ _ _⟩
def Jl.at_of{z}(h:Jl s c a ns)(e:s.size<=65536)(d:0<=z)(b:nF s=([],z)):c=1/\a=z/\ns=[]:=by
 cases h with
 |big h=>omega|at_ _ _ h=>rw[b]at h;cases h;exact⟨R,R,R⟩
 |ok _ h _=>rw[b]at h;cases h;omega
def Jl.ok_of{toks}(h:Jl s c a ns)(g:s.size<=65536)(b:nF s=(toks, -1)):∃m R1 e,PF s toks m R1 e/\c=okC (qG s R1)/\a=0/\ns=okN (qG s R1):=by
 cases h with
 |big h=>omega|at_ _ f h=>rw[b]at h;cases h;omega
 |ok _ h d=>rw[b]at h;cases h;exact⟨_,_,_,d,R,R,R⟩
theorem uw(w s)(cf:s.size<=4000000000)(b8:PL w)(bd:Jl s c a ns):A9 Q 6 #[A5 s] w (PiP w c a ns):=by
 have f8:∀(c9:Fn)(first bD:zAV)(w:A2),(Instr.makeFunc c9 first bD).run Q w= .ok (.func c9 first bD) w:=λ_ _ _ _=>rfl;have g5:∀w:A2,(zeroValue 28).run Q w= .ok (B6 #[zI 0,zI 0,fe]) w:=λw=>J;have da:=dj w<|X #[zI 0,zI 0,fe] 28;have fa:=au w<|X #[zI 0,zI 0,fe] 28;have fk:(w.alloc<|X #[B0 B5 0,B0 B5 0,V B4 0 0] 28).heap.size=w.heap.size+1:=dC _ _;have a9:=ah bd;by_cases f5:65536<s.size
 .have e4:(65536:Int)<(s.size:Int):=O;have B:B3 (c=2/\a=0/\ns=[]):=by
   cases bd with
   |big h=>exact⟨R,R,R⟩|at_ h _ _=>omega|ok h _ _=>omega
  clear bd a9;go_enter_defers func6,ntmps6
  go_wp2;exact⟨_,fD R _ _ _ _ _ _ _ R (au w _) underlying28 R J,by rw[B.out.1,B.out.2.1,B.out.2.2];exact⟨_,_,R,R,GA _ _ _,dj w _⟩⟩
 .have e4:¬(65536:Int)<(s.size:Int):=O;have⟨fq,ew,K⟩:=b8.pow;have eh:=abm _ _ _<|(da.block _ U).trans K;have ao:=ah b8;clear bd b8 K;go_enter_defers func6,ntmps6
  go_wp2_with fail;apply eh.mono;rintro b fv ⟨ey,rfl,bF,cB,bA⟩;rw[fk]at bF cB bA;have b1:=da.trans<|bA.mono O;have dx:GQ fv (w.heap.size+1) ey (w.heap.size+1) [100,6]:=⟨bF,cB,Z,Z⟩;have eg:=abD _ _ _ _ s dx (ao.lay.below b1 O) O (by have:=ao.gn;omega);have ck:=(bA.block _ O).trans fa;clear eh;go_wp2_with fail;apply eg.mono;rintro b an ⟨(⟨a6,en,toks,cs,_,dz,cn,rfl,bn,cb,_,ff,E⟩|⟨z,a3,rfl,E⟩)⟩
  .have o:=b1.trans<|E.mono O;have a2:=(E.block _ O).trans ck;have ee:=ai a2;have⟨m,cq⟩:=aw<|M toks;rw[cq]at bn ff;obtain⟨_,_,rfl⟩:=aF bn;obtain⟨cF,c8,ca⟩:∃cF c8,kJ _ 6=A1->passOk (M a6+45) c8 _ 6 _/\M cF<=M a6+45/\Jz cF _:=by
    by_cases cf:kJ a6 6=A1
    .obtain⟨bx,d,e⟩:=cn.passOk Z Z cf;exact⟨bx,_,λ_=>⟨d,Bm d,e⟩⟩
    .exact⟨[],0,λb=>absurd b cf⟩
   have bw:=λbx=>La _ _ _ _ _ _ ⟨6,s.size,s.size,0,0,zE0⟩ s _ (cb.below<|dj _ bx) ((ao.lay.below (o.trans<|(dj _ bx).mono o.size) O).tabs) O I I I I I (λb=>⟨(ca b).1,U,λa bf=>by have:=aL<|(ca b).2.2.o1 a bf;omega⟩);unfold vTk at bw;simp only at bw;obtain⟨_,ce,_⟩:=cb.g.ex;have e3:=ai ce;have n:=Lx bn cq dz cn ce;have gu:=ai ck;have gz:=E.size;clear eg dz cn ca bn cq cb ce dx bF cB;go_wp2_with fail;apply(bw _).mono;have y:=dj an<|X #[zI 6,zI s.size,zI s.size,zI 0,zI 0,A5 zE0] 58;have cI:=au an<|X #[zI 6,zI s.size,zI s.size,zI 0,zI 0,A5 zE0] 58;have fd:(an.alloc<|X #[B0 B5 6,B0 B5 (s.size:Nat),B0 B5 (s.size:Nat),B0 B5 0,B0 B5 0,A5 ⟨#[]⟩] 58).heap.size=an.heap.size+1:=dC _ _;have cw:=cj n.1 y;have b0:=(y.block _ e3).trans n.2.2.2.2;generalize an.alloc (X #[zI 6,zI (s.size:Nat),zI (s.size:Nat),zI 0,zI 0,A5 zE0] 58)=f3 at y cI fd cw b0⊢;rintro b c5 ⟨(⟨bk,rfl,e9,ch,F⟩|⟨bk,rfl,F⟩)⟩
   .have cd:(feedL en 6).2=A1:=by rw[<-n.out.2.2.2.1.may Z Z];exact bk
    have cm:=(F.block _ O).trans<|(y.block _ ee).trans a2;have bc:=(o.trans<|y.mono o.size).trans<|F.mono O;obtain⟨af,d,_,l,bh,bf,d7⟩:=a9.ok_of (toks:=toks++[⟨6,_,_,cs,0,_⟩]) O (by unfold nF;rw[n.out.2.2.1,aa I,ae cd]);have em:=awq ch b0 cw Z Z;have eo:eK an.heap.size c5 6 (s.size:Nat) (s.size:Nat) 0 0 zE0:=mu ch cI O;have⟨fx,fy,fz,fA,fB,fF,f2⟩:=aJ eo;have⟨_,e5,a3,fl,fm⟩:=dw aiu;have gp:=F.size;have d5:m=af:=by have:=l.len;rw[aG,n.out.2.1]at this;simpa using this
    have e:=Lx l bh bf d7 d5;have cx:=cj em<|dj _<|X #[zI 6,zI s.size,zI s.size,zI 0,zI 0,A5 zE0] 58;have gs:=(dj c5<|X #[zI 6,zI s.size,zI s.size,zI 0,zI 0,A5 zE0] 58).size;have ep:=au c5<|X #[zI 6,zI s.size,zI s.size,zI 0,zI 0,A5 zE0] 58;clear bw e9 ch cI cw b0 eo l bh bf d7 d5 em cd bk;go_wp2_with (at_builtin;refine wpList_append_own_at _ R _ _ _ R _ 58 _ _ 6 _ underlying44 e5 a3 fl fm R Z _ _ _ R cx _ 1 1 [zI 6,zI s.size,zI s.size,zI 0,zI 0,A5 zE0] rfl R (World.news_of_block ep) (by intro _ eb;simp at eb;obtain rfl|rfl|rfl|rfl|rfl|rfl:=eb<;>rfl) byM O O ?_;intro _ q cy bj _ e0;obtain⟨G,ax,rfl⟩:=ownsRow_succ cy);have g0:=bj.size;have ec:=λj x=>(cx.lt j x).1;have b7:=(bc.trans<|(dj _ _).mono bc.size).grown bj O (λj x=>by have:=ec j x;omega);have br:=(bj.block _ O (λb=>by have:=ec _ b.symm;omega)).trans<|((dj _ _).block _ O).trans cm;have⟨fq,ew,K⟩:=ao.pow;have ds:=(b7.block _ U).trans K;have f4:=ai K;obtain⟨bE,a1,d0⟩:∃bE,q.heap[G]?=Ax (X bE 58 (0,0))/\TkR bE (rJ<|toks++[⟨6,(s.size:Nat),(s.size:Nat),cs,0,zE0⟩]) (m+1):=by
     obtain⟨g,_⟩|⟨k,bD,_,g,_,bh,H,_,_,i⟩:=cy.2
     .cases g
     .cases g;refine⟨_,bh,anH (ts:=toks++[⟨6,s.size,s.size,0,0,_⟩]) (by rw[ya];exact i) (by rw[aG,n.out.2.1];rfl) (λcz _ L=>?_)⟩;obtain h|h:=cG cz<|M toks
      .rw[nH h]at L;rw[xe (by rw[nH h];exact L)];exact⟨R,λ_=>rfl⟩
      .have b:cz=M toks:=by have:=(dr.1 L).1;simp at this;omega
       subst b;rw[jI O,iI]at L;cases L;rw[xe (by rw[jI O,iI];rfl)];exact⟨R,λh=>absurd R h⟩
    obtain⟨A,v⟩:∃A:Pe,(⟨0,q.heap.size,G,ax,m+1,rJ<|toks++[⟨6,s.size,s.size,cs,0,zE0⟩]⟩)=A:=⟨_,R⟩;have l:=e.1;have c7:Pp A (q.alloc<|X #[bI G (m+1) ax,zI 0] 61) 0:=by
     rw[<-v];exact⟨U,⟨_,_,((dj _ _).block _ U).trans a1,d0⟩,au _ _,U,_,_,((dj _ _).block _ O).trans ds⟩
    obtain⟨cz,hS⟩:PI A _ 0 d af:=an0 (by rw[<-v];exact l.k78) (by rw[<-v];show P _ (m+1) _ _ _ _;rw[e.out.2.2.2.2];exact l.p);have a4:=ayg (amC (.inr (by rw[<-v];show(rJ _ af).k=6;rw[l.end_])) hS) (by rw[<-v];show af<m+1;have:=e.2.2.2.2;omega) _ c7 (by have:=l.sz;rw[dh];omega);have dq:(A.tk af).t=(s.size:Nat):=by rw[<-v];show(rJ _ af).t=_;rw[l.end_]
    have eL:A.pb=q.heap.size:=by rw[<-v]
    unfold pV at a4;rw[dq,eL]at a4;have fo:(q.alloc<|X #[V (Ax ⟨G,0,B4⟩) (m+1) ax,B0 B5 0] 61).heap.size=q.heap.size+1:=dC _ _;have cc:=dj q<|X #[bI G (m+1) ax,zI 0] 61;have dk:=b7.trans<|cc.mono b7.size;have d9:=(cc.block _ O).trans br;have g1:=ai br;clear hS c7 l a1 d0 K ds cy bj e0 cx ep fx fy fz fA fB fF f2;generalize q.alloc (X #[bI G (m+1) ax,zI 0] 61)=ev at a4 fo cc dk d9⊢;apply a4.mono;rintro b _ ⟨_,rfl,ap⟩;have⟨_,ek,d6⟩:=ap.nb;have fg:=ap.gr.size;have fb:=(ap.gr.block _ O U).trans d9;have eF:=dk.grown ap.gr O U;have ei:=E5 (Bv _ d) _ _ _ [] _ ek ⟨onN,λc6 bt=>(by cases bt)⟩ fg (by have:=e.1.sz;rw[dh];simp;omega);have et:=ah d6;clear a4 ek d6 ap dq;go_wp2_with fail;apply ei.mono;rintro b r ⟨_,C,rfl,ad,b9,a1,⟨e2,d4⟩,bb,e7,_⟩;rw[ga]at ad;obtain⟨g,i,rfl⟩:=aF ad.row;have dn:=eF.trans<|bb.bl.mono O;have fc:=(bb.bl.block _ O).trans fb;have g3:=bb.bl.size;have⟨k,cg⟩:=aw<|M C;rw[cg]at ad;have el:dE r (V g k i) (qG s d):=by
     have:=ad.nds;rw[b9]at this;exact this
    have a8:B3 (Lw r ev.heap.size (V g k i) C/\C.map Mb.N=qG s d/\(nB' C).Nodup/\(kB C).Nodup):=⟨ad,b9,List.nodup_iff_count.2 λes=>bK (a1 es)<|List.nodup_iff_count.1 (oK.1 et).1 es,d4⟩;rw[cg];have a5:=dj r<|X #[V g k i] 26;have dc:=dn.trans<|a5.mono dn.size;have ba:=ao.below dc O;have e8:M (qG s d)<=1048576:=by
     have:=e.1.sz;unfold qG;rw[Fo.flat_len,dh];omega
    obtain⟨_,_,d1⟩:=ba.lay.tabs.word;have cr:=E7 _ _ _ (el.below a5) e8 e.1.sm ba.lay.errs _ _ d1 (λ_ e1=>uJ ba.asc e1 O);have d2:=au r<|X #[V g k i] 26;have d8:=(a5.block _ O).trans fc;have ge:(r.alloc<|X #[V g k i] 26).heap.size=r.heap.size+1:=dC _ _;have a7:B3 (okC (qG s d)=(if(bH<|qG s d).1=0 then 0 else 2)/\okN (qG s d)=(if(bH<|qG s d).1=0 then qG s d else [])):=⟨R,R⟩;have⟨eq,cp⟩:=aw<|(bH<|qG s d).1;have⟨_,ea⟩:=aw<|(bH<|qG s d).2;rw[cp]at a7;simp only[cp,ea]at cr;have f6:∀(er fu:B7)(w:A2),(Instr.field 49 (B6 #[er,fu]) 0).run Q w= .ok er w:=λ_ _ _=>J;clear ei ad b9 a1 e2 d4 bb e7 el d1 cp ea ba cg;go_wp2_with fail;apply cr.mono;rintro b am ⟨rfl,ar⟩;have d3:=(ar.block _ O).trans d2;have bo:=(ar.block _ O).trans d8;have df:=dc.trans<|ar.mono O;have gf:=ar.size;have f7:=λj x=>(ar.block j O).trans<|a5.block j x;obtain⟨_,_,_,_⟩:=row3 bo;have g7:am.cell? (aj r.heap.size 0)=Ax (V g k i):=crV d3;have f9:w.heap.size≠r.heap.size:=O;have gd:=ai bo;clear cr d2 d8 a5 d3;by_cases a0:eq=0
    .subst a0;go_wp2_with fail;apply pf (f:=17) (args:=#[be w.heap.size 0]) I (by simp[go_sem]);apply(aiw _ _).mono;rintro b c3 c4 ⟨rfl,rfl,rfl⟩;have H:=set3 bo (zI 0) (zI 0)<|V g k i;have u:=KB df (zI 0) (zI 0)<|V g k i;have e6:∀j,j≠w.heap.size->_:=λj x=>as4 (w:=am) x (zI 0) (zI 0)<|V g k i;have ef:am.heap.size<=(((am.setCell ⟨w.heap.size,0,B4⟩<|B0 B5 0).setCell ⟨w.heap.size,1,B4⟩<|B0 B5 0).setCell ⟨w.heap.size,2,B4⟩<|V g k i).heap.size:=by simp[World.setCell]
     generalize ((am.setCell (aj w.heap.size 0)<|zI 0).setCell ⟨w.heap.size,1,B4⟩<|zI 0).setCell ⟨w.heap.size,2,B4⟩ (V g k i)=bz at H u e6 ef⊢;have ak:=dj bz<|X #[zI 0] 52;have gt:=u.size;have gm:=ef;have b:=a7.out;rw[ae trivial,ae trivial]at b;have cu:=a8.1.mono λj _ _=>(ak.block j O).trans U;refine⟨_,fD R _ _ _ _ _ _ _ R ((ak.block _ O).trans H) underlying28 R J,?_⟩;rw[e.out.2.1,e.out.2.2.1,e.out.2.2.2.1,b.1,b.2];exact⟨_,C,R,a8.2.1,awp ⟨pL cu.row O,λc6 bt=>⟨pL (cu.each c6 bt).1 O,pL (cu.each c6 bt).2 O⟩⟩ a8.2.2.1 a8.2.2.2,u.trans<|ak.mono O⟩
    .have L:(eq==0)=B1:=by simpa using a0
     have B:B3 (okC (qG s d)=2/\okN (qG s d)=[]):=by
      have b:=a7.out;rw[aa a0,aa a0]at b;exact b
     clear a0 a7;go_wp2_with fail;apply pf (f:=17) (args:=#[be w.heap.size 0]) I (by simp[go_sem]);apply(aiw _ _).mono;rintro b c3 c4 ⟨rfl,rfl,rfl⟩;have H:=set3 bo (zI 2) (zI 0) fe;have u:=KB df (zI 2) (zI 0) fe;generalize ((am.setCell (aj w.heap.size 0)<|zI 2).setCell ⟨w.heap.size,1,B4⟩<|zI 0).setCell ⟨w.heap.size,2,B4⟩ fe=bz at H u⊢;have ak:=dj bz<|X #[zI 0] 52;refine⟨_,fD R _ _ _ _ _ _ _ R ((ak.block _ U).trans H) underlying28 R J,?_⟩;rw[e.out.2.1,e.out.2.2.1,e.out.2.2.2.1,B.out.1,B.out.2];exact⟨_,_,R,R,GA _ _ _,u.trans<|ak.mono u.size⟩
   .have cm:=(F.block _ O).trans<|(y.block _ ee).trans a2;have bc:=(o.trans<|y.mono o.size).trans<|F.mono O;have cd:(feedL en 6).2=B1:=by rw[<-n.out.2.2.2.1.may Z Z];exact bk
    obtain⟨rfl,rfl,rfl⟩:=a9.at_of (z:=s.size) O O (by unfold nF;rw[n.out.2.2.1,aa I,aa U]);apply pf (f:=17) (args:=#[be w.heap.size 0]) I (by simp[go_sem]);apply(aix _ _ _ _ _ _ cm).mono;rintro b c3 c4 ⟨rfl,rfl,br,d⟩;have e:=Gx a6<|s.extract s.size s.size;rw[lh]at e;exact⟨_,fD R _ _ _ _ _ _ _ R br underlying28 R J,⟨_,_,by unfold psV;simp only[rj];rw[(O:Bo a6 (s.extract s.size s.size)=0),Int.natCast_zero,Int.add_zero],R,GA _ _ _,bc.trans d⟩⟩
  .have o:=b1.trans<|E.mono O;have a2:=(E.block _ O).trans ck;obtain⟨rfl,rfl,rfl⟩:=a9.at_of O a3.bad (by unfold nF;rw[ae a3.bad]);apply pf (f:=17) (args:=#[be w.heap.size 0]) I (by simp[go_sem]);apply(aix _ _ _ _ z _ a2).mono;rintro b c3 c4 ⟨rfl,rfl,e,d⟩;exact⟨_,fD R _ _ _ _ _ _ _ R e underlying28 R J,⟨_,_,by rw[<-a3.at_];rfl,R,GA _ _ _,o.trans d⟩⟩
def asp{b}(c)(h:Code C W.heap.size W b):A9 Q 4 #[V b C.len c] W λe i=>∃t:Bz,e=A0 (A5 t)/\t.size<=9100000/\Y W.heap.size W i:=by
 have a:=dj W<|X #[V b C.len c,zI 0,B0 .u64 0,zI 0] 42;have d:=fs (show Cq C ⟨W.heap.size,W.heap.size,0,b,c⟩ (W.alloc<|X #[V b C.len c,zI 0,B0 .u64 0,zI 0] 42) 1000000000000 from⟨⟨0,0,0⟩,⟨⟨eE,a.size⟩,h.below a,au W _⟩,Z,Z⟩) a;clear a h;go_in;go_wp2_with fail;apply(awk d.1 Z).mono;rintro e w1 ⟨t,rfl,g,a⟩;have f:=ah<|d.2.trans a;go_wp2;go_ret;exact⟨_,R,g,f⟩
def Jl.tm(h:Jl s c a ns):Tm ns:=by
 cases h with
 |big _=>exact⟨Z,λb h=>by cases h⟩
 |at_ _ _ _=>exact⟨Z,λb h=>by cases h⟩
 |@ok k j f i h g d=>
  unfold okN;split
  .refine⟨?_,λb e=>⟨(d.sm b e).l1,(d.sm b e).l2⟩⟩;have:=d.sz;unfold qG;rw[Fo.flat_len,dh];omega
  .exact⟨Z,λb h=>by cases h⟩
def aAi(h:(bH ns).1=0):bH ns=(0,0):=by
 unfold bH at *;split at h
 .cases h
 .rename_i b;rw[aa b];cases h1:jc (fI ns) (M ns) 0 with
  |some c=>rw[h1,tf2]at h;simp at h|none=>
   rw[h1,tf2]at h;rw[tf2];cases h2:jc (gw<|jh ns) (M ns) 0 with
   |some c=>rw[h2,tf3]at h;simp at h|none=>
    rw[h2,tf3]at h;rw[tf3];split at h
    .cases h
    .rename_i a;rw[aa a,Is h];rfl
def Jl.z(h:Jl s c a ns)(b:c=0):bH ns=(0,0):=by
 cases h with
 |big _=>exact absurd b Z|at_ _ _ _=>exact absurd b Z|ok _ _ _=>
  have d:=aAi (by unfold okC at b;split at b;assumption;exact absurd b Z);unfold okN
  rwa [ae (by rw[d])]
def ark.out(h:ark s ns):Jl s 0 0 ns:=by
 obtain⟨_,_,_,_,d,_,c,b,a,rfl⟩:=h;have:=Jl.ok d c b;unfold okC okN at this
 rwa [ae (by rw[a]),ae (by rw[a])]at this
def Jl.c1(h:Jl s c a ns):c=1->s.size<=65536:=by
 cases h with
 |big _=>intro h;cases h
 |at_ h _ _=>exact λ_=>h|ok h _ _=>exact λ_=>h
def AnL.below(h:AnL w)(a:Y w.heap.size w W):AnL W:=by
 obtain⟨c,b,d,e⟩:=h;exact⟨ag a c,b,ag a d,ag a e⟩
def abG(w)(a:zOA)(n b)(h:1048576<n)(d:n<=9223372036854775807):A9 Q 3 #[V a n b] w λe c=>e=A0 (B9 A1)/\Y w.heap.size w c:=by
 have f:(1048576:Int)<(n:Int):=O;exact giX blR
def asq{F r}(al:Code C w.heap.size w F)(ap:PL w)(af:AnL w)(K:Fe w):A9 Q 3 #[V F C.len r] w λe av=>e=A0 (B9 A1)/\Y w.heap.size w av:=by
 refine ao7 (asp r al) (λj q=>?_) (by have:=C.ok;omega);have⟨y,x,g,h⟩:=awn j;have k:=h.tm;have d:=h.nn;have s:=h.le;have G:(sH g).size<=70368744177664:=by
  unfold sH;split
  .exact d.dz
  .exact lg _
 have P:∀a,Y w.heap.size w a->PL a:=λa b=>ap.below b O;have L:=λa=>JK a j O h;refine⟨y,x,g,aol j y x<|sH g,jv g,k.n,k.l,L,λa b=>(uw a j O (P a b) h).mono λ_ _ ⟨c,v,e,o,u,b⟩=>⟨c,v,e,o,u.lw,b⟩,λa ad c p f=>adF a ad c y x g p f k.n k.l,λa b=>?_,λa b=>?_,λao=>?_⟩
 .exact aek a j O d.cs s.1 s.2 G ((L a).mono λ_ _ ⟨c,e,n,b⟩=>⟨c,e,n.nds,b⟩) (λa c o=>abE a c g o d.len d.sm d.int d.dz) (λn a i p=>nG n O O a)
 .exact ad2 a j d.cs s.1 s.2 h.c1 G (af.below b) (λm f=>uw m j O ((P a b).below f O) h)
   (λm c f E=>abF m c g E d.len d.sm d.int d.dz ((K.below b).below f) (λH B=>by
    have t:=((P a b).below f O).below B O;have⟨ar,ak,am⟩:=t.lay.tabs.word;exact E7 H c g (E.below B) d.len d.sm t.lay.errs ar ak am (λa A=>uJ t.asc A O)))
   (λn m i p f=>yI n O O m<|(K.below b).below f)
 .have q:=h.z ao;have B:=d.sm;have t:=d.int;refine⟨yJ g,λa c v ak b H n=>?_,λa c b am=>?_,λi=>?_⟩
  .have E:=P a b;exact J0 a c g (by rw[<-H];exact n.nds) (by rw[<-H];exact n.strj) k.n B t E.lay E.pow λm f=>(E.below f O).asc
  .have E:=(Bp (by rw[q])).1;obtain⟨_,ak,e,n⟩:=am;obtain⟨i,_⟩|⟨_,r,rfl⟩:=aC n.row
   .rw[<-e,dm]at E;omega
   .have m:=k.n;rw[<-e]at m B t⊢;exact AB a _ _ r _ n.nds n.cap I (by simp at m⊢;omega) B t
  .have m:(fK g).size<=65536:=by
    unfold jv yq at i;rw[ae (by rw[q])]at i;split at i
    .exact absurd i Z
    .omega
   obtain⟨ms,u,A,_,_⟩:=asg t q m;rw[<-ao8 q m]at u;have E:=u.out;exact⟨ms,λa b=>(uw a _ (by have:=yJ g;omega) (P a b) E).mono λ_ _ ⟨c,v,e,o,own,b⟩=>⟨0,0,c,e,by rw[<-o];exact own.nds,b⟩,λa ad c p f=>age p f E.tm k A⟩
def ayE:Q.globalNamed "loop.example/warp/impl.errLarge" =Ax 0:=J
def aAj:Q.globalNamed "errors.errorType" =Ax 1:=J
def api: "*" ++ "errors.errorString" = "*errors.errorString" :=Z
def ayF(u)(h:Q.typeName? 3 u=Ax "*errors.errorString"):u=379:=
 typeName_ptr_named (nm:= "errors.errorString") (by rw[api];kernel_rfl) J Z u (by rw[api];exact h)
def aAk(b:laidMetH Q [("loop.example/warp/impl.errLarge",Rows.laid_loop_example_warp_impl_errLarge)] W):∃a,W.cell? (aj 0 0)=Ax (.iface 379<|.pointer<|Ax a)/\W.cell? a=Ax (.string ⟨#[108,97,114,103,101]⟩):=by
 rw[MakeChecks.laidMetH_plain _ _ _ J]at b;obtain⟨c,h,f,d,e,_⟩:=laid_sentinel b ayE J underlying67 ayF underlying379 underlying381 R R underlying9 J J;refine⟨c,by simpa using Lq ayE f 0,?_⟩;obtain⟨⟨g⟩⟩:=h;obtain rfl:g=[108,97,114,103,101]:=e;exact d
def aAl(h:laidMetH Q [("errors.errorType",Rows.laid_errors_errorType)] W):W.cell? (aj 1 0)=Ax (.iface 227<|.agg #[be 22 67]):=by
 have i:laidMet Q [] W/\handlesMet Q [("errors.errorType",Rows.laid_errors_errorType)] W:=h;obtain⟨l,_,m,d,e,_,f,b⟩:=i.2 _<|ic.2 R;have g:l=[101,114,114,111,114]:=(de d).symm;subst g;obtain rfl:=de<|(by kernel_rfl:(Q.cutTypes.find? (·.1== "internal/reflectlite.rtype")).map (·.2)=Ax 227).symm.trans e;have n:Q.types.size=420:=J;have k:((C2 420).filter λa=>Q.rowNamed a [101,114,114,111,114])=[67]:=J;have c:m∈(C2 420).filter λa=>Q.rowNamed a [101,114,114,111,114]:=List.mem_filter.2 ⟨List.mem_range.2 O,f⟩;rw[k]at c;obtain rfl:=ic.1 c;have j:typeHandle Q 67=be 22 67:=J;rw[j]at b;simpa using Lq aAj b 0
