import Derived.Test.YtiaechpcebhcdaaGreatDoorHYk11
import Derived.Test.YtiaechpcebhcdaaGreatDoorHYk12
set_option linter.all false
set_option maxRecDepth 100000
set_option maxHeartbeats 6400000
open List renaming length->M,replicate->A3
open Go.IntKind renaming i64->Q
open Go.Value renaming int->V,int->Ax,string->A5,slice->A9,bool->B1
open Go renaming World->X,Value->B0
open Option renaming some->Y,none->Br
open Go.Proofs.Tryz renaming prog->A0
open Go.Calls renaming quiet_of_same->A2
open Go.Obj renaming cells->A6
namespace Go.Proofs.YtiaechpcebhcdaaGreatDoor
open Go.RowKit
variable{W:World}{b:Nat}{l:Int}{s:Bz}
def yD(S:List Int):List Int->Int->Option Int
 |[],a=>Y a
 |k::r,a=>if k=a-1/\S.getD k.toNat 0≠0 then yD S r (a-S.getD k.toNat 0) else Br
def tu(S:List Int)(i:Nat)(ks:List Int):Int:=match yD S ks.reverse i with|some a=>(i:Int)-a+1|none=>0
def jk(ns:List Nd):List Int:=ns.foldl (λa b=>a++[tu a (M a) b.ks]) []
def uB(ns:List Nd)(N:Nd):jk (ns++[N])=jk ns++[tu (jk ns) (M (jk ns)) N.ks]:=by simp[jk]
theorem uC{α:Type}{p:List α->Prop}(h0:p [])(h1:∀a x,p a->p (a++[x]))(l:List α):p l:=by
 rw[<-List.reverse_reverse l]
 induction l.reverse with
 |nil=>exact h0
 |cons x r ih=>grind
theorem kJ:∀(ns:List Nd),M (jk ns)=M ns:=by
 intro ns;refine uC (p:=λns=>M (jk ns)=M ns) rfl (λb a c=>?_) ns;rw[uB];grind
structure ape (S:List Int) (l:List Int) (a:Int) (R:Option Int):Prop where
 out:yD S l a=R
def EB(S:List Int):Prop:=∀(a:Nat) z,S[a]?=Y z->0<=z/\z<=(a:Int)+1
theorem ais{S:List Int}(hS:EB S):∀(l:List Int)(a b:Int),(∀k∈l,0<=k)->0<=a->yD S l a=Y b->0<=b/\b<=a
 |[],a,b,_,e,h=>by simp[yD]at h;omega
 |k::r,a,b,d,e,h=>by
  rw[yD]at h;split at h
  .rename_i g;have i:=d k I;have f:0<=S.getD k.toNat 0/\S.getD k.toNat 0<=k+1:=by
    rw[er];cases hs:S[k.toNat]? with
    |none=>grind
    |some c=>have:=hS _ c hs;grind
   have:=ais hS r _ b (λc f=>d c U) O h;omega
  grind
theorem amc{S:List Int}(hS:EB S)(i:Nat)(ks:List Int)(b:∀k∈ks,0<=k):0<=tu S i ks/\tu S i ks<=(i:Int)+1:=by
 unfold tu;cases h:yD S ks.reverse i with
 |none=>grind
 |some a=>
  have:=ais hS ks.reverse i a (λk c=>b k U) O h;grind
theorem Bi(ns:List Nd):(∀N∈ns,∀k∈N.ks,0<=k)->EB (jk ns):=by
 refine uC (p:=λns=>(∀N∈ns,∀k∈N.ks,0<=k)->EB (jk ns)) (λ_ b h a=>by simp[jk]at a) (λc N m e=>?_) ns;have f:=m (λi n=>e i U);intro b h a;rw[uB]at a;rcases aH b (M (jk c)) with g|g
 .rw[mo g]at a;exact f b h a
 .rw[jr g]at a;obtain⟨j,d⟩:=List.getElem?_eq_some_iff.1 a;simp at j d;subst d;obtain rfl:b=M (jk c):=O;exact amc f _ _ (λk l=>e N I k l)
theorem Hj(a:List Int)(n k:Nat)(z:Int)(c:M a=k)(d:k<n):(a.map (Ax Q)++A3 (n-k) (Ax Q 0)).set k (V Q z)=(a++[z]).map (Ax Q)++A3 (n-(k+1)) (Ax Q 0):=by
 have b:M (a.map (Ax Q))=k:=U;rw[List.set_append_right _ _ O,b,fI,(O:n-k=(n-(k+1))+1),List.replicate_succ,bG];simp
theorem aal(w:X)(v:B0)(ns:List Nd)(h:fj w v ns)(bA:M ns<=3000)(G:∀N∈ns,M N.ks<=1048576)(r:∀(i:Nat) N,ns[i]?=Y N->∀k∈N.ks,0<=k/\k<(i:Int)):
  Calls A0 46 #[.agg #[v]] w λe bf=>∃g,e= .returned (A9 (Y ⟨g,0,Br⟩) (M ns) (M ns))/\bf.ownsRow w.heap.size 3 1 (A9 (Y ⟨g,0,Br⟩) (M ns) (M ns)) (M ns) ((jk ns).map (Ax Q))/\Below w.heap.size w bf:=by
 obtain⟨t,u,rfl⟩:=h.form;have⟨a,ba⟩:=aw (M ns);have ao:=aj ba;have bh:Hid (fj w (A9 t a u) ns):=U;have E:Hid ((∀N∈ns,M N.ks<=1048576)/\(∀(i:Nat) N,ns[i]?=Y N->∀k∈N.ks,0<=k/\k<(i:Int))/\∀k,EB (jk (ns.take k))):=⟨G,r,λk=>Bi _ (λN G an l=>by
  have⟨i,a8,e⟩:=jd (xh G);exact(r i N U an l).1)⟩
 rw[ba]at bA⊢;have⟨b4,a8,b1,b3,cB⟩:=eC tL;go_in;go_wp2_with (at_make;apply C6 _ rfl _ _ 98 rfl w.heap.size 3 b4 (V Q 0) 1 Tryz.underlying98 a8 b1 b3 Q Q _ _ a rfl rfl rfl rfl U py I;intro bg bc q;have a6:Below (w.alloc (A6 #[A9 t a u] 26)).heap.size (w.alloc (A6 #[A9 t a u] 26)) bg:=⟨q.os,q.tape,q.output,q.size,λk r=>q.block k r I⟩;have zc:bg.cell? ⟨w.heap.size,0,Br⟩=Y (A9 t a u):=by {rw[au _ _ _ _ _ _ ((a6.block _ I).trans (ay w _))];rfl});rw[fp,show(madeCells (Ax Q 0).cells (a*1)).toList=A3 a (Ax Q 0) by rw[wL];exact zq _ a]at bc;go_loopw [17] (λal wr=>∃k:Nat,k<=a/\al= V Q k/\Hid (wr.ownsRow w.heap.size 3 1 (A9 (Y ⟨w.heap.size+1,0,Br⟩) a a) a ((jk (ns.take k)).map (Ax Q)++A3 (a-k) (V Q 0)))/\Below w.heap.size w wr) (λal _=>a-(intOf al).toNat)
 case atStart=>exact⟨0,nH,rfl,bc,((ai _ w).alloc cJ _).trans (a6.mono I)⟩
 case round=>
  obtain⟨k,r,rfl,A,x⟩:=hrel;by_cases a9:k<a
  .have⟨N,y⟩:=dh ao.out a9;have bw:=E.1 N (da y);have bx:=E.2.1 k N y;have bb:=E.2.2 k;obtain⟨b9,rfl,cI,cF,bp⟩:=(bh.below x).get y;obtain⟨cc,cd,ce,cf,cg,ch,cl,bl,bn,bD,bt⟩:=bp;obtain⟨ca,cm,rfl⟩:=bD.form;obtain⟨aL,a0,rfl⟩:=bt.form;have⟨b,H⟩:=aw (jk (ns.take k));have a5:M b=k:=by rw[<-H,kJ,oq,ao.out];omega
   have bE:jk (ns.take (k+1))=b++[tu b k N.ks]:=by
    rw[il,y];show jk (ns.take k++[N])=_;rw[uB,H,a5]
   rw[H]at A bb;have⟨n,a3⟩:=aw (M N.ks);rw[a3]at bn bw;have bv:dz wr (A9 aL n a0) N.ks:=U;have m:=aoo a3 bv bx bb a5 bE;have bk:ape b (N.ks.take n).reverse k (yD b N.ks.reverse k):=⟨U⟩;have⟨ar,a4⟩:=aw (yD b N.ks.reverse k);rw[a4]at bk;generalize M N.nm=b8 at bl;go_wp2_with fail;generalize br:wr.alloc _=s;obtain⟨a1,K, -⟩:=al1 br;replace a1:s.cell? ⟨wr.heap.size,8,Br⟩=Y (A9 aL n a0):=(au _ _ _ _ _ _ a1).trans rfl;have ag:=bz A.out K;have bj:=m.2.1.below K;have B:=aj ag;have L:=x.trans (K.mono x.size);have cu:=ag.frozenAt k;have cr:s.cell? ⟨w.heap.size+1,k,Br⟩=Y (V Q 0):=by
    rw[ag.cellAt k O,jr U,dr,m.out.2.2.2.2.1,fI,adr,ifp]
   go_loop [6,7,8] (λb5 b6 am=>∃(d:Nat) (c:Int),b5= V Q c/\b6= B1 true/\am= V Q ((d:Int)-1)/\d<=n/\0<=c/\c<=(k:Int)/\ape b (N.ks.take d).reverse c ar) (λ_ _ am=>(intOf am+1).toNat)
   case atStart=>grind
   case round=>
    obtain⟨d,c,rfl,rfl,rfl,cw,cn,cp,F⟩:=hrel;have f:=F.out;cases d with
    |zero=>
     have l:tu b k N.ks=(k:Int)-c+1:=by
      rw[tu,(aj a4).out];rw[Ic,List.reverse_nil,yD]at f;grind
     have ap:=aj l;have bd:=(B.stored k (V Q ((k:Int)-c+1))).1;rw[Hj b a k _ m.out.2.2.2.2.1 a9]at bd;have C:=aj bd;go_wp2_with fail;refine⟨⟨k+1,O,by go_num,?_,L.setCell I _⟩,by simp[intOf];omega⟩
     simp_all
    |succ d=>
     have⟨an,l⟩:=dh m.1 (O:d<n);have⟨cb,bs,ct⟩:=bj.get l;subst bs;have⟨b2,cA⟩:=m.2.2.1 an (da l);rw[il,l]at f;simp only[Ik,List.reverse_append,List.reverse_cons,List.reverse_nil,dI,zl]at f;rw[yD]at f;obtain⟨j,rfl⟩:=eJ b2;have b0:j<k:=O;obtain⟨p,z⟩:=dh m.2.2.2.2.1 b0;have cq:=m.2.2.2.1 j p z;have cs:s.cell? ⟨w.heap.size+1,j,Br⟩=Y (V Q p):=by
      rw[B.out.cellAt j O,mo U,dw,z];rfl
     have af:b.getD j 0=p:=U;simp only[wH,af]at f;have bo:(((d+1:Nat)):Int)-1=(d:Int):=O;rw[bo];have cx:(0:Int)<=(d:Int):=O;have cy:(d:Int)<(n:Int):=O;have cz:(j:Int)<(a:Int):=O;by_cases o:(j:Int)=c-1/\p≠0
     .rw[ab o]at f;have b7:ape b (N.ks.take d).reverse (c-p) ar:=⟨f⟩;have a7:=o.2;have ad:=o.1;clear f F l z af o;obtain rfl:c=(j:Int)+1:=O;clear ad;go_wp2;go_round
      case rel=>grind
      case measure=>simp[intOf]
     .rw[aa o]at f;have ap:Hid (tu b k N.ks=0):=by
       show tu b k N.ks=0;unfold tu;grind
      have C:Hid (s.ownsRow w.heap.size 3 1 (A9 (Y ⟨w.heap.size+1,0,Br⟩) a a) a ((jk (ns.take (k+1))).map (Ax Q)++A3 (a-(k+1)) (V Q 0))):=by
       have a2:=B.out;show World.ownsRow _ _ _ _ _ _ _;rw[m.out.2.2.2.2.2,ap.out,fy];rw[(O:a-k=(a-(k+1))+1),List.replicate_succ]at a2;grind
      by_cases ad:(j:Int)=c-1
      .have a7:p=0:=by
        omega
       subst a7;obtain rfl:c=(j:Int)+1:=O;clear ad;go_wp2;exact⟨⟨k+1,O,by go_num,C,L⟩,by simp[intOf];omega⟩
      .clear f F l z af o;go_wp2;exact⟨⟨k+1,O,by go_num,C,L⟩,by simp[intOf];omega⟩
  .obtain rfl:k=a:=O;go_wp2;go_ret;refine⟨_,rfl,?_,x⟩;have a2:=A.out;grind
open Go.Maps Go.WideMaps
attribute [local go_sem] mK
structure Iv (b mb B:Nat) (s:Bz) (T:List Tk->X->Prop) (pre:List Tk) (W:X) (p:Nat) (l:Int):Prop where
 sc:yA b W s (.map (Y mb)) p l false
 mp:W.ownsMap A0 9 (plainElem (H:=Unit) A0 3) mb 22 (zG 22)
 ly:Kv W
 tt:T pre W
 sz:B<=W.heap.size
def Iv.gr{mb B:Nat}{T:List Tk->X->Prop}{pre:List Tk}{a:X}{p e:Nat}{d:Int}(h:Iv b mb B s T pre W p l)(f:∀k W a,T k W->W.grownBy a (Y b)->T k a)(g:mb≠b)(j:12<=b)(i:12<=B)(c:W.grownBy a (Y b))(hS:yA b a s (.map (Y mb)) e d false):Iv b mb B s T pre a e d:=
 ⟨hS,h.mp.kept c (by simp[g]),h.ly.blocks (λk m=>c.block k (by have:=h.sz;omega) byT),f _ _ _ h.tt c,aK h.sz c.size⟩
def pL(w:X)(b i:Nat)(v:B0):w.grownBy (w.setCell ⟨b,i,Br⟩ v) (Y b):=
 ⟨rfl,rfl,rfl,by simp[World.setCell],λd c a=>az _ _ _ _ (by simpa using a)⟩
def ait(s:Bz)(p:Nat)(w:X):Calls A0 75 #[A5 (s.extract p s.size),A5 ⟨#[45,45]⟩] w λe b=>e= .returned (B1 (decide (ae s p=45/\ae s (p+1)=45)))/\b=w:=by
 have a:=Tryz.strings_HasPrefix (s.extract p s.size) ⟨#[45,45]⟩ w;rw[show(⟨#[45,45]⟩:Bz).data.toList=[45,45] from rfl,IH]at a;exact a
structure anK (q:Int->Bool) (s:Bz) (f p e:Nat):Prop where
 out:gB q s f p=e
attribute [local go_sem] mK
def ScX(b:Nat)(W:X):Prop:=∃a c,W.heap[b]?=Y (A6 a 91 c)
def yA.x{m:B0}{p:Int}{k:Bool}(h:yA b W s m p l k):ScX b W:=by obtain⟨a,h⟩:=h;exact⟨_,_,h⟩
structure Iw (b mb B:Nat) (s:Bz) (I1:Nat->Int->X->Prop) (W:X) (q:Nat) (l2:Int) (p:Nat) (l:Int):Prop where
 sc:yA b W s (.map (Y mb)) q l2 false
 mp:W.ownsMap A0 9 (plainElem (H:=Unit) A0 3) mb 22 (zG 22)
 ly:Kv W
 ii:I1 p l W
 sz:B<=W.heap.size
def Iw.gr{mb B:Nat}{I1:Nat->Int->X->Prop}{a:X}{p q f g:Nat}{n d e:Int}(h:Iw b mb B s I1 W q n p l)(i:∀p l W a,I1 p l W->ScX b W->W.grownBy a (Y b)->I1 p l a)(k:mb≠b)(r:12<=b)(o:12<=B)(c:W.grownBy a (Y b))(hS:yA b a s (.map (Y mb)) g e false)(j:I1 p l a->I1 f d a):Iw b mb B s I1 a g e f d:=
 ⟨hS,h.mp.kept c (by simp[k]),h.ly.blocks (λm t=>c.block m (by have:=h.sz;omega) byT),j (i _ _ _ _ h.ii h.sc.x c),aK h.sz c.size⟩
structure rE (s:Bz) (p:Nat):Prop where
 lt:p<s.size
 nb:¬ic (ae s p)=true
 nd:¬(ae s p=45/\ae s (p+1)=45)
inductive aed (b mb B:Nat) (s:Bz) (I1:Nat->Int->World->Prop) (W:World):Prop
 |fin (l:Int) (h:Iw b mb B s I1 W s.size l s.size l)
 |bad (p:Nat) (l:Int) (hp:rE s p) (hr:(rdI s p).ok=false) (hS:ir b W s (.map (some mb)) (p:Int) ((rdI s p).a:Int) (l+(rdI s p).d) true) (hy:Kv W) (hz:B<=W.heap.size) (hi:I1 p l W)
def agb(n l b mb B:Nat)(s:Bz)(dk:s.size<=70000)(c5:b<B)(ar:mb≠b)(ap:12<=b)
  (I1:Nat->Int->X->Prop) (C:∀p l W j,I1 p l W->ScX b W->W.grownBy j (Y b)->I1 p l j) (bs:∀p q l W,blk s (s.size+1) p=blk s (s.size+1) q->p<=q->q<=s.size->I1 p l W->I1 q l W) (cz:∀p l W,I1 p l W->0<=l/\l<=(p:Int)+1/\p<=s.size)
  (h:X->Prop) (cx:∀W j,KeepsFrom B W j->h W->h j) (Pn:List PanicEntry->X->Prop)
  (cI:∀p c W,rE s p->(rdI s p).ok=true->Iw b mb B s I1 W (rdI s p).a (c+(rdI s p).d) p c->h W->YieldAt Fence.wide (n-1) A0 l #[vTk ⟨(rdI s p).k,(p:Int),((rdI s p).a:Int),c,(rdI s p).n,(rdI s p).x⟩] W λe j=>(e= .returned (B1 true)/\Iw b mb B s I1 j (rdI s p).a (c+(rdI s p).d) (rdI s p).a (c+(rdI s p).d)/\h j)\/(∃ak,e= .panicked ak/\Pn ak j))
  (W:X) (bD:Nat) (bA:Int) (bf:Iw b mb B s I1 W bD bA bD bA) (cv:h W):
  CallsIn Fence.wide n A0 35 #[.pointer (Y ⟨b,0,Br⟩),.func (.yield l) #[] #[]] W λe j=>((∃v,e= .returned v)/\aed b mb B s I1 j/\h j)\/(∃ak,e= .panicked ak/\Pn ak j):=by
 have bc:∀{g b3:X},g.grownBy b3 (Y b)->h g->h b3:=λdc f=>cx _ _ (KeepsFrom.of_grownBy dc (λbj e=>by cases e;exact c5)) f;refine callsIn_wide.2 ?_;go_in;go_wp2;go_step3
 go_wp2;go_step3
 go_wp2;have aL:∀{g:X}{p:Nat}{c:Int}(q:Nat),Iw b mb B s I1 g p c p c->Iw b mb B s I1 (g.drewN q) p c p c:=λq f=>f.gr C ar ap O (vy (rq _ b) q) f.sc id;have u:∀{g:X}(q:Nat),h g->h (g.drewN q):=λq f=>bc (vy (rq _ b) q) f;have d7:∀{g:X}{p:Nat}{c:Int}(av:Nat),blk s (s.size+1) p=blk s (s.size+1) av->p<=av->av<=s.size->Iw b mb B s I1 g p c p c->Iw b mb B s I1 (g.setCell ⟨b,3,Br⟩ (V Q (av:Int))) av c av c:=λav c8 df d1 f=>f.gr C ar ap O (pL _ b 3 _) (f.sc.setP _) (bs _ _ _ _ c8 df d1);have ce:∀{g:X}(v:B0),h g->h (g.setCell ⟨b,3,Br⟩ v):=λv f=>bc (pL _ b 3 v) f;go_loopw [] (λwr=>∃(p:Nat) (c:Int),Iw b mb B s I1 wr p c p c/\h wr) (λwr=>s.size-GC b wr)
 case atStart=>exact⟨bD,bA,bf,cv⟩
 case round=>
  obtain⟨p,c,a7,b5⟩:=hrel;have cb:=yA.pos a7.sc;obtain⟨dg,ef,ca⟩:=cz _ _ _ a7.ii;have⟨K,L,ad,af,ag,al,am,an⟩:=yA.cells a7.sc;by_cases ba:p<s.size
  .have eh:(p:Int)<(s.size:Int):=O;have d4:=λi=>dx ba i;have bo:=aj cb;go_wp2_with fail;go_quiet (fail)
   go_wp2_with fail;have bg:=aL nq a7;have br:=u nq b5;generalize wr.drewN nq=cm at bg br⊢;have⟨K,L,ad,af,ag,al,am,an⟩:=yA.cells bg.sc;have bb:∀i,Calls A0 74 #[V .u8 (ae s p)] i λe cf=>e= .returned (B1 (ic (ae s p)))/\cf=i:=λi=>(Kz _ i).mono λe cf f=>⟨f.1,f.2.symm⟩;cases hbl:ic (ae s p) with
   |true=>
    have a8:=qj s p ba hbl;rw[hbl]at bb;generalize ae s p=cq at d4 bb;go_quiet ((go_at_call 74;exact A2 (bb _)))
    have z:=d7 (p+1) a8 O O (aL nq bg);have a0:=ce (V Q ((p+1:Nat):Int)) (u nq br);rw[(O:((p+1:Nat):Int)=(p:Int)+1)]at z a0;go_wp2;exact⟨⟨p+1,c,z,a0⟩,by rw[yA.pos z.sc,bo.out];omega⟩
   |false=>
    rw[hbl]at bb;go_quiet ((go_at_call 74;exact A2 (bb _)))
    go_wp2_with fail;have z:=aL nq bg;have a0:=u nq br;generalize cm.drewN nq=b2 at z a0⊢;have⟨K,L,ad,af,ag,al,am,an⟩:=yA.cells z.sc;have bk:=λi=>ait s p i;by_cases a3:ae s p=45/\ae s (p+1)=45
    .rw[dB a3]at bk;have a8:=Ep s p a3.1 a3.2;have eg:=pK s p a3.1;go_quiet ((go_at_call 75;exact A2 (bk _)))
     go_wp2_with fail;have m:=aL nq z;have a6:=u nq a0;generalize b2.drewN nq=cn at m a6⊢;go_loopw [] (λwq=>∃(k w:Nat),p<=k/\k<=s.size/\s.size<k+w/\anK Ct s w k (vh s p)/\Iw b mb B s I1 wq k c p c/\h wq) (λwq=>s.size-GC b wq)
     case atStart=>exact⟨p,s.size+1,cJ,ca,O,⟨rfl⟩,m,a6⟩
     case round=>
      obtain⟨k,w,dn,dd,ed,cc,A,b4⟩:=hrel;obtain⟨w,rfl⟩:∃q,w=q+1:=⟨w-1,O⟩;have⟨K,L,ad,af,ag,al,am,an⟩:=yA.cells A.sc;have E:=cc.out;rw[gB]at E;have ds:=yA.pos A.sc;have cg:=aj ds;have bp:∀{g:X}{q:Nat}(bj:Nat),Iw b mb B s I1 g q c p c->Iw b mb B s I1 (g.drewN bj) q c p c:=λbj f=>f.gr C ar ap O (vy (rq _ b) bj) f.sc id;have dp:∀{g:X}{q:Nat}(bE:Nat),Iw b mb B s I1 g q c p c->Iw b mb B s I1 (g.setCell ⟨b,3,Br⟩ (V Q (bE:Int))) bE c p c:=λbE f=>f.gr C ar ap O (pL _ b 3 _) (f.sc.setP _) id;by_cases b9:k<s.size
      .have ee:(k:Int)<(s.size:Int):=O;have cd:=λi=>dx b9 i;go_wp2_with fail;go_quiet (fail)
       go_wp2_with fail;have a2:=bp nq A;have a1:=u nq b4;generalize wr.drewN nq=cp at a2 a1⊢;obtain⟨K,L,ad,af,ag,al,am,an⟩:=yA.cells a2.sc;by_cases a5:ae s k=10
       .rw[aa (by rw[a5];decide)]at E;rw[a5]at cd;have bd:=aj E;clear E cc a5;go_quiet (fail)
        go_wp2_with fail;have o:=bp nq a2;have y:=u nq a1;rw[<-bd.out]at a8;have bh:Iw b mb B s I1 (cp.drewN nq) k c k c:=⟨o.sc,o.mp,o.ly,bs _ _ _ _ a8 dn dd o.ii,o.sz⟩;exact⟨⟨k,c,bh,y⟩,by rw[yA.pos o.sc,bo.out];have:=bd.out;omega⟩
       .have dl:Ct (ae s k)=true:=by
         have:=gI b9;unfold Ct;rw[ga];exact⟨a5,O⟩
        rw[ab dl]at E;have ct:(ae s k==10)=false:=by rw[qK];exact a5
        generalize ae s k=cq at cd ct;have ck:anK Ct s w (k+1) (vh s p):=⟨E⟩;go_quiet (fail)
        have o:=dp (k+1) (bp nq a2);have y:=ce (V Q ((k+1:Nat):Int)) (u nq a1);rw[(O:((k+1:Nat):Int)=(k:Int)+1)]at o y;go_wp2;exact⟨⟨k+1,w,O,O,O,ck,o,y⟩,by rw[yA.pos o.sc,cg.out];omega⟩
      .obtain rfl:k=s.size:=O;rw[aa (by rw[di (Nat.lt_irrefl _)];decide)]at E;have bd:=aj E;have cy:Iw b mb B s I1 wr s.size c s.size c:=⟨A.sc,A.mp,A.ly,bs _ _ _ _ (by rw[a8,<-bd.out]) ca cJ A.ii,A.sz⟩;go_wp2_with fail;go_quiet (fail)
       go_wp2;rw[zt];refine aD (iI rfl _ _ _) rfl ?_;exact .inl ⟨⟨_,rfl⟩,.fin c (aL _ cy),u _ b4⟩
    .have c7:=a3;rw[aG a3]at bk;have c6:¬ic (ae s p)=true:=by rw[hbl];simp
     have b1:rE s p:=⟨ba,c6,c7⟩;have bw:=eD s p ba;have d5:=λ(i:X) (bf:Iw b mb B s I1 i p c p c) (cr:Int) (c9:ir b i s (.map (Y mb)) cr p c false)=>af8 s dk b mb i p c ba dg O ar ap c9 bf.mp bf.ly;have bt:=λW=>cI p c W b1;go_quiet ((go_at_call 75;exact A2 (bk _)))
     go_wp2_with fail;have m:=aL nq z;have a6:=u nq a0;have⟨cs,b8⟩:=m.sc;have bl:=d5 _ m cs b8;have bv:=λ(W:X) (l:Int) (cu:(rdI s p).ok=false)=>aed.bad (b:=b) (mb:=mb) (B:=B) (I1:=I1) (W:=W) p l b1 cu;generalize b2.drewN nq=cn at m a6 bl b8⊢;generalize rdI s p=cl at bl bw bt bv;obtain⟨d6,r,bn,F,G,H⟩:=cl;simp only at bl bw bt bv;refine bl.mono ?_;rintro e t ⟨rfl,a4,ao⟩;have a1:=bc a4 a6;have b7:=ah ao;cases d6 with
     |false=>
      have cB:=C _ _ _ _ m.ii m.sc.x a4;have a9:=World.grownBy_alloc t (A6 #[V Q F,V Q p,V Q (r:Int),V Q c,V Q G,A5 H] 48) (Y b);have cF:=C _ _ _ _ cB ⟨_,_,ao⟩ a9;have y:=bc a9 a1;have cA:ir b (t.alloc (A6 #[V Q F,V Q p,V Q (r:Int),V Q c,V Q G,A5 H] 48)) s (.map (Y mb)) (p:Int) (r:Int) (c+bn) true:=(dG t _ b b7).trans ao;have d2:Kv (t.alloc (A6 #[V Q F,V Q p,V Q (r:Int),V Q c,V Q G,A5 H] 48)):=m.ly.blocks (λk ec=>((dG t _ k (by have:=m.sz;have:=a4.size;omega)).trans (a4.block k (by have:=m.sz;omega) byT)));have d3:B<=(t.alloc (A6 #[V Q F,V Q p,V Q (r:Int),V Q c,V Q G,A5 H] 48)).heap.size:=by have:=m.sz;have:=a4.size;simp;omega
      have⟨K,L,ad,af,ag,al,am,an⟩:=gl ao;have b0:Hid (aed b mb B s I1 (t.alloc (A6 #[V Q F,V Q p,V Q (r:Int),V Q c,V Q G,A5 H] 48))/\h (t.alloc (A6 #[V Q F,V Q p,V Q (r:Int),V Q c,V Q G,A5 H] 48))):=⟨bv _ c rfl cA d2 d3 cF,y⟩;go_wp2;rw[zt];refine aD (iI rfl _ _ _) rfl ?_;exact .inl ⟨⟨_,rfl⟩,b0.1,b0.2⟩
     |true=>
      have cb:=bw rfl;have a9:=World.grownBy_alloc t (A6 #[V Q F,V Q p,V Q (r:Int),V Q c,V Q G,A5 H] 48) (Y b);have a2:Iw b mb B s I1 t r (c+bn) p c:=m.gr C ar ap O a4 ⟨_,ao⟩ id;have o:Iw b mb B s I1 (t.alloc (A6 #[V Q F,V Q p,V Q (r:Int),V Q c,V Q G,A5 H] 48)) r (c+bn) p c:=a2.gr C ar ap O a9 ⟨_,(dG t _ b b7).trans ao⟩ id;have y:=bc a9 a1;obtain⟨eb,tmps,d9,ea,bx,b6⟩:=bt _ rfl o y;unfold vTk at bx;simp only at bx;have⟨K,L,ad,af,ag,al,am,an⟩:=gl ao;go_upto_region 8 with fail
      refine(rm (n:=n)).1 ?_
      gi_wp2
      refine⟨λf=>by simp[Fence.wide]at f,b6.mono ?_⟩;rintro e d8 (⟨rfl,bh,cw⟩|⟨ak,rfl,d0⟩)
      .clear K L ad af ag al am an bx b6
       gi_wp2
       go_wp2;exact⟨⟨r,c+bn,bh,cw⟩,by rw[yA.pos bh.sc,bo.out];omega⟩
      .exact⟨rfl,.inr ⟨ak,rfl,d0⟩⟩
  .obtain rfl:p=s.size:=O;go_wp2_with fail;go_quiet (fail)
   go_wp2;try rw[Exit.noGoto_normal]
   go_end0
   exact .inl ⟨⟨_,rfl⟩,.fin c (aL _ a7),u _ b5⟩
