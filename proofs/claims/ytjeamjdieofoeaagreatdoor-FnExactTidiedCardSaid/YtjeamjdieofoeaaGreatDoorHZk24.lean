import Derived.Test.YtjeamjdieofoeaaGreatDoorHZk13
import Derived.Test.YtjeamjdieofoeaaGreatDoorHZk18
import Derived.Test.YtjeamjdieofoeaaGreatDoorHZk14
import Derived.Test.YtjeamjdieofoeaaGreatDoorHZk22
set_option linter.all false
set_option maxRecDepth 100000
set_option maxHeartbeats 6400000
open Go.Value renaming int->M,string->V,pointer->A2,iface->B4,slice->B6,agg->B7
open Go.IntKind renaming i64->O
open Go renaming World->U,wpAnyH_ready->B0,Calls->B1,Value->B3
open Option renaming some->X,none->A0
open List renaming set->Y
open Go.Proofs.Tryz renaming prog->Z
open Go.Calls renaming quiet_of_same->Ax
open Go.Ending renaming returned->A5
open Go.Obj renaming cells->A9
open Go.RowKit renaming Below->Br,intOf->Bs
namespace Go.Proofs.YtjeamjdieofoeaaGreatDoor
open Go.RowKit Go.Maps Go.WideMaps
def rcF(x:ByteArray)(a:List Int)(m:Nat):Nat:=a.foldl (fun m b=>max m (nu b x)) m
def wi:ByteArray:=⟨#[45,45]⟩
def xb(st:List Int)(x:ByteArray):Nat:=rcF x (me st 78) (ew x wi)
structure ajB (x:ByteArray) (L:List Int) (j m R:Nat):Prop where
 out:rcF x (L.drop j) m=R
theorem Do(a b:ByteArray):∀f n,n<=a.size->Kx a b f n<=a.size
 |0,n,h=>h
 |f+1,n,h=>by
  rw[Kx];split
  ·rename_i c;exact Do a b f (n+1) (by omega)
  ·exact h
theorem ag1(k:Int)(x:ByteArray):nu k x<=x.size:=by
 unfold nu;split
 ·omega
 split
 ·split<;>omega
 ·exact Do _ _ _ _ (aL _)
theorem aat(x:ByteArray):∀(a:List Int)(m:Nat),m<=x.size->rcF x a m<=x.size
 |[],m,h=>h
 |k::a,m,h=>by
  show rcF x a (max m (nu k x))<=x.size;exact aat x a _ (by have:=ag1 k x;omega)
theorem Bq(st:List Int)(x:ByteArray):xb st x<=x.size:=aat x _ _ (Do _ _ _ _ (aL _))
theorem Fb(w:U)(base u mb:Nat)(st:List Int)(x:ByteArray)(h:GQ w base u mb st)(L:qv w)(am:x.size<=1100000):
  B1 Z 80 #[A2 (X ⟨u,0,A0⟩),V x] w fun e w'=>e= A5 (M O (xb st x))/\Br w.heap.size w w':=by
 obtain⟨b,r⟩:=az (me st 78);obtain⟨j,v⟩:=az (xb st x);have al:=Js st 78;have ak:=Ct st 78;rw[r]at al ak;have o:ajB x b 0 (ew x wi) j:=⟨by rw[<-v,<-r];rfl⟩;rw[v];have C:=C6 w x wi am (by decide);have y:ew x wi<=x.size:=Do _ _ _ _ (aL _);have H:=gI h L;clear h v L;unfold wi at C;go_in;go_wp2_with fail;refine C.mono ?_;rintro e a6 ⟨rfl,p⟩;have E:=adk a6 base u mb st (H.1.below p);rw[r]at E
 change ajB x b 0 (ew x ⟨#[45,45]⟩) j at o
 change ew x ⟨#[45,45]⟩<=x.size at y
 generalize ew x ⟨#[45,45]⟩=a4 at o y⊢;clear C;go_wp2_with fail;refine E.mono ?_;rintro e m ⟨an,a9,rfl,f,J⟩;clear E;have I:Br w.heap.size w m:=p.trans (J.mono p.size);obtain⟨l,z⟩:=az b.length;rw[z]at f ak⊢;have d:=lD f z I;clear f z I J p r;go_wp2_with fail;go_loopw [5,13] (fun a5 F wr=>∃(a i:Nat),a<=l/\i<=x.size/\a5= M O (i:Int)/\F= M O (a:Int)/\ajB x b a i j/\Br m.heap.size m wr) (fun _ F _=>l-(Bs F).toNat)
 case atStart=>exact⟨0,a4,aL _,y,rfl,rfl,o,ah _ _⟩
 case round=>
  obtain⟨a,i,ba,bd,rfl,rfl,n,k⟩:=hrel;clear o;by_cases a2:a<l
  ·obtain⟨c,s⟩:∃c,b[a]?=X c:=⟨_,aJ (by rw[d.out.2.1];exact a2)⟩;have a3:=al c (cH s);have af:b.drop a=c::b.drop (a+1):=by
    obtain⟨ap,ar⟩:=List.getElem?_eq_some_iff.1 s;rw[jo ap,ar]
   have f:=cJ d.1 k;obtain⟨q,rfl⟩:∃q,an=X ⟨q,0,A0⟩:=by
    rcases bu f with⟨h,_⟩|⟨q,a8,h⟩
    ·omega
    ·cases h;exact⟨_,rfl⟩
   have ao:wr.cell? ⟨q,a,A0⟩=X (M O c):=by rw[f.cellAt a (by omega),ce,s];rfl
   have g:=n.out;rw[af]at g;have A:rcF x (b.drop (a+1)) (max i (nu c x))=j:=g;have ad:Br w.heap.size w wr:=d.2.2.trans (k.mono d.2.2.size);have B:=D4 wr c x (H.2.below ad (ag _)) am a3.1 (by omega);have a1:=ag1 c x;generalize nu c x=G at A B a1;have t:ajB x b (a+1) (max i G) j:=⟨A⟩;have bc:(a:Int)<(l:Int):=by omega
   have bb:(0:Int)<=(a:Int):=by omega
   clear g A af s n f ad;go_wp2_with fail;refine B.mono ?_;rintro e a7 ⟨rfl,K⟩;have a0:Br m.heap.size m a7:=k.trans (K.mono k.size);clear B K ao;go_wp2_with fail;exact⟨⟨a+1,max i G,by omega,by omega,by congr 1;omega,by push_cast;rfl,t,a0⟩,by simp[Bs];omega⟩
  ·obtain rfl:a=l:=by omega
   have g:=n.out;rw[jE (by rw[d.out.2.1];exact ag _)]at g;have t:=aq g;clear g n;go_wp2_with fail;go_ret;exact⟨by rw[<-t.out];rfl,d.2.2.trans (k.mono d.2.2.size)⟩
attribute [local go_sem] lE
theorem oB(w:U)(b i:Nat)(v:B3):w.grownBy (w.setCell ⟨b,i,A0⟩ v) (X b):=
 ⟨rfl,rfl,rfl,by simp[World.setCell],fun d c a=>aB _ _ _ _ (by simpa using a)⟩
theorem ag2(s:ByteArray)(p:Nat)(w:U):B1 Z 130 #[V (s.extract p s.size),V ⟨#[45,45]⟩] w fun e w'=>e= A5 (.bool (decide (ax s p=45/\ax s (p+1)=45)))/\w'=w:=by
 have a:=Tryz.strings_HasPrefix (s.extract p s.size) ⟨#[45,45]⟩ w;rw[show(⟨#[45,45]⟩:ByteArray).data.toList=[45,45] from rfl,F7]at a;exact a
structure akq (q:Int->Bool) (s:ByteArray) (f p e:Nat):Prop where
 out:gF q s f p=e
attribute [local go_sem] lE
def ScX(b:Nat)(W:U):Prop:=∃a c,W.heap[b]?=X (A9 a 117 c)
theorem wF.x{b:Nat}{W:U}{s:ByteArray}{m:B3}{p l:Int}{k:Bool}(h:wF b W s m p l k):ScX b W:=by obtain⟨a,h⟩:=h;exact⟨_,_,h⟩
structure Iw (b mb B:Nat) (s:ByteArray) (I:Nat->Int->U->Prop) (W:U) (q:Nat) (l2:Int) (p:Nat) (l:Int):Prop where
 sc:wF b W s (.map (X mb)) q l2 false
 mp:W.ownsMap Z 9 (plainElem (H:=Unit) Z 3) mb 22 (xF 22)
 ly:Cw W
 ii:I p l W
 sz:B<=W.heap.size
theorem Iw.gr{b mb B:Nat}{s:ByteArray}{I:Nat->Int->U->Prop}{W a:U}{p q f g:Nat}{l n d e:Int}(h:Iw b mb B s I W q n p l)(i:∀p l W a,I p l W->ScX b W->W.grownBy a (X b)->I p l a)(k:mb≠b)(r:12<=b)(o:12<=B)(c:W.grownBy a (X b))(hS:wF b a s (.map (X mb)) g e false)(j:I p l a->I f d a):Iw b mb B s I a g e f d:=
 ⟨hS,h.mp.kept c (by simp[k]),h.ly.blocks (fun m t=>c.block m (by have:=h.sz;omega) (by simp;omega)),j (i _ _ _ _ h.ii h.sc.x c),bL h.sz c.size⟩
structure qo (s:ByteArray) (p:Nat):Prop where
 lt:p<s.size
 nb:¬lJ (ax s p)=true
 nd:¬(ax s p=45/\ax s (p+1)=45)
inductive aci (b mb B:Nat) (s:ByteArray) (I:Nat->Int->World->Prop) (W:World):Prop
 |fin (l:Int) (h:Iw b mb B s I W s.size l s.size l)
 |bad (p:Nat) (l:Int) (hp:qo s p) (hr:(rdI s p).ok=false) (hS:gc b W s (.map (some mb)) (p:Int) ((rdI s p).a:Int) (l+(rdI s p).d) true) (hy:Cw W) (hz:B<=W.heap.size) (hi:I p l W)
theorem adL(n l b mb B:Nat)(s:ByteArray)(ei:s.size<=70000)(d9:b<B)(a0:mb≠b)(ar:12<=b)
  (I:Nat->Int->U->Prop) (ak:∀p l W j,I p l W->ScX b W->W.grownBy j (X b)->I p l j) (b2:∀p q l W,blk s (s.size+1) p=blk s (s.size+1) q->p<=q->q<=s.size->I p l W->I q l W) (d8:∀p l W,I p l W->0<=l/\l<=(p:Int)+1/\p<=s.size)
  (h:U->Prop) (d6:∀W j,KeepsFrom B W j->h W->h j) (Pn:List PanicEntry->U->Prop)
  (cq:∀p c W,qo s p->(rdI s p).ok=true->Iw b mb B s I W (rdI s p).a (c+(rdI s p).d) p c->h W->YieldAt Fence.wide (n-1) Z l #[vTk ⟨(rdI s p).k,(p:Int),((rdI s p).a:Int),c,(rdI s p).n,(rdI s p).x⟩] W fun e j=>(e= A5 (.bool true)/\Iw b mb B s I j (rdI s p).a (c+(rdI s p).d) (rdI s p).a (c+(rdI s p).d)/\h j)\/(∃ao,e= .panicked ao/\Pn ao j))
  (W:U) (b9:Nat) (b8:Int) (bs:Iw b mb B s I W b9 b8 b9 b8) (d4:h W):
  CallsIn Fence.wide n Z 78 #[A2 (X ⟨b,0,A0⟩),.func (.yield l) #[] #[]] W fun e j=>((∃v,e= A5 v)/\aci b mb B s I j/\h j)\/(∃ao,e= .panicked ao/\Pn ao j):=by
 have bl:∀{g cg:U},g.grownBy cg (X b)->h g->h cg:=fun ec f=>d6 _ _ (KeepsFrom.of_grownBy ec (fun bx e=>by cases e;exact d9)) f;refine callsIn_wide.2 ?_;go_in;go_wp2;go_step3
 go_wp2;go_step3
 go_wp2;have a2:∀{g:U}{p:Nat}{c:Int}(q:Nat),Iw b mb B s I g p c p c->Iw b mb B s I (g.drewN q) p c p c:=fun q f=>f.gr ak a0 ar (by omega) (Bw (FL _ b) q) f.sc id;have J:∀{g:U}(q:Nat),h g->h (g.drewN q):=fun q f=>bl (Bw (FL _ b) q) f;have es:∀{g:U}{p:Nat}{c:Int}(a1:Nat),blk s (s.size+1) p=blk s (s.size+1) a1->p<=a1->a1<=s.size->Iw b mb B s I g p c p c->Iw b mb B s I (g.setCell ⟨b,3,A0⟩ (M O (a1:Int))) a1 c a1 c:=fun a1 ea eg em f=>f.gr ak a0 ar (by omega) (oB _ b 3 _) (f.sc.setP _) (b2 _ _ _ _ ea eg em);have c6:∀{g:U}(v:B3),h g->h (g.setCell ⟨b,3,A0⟩ v):=fun v f=>bl (oB _ b 3 v) f;go_loopw [] (fun wr=>∃(p:Nat) (c:Int),Iw b mb B s I wr p c p c/\h wr) (fun wr=>s.size-Ei b wr)
 case atStart=>exact⟨b9,b8,bs,d4⟩
 case round=>
  obtain⟨p,c,a6,b1⟩:=hrel;have b4:=wF.pos a6.sc;obtain⟨eh,e4,cz⟩:=d8 _ _ _ a6.ii;obtain⟨o,r,t,u,w,y,z,A⟩:=wF.cells a6.sc;by_cases bk:p<s.size
  ·have e6:(p:Int)<(s.size:Int):=by omega
   have b7:=fun i=>cL bk i;have bE:=aq b4;clear b4;go_wp2_with fail;go_quiet (fail)
   go_wp2_with fail;have bb:=a2 nq a6;have br:=J nq b1;generalize wr.drewN nq=dk at bb br⊢;clear o r t u w y z A a6 b1;obtain⟨o,r,t,u,w,y,z,A⟩:=wF.cells bb.sc;have a8:∀i,B1 Z 129 #[M .u8 (ax s p)] i fun e c7=>e= A5 (.bool (lJ (ax s p)))/\c7=i:=fun i=>(Ii _ i).mono fun e c7 f=>⟨f.1,f.2.symm⟩;cases hbl:lJ (ax s p) with
   |true=>
    have bf:=adv s p bk hbl;rw[hbl]at a8;generalize ax s p=dz at b7 a8;clear hbl;go_quiet ((go_at_call 129;exact Ax (a8 _)))
    have G:=es (p+1) bf (by omega) (by omega) (a2 nq bb);have af:=c6 (M O ((p+1:Nat):Int)) (J nq br);rw[show((p+1:Nat):Int)=(p:Int)+1 by omega]at G af;go_wp2_with fail;exact⟨⟨p+1,c,G,af⟩,by rw[wF.pos G.sc,bE.out];omega⟩
   |false=>
    rw[hbl]at a8;go_quiet ((go_at_call 129;exact Ax (a8 _)))
    go_wp2_with fail;have G:=a2 nq bb;have af:=J nq br;generalize dk.drewN nq=cf at G af⊢;clear o r t u w y z A bb br a8;obtain⟨o,r,t,u,w,y,z,A⟩:=wF.cells G.sc;have a9:=fun i=>ag2 s p i;by_cases av:ax s p=45/\ax s (p+1)=45
    ·rw[bH av]at a9;have bf:=afH s p av.1 av.2;have e5:=Bn s p av.1;go_quiet ((go_at_call 130;exact Ax (a9 _)))
     go_wp2_with fail;have m:=a2 nq G;have ba:=J nq af;generalize cf.drewN nq=dn at m ba⊢;clear o r t u w y z A G af a9 b7;go_loopw [] (fun bD=>∃(k ad:Nat),p<=k/\k<=s.size/\s.size<k+ad/\akq nnB s ad k (nlE s p)/\Iw b mb B s I bD k c p c/\h bD) (fun bD=>s.size-Ei b bD)
     case atStart=>exact⟨p,s.size+1,ag _,cz,by omega,⟨rfl⟩,m,ba⟩
     case round=>
      obtain⟨k,ad,ek,ef,e2,bw,L,b0⟩:=hrel;obtain⟨ad,rfl⟩:∃q,ad=q+1:=⟨ad-1,by omega⟩;obtain⟨o,r,t,u,w,y,z,A⟩:=wF.cells L.sc;have H:=bw.out;rw[gF]at H;have cx:=wF.pos L.sc;have c8:=aq cx;clear cx;have bF:∀{g:U}{q:Nat}(bx:Nat),Iw b mb B s I g q c p c->Iw b mb B s I (g.drewN bx) q c p c:=fun bx f=>f.gr ak a0 ar (by omega) (Bw (FL _ b) bx) f.sc id;have dp:∀{g:U}{q:Nat}(ca:Nat),Iw b mb B s I g q c p c->Iw b mb B s I (g.setCell ⟨b,3,A0⟩ (M O (ca:Int))) ca c p c:=fun ca f=>f.gr ak a0 ar (by omega) (oB _ b 3 _) (f.sc.setP _) id;by_cases cv:k<s.size
      ·have e3:(k:Int)<(s.size:Int):=by omega
       have cI:=fun i=>cL cv i;go_wp2_with fail;go_quiet (fail)
       go_wp2_with fail;have a5:=bF nq L;have a4:=J nq b0;generalize wr.drewN nq=ds at a5 a4⊢;clear o r t u w y z A L b0;obtain⟨o,r,t,u,w,y,z,A⟩:=wF.cells a5.sc;by_cases a3:ax s k=10
       ·rw[aa (by rw[a3];decide)]at H;rw[a3]at cI;have bo:=aq H;clear H bw a3;go_quiet (fail)
        go_wp2_with fail;have C:=bF nq a5;have K:=J nq a4;rw[<-bo.out]at bf;have bt:Iw b mb B s I (ds.drewN nq) k c k c:=⟨C.sc,C.mp,C.ly,b2 _ _ _ _ bf ek ef C.ii,C.sz⟩;exact⟨⟨k,c,bt,K⟩,by rw[wF.pos C.sc,bE.out];have:=bo.out;omega⟩
       ·have cw:nnB (ax s k)=true:=by
         have:=jt cv;unfold nnB;rw[jF];exact⟨a3,by omega⟩
        rw[ab cw]at H;have d2:(ax s k==10)=false:=by rw[cG];exact a3
        generalize ax s k=dz at cI d2;clear cw a3 bw;have c9:akq nnB s ad (k+1) (nlE s p):=⟨H⟩;clear H;go_quiet (fail)
        have C:=dp (k+1) (bF nq a5);have K:=c6 (M O ((k+1:Nat):Int)) (J nq a4);rw[show((k+1:Nat):Int)=(k:Int)+1 by omega]at C K;go_wp2_with fail;exact⟨⟨k+1,ad,by omega,by omega,by omega,c9,C,K⟩,by rw[wF.pos C.sc,c8.out];omega⟩
      ·obtain rfl:k=s.size:=by omega
       rw[aa (by rw[dj (Fz _)];decide)]at H;have bo:=aq H;clear H bw;have d7:Iw b mb B s I wr s.size c s.size c:=⟨L.sc,L.mp,L.ly,b2 _ _ _ _ (by rw[bf,<-bo.out]) cz (ag _) L.ii,L.sz⟩;go_wp2_with fail;go_quiet (fail)
       go_wp2;rw[xr];refine aI (dJ rfl _ _ _) rfl ?_;exact .inl ⟨⟨_,rfl⟩,.fin c (a2 _ d7),J _ b0⟩
    ·have ct:=av;rw[aC av]at a9;have cs:¬lJ (ax s p)=true:=by rw[hbl];simp
     have cc:qo s p:=⟨bk,cs,ct⟩;have b5:=mL s p bk;have c5:=fun (i:U) (bs:Iw b mb B s I i p c p c) (d0:Int) (eb:gc b i s (.map (X mb)) d0 p c false)=>adu s ei b mb i p c bk eh (by omega) a0 ar eb bs.mp bs.ly;have bc:=fun W=>cq p c W cc;go_quiet ((go_at_call 130;exact Ax (a9 _)))
     go_wp2_with fail;have m:=a2 nq G;have ba:=J nq af;obtain⟨d1,b3⟩:=m.sc;have bn:=c5 _ m d1 b3;have bd:=fun (W:U) (l:Int) (d3:(rdI s p).ok=false)=>aci.bad (b:=b) (mb:=mb) (B:=B) (I:=I) (W:=W) p l cc d3;generalize cf.drewN nq=dn at m ba bn b3⊢;clear o r t u w y z A G af a9 b7 c5 hbl cs av ct cq b3;generalize rdI s p=df at bn b5 bc bd;obtain⟨eq,E,bA,al,am,an⟩:=df;simp only at bn b5 bc bd;refine bn.mono ?_;rintro e F ⟨rfl,a7,ap⟩;have a4:=bl a7 ba;have cr:=ai ap;clear bn;cases eq with
     |false=>
      have cm:=ak _ _ _ _ m.ii m.sc.x a7;have bh:=World.grownBy_alloc F (A9 #[M O al,M O p,M O (E:Int),M O c,M O am,V an] 67) (X b);have cn:=ak _ _ _ _ cm ⟨_,_,ap⟩ bh;have K:=bl bh a4;have cl:gc b (F.alloc (A9 #[M O al,M O p,M O (E:Int),M O c,M O am,V an] 67)) s (.map (X mb)) (p:Int) (E:Int) (c+bA) true:=(dg F _ b cr).trans ap;have cB:Cw (F.alloc (A9 #[M O al,M O p,M O (E:Int),M O c,M O am,V an] 67)):=m.ly.blocks (fun k e1=>((dg F _ k (by have:=m.sz;have:=a7.size;omega)).trans (a7.block k (by have:=m.sz;omega) (by simp;omega))));have cF:B<=(F.alloc (A9 #[M O al,M O p,M O (E:Int),M O c,M O am,V an] 67)).heap.size:=by have:=m.sz;have:=a7.size;simp;omega
      obtain⟨o,r,t,u,w,y,z,A⟩:=eK ap;have cb:Hid (aci b mb B s I (F.alloc (A9 #[M O al,M O p,M O (E:Int),M O c,M O am,V an] 67))/\h (F.alloc (A9 #[M O al,M O p,M O (E:Int),M O c,M O am,V an] 67))):=⟨bd _ c rfl cl cB cF cn,K⟩;clear cm cn cl cB cF K bd bc;go_wp2;rw[xr];refine aI (dJ rfl _ _ _) rfl ?_;exact .inl ⟨⟨_,rfl⟩,cb.1,cb.2⟩
     |true=>
      have b4:=b5 rfl;have bh:=World.grownBy_alloc F (A9 #[M O al,M O p,M O (E:Int),M O c,M O am,V an] 67) (X b);have a5:Iw b mb B s I F E (c+bA) p c:=m.gr ak a0 ar (by omega) a7 ⟨_,ap⟩ id;have C:Iw b mb B s I (F.alloc (A9 #[M O al,M O p,M O (E:Int),M O c,M O am,V an] 67)) E (c+bA) p c:=a5.gr ak a0 ar (by omega) bh ⟨_,(dg F _ b cr).trans ap⟩ id;have K:=bl bh a4;obtain⟨e0,tmps,ev,ex,b6,ck⟩:=bc _ rfl C K;unfold vTk at b6;simp only at b6;obtain⟨o,r,t,u,w,y,z,A⟩:=eK ap;clear bd bc;go_upto_region 8 with fail
      refine(qc (n:=n)).1 ?_
      gi_wp2
      refine⟨fun f=>by simp[Fence.wide]at f,ck.mono ?_⟩;rintro e et (⟨rfl,bt,d5⟩|⟨ao,rfl,el⟩)
      ·clear o r t u w y z A b6 ck
       gi_wp2
       go_wp2_with fail;exact⟨⟨E,c+bA,bt,d5⟩,by rw[wF.pos bt.sc,bE.out];omega⟩
      ·exact⟨rfl,.inr ⟨ao,rfl,el⟩⟩
  ·obtain rfl:p=s.size:=by omega
   go_wp2_with fail;go_quiet (fail)
   go_wp2;try rw[Exit.noGoto_normal]
   go_end0
   exact .inl ⟨⟨_,rfl⟩,.fin c (a2 _ a6),J _ b1⟩
attribute [local go_sem] lE
theorem sI{P:Program}{b:Array Oper}{Q:Exit->Act->U->Prop}{id:Nat}{S:U->Prop}{a:Act}{w:U}(c:P.follows .mixedOrders=true)(hS:S w.drew)
  (h:S w.drew->wpAnyH P .any b Q S b.size (Array.replicate b.size false) a w.drew):(Go.Code.region id b true).wp P Q a w:=
 wp_region_any c (wpAny_of_held _ _ _ _ (h hS))
def aau(z:Int):List PanicEntry:=[{v:= B4 61 (B7 #[M O z]),recovered:=false}]
structure amc (w:U) (base gb mb:Nat) (st stF:List Int) (k z:Int) (e:Ending) (w':U):Prop where
 out:(ij st k=true/\e= .returned (.tuple #[])/\GQ w' base gb mb stF/\Gp gb w w'/\Br base w w')\/(ij st k=false/\e= .panicked (aau z)/\Br w.heap.size w w')
theorem Fc(w:U)(base m mb:Nat)(st stF:List Int)(T:Tk)(s:ByteArray)(f:Nat)(h:GQ w base m mb st)(ak:qv w)(bo:s.size<=1100000)(G:1<=T.k)(H:T.k<=78)(y:0<=T.f)(L:T.f<=T.t)(ad:T.t<=(s.size:Int))
  (u:ij st T.k=true->passOk (st.length+45) f st T.k stF/\stF.length<=99999000/\∀a∈stF,0<=a/\a<=133):
  B1 Z 21 #[A2 (X ⟨m,0,A0⟩),vTk T,V s] w fun e w'=>amc w base m mb st stF T.k (T.f+(xb st (s.extract T.f.toNat T.t.toNat):Nat)) e w':=by
 obtain⟨k,bs,bb,ap,ar,av⟩:=T;unfold vTk;simp only at G H y L ad u⊢;obtain⟨c,rfl⟩:=uy y;obtain⟨d,rfl⟩:=uy (show 0<=bb by omega);simp only[lG];obtain⟨o,F⟩:∃o:Nat,xb st (s.extract c d)=o:=⟨_,rfl⟩;rw[F];have a0:=aq F;clear F;have af:=(ah w.heap.size w).alloc (ag _) (A9 #[M O k,M O (c:Int),M O (d:Int),M O ap,M O ar,V av] 67 (0,0));have al:(w.alloc (A9 #[M O k,M O (c:Int),M O (d:Int),M O ap,M O ar,V av] 67 (0,0))).heap[w.heap.size]?=_:=aA w _;have A:=h.below af;have bl:m<w.heap.size:=by obtain⟨bt,a4,_⟩:=h.g.ex;exact aG a4
 obtain⟨a1,B⟩:=az (ij st k);have an:=A.may G H B;have l:=Ig h ak al B A;clear h ak al B A;go_in;go_wp2_with fail;refine an.mono ?_;rintro e n ⟨rfl,p⟩;have E:Br w.heap.size w n:=af.trans (p.mono (by simp));have v:=(p.block _ (aG l.2.2.1)).trans l.2.2.1;have bc:n.cell? ⟨w.heap.size,0,A0⟩=X (M O k):=by rw[au _ _ _ _ _ _ v];rfl
 have J:n.cell? ⟨w.heap.size,1,A0⟩=X (M O (c:Int)):=by rw[au _ _ _ _ _ _ v];rfl
 have K:n.cell? ⟨w.heap.size,2,A0⟩=X (M O (d:Int)):=by rw[au _ _ _ _ _ _ v];rfl
 clear an v;cases a1 with
 |true=>
  obtain⟨am,a6,a7⟩:=u l.2.2.2.1;have q:=l.2.2.2.2.below p;have a8:=afo n base m mb st k (st.length+45) f stF q.g q.r q.ok (by omega) (by have:=q.len;omega) G H am;have bd:IntKind.u8.wrap k=k:=by rw[aa3];omega
  have bn:=l.1.g.lo;clear u q am p;go_wp2_with (go_at_call 81;refine a8.mono ?_;rintro e bw ⟨rfl,a3,ba,a9,a2⟩);go_end0
  exact⟨.inl ⟨l.2.2.2.1,rfl,⟨a3,ba,a7,a6⟩,(Gp.of_below E).trans a9,(E.mono (by omega)).trans a2⟩⟩
 |false=>
  have x:Br w.heap.size w n.drew:=E.drew;have ao:=Fb n.drew base m mb st (s.extract c d) (l.1.below x) (l.2.1.below x (ag _)) (by have:=iJ (a:=s) (b:=c) (e:=d);omega);have a5:(xb st (s.extract c d):Nat)<=s.size:=by
   have:=Bq st (s.extract c d);have:=iJ (a:=s) (b:=c) (e:=d);omega
  rw[a0.out]at ao a5;have hF:(c:Int)<=(d:Int):=L;have bf:(d:Int)<=(s.size:Int):=ad;have bk:(0:Int)<=(c:Int):=by omega
  have bh:(0:Int)<=(d:Int):=by omega
  have br:IntKind.i64.wrap ((c:Int)+(o:Int))=(c:Int)+(o:Int):=by rw[ed];omega
  clear u p y;go_wp2_with fail;refine sI (S:=fun w'=>w'.cell? ⟨w.heap.size,1,A0⟩=X (M O (c:Int))/\w'.cell? ⟨w.heap.size,2,A0⟩=X (M O (d:Int))) (by kernel_rfl) ⟨J,K⟩ (fun hS=>?_);refine bG 0 (A2 (X ⟨w.heap.size,1,A0⟩)) rfl rfl (by kernel_rfl) (fun _ _ _=>id) hS (fun w' ⟨i,j⟩=>by go_simp) ?_;simp only[Y];refine bG 1 (M O (c:Int)) rfl rfl (by kernel_rfl) (fun _ _ _=>id) hS (fun w' ⟨i,j⟩=>by go_simp) ?_;simp only[Y];refine bG 2 (A2 (X ⟨m,0,A0⟩)) rfl rfl (by kernel_rfl) (fun _ _ _=>id) hS (fun w' ⟨i,j⟩=>by go_simp) ?_;simp only[Y];refine bG 3 (V s) rfl rfl (by kernel_rfl) (fun _ _ _=>id) hS (fun w' ⟨i,j⟩=>by go_simp) ?_;simp only[Y];refine bG 4 (A2 (X ⟨w.heap.size,1,A0⟩)) rfl rfl (by kernel_rfl) (fun _ _ _=>id) hS (fun w' ⟨i,j⟩=>by go_simp) ?_;simp only[Y];refine bG 5 (M O (c:Int)) rfl rfl (by kernel_rfl) (fun _ _ _=>id) hS (fun w' ⟨i,j⟩=>by go_simp) ?_;simp only[Y];refine bG 6 (A2 (X ⟨w.heap.size,2,A0⟩)) rfl rfl (by kernel_rfl) (fun _ _ _=>id) hS (fun w' ⟨i,j⟩=>by go_simp) ?_;simp only[Y];refine bG 7 (M O (d:Int)) rfl rfl (by kernel_rfl) (fun _ _ _=>id) hS (fun w' ⟨i,j⟩=>by go_simp) ?_;simp only[Y];refine bG 8 (V (s.extract c d)) rfl rfl (by kernel_rfl) (fun _ _ _=>id) hS (fun w' ⟨i,j⟩=>by go_simp) ?_;simp only[Y];refine B0 (rs:=[9]) (by kernel_rfl) (by simp) (AllReadyH.cons rfl (fun I z=>?_) AllReadyH.nil);go_simp;refine ao.mono ?_;rintro e bx ⟨rfl,C⟩;refine z _ _ ⟨aj C J,aj C K⟩ (fun hS=>?_);clear z I;try simp only[Act.put,aD,aE,aF]
  refine bG 10 (M O ((c:Int)+(o:Int))) rfl rfl (by kernel_rfl) (fun _ _ _=>id) hS (fun w' ⟨i,j⟩=>by go_simp) ?_;simp only[Y];refine bG 11 (B7 #[M O ((c:Int)+(o:Int))]) rfl rfl (by kernel_rfl) (fun _ _ _=>id) hS (fun w' ⟨i,j⟩=>by go_simp) ?_;simp only[Y];refine bG 12 (B4 61 (B7 #[M O ((c:Int)+(o:Int))])) rfl rfl (by kernel_rfl) (fun _ _ _=>id) hS (fun w' ⟨i,j⟩=>by go_simp) ?_;simp only[Y];refine B0 (rs:=[13]) (by kernel_rfl) (by simp) (AllReadyH.cons rfl (fun I z=>?_) AllReadyH.nil);go_simp;exact⟨rfl,⟨.inr ⟨l.2.2.2.1,rfl,x.trans (C.mono x.size)⟩⟩⟩
theorem ajC(a:U)(c:Nat)(an:List Nd)(o:List Im)(base:Nat)(bF:B3)(br:Tp a an o base bF)(t:Nat)(cf:t<=100000)(i:Nat)(bx:i<an.length)(N:Nd)(bt:ae an i=N)(b6:N.ks.length<=1048576)(S:Int->Nat->ByteArray)(hS:∀z∈N.ks,DF a c o (t+1) z (S z (t+1))):
  Pw a c 40 #[vP c,gG a t,nV (lj o i)] (Az S N.ks t):=by
 intro h b s;obtain⟨K,ck,a4,j,a5,ak,r⟩:=vF br bx;rw[bt]at ak r;have F:=fun b=>da K b;have ca:=fun b=>pq a.heap.size (eB t) b;have b8:=fun b=>Ha a.heap.size (eB t) b;have b7:=fun b=>abL a.heap.size (eB t) b;have b9:=fun b=>Ha a.heap.size (eB (t+1)) b;have C:=r.hn;have bD:=fun b=>py (de N.k) K b;have a2:Hid (Pw a c 335 #[na a t,V ⟨#[123]⟩] ⟨#[123]⟩):=jB a c t _ (by decide);have bk:Hid (Pw a c 334 #[na a (t+1)] (gH (t+1))):=He a c (t+1) (by omega);have bl:Hid (Pw a c 334 #[na a t] (gH t)):=He a c t (by omega);have bn:Hid (∀l:U,B1 Z 333 #[na a t] l fun g k=>g= A5 (gG a (t+1))/\Br l.heap.size l k):=fun l=>ady a t (by omega) l;have bh:Hid (∀z∈N.ks,Pw a c 75 #[vP c,gG a (t+1),nV (lj o z)] (S z (t+1))):=hS;have a3:Hid (∀h b,Ps a c h b->∀H,CallsD Z 335 #[na a t,V ⟨#[125]⟩] H b fun g ao k=>ao=H/\(g= A5 (.tuple #[])/\Ps a c (h++⟨#[125]⟩) k/\Kq a.heap.size b k)):=fun h b s H=>mh a c t _ h (by decide) H b s;have L:Hid (∀l,Br a.heap.size a l->l.cell? ⟨K,5,A0⟩=X (B6 a4 j a5)):=fun l bw=>(r.cells bw).2.1;have a0:Hid (Ps a c h b):=s;have ar:=L.out _ s.pg.bel;rw[ak];obtain⟨e,B⟩:∃e,(N.ks.map fun d=>gH (t+1)++S d (t+1))=e:=⟨_,rfl⟩;have a7:e.length=j:=by rw[<-B,cj];exact C
 have I:Hid (Az S N.ks t=if N.ks=[] then⟨#[123,125]⟩ else⟨#[123]⟩++gw e++gH t++⟨#[125]⟩):=by show _=_;unfold Az;rw[B]
 have A:Hid (qF a o (B6 a4 j a5) N.ks/\N.ks.length=j/\e.length=j/\(N.ks.map fun d=>gH (t+1)++S d (t+1))=e):=⟨r.ks,C,a7,B⟩;generalize jy (de N.k)=ch at bD⊢;unfold gG na at *;generalize eB t=cg at *;generalize eB (t+1)=bE at *;clear s r ak B a7 hS;by_cases ad:j=0
 ·have u:N.ks=[]:=ia (by omega);rw[I.out,ab u];subst ad;clear u;go_enter_defers Tryz.func40,Tryz.ntmps40
  go_wp2_with (first|(go_at_call 336;refine(F _).mono ?_;rintro g k ⟨rfl,al⟩;subst k)|(go_at_call 335;fail));refine(a2.out _ _ a0.out).mono ?_;rintro g x ⟨rfl,m,w⟩;have q:Hid (Ps a c (h++⟨#[123]⟩) x/\Kq a.heap.size b x):=⟨m,w⟩;have ar:=L.out _ m.pg.bel;clear m w;go_wp2_with (first|(go_at_call 336;refine(F _).mono ?_;rintro g k ⟨rfl,al⟩;subst k));refine lI (f:=335) (by simp) (sG _ _ _ _) ?_;refine(a3.out _ _ q.out.1 .returning).mono ?_;rintro g ao b1 ⟨rfl,rfl,G,am⟩;refine⟨_,dJ rfl _ _ _,rfl,?_,q.out.2.trans am⟩;rw[bq]at G;exact G
 ·have u:N.ks≠[]:=fun g=>ad (by rw[g]at C;simpa using C.symm);have bf:Hid (Az S N.ks t=⟨#[123]⟩++gw e++gH t++⟨#[125]⟩):=by show _=_;rw[I.out,aa u]
  have cb:¬(j:Int)=0:=by omega
  have cc:((j:Int)==0)=false:=by simpa using ad
  clear u I;go_enter_defers Tryz.func40,Tryz.ntmps40
  go_wp2_with (first|(go_at_call 336;refine(F _).mono ?_;rintro g k ⟨rfl,al⟩;subst k)|(go_at_call 335;fail));refine(a2.out _ _ a0.out).mono ?_;rintro g x ⟨rfl,m,w⟩;have q:Hid (Ps a c (h++⟨#[123]⟩) x/\Kq a.heap.size b x):=⟨m,w⟩;have ar:=L.out _ m.pg.bel;clear m w;go_wp2_with (first|(go_at_call 336;refine(F _).mono ?_;rintro g k ⟨rfl,al⟩;subst k)|(go_at_call 333;fail));refine(bn.out _).mono ?_;rintro g bb ⟨rfl,af⟩;have a1:Hid (Ps a c (h++⟨#[123]⟩) bb/\Kq a.heap.size b bb):=⟨q.out.1.below af,q.out.2.trans (Kq.of_below af)⟩;clear af;go_wp2_with fail;go_loopw [26] (fun ap wr=>∃d:Nat,d<=j/\ap= M O d/\Hid (Ps a c (h++⟨#[123]⟩++gw (e.take d)) wr/\Kq a.heap.size b wr)) (fun ap _=>j-(Bs ap).toNat)
  case atStart=>exact⟨0,by omega,rfl,by rw[show h++⟨#[123]⟩++gw (e.take 0)=h++⟨#[123]⟩ from ByteArray.append_empty];exact a1.out.1,a1.out.2⟩
  case round=>
   clear ar;obtain⟨d,b3,rfl,n⟩:=hrel;by_cases bA:d<j
   ·obtain⟨z,E⟩:=cy A.out.2.1 bA;obtain⟨b2,rfl,_,bs⟩:=(A.out.1.below n.out.1.pg.bel).get E;have b5:(d:Int)<(j:Int):=by omega
    have b4:(0:Int)<=(d:Int):=by omega
    have a8:e[d]?=X (gH (t+1)++S z (t+1)):=by rw[<-A.out.2.2.2,ce,E];rfl
    have bd:Hid (gw (e.take (d+1))=gw (e.take d)++(gH (t+1)++S z (t+1))):=ry e d _ a8;have J:=bh.out z (cH E);generalize nV (lj o z)=b0 at bs J;have bo:Hid (Pw a c 75 #[vP c,B4 59 (B7 #[A2 (X ⟨a.heap.size,0,A0⟩),V bE]),b0] (S z (t+1))):=J;clear E a8 J;go_wp2_with (go_at_call 334;fail);refine(bk.out _ _ n.out.1).mono ?_;rintro g y ⟨rfl,p2,v⟩;have p:Hid (Ps a c (h++⟨#[123]⟩++gw (e.take d)++gH (t+1)) y/\Kq a.heap.size b y):=⟨p2,n.out.2.trans v⟩;clear p2 v;go_wp2_with (go_at_call 75;fail);refine(bo.out _ _ p.out.1).mono ?_;rintro g bc ⟨rfl,ba,a9⟩;have av:Hid (Ps a c (h++⟨#[123]⟩++gw (e.take d)++gH (t+1)++S z (t+1)) bc/\Kq a.heap.size b bc):=⟨ba,p.out.2.trans a9⟩;clear ba a9;go_wp2_with fail;refine⟨⟨d+1,by omega,by go_num,?_,av.out.2⟩,by simp[Bs];omega⟩;rw[bd.out];have:=av.out.1;simpa only[bq] using this
   ·obtain rfl:d=j:=by omega
    have a6:e.take d=e:=cA (by rw[A.out.2.2.1];exact ag _);rw[a6]at n;clear a6;go_wp2_with (go_at_call 334;fail);refine(bl.out _ _ n.out.1).mono ?_;rintro g y ⟨rfl,p2,v⟩;have p:Hid (Ps a c (h++⟨#[123]⟩++gw e++gH t) y/\Kq a.heap.size b y):=⟨p2,n.out.2.trans v⟩;clear p2 v;go_wp2_with fail;refine lI (f:=335) (by simp) (sG _ _ _ _) ?_;refine(a3.out _ _ p.out.1 .returning).mono ?_;rintro g ao b1 ⟨rfl,rfl,G,am⟩;refine⟨_,dJ rfl _ _ _,rfl,?_,p.out.2.trans am⟩;rw[bf.out];simpa only[bq] using G
theorem ajD(a:U)(c:Nat)(t:List Nd)(g:List Im)(base:Nat)(a4:B3)(am:Tp a t g base a4)(i:Nat)(av:i<t.length)(N:Nd)(ap:ae t i=N)(bc:N.ks.length<=1048576)(S:Int->ByteArray)(hS:∀z∈N.ks,DF a c g 0 z (S z)):
  Pw a c 17 #[vP c,gG a 0,nV (lj g i)] (gw (N.ks.map fun k=>S k++⟨#[10]⟩)):=by
 intro h e r;obtain⟨q,bk,x,d,y,s,j⟩:=vF am av;rw[ap]at s j;have a2:=fun e=>da q e;have bd:=fun e=>Ha a.heap.size (eB 0) e;have E:=j.hn;have a1:=fun e=>py (de N.k) q e;have ak:Hid (Pw a c 334 #[na a 0] ⟨#[10]⟩):=He a c 0 (by omega);have ad:Hid (∀z∈N.ks,Pw a c 75 #[vP c,gG a 0,nV (lj g z)] (S z)):=hS;have an:Hid (∀p,Br a.heap.size a p->p.cell? ⟨q,5,A0⟩=X (B6 x d y)):=fun p ar=>(j.cells ar).2.1;have af:Hid (Ps a c h e):=r;have a7:=an.out _ r.pg.bel;rw[s];obtain⟨b,m⟩:∃b,(N.ks.map fun k=>S k++(⟨#[10]⟩:ByteArray))=b:=⟨_,rfl⟩;have C:b.length=d:=by rw[<-m,cj];exact E
 have l:Hid (qF a g (B6 x d y) N.ks/\N.ks.length=d/\b.length=d/\(N.ks.map fun k=>S k++(⟨#[10]⟩:ByteArray))=b):=⟨j.ks,E,C,m⟩;rw[m];generalize jy (de N.k)=bh at a1⊢;unfold gG na at *;generalize eB 0=a3 at *;clear r j s m C hS;go_enter Tryz.func17,Tryz.ntmps17;go_wp2_with (first|(go_at_call 336;refine(a2 _).mono ?_;rintro A a6 ⟨rfl,bf⟩;subst a6));go_loopw [14] (fun u wr=>∃k:Nat,k<=d/\u= M O k/\Hid (Ps a c (h++gw (b.take k)) wr/\Kq a.heap.size e wr)) (fun u _=>d-(Bs u).toNat)
 case atStart=>exact⟨0,by omega,rfl,by rw[show h++gw (b.take 0)=h from ByteArray.append_empty];exact af.out,Kq.refl _ _⟩
 case round=>
  clear a7;obtain⟨k,a9,rfl,f⟩:=hrel;by_cases a0:k<d
  ·obtain⟨z,n⟩:=cy l.out.2.1 a0;obtain⟨a8,rfl,_,ao⟩:=(l.out.1.below f.out.1.pg.bel).get n;have bb:(k:Int)<(d:Int):=by omega
   have ba:(0:Int)<=(k:Int):=by omega
   have F:b[k]?=X (S z++⟨#[10]⟩):=by rw[<-l.out.2.2.2,ce,n];rfl
   have L:Hid (gw (b.take (k+1))=gw (b.take k)++(S z++⟨#[10]⟩)):=ry b k _ F;have o:=ad.out z (cH n);generalize nV (lj g z)=a5 at ao o;have al:Hid (Pw a c 75 #[vP c,B4 59 (B7 #[A2 (X ⟨a.heap.size,0,A0⟩),V a3]),a5] (S z)):=o;clear n F o;go_wp2_with (go_at_call 75;fail);refine(al.out _ _ f.out.1).mono ?_;rintro A J ⟨rfl,p2,G⟩;have v:Hid (Ps a c (h++gw (b.take k)++S z) J/\Kq a.heap.size e J):=⟨p2,f.out.2.trans G⟩;clear p2 G;go_wp2_with (go_at_call 334;fail);refine(ak.out _ _ v.out.1).mono ?_;rintro A K ⟨rfl,I,H⟩;have w:Hid (Ps a c (h++gw (b.take k)++S z++⟨#[10]⟩) K/\Kq a.heap.size e K):=⟨I,v.out.2.trans H⟩;clear I H;go_wp2_with fail;refine⟨⟨k+1,by omega,by go_num,?_,w.out.2⟩,by simp[Bs];omega⟩;rw[L.out];have:=w.out.1;simpa only[bq] using this
  ·obtain rfl:k=d:=by omega
   have B:=cA (by rw[l.out.2.2.1];exact ag _);rw[B]at f;clear B;go_wp2_with fail;go_end0
   exact⟨rfl,f.out.1,f.out.2⟩
