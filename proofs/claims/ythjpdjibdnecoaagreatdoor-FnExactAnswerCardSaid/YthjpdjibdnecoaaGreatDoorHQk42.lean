import Derived.Test.YthjpdjibdnecoaaGreatDoorHQk40
import Derived.Test.YthjpdjibdnecoaaGreatDoorHQk36
import Derived.Test.YthjpdjibdnecoaaGreatDoorHQk15
import Derived.Test.YthjpdjibdnecoaaGreatDoorHQk41
set_option linter.all false
set_option maxRecDepth 100000
set_option maxHeartbeats 6400000
open Go.Value renaming int->M,string->U,pointer->A1
open Go.IntKind renaming i64->N
open Go renaming World->O,wpAnyH_ready->A4,Calls->A5
open Option renaming some->V,none->A0
open List renaming set->X
open Go.Proofs.Tryz renaming prog->Y
open Go.Calls renaming quiet_of_same->Z
open Go.Obj renaming cells->Ax
open Bool renaming false->A2,true->A3
namespace Go.Proofs.YthjpdjibdnecoaaGreatDoor
open Go.RowKit Go.Maps Go.WideMaps
def rcF(x:ByteArray)(a:List Int)(m:Nat):Nat:=a.foldl (fun m b=>max m (Kv b x)) m
def vv:ByteArray:=⟨#[45,45]⟩
def ww(st:List Int)(x:ByteArray):Nat:=rcF x (lm st 78) (Ku x vv)
structure ahD (x:ByteArray) (L:List Int) (j m R:Nat):Prop where
 out:rcF x (L.drop j) m=R
theorem Cs(a b:ByteArray):∀f n,n<=a.size->Jk a b f n<=a.size
 |0,n,h=>h
 |f+1,n,h=>by
  rw[Jk];split
  ·rename_i c;exact Cs a b f (n+1) (by omega)
  ·exact h
theorem ae4(k:Int)(x:ByteArray):Kv k x<=x.size:=by
 unfold Kv;split
 ·omega
 split
 ·split<;>omega
 ·exact Cs _ _ _ _ (aL _)
theorem KE(x:ByteArray):∀(a:List Int)(m:Nat),m<=x.size->rcF x a m<=x.size
 |[],m,h=>h
 |k::a,m,h=>by
  show rcF x a (max m (Kv k x))<=x.size;exact KE x a _ (by have:=ae4 k x;omega)
theorem Bh(st:List Int)(x:ByteArray):ww st x<=x.size:=KE x _ _ (Cs _ _ _ _ (aL _))
theorem D7(w:O)(base u mb:Nat)(st:List Int)(x:ByteArray)(h:GQ w base u mb st)(L:qo w)(am:x.size<=1100000):
  A5 Y 73 #[A1 (V ⟨u,0,A0⟩),U x] w fun e a6=>e= .returned (M N (ww st x))/\Below w.heap.size w a6:=by
 obtain⟨b,r⟩:=ay (lm st 78);obtain⟨j,v⟩:=ay (ww st x);have al:=IH st 78;have ak:=Cr st 78;rw[r]at al ak;have o:ahD x b 0 (Ku x vv) j:=⟨by rw[<-v,<-r];rfl⟩;rw[v];have C:=Cj w x vv am (by decide);have y:Ku x vv<=x.size:=Cs _ _ _ _ (aL _);have H:=gK h L;clear h v L;unfold vv at C;go_in;go_wp2_with fail;refine C.mono ?_;rintro e a7 ⟨rfl,p⟩;have E:=ab6 a7 base u mb st (H.out.1.below p);rw[r]at E
 change ahD x b 0 (Ku x ⟨#[45,45]⟩) j at o
 change Ku x ⟨#[45,45]⟩<=x.size at y
 generalize Ku x ⟨#[45,45]⟩=a4 at o y⊢;clear C;go_wp2_with fail;refine E.mono ?_;rintro e m ⟨an,bb,rfl,f,J⟩;clear E;have I:Below w.heap.size w m:=p.trans (J.mono p.size);obtain⟨l,z⟩:=ay b.length;rw[z]at f ak⊢;have d:=iD f z I;clear f z I J p r;go_wp2_with fail;go_loopw [5,13] (fun a5 F wr=>∃(a i:Nat),a<=l/\i<=x.size/\a5= M N (i:Int)/\F= M N (a:Int)/\ahD x b a i j/\Below m.heap.size m wr) (fun _ F _=>l-(intOf F).toNat)
 case atStart=>exact⟨0,a4,aL _,y,rfl,rfl,o,ag _ _⟩
 case round=>
  obtain⟨a,i,bd,bl,rfl,rfl,n,k⟩:=hrel;clear o;by_cases a2:a<l
  ·obtain⟨c,s⟩:∃c,b[a]?=V c:=⟨_,bJ (by rw[d.out.2.1];exact a2)⟩;have a3:=al c (cJ s);have af:b.drop a=c::b.drop (a+1):=by
    obtain⟨ap,ar⟩:=List.getElem?_eq_some_iff.1 s;rw[je ap,ar]
   have f:=aE d.out.1 k;obtain⟨q,rfl⟩:∃q,an=V ⟨q,0,A0⟩:=by
    rcases bp f with⟨h,_⟩|⟨q,a9,h⟩
    ·omega
    ·cases h;exact⟨_,rfl⟩
   have ao:wr.cell? ⟨q,a,A0⟩=V (M N c):=by rw[f.cellAt a (by omega),cA,s];rfl
   have g:=n.out;rw[af]at g;have A:rcF x (b.drop (a+1)) (max i (Kv c x))=j:=g;have ad:Below w.heap.size w wr:=d.out.2.2.trans (k.mono d.out.2.2.size);have B:=Dc wr c x (H.out.2.below ad (ae _)) am a3.1 (by omega);have a1:=ae4 c x;generalize Kv c x=G at A B a1;have t:ahD x b (a+1) (max i G) j:=⟨A⟩;have bk:(a:Int)<(l:Int):=by omega
   have bh:(0:Int)<=(a:Int):=by omega
   clear g A af s n f ad;go_wp2_with fail;refine B.mono ?_;rintro e a8 ⟨rfl,K⟩;have a0:Below m.heap.size m a8:=k.trans (K.mono k.size);clear B K ao;go_wp2_with fail;exact⟨⟨a+1,max i G,by omega,by omega,by congr 1;omega,by push_cast;rfl,t,a0⟩,by simp[intOf];omega⟩
  ·obtain rfl:a=l:=by omega
   have g:=n.out;rw[ju (by rw[d.out.2.1];exact ae _)]at g;have t:=aw g;clear g n;go_wp2_with fail;go_ret;exact⟨by rw[<-t.out];rfl,d.out.2.2.trans (k.mono d.out.2.2.size)⟩
attribute [local go_sem] kF
structure Iv (b mb B:Nat) (s:ByteArray) (T:List Tk->O->Prop) (pre:List Tk) (W:O) (p:Nat) (l:Int):Prop where
 sc:vJ b W s (.map (V mb)) p l A2
 mp:W.ownsMap Y 9 (plainElem (H:=Unit) Y 3) mb 22 (yl 22)
 ly:Hg W
 tt:T pre W
 sz:B<=W.heap.size
theorem Iv.gr{b mb B:Nat}{s:ByteArray}{T:List Tk->O->Prop}{pre:List Tk}{W a:O}{p e:Nat}{l d:Int}(h:Iv b mb B s T pre W p l)(f:∀k W a,T k W->W.grownBy a (V b)->T k a)(g:mb≠b)(j:14<=b)(i:14<=B)(c:W.grownBy a (V b))(hS:vJ b a s (.map (V mb)) e d A2):Iv b mb B s T pre a e d:=
 ⟨hS,h.mp.kept c (by simp[g]),h.ly.blocks (fun k m=>c.block k (by have:=h.sz;omega) (by simp;omega)),f _ _ _ h.tt c,bF h.sz c.size⟩
theorem oa(w:O)(b i:Nat)(v:Value):w.grownBy (w.setCell ⟨b,i,A0⟩ v) (V b):=
 ⟨rfl,rfl,rfl,by simp[World.setCell],fun d c a=>aD _ _ _ _ (by simpa using a)⟩
theorem ae5(s:ByteArray)(p:Nat)(w:O):A5 Y 124 #[U (s.extract p s.size),U ⟨#[45,45]⟩] w fun e b=>e= .returned (.bool (decide (az s p=45/\az s (p+1)=45)))/\b=w:=by
 have a:=Tryz.strings_HasPrefix (s.extract p s.size) ⟨#[45,45]⟩ w;rw[show(⟨#[45,45]⟩:ByteArray).data.toList=[45,45] from rfl,EF]at a;exact a
structure aih (q:Int->Bool) (s:ByteArray) (f p e:Nat):Prop where
 out:iJ q s f p=e
attribute [local go_sem] kF
def ScX(b:Nat)(W:O):Prop:=∃a c,W.heap[b]?=V (Ax a 150 c)
theorem vJ.x{b:Nat}{W:O}{s:ByteArray}{m:Value}{p l:Int}{k:Bool}(h:vJ b W s m p l k):ScX b W:=by obtain⟨a,h⟩:=h;exact⟨_,_,h⟩
structure Iw (b mb B:Nat) (s:ByteArray) (I:Nat->Int->O->Prop) (W:O) (q:Nat) (l2:Int) (p:Nat) (l:Int):Prop where
 sc:vJ b W s (.map (V mb)) q l2 A2
 mp:W.ownsMap Y 9 (plainElem (H:=Unit) Y 3) mb 22 (yl 22)
 ly:Hg W
 ii:I p l W
 sz:B<=W.heap.size
theorem Iw.gr{b mb B:Nat}{s:ByteArray}{I:Nat->Int->O->Prop}{W a:O}{p q f g:Nat}{l n d e:Int}(h:Iw b mb B s I W q n p l)(i:∀p l W a,I p l W->ScX b W->W.grownBy a (V b)->I p l a)(k:mb≠b)(r:14<=b)(o:14<=B)(c:W.grownBy a (V b))(hS:vJ b a s (.map (V mb)) g e A2)(j:I p l a->I f d a):Iw b mb B s I a g e f d:=
 ⟨hS,h.mp.kept c (by simp[k]),h.ly.blocks (fun m t=>c.block m (by have:=h.sz;omega) (by simp;omega)),j (i _ _ _ _ h.ii h.sc.x c),bF h.sz c.size⟩
structure pI (s:ByteArray) (p:Nat):Prop where
 lt:p<s.size
 nb:¬kK (az s p)=A3
 nd:¬(az s p=45/\az s (p+1)=45)
inductive aay (b mb B:Nat) (s:ByteArray) (I:Nat->Int->World->Prop) (W:World):Prop
 |fin (l:Int) (h:Iw b mb B s I W s.size l s.size l)
 |bad (p:Nat) (l:Int) (hp:pI s p) (hr:(rdI s p).ok=false) (hS:fH b W s (.map (some mb)) (p:Int) ((rdI s p).a:Int) (l+(rdI s p).d) true) (hy:Hg W) (hz:B<=W.heap.size) (hi:I p l W)
theorem ab8(n l b mb B:Nat)(s:ByteArray)(ek:s.size<=70000)(eb:b<B)(a0:mb≠b)(ar:14<=b)
  (I:Nat->Int->O->Prop) (ak:∀p l W j,I p l W->ScX b W->W.grownBy j (V b)->I p l j) (b6:∀p q l W,blk s (s.size+1) p=blk s (s.size+1) q->p<=q->q<=s.size->I p l W->I q l W) (ea:∀p l W,I p l W->0<=l/\l<=(p:Int)+1/\p<=s.size)
  (h:O->Prop) (d8:∀W j,KeepsFrom B W j->h W->h j) (Pn:List PanicEntry->O->Prop)
  (cv:∀p c W,pI s p->(rdI s p).ok=A3->Iw b mb B s I W (rdI s p).a (c+(rdI s p).d) p c->h W->YieldAt Fence.wide (n-1) Y l #[Jj ⟨(rdI s p).k,(p:Int),((rdI s p).a:Int),c,(rdI s p).n,(rdI s p).x⟩] W fun e j=>(e= .returned (.bool A3)/\Iw b mb B s I j (rdI s p).a (c+(rdI s p).d) (rdI s p).a (c+(rdI s p).d)/\h j)\/(∃ao,e= .panicked ao/\Pn ao j))
  (W:O) (cf:Nat) (ce:Int) (bx:Iw b mb B s I W cf ce cf ce) (d6:h W):
  CallsIn Fence.wide n Y 71 #[A1 (V ⟨b,0,A0⟩),.func (.yield l) #[] #[]] W fun e j=>((∃v,e= .returned v)/\aay b mb B s I j/\h j)\/(∃ao,e= .panicked ao/\Pn ao j):=by
 have br:∀{g cn:O},g.grownBy cn (V b)->h g->h cn:=fun ef f=>d8 _ _ (KeepsFrom.of_grownBy ef (fun bE e=>by cases e;exact eb)) f;refine callsIn_wide.2 ?_;go_in;go_wp2;go_step3
 go_wp2;go_step3
 go_wp2;have a2:∀{g:O}{p:Nat}{c:Int}(q:Nat),Iw b mb B s I g p c p c->Iw b mb B s I (g.drewN q) p c p c:=fun q f=>f.gr ak a0 ar (by omega) (Bl (EC _ b) q) f.sc id;have J:∀{g:O}(q:Nat),h g->h (g.drewN q):=fun q f=>br (Bl (EC _ b) q) f;have eq:∀{g:O}{p:Nat}{c:Int}(a1:Nat),blk s (s.size+1) p=blk s (s.size+1) a1->p<=a1->a1<=s.size->Iw b mb B s I g p c p c->Iw b mb B s I (g.setCell ⟨b,3,A0⟩ (M N (a1:Int))) a1 c a1 c:=fun a1 ec eh en f=>f.gr ak a0 ar (by omega) (oa _ b 3 _) (f.sc.setP _) (b6 _ _ _ _ ec eh en);have c8:∀{g:O}(v:Value),h g->h (g.setCell ⟨b,3,A0⟩ v):=fun v f=>br (oa _ b 3 v) f;go_loopw [] (fun wr=>∃(p:Nat) (c:Int),Iw b mb B s I wr p c p c/\h wr) (fun wr=>s.size-Dp b wr)
 case atStart=>exact⟨cf,ce,bx,d6⟩
 case round=>
  obtain⟨p,c,a6,b5⟩:=hrel;have b9:=vJ.pos a6.sc;obtain⟨ei,e2,b8⟩:=ea _ _ _ a6.ii;obtain⟨r,t,u,w,y,z,A,C⟩:=vJ.cells a6.sc;by_cases bo:p<s.size
  ·have e5:(p:Int)<(s.size:Int):=by omega
   have cc:=fun i=>cD bo i;have b2:=aw b9;clear b9;go_wp2_with fail;go_quiet (fail)
   go_wp2_with fail;have bd:=a2 nq a6;have bw:=J nq b5;generalize wr.drewN nq=ds at bd bw⊢;clear r t u w y z A C a6 b5;obtain⟨r,t,u,w,y,z,A,C⟩:=vJ.cells bd.sc;have a8:∀i,A5 Y 123 #[M .u8 (az s p)] i fun e c9=>e= .returned (.bool (kK (az s p)))/\c9=i:=fun i=>(Gw _ i).mono fun e c9 f=>⟨f.1,f.2.symm⟩;cases hbl:kK (az s p) with
   |true=>
    have bl:=abr s p bo hbl;rw[hbl]at a8;generalize az s p=d1 at cc a8;clear hbl;go_quiet ((go_at_call 123;exact Z (a8 _)))
    have G:=eq (p+1) bl (by omega) (by omega) (a2 nq bd);have af:=c8 (M N ((p+1:Nat):Int)) (J nq bw);rw[show((p+1:Nat):Int)=(p:Int)+1 by omega]at G af;go_wp2_with fail;exact⟨⟨p+1,c,G,af⟩,by rw[vJ.pos G.sc,b2.out];omega⟩
   |false=>
    rw[hbl]at a8;go_quiet ((go_at_call 123;exact Z (a8 _)))
    go_wp2_with fail;have G:=a2 nq bd;have af:=J nq bw;generalize ds.drewN nq=cm at G af⊢;clear r t u w y z A C bd bw a8;obtain⟨r,t,u,w,y,z,A,C⟩:=vJ.cells G.sc;have a9:=fun i=>ae5 s p i;by_cases av:az s p=45/\az s (p+1)=45
    ·rw[bC av]at a9;have bl:=ac6 s p av.1 av.2;have e3:=BC s p b8;have e4:=Bd s p av.1;go_quiet ((go_at_call 124;exact Z (a9 _)))
     go_wp2_with fail;have m:=a2 nq G;have bb:=J nq af;generalize cm.drewN nq=dz at m bb⊢;clear r t u w y z A C G af a9 cc;go_loopw [] (fun b1=>∃(k ad:Nat),p<=k/\k<=s.size/\s.size<k+ad/\aih nnB s ad k (nlE s p)/\Iw b mb B s I b1 k c p c/\h b1) (fun b1=>s.size-Dp b b1)
     case atStart=>exact⟨p,s.size+1,ae _,b8,by omega,⟨rfl⟩,m,bb⟩
     case round=>
      obtain⟨k,ad,el,eg,e0,bD,L,b4⟩:=hrel;obtain⟨ad,rfl⟩:∃q,ad=q+1:=⟨ad-1,by omega⟩;obtain⟨r,t,u,w,y,z,A,C⟩:=vJ.cells L.sc;have H:=bD.out;rw[iJ]at H;have cF:=vJ.pos L.sc;have df:=aw cF;clear cF;have b3:∀{g:O}{q:Nat}(bE:Nat),Iw b mb B s I g q c p c->Iw b mb B s I (g.drewN bE) q c p c:=fun bE f=>f.gr ak a0 ar (by omega) (Bl (EC _ b) bE) f.sc id;have dp:∀{g:O}{q:Nat}(cg:Nat),Iw b mb B s I g q c p c->Iw b mb B s I (g.setCell ⟨b,3,A0⟩ (M N (cg:Int))) cg c p c:=fun cg f=>f.gr ak a0 ar (by omega) (oa _ b 3 _) (f.sc.setP _) id;by_cases cz:k<s.size
      ·have e1:(k:Int)<(s.size:Int):=by omega
       have c6:=fun i=>cD cz i;go_wp2_with fail;go_quiet (fail)
       go_wp2_with fail;have a5:=b3 nq L;have a4:=J nq b4;generalize wr.drewN nq=d0 at a5 a4⊢;clear r t u w y z A C L b4;obtain⟨r,t,u,w,y,z,A,C⟩:=vJ.cells a5.sc;by_cases a3:az s k=10
       ·rw[aa (by rw[a3];decide)]at H;rw[a3]at c6;have bt:=aw H;clear H bD a3;go_quiet (fail)
        go_wp2_with fail;have E:=b3 nq a5;have K:=J nq a4;rw[<-bt.out]at bl;have bA:Iw b mb B s I (d0.drewN nq) k c k c:=⟨E.sc,E.mp,E.ly,b6 _ _ _ _ bl el eg E.ii,E.sz⟩;exact⟨⟨k,c,bA,K⟩,by rw[vJ.pos E.sc,b2.out];have:=bt.out;omega⟩
       ·have cB:nnB (az s k)=A3:=by
         have:=jo cz;unfold nnB;rw[jf];exact⟨a3,by omega⟩
        rw[ab cB]at H;have d4:(az s k==10)=A2:=by rw[aK];exact a3
        generalize az s k=d1 at c6 d4;clear cB a3 bD;have dk:aih nnB s ad (k+1) (nlE s p):=⟨H⟩;clear H;go_quiet (fail)
        have E:=dp (k+1) (b3 nq a5);have K:=c8 (M N ((k+1:Nat):Int)) (J nq a4);rw[show((k+1:Nat):Int)=(k:Int)+1 by omega]at E K;go_wp2_with fail;exact⟨⟨k+1,ad,by omega,by omega,by omega,dk,E,K⟩,by rw[vJ.pos E.sc,df.out];omega⟩
      ·obtain rfl:k=s.size:=by omega
       rw[aa (by rw[dE (AI _)];decide)]at H;have bt:=aw H;clear H bD;have d9:Iw b mb B s I wr s.size c s.size c:=⟨L.sc,L.mp,L.ly,b6 _ _ _ _ (by rw[bl,<-bt.out]) b8 (ae _) L.ii,L.sz⟩;go_wp2_with fail;go_quiet (fail)
       go_wp2;rw[xb];refine ba (jg rfl _ _ _) rfl ?_;exact .inl ⟨⟨_,rfl⟩,.fin c (a2 _ d9),J _ b4⟩
    ·have cy:¬(az s p=45/\az s (p+1)=45):=av;rw[aB av]at a9;have cx:¬kK (az s p)=A3:=by rw[hbl];simp
     have cl:pI s p:=⟨bo,cx,cy⟩;have ca:=mq s p bo;have c7:=fun (i:O) (bx:Iw b mb B s I i p c p c) (d2:Int) (ed:fH b i s (.map (V mb)) d2 p c A2)=>abq s ek b mb i p c bo ei (by omega) a0 ar ed bx.mp bx.ly;have bh:=fun W=>cv p c W cl;go_quiet ((go_at_call 124;exact Z (a9 _)))
     go_wp2_with fail;have m:=a2 nq G;have bb:=J nq af;obtain⟨d3,b7⟩:=m.sc;have bs:=c7 _ m d3 b7;have bk:=fun (W:O) (l:Int) (d5:(rdI s p).ok=A2)=>aay.bad (b:=b) (mb:=mb) (B:=B) (I:=I) (W:=W) p l cl d5;generalize cm.drewN nq=dz at m bb bs b7⊢;clear r t u w y z A C G af a9 cc c7 hbl cx av cy cv b7;generalize rdI s p=dn at bs ca bh bk;obtain⟨ep,F,b0,al,am,an⟩:=dn;simp only at bs ca bh bk;refine bs.mono ?_;rintro e o ⟨rfl,a7,ap⟩;have a4:=br a7 bb;have cw:b<o.heap.size:=ah ap;clear bs;cases ep with
     |false=>
      have cs:=ak _ _ _ _ m.ii m.sc.x a7;have bn:=World.grownBy_alloc o (Ax #[M N al,M N p,M N (F:Int),M N c,M N am,U an] 96) (V b);have ct:=ak _ _ _ _ cs ⟨_,_,ap⟩ bn;have K:=br bn a4;have cr:fH b (o.alloc (Ax #[M N al,M N p,M N (F:Int),M N c,M N am,U an] 96)) s (.map (V mb)) (p:Int) (F:Int) (c+b0) A3:=(bm o _ b cw).trans ap;have cI:Hg (o.alloc (Ax #[M N al,M N p,M N (F:Int),M N c,M N am,U an] 96)):=m.ly.blocks (fun k ex=>((bm o _ k (by have:=m.sz;have:=a7.size;omega)).trans (a7.block k (by have:=m.sz;omega) (by simp;omega))));have c5:B<=(o.alloc (Ax #[M N al,M N p,M N (F:Int),M N c,M N am,U an] 96)).heap.size:=by have:=m.sz;have:=a7.size;simp;omega
      obtain⟨r,t,u,w,y,z,A,C⟩:=eI ap;have ck:Hid (aay b mb B s I (o.alloc (Ax #[M N al,M N p,M N (F:Int),M N c,M N am,U an] 96))/\h (o.alloc (Ax #[M N al,M N p,M N (F:Int),M N c,M N am,U an] 96))):=⟨bk _ c rfl cr cI c5 ct,K⟩;clear cs ct cr cI c5 K bk bh;go_wp2;rw[xb];refine ba (jg rfl _ _ _) rfl ?_;exact .inl ⟨⟨_,rfl⟩,ck.out.1,ck.out.2⟩
     |true=>
      have b9:=ca rfl;have bn:=World.grownBy_alloc o (Ax #[M N al,M N p,M N (F:Int),M N c,M N am,U an] 96) (V b);have a5:Iw b mb B s I o F (c+b0) p c:=m.gr ak a0 ar (by omega) a7 ⟨_,ap⟩ id;have E:Iw b mb B s I (o.alloc (Ax #[M N al,M N p,M N (F:Int),M N c,M N am,U an] 96)) F (c+b0) p c:=a5.gr ak a0 ar (by omega) bn ⟨_,(bm o _ b cw).trans ap⟩ id;have K:=br bn a4;obtain⟨ev,tmps,es,et,cb,cq⟩:=bh _ rfl E K;unfold Jj at cb;simp only at cb;obtain⟨r,t,u,w,y,z,A,C⟩:=eI ap;clear bk bh;go_upto_region 8 with fail
      refine(py (n:=n)).1 ?_
      gi_wp2
      refine⟨fun f=>by simp[Fence.wide]at f,cq.mono ?_⟩;rintro e er (⟨rfl,bA,d7⟩|⟨ao,rfl,em⟩)
      ·clear r t u w y z A C cb cq
       gi_wp2
       go_wp2_with fail;exact⟨⟨F,c+b0,bA,d7⟩,by rw[vJ.pos bA.sc,b2.out];omega⟩
      ·exact⟨rfl,.inr ⟨ao,rfl,em⟩⟩
  ·obtain rfl:p=s.size:=by omega
   go_wp2_with fail;go_quiet (fail)
   go_wp2;try rw[Exit.noGoto_normal]
   go_end0
   exact .inl ⟨⟨_,rfl⟩,.fin c (a2 _ a6),J _ b5⟩
attribute [local go_sem] kF
theorem rF{P:Program}{b:Array Oper}{Q:Exit->Act->O->Prop}{id:Nat}{S:O->Prop}{a:Act}{w:O}(c:P.follows .mixedOrders=A3)(hS:S w.drew)
  (h:S w.drew->wpAnyH P .any b Q S b.size (Array.replicate b.size A2) a w.drew):(Go.Code.region id b A3).wp P Q a w:=
 wp_region_any c (wpAny_of_held _ _ _ _ (h hS))
def KF(z:Int):List PanicEntry:=[{v:= .iface 90 (.agg #[M N z]),recovered:=A2}]
structure ajG (w:O) (base gb mb:Nat) (st stF:List Int) (k z:Int) (e:Ending) (w':O):Prop where
 out:(gH st k=A3/\e= .returned (.tuple #[])/\GQ w' base gb mb stF/\Gp gb w w'/\Below base w w')\/(gH st k=A2/\e= .panicked (KF z)/\Below w.heap.size w w')
theorem D8(w:O)(base n mb:Nat)(st stF:List Int)(T:Tk)(s:ByteArray)(f:Nat)(h:GQ w base n mb st)(al:qo w)(bw:s.size<=1100000)(H:1<=T.k)(I:T.k<=78)(z:0<=T.f)(ad:T.f<=T.t)(af:T.t<=(s.size:Int))
  (v:gH st T.k=A3->passOk (st.length+45) f st T.k stF/\stF.length<=99999000/\∀a∈stF,0<=a/\a<=133):
  A5 Y 38 #[A1 (V ⟨n,0,A0⟩),Jj T,U s] w fun e d=>ajG w base n mb st stF T.k (T.f+(ww st (s.extract T.f.toNat T.t.toNat):Nat)) e d:=by
 obtain⟨k,bA,bh,ar,av,a0⟩:=T;unfold Jj;simp only at H I z ad af v⊢;obtain⟨c,rfl⟩:=tF z;obtain⟨i,rfl⟩:=tF (show 0<=bh by omega);simp only[tJ];obtain⟨p,G⟩:∃p:Nat,ww st (s.extract c i)=p:=⟨_,rfl⟩;rw[G];have a1:=aw G;clear G;have ak:=(ag w.heap.size w).alloc (ae _) (Ax #[M N k,M N (c:Int),M N (i:Int),M N ar,M N av,U a0] 96 (0,0));have am:(w.alloc (Ax #[M N k,M N (c:Int),M N (i:Int),M N ar,M N av,U a0] 96 (0,0))).heap[w.heap.size]?=_:=aj w _;have B:=h.below ak;have bs:n<w.heap.size:=by obtain⟨bD,a5,_⟩:=h.g.ex;exact aG a5
 obtain⟨a2,C⟩:=ay (gH st k);have ao:=B.may H I C;have m:=Jm h al am C B;clear h al am C B;go_in;go_wp2_with fail;refine ao.mono ?_;rintro e o ⟨rfl,q⟩;have F:Below w.heap.size w o:=ak.trans (q.mono (by simp));have x:=(q.block _ (aG m.out.2.2.1)).trans m.out.2.2.1;have bk:o.cell? ⟨w.heap.size,0,A0⟩=V (M N k):=by rw[aq _ _ _ _ _ _ x];rfl
 have K:o.cell? ⟨w.heap.size,1,A0⟩=V (M N (c:Int)):=by rw[aq _ _ _ _ _ _ x];rfl
 have L:o.cell? ⟨w.heap.size,2,A0⟩=V (M N (i:Int)):=by rw[aq _ _ _ _ _ _ x];rfl
 clear ao x;cases a2 with
 |true=>
  obtain⟨an,a7,a8⟩:=v m.out.2.2.2.1;have u:=m.out.2.2.2.2.below q;have a9:=aeL o base n mb st k (st.length+45) f stF u.g u.r u.ok (by omega) (by have:=u.len;omega) H I an;have bl:IntKind.u8.wrap k=k:=by rw[Er];omega
  have bt:=m.out.1.g.lo;clear v u an q;go_wp2_with (go_at_call 74;refine a9.mono ?_;rintro e bE ⟨rfl,a4,bd,bb,a3⟩);go_end0
  exact⟨.inl ⟨m.out.2.2.2.1,rfl,⟨a4,bd,a8,a7⟩,(Gp.of_below F).trans bb,(F.mono (by omega)).trans a3⟩⟩
 |false=>
  have y:Below w.heap.size w o.drew:=F.drew;have ap:=D7 o.drew base n mb st (s.extract c i) (m.out.1.below y) (m.out.2.1.below y (ae _)) (by have:=iu (a:=s) (b:=c) (e:=i);omega);have a6:(ww st (s.extract c i):Nat)<=s.size:=by
   have:=Bh st (s.extract c i);have:=iu (a:=s) (b:=c) (e:=i);omega
  rw[a1.out]at ap a6;have hF:(c:Int)<=(i:Int):=ad;have bn:(i:Int)<=(s.size:Int):=af;have br:(0:Int)<=(c:Int):=by omega
  have bo:(0:Int)<=(i:Int):=by omega
  have bx:IntKind.i64.wrap ((c:Int)+(p:Int))=(c:Int)+(p:Int):=by rw[di];omega
  clear v q z;go_wp2_with fail;refine rF (S:=fun d=>d.cell? ⟨w.heap.size,1,A0⟩=V (M N (c:Int))/\d.cell? ⟨w.heap.size,2,A0⟩=V (M N (i:Int))) (by kernel_rfl) ⟨K,L⟩ (fun hS=>?_);refine bq 0 (A1 (V ⟨w.heap.size,1,A0⟩)) rfl rfl (by kernel_rfl) (fun _ _ _=>id) hS (fun d ⟨j,l⟩=>by go_simp) ?_;simp only[X];refine bq 1 (M N (c:Int)) rfl rfl (by kernel_rfl) (fun _ _ _=>id) hS (fun d ⟨j,l⟩=>by go_simp) ?_;simp only[X];refine bq 2 (A1 (V ⟨n,0,A0⟩)) rfl rfl (by kernel_rfl) (fun _ _ _=>id) hS (fun d ⟨j,l⟩=>by go_simp) ?_;simp only[X];refine bq 3 (U s) rfl rfl (by kernel_rfl) (fun _ _ _=>id) hS (fun d ⟨j,l⟩=>by go_simp) ?_;simp only[X];refine bq 4 (A1 (V ⟨w.heap.size,1,A0⟩)) rfl rfl (by kernel_rfl) (fun _ _ _=>id) hS (fun d ⟨j,l⟩=>by go_simp) ?_;simp only[X];refine bq 5 (M N (c:Int)) rfl rfl (by kernel_rfl) (fun _ _ _=>id) hS (fun d ⟨j,l⟩=>by go_simp) ?_;simp only[X];refine bq 6 (A1 (V ⟨w.heap.size,2,A0⟩)) rfl rfl (by kernel_rfl) (fun _ _ _=>id) hS (fun d ⟨j,l⟩=>by go_simp) ?_;simp only[X];refine bq 7 (M N (i:Int)) rfl rfl (by kernel_rfl) (fun _ _ _=>id) hS (fun d ⟨j,l⟩=>by go_simp) ?_;simp only[X];refine bq 8 (U (s.extract c i)) rfl rfl (by kernel_rfl) (fun _ _ _=>id) hS (fun d ⟨j,l⟩=>by go_simp) ?_;simp only[X];refine A4 (rs:=[9]) (by kernel_rfl) (by simp) (AllReadyH.cons rfl (fun J A=>?_) AllReadyH.nil);go_simp;refine ap.mono ?_;rintro e b0 ⟨rfl,E⟩;refine A.out _ _ ⟨ai E K,ai E L⟩ (fun hS=>?_);clear A J;try simp only[Act.put,bG,bH,bI]
  refine bq 10 (M N ((c:Int)+(p:Int))) rfl rfl (by kernel_rfl) (fun _ _ _=>id) hS (fun d ⟨j,l⟩=>by go_simp) ?_;simp only[X];refine bq 11 (.agg #[M N ((c:Int)+(p:Int))]) rfl rfl (by kernel_rfl) (fun _ _ _=>id) hS (fun d ⟨j,l⟩=>by go_simp) ?_;simp only[X];refine bq 12 (.iface 90 (.agg #[M N ((c:Int)+(p:Int))])) rfl rfl (by kernel_rfl) (fun _ _ _=>id) hS (fun d ⟨j,l⟩=>by go_simp) ?_;simp only[X];refine A4 (rs:=[13]) (by kernel_rfl) (by simp) (AllReadyH.cons rfl (fun J A=>?_) AllReadyH.nil);go_simp;exact⟨rfl,⟨.inr ⟨m.out.2.2.2.1,rfl,y.trans (E.mono y.size)⟩⟩⟩
