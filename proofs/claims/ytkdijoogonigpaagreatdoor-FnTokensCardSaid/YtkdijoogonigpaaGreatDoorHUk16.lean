import Derived.Test.YtkdijoogonigpaaGreatDoorHUk10
import Derived.Test.YtkdijoogonigpaaGreatDoorHUk14
set_option linter.all false
set_option maxRecDepth 100000
set_option maxHeartbeats 6400000
open Option renaming none->M,some->N
open Go renaming World->O,grownBy_putObj'->Y,undef->Z,Value->A2,callsIn_wide->B1,Calls->B2
open Go.World renaming putObj_heap_other->Q,setCell->B0
open Bool renaming false->R,true->A0
open Go.Proofs.Tryz renaming prog->S
open Go.Value renaming int->U,string->Ax,ownBlock->Br,bool->B3
open Go.IntKind renaming i64->V
open Go.Calls renaming quiet_of_same->X
namespace Go.Proofs.YtkdijoogonigpaaGreatDoor
open Go.RowKit
attribute [local go_sem] ua
open Go.Maps Go.WideMaps
attribute [local go_sem] ua
structure Iv (b mb B:Nat) (s:ByteArray) (T:List Tk->O->Prop) (pre:List Tk) (W:O) (p:Nat) (l:Int):Prop where
 sc:pf b W s (.map (N mb)) p l R
 mp:W.ownsMap S 9 (plainElem (H:=Unit) S 3) mb 22 (wkD 22)
 ly:zr W
 tt:T pre W
 sz:B<=W.heap.size
theorem Iv.gr{b mb g:Nat}{s:ByteArray}{e:List Tk->O->Prop}{pre:List Tk}{c a:O}{p i:Nat}{l h:Int}(d:Iv b mb g s e pre c p l)(j:∀k c a,e k c->c.grownBy a (N b)->e k a)(m:mb≠b)(o:8<=b)(n:8<=g)(f:c.grownBy a (N b))(hS:pf b a s (.map (N mb)) i h R):Iv b mb g s e pre a i h:=
 ⟨hS,d.mp.kept f (by simp[m]),d.ly.blocks (fun k q=>f.block k (by have:=d.sz;omega) (by simp;omega)),j _ _ _ d.tt f,bA d.sz f.size⟩
theorem Fe(w:O)(b i:Nat)(v:A2):w.grownBy (w.setCell ⟨b,i,M⟩ v) (N b):=
 ⟨rfl,rfl,rfl,by simp[B0],fun d c a=>bC _ _ _ _ (by simpa using a)⟩
theorem I0(s:ByteArray)(p:Nat)(w:O):B2 S 39 #[Ax (s.extract p s.size),Ax ⟨#[45,45]⟩] w fun e b=>e= .returned (B3 (decide (ao s p=45/\ao s (p+1)=45)))/\b=w:=by
 have a:=Tryz.strings_HasPrefix (s.extract p s.size) ⟨#[45,45]⟩ w;rw[show(⟨#[45,45]⟩:ByteArray).data.toList=[45,45] from rfl,zi]at a;exact a
def lK(pre:List Tk):Nat:=match pre.getLast? with|some a=>a.t.toNat|none=>0
theorem Gy(pre:List Tk)(x:Tk):lK (pre++[x])=x.t.toNat:=by unfold lK;rw[List.getLast?_concat]
structure ace (q:Int->Bool) (s:ByteArray) (f p e:Nat):Prop where
 out:eH q s f p=e
def afp(b mb e:Nat)(s:ByteArray)(d:List Tk->O->Prop)(E:Bool×Nat×List Tk)(a:O):Prop:=
 (E.1=A0/\∃f c,Iv b mb e s d E.2.2 a f c)\/(E.1=R/\∃pre c,pf b a s (.map (N mb)) (E.2.1:Int) c A0/\d pre a)
theorem Do(n l b mb f:Nat)(s:ByteArray)(eb:s.size<=70000)(E:Bool×Nat×List Tk)(d8:b<f)(bp:mb≠b)(bn:8<=b)
  (g:List Tk->O->Prop) (a3:∀k j z,g k j->j.grownBy z (N b)->g k z) (h:O->Prop) (dx:∀j z,KeepsFrom f j z->h j->h z)
  (d7:∀pre x j,(∃c I,Iv b mb f s g pre j (lK (pre++[x])) c/\tw s E (pre++[x]) (lK (pre++[x])) c I)->h j->YieldAt Fence.wide (n-1) S l #[vTk x] j fun e z=>e= .returned (B3 A0)/\(∃c I,Iv b mb f s g (pre++[x]) z (lK (pre++[x])) c/\tw s E (pre++[x]) (lK (pre++[x])) c I)/\h z)
  (j:O) (cm:Nat) (ck:Int) (cq:Nat) (bd:Iv b mb f s g [] j cm ck) (d0:tw s E [] cm ck cq) (dn:h j):
  CallsIn Fence.wide n S 14 #[.pointer (N ⟨b,0,M⟩),.func (.yield l) #[] #[]] j fun e z=>(∃v,e= .returned v)/\afp b mb f s g E z/\h z:=by
 have br:∀{i cp:O},i.grownBy cp (N b)->h i->h cp:=fun d9 d=>dx _ _ (KeepsFrom.of_grownBy d9 (fun ev e=>by cases e;exact d8)) d;refine callsIn_wide.2 ?_;go_in;go_wp2;go_step3
 go_wp2;go_step3
 go_wp2;have G:∀{pre:List Tk}{i:O}{a:Nat}{c:Int}(H:Nat),Iv b mb f s g pre i a c->Iv b mb f s g pre (i.drewN H) a c:=fun H d=>d.gr a3 bp bn (by omega) (qG (lH _ b) H) d.sc;have F:∀{i:O}(H:Nat),h i->h (i.drewN H):=fun H d=>br (qG (lH _ b) H) d;have c6:∀{pre:List Tk}{i:O}{a:Nat}{c:Int}(cl:Nat),Iv b mb f s g pre i a c->Iv b mb f s g pre (i.setCell ⟨b,3,M⟩ (U V (cl:Int))) cl c:=fun cl d=>d.gr a3 bp bn (by omega) (Fe _ b 3 _) (d.sc.setP _);have c5:∀{i:O}(v:A2),h i->h (i.setCell ⟨b,3,M⟩ v):=fun v d=>br (Fe _ b 3 v) d;go_loopw [] (fun wr=>∃(pre:List Tk) (a:Nat) (c:Int) (I:Nat),Iv b mb f s g pre wr a c/\tw s E pre a c I/\h wr) (fun wr=>s.size-xz b wr)
 case atStart=>exact⟨[],cm,ck,cq,bd,d0,dn⟩
 case round=>
  obtain⟨pre,a,c,I,bl,al,b2⟩:=hrel;have cb:=pf.pos bl.sc;have cy:=al.le;obtain⟨o,p,q,r,t,u,w,y⟩:=pf.cells bl.sc;by_cases a4:a<s.size
  ·have es:(a:Int)<(s.size:Int):=by omega
   have cf:=fun m=>ch a4 m;have b0:=ar cb;clear cb;go_wp2_with fail;go_quiet (fail)
   go_wp2_with fail;have bf:=G nq bl;have bw:=F nq b2;generalize wr.drewN nq=dc at bf bw⊢;clear o p q r t u w y bl b2;obtain⟨o,p,q,r,t,u,w,y⟩:=pf.cells bf.sc;have a5:∀m,B2 S 38 #[U .u8 (ao s a)] m fun e c7=>e= .returned (B3 (eJ (ao s a)))/\c7=m:=fun m=>(AH _ m).mono fun e c7 d=>⟨d.1,d.2.symm⟩;cases hbl:eJ (ao s a) with
   |true=>
    have d1:=al.blank a4 hbl;rw[hbl]at a5;generalize ao s a=df at cf a5;clear hbl;go_quiet ((go_at_call 38;exact X (a5 _)))
    have B:=c6 (a+1) (G nq bf);have K:=c5 (U V ((a+1:Nat):Int)) (F nq bw);rw[show((a+1:Nat):Int)=(a:Int)+1 by omega]at B K;go_wp2_with fail;exact⟨⟨pre,a+1,c,I,B,d1,K⟩,by rw[pf.pos B.sc,b0.out];omega⟩
   |false=>
    rw[hbl]at a5;go_quiet ((go_at_call 38;exact X (a5 _)))
    go_wp2_with fail;have B:=G nq bf;have K:=F nq bw;generalize dc.drewN nq=cn at B K⊢;clear o p q r t u w y bf bw a5;obtain⟨o,p,q,r,t,u,w,y⟩:=pf.cells B.sc;have a6:=fun m=>I0 s a m;by_cases ap:ao s a=45/\ao s (a+1)=45
    ·rw[cG ap]at a6;have b4:=al.dash ap.1 ap.2;have eq:=oe s a cy;have er:=rq s a ap.1;go_quiet ((go_at_call 39;exact X (a6 _)))
     go_wp2_with fail;have an:=G nq B;have bb:=F nq K;generalize cn.drewN nq=dd at an bb⊢;clear o p q r t u w y B K a6 cf;go_loopw [] (fun wq=>∃(k J:Nat),a<=k/\k<=s.size/\s.size<k+J/\ace Gt s J k (vv s a)/\Iv b mb f s g pre wq k c/\h wq) (fun wq=>s.size-xz b wq)
     case atStart=>exact⟨a,s.size+1,ag _,cy,by omega,⟨rfl⟩,an,bb⟩
     case round=>
      obtain⟨k,J,et,en,el,bx,bj,b1⟩:=hrel;obtain⟨J,rfl⟩:∃H,J=H+1:=⟨J-1,by omega⟩;obtain⟨o,p,q,r,t,u,w,y⟩:=pf.cells bj.sc;have C:=bx.out;rw[eH]at C;have cv:=pf.pos bj.sc;have c8:=ar cv;clear cv;by_cases ct:k<s.size
      ·have em:(k:Int)<(s.size:Int):=by omega
       have cz:=fun m=>ch ct m;go_wp2_with fail;go_quiet (fail)
       go_wp2_with fail;have a1:=G nq bj;have a0:=F nq b1;generalize wr.drewN nq=ef at a1 a0⊢;clear o p q r t u w y bj b1;obtain⟨o,p,q,r,t,u,w,y⟩:=pf.cells a1.sc;by_cases av:ao s k=10
       ·rw[aa (by rw[av];decide)]at C;rw[av]at cz;have bt:=ar C;clear C bx av;go_quiet (fail)
        go_wp2_with fail;have ak:=G nq a1;have L:=F nq a0;rw[<-bt.out]at b4;exact⟨⟨pre,k,c,I,ak,b4,L⟩,by rw[pf.pos ak.sc,b0.out];have:=bt.out;omega⟩
       ·have cu:Gt (ao s k)=A0:=by
         have:=fG ct;unfold Gt;rw[jH];exact⟨av,by omega⟩
        rw[ab cu]at C;have dk:(ao s k==10)=R:=by rw[aC];exact av
        generalize ao s k=df at cz dk;clear cu av bx;have c9:ace Gt s J (k+1) (vv s a):=⟨C⟩;clear C;go_quiet (fail)
        have ak:=c6 (k+1) (G nq a1);have L:=c5 (U V ((k+1:Nat):Int)) (F nq a0);rw[show((k+1:Nat):Int)=(k:Int)+1 by omega]at ak L;go_wp2_with fail;exact⟨⟨k+1,J,by omega,by omega,by omega,c9,ak,L⟩,by rw[pf.pos ak.sc,c8.out];omega⟩
      ·obtain rfl:k=s.size:=by omega
       rw[aa (by rw[ci (Nat.lt_irrefl _)];decide)]at C;have bt:=ar C;clear C bx;have af:=b4.atEnd (by rw[<-bt.out];exact ag _);go_wp2_with fail;go_quiet (fail)
       go_wp2;rw[Er];refine bg (fE rfl _ _ _) rfl ?_;exact⟨⟨_,rfl⟩,.inl ⟨by rw[af],_,_,by rw[af];exact G _ bj⟩,F _ b1⟩
    ·have b8:¬(ao s a=45/\ao s (a+1)=45):=ap;rw[bk ap]at a6;have b7:¬eJ (ao s a)=A0:=by rw[hbl];simp
     have b5:=al.tok a4 b7 b8;have b3:=al.bad a4 b7 b8;have cc:=gb s a a4;have ea:=al.l0;have ep:=al.l1;have cF:=fun (m:O) (bd:Iv b mb f s g pre m a c)=>aaG s eb b mb m a c a4 ea (by omega) bp bn bd.sc bd.mp bd.ly;go_quiet ((go_at_call 39;exact X (a6 _)))
     go_wp2_with fail;have an:=G nq B;have bb:=F nq K;have bs:=cF _ an;generalize cn.drewN nq=dd at an bb bs⊢;clear o p q r t u w y B K a6 cf cF hbl b7 ap b8;generalize bB s a=da at bs b5 b3 cc;obtain⟨ee,A,bE,a7,a8,a9⟩:=da;simp only at bs b5 b3 cc;refine bs.mono ?_;rintro e am ⟨rfl,b9,a2⟩;have a0:=br b9 bb;have cs:b<am.heap.size:=a2.lt;clear bs;cases ee with
     |false=>
      have af:=b3 rfl;have d5:=a3 _ _ _ an.tt b9;have bo:=World.grownBy_alloc am (.cells #[U V a7,U V a,U V (A:Int),U V c,U V a8,Ax a9] 29) (N b);have d6:=a3 _ _ _ d5 bo;have L:=br bo a0;have d4:pf b (am.alloc (.cells #[U V a7,U V a,U V (A:Int),U V c,U V a8,Ax a9] 29)) s (.map (N mb)) (A:Int) (c+bE) A0:=a2.heap (cg am _ b cs);obtain⟨o,p,q,r,t,u,w,y⟩:=pf.cells a2;go_wp2;rw[Er];refine bg (fE rfl _ _ _) rfl ?_;exact⟨⟨_,rfl⟩,.inr ⟨by rw[af],pre,c+bE,by rw[af];exact d4,d6⟩,L⟩
     |true=>
      have d3:=b5 rfl;have cb:=cc rfl;have a1:Iv b mb f s g pre am A (c+bE):=an.gr a3 bp bn (by omega) b9 a2;have bo:=World.grownBy_alloc am (.cells #[U V a7,U V a,U V (A:Int),U V c,U V a8,Ax a9] 29) (N b);have ak:Iv b mb f s g pre (am.alloc (.cells #[U V a7,U V a,U V (A:Int),U V c,U V a8,Ax a9] 29)) A (c+bE):=a1.gr a3 bp bn (by omega) bo (a2.heap (cg am _ b cs));have L:=br bo a0;have ca:lK (pre++[⟨a7,a,A,c,a8,a9⟩])=A:=by rw[Gy];simp
      obtain⟨ek,tmps,eh,ej,ce,b6⟩:=d7 pre ⟨a7,a,A,c,a8,a9⟩ _ ⟨_,_,by rw[ca];exact ak,by rw[ca];exact d3⟩ L;rw[ca]at b6;unfold vTk at ce;simp only at ce;obtain⟨o,p,q,r,t,u,w,y⟩:=pf.cells a2;go_upto_region 8 with fail
      refine(wpIn_wide (n:=n)).1 ?_
      gi_wp2
      refine⟨fun d=>by simp[Fence.wide]at d,b6.mono ?_⟩;rintro e eg ⟨rfl,⟨ec,dg,cr,d2⟩,ds⟩;clear o p q r t u w y ce b6
      gi_wp2
      go_wp2_with fail;exact⟨⟨_,A,ec,dg,cr,d2,ds⟩,by rw[pf.pos cr.sc,b0.out];omega⟩
  ·obtain rfl:a=s.size:=by omega
   have af:=al.atEnd (ag _);go_wp2_with fail;go_quiet (fail)
   go_wp2;try rw[Exit.noGoto_normal]
   go_end0
   refine⟨⟨_,rfl⟩,.inl ⟨by rw[af],_,_,by rw[af];exact G _ bl⟩,F _ b2⟩
theorem Tryz.info29:(Tryz.prog.info? 29).map (fun i=>(i.zero,i.size,i.bytes))=N (N (.agg #[U V 0,U V 0,U V 0,U V 0,U V 0,Ax ⟨#[]⟩]),6,56):=by kernel_rfl
structure ql (w:O) (t B:Nat) (n:Nat) (xs:List A2) (W:O):Prop where
 res:W.heap[w.heap.size]?=N (.cells #[.bool R,.int .i64 0,.slice M 0 0] 26 (0,0))
 below:Below w.heap.size w W
 size:B<=W.heap.size
 box:∃v,Boxed W t 24 v/\W.ownsRow B 29 6 v n xs
theorem ql.grown{w e f:O}{t d n b:Nat}{h:List A2}(a:ql w t d n h e)(c:e.grownBy f (N b))(l:w.heap.size<b)(m:b≠t)(o:b<d):ql w t d n h f:=by
 obtain⟨k,j,g⟩:=a.box;refine⟨(c.block _ (au a.res) (by simp;omega)).trans a.res,a.below.trans (jr c (by omega) a.below.size),bA a.size c.size,k,j.kept c (by simp;omega),g.kept c ?_⟩;right;intro i;have:=(g.lt b i).1;omega
theorem ql.putObj{w c:O}{t b n l:Nat}{f:List A2}{r:Loop}(a:ql w t b n f c)(g:c.heap[l]?=N (.loop r))(e:Obj)(m:w.heap.size<l)(k:b<=l)(o:t<b):ql w t b n f (c.putObj l e):=by
 obtain⟨j,i,h⟩:=a.box;have d:=Y c l e;refine⟨(d.block _ (au a.res) (by simp;omega)).trans a.res,a.below.trans (jr d (by omega) a.below.size),by simpa using a.size,j,i.kept d (by simp;omega),ownsRow_putObj h e g rfl⟩
theorem ql.appended{w a w1:O}{t b n:Nat}{h s:List A2}{v c:A2}{g:Obj}(d:ql w t b n h a)(B:Boxed a t 24 v)(l:a.ownsRow b 29 6 v n h)(I:w.heap.size<t)(q:t<b)
  (A:w1.ownsRow b 29 6 c (n+1) (h++s)) (e:(a.alloc g).grownBy w1 v.ownBlock):
  Boxed w1 t 24 v/\ql w t b (n+1) (h++s) (w1.setCell ⟨t,0,M⟩ c)/\KeepsFrom b a (w1.setCell ⟨t,0,M⟩ c)/\(∀k,k<b->k≠t->(w1.setCell ⟨t,0,M⟩ c).heap[k]?=a.heap[k]?):=by
 have z:∀k,k<b->N k≠v.ownBlock:=fun k f i=>by have:=(l.lt k i.symm).1;omega
 have G:=d.size;have j:∀k,k<b->w1.heap[k]?=a.heap[k]?:=fun k f=>(e.block k (by simp;omega) (z k f)).trans (cg a _ k (by omega));have r:Boxed w1 t 24 v:=(j t q).trans B;have H:a.heap.size<=w1.heap.size:=by have:=e.size;simp at this;omega
 refine⟨r,⟨?_,?_,?_,c,r.set c,gq A q c⟩,?_,?_⟩
 ·rw[bC _ _ _ _ (by simp;omega),j _ (by omega)];exact d.res
 ·refine d.below.trans ((((aq w.heap.size a).alloc d.below.size g).grown e (by have:=d.below.size;simp;omega) (fun k i=>by have:=(l.lt k i).1;omega)).setCell (p:=⟨t,0,M⟩) (by simp;omega) c)
 ·simp[B0];omega
 ·refine((KeepsOthers.alloc a g).trans (KeepsOthers.of_grownBy e fun C J m o=>?_)).trans (KeepsOthers.setCell _ _ _) |>.from b
  rcases(l.alloc g).2 with⟨rfl,_⟩|⟨u,E,F,rfl,_,x,_⟩
  ·simp[Br]at m
  ·obtain rfl:u=C:=by simpa [Br] using m
   rw[x]at o;cases o;rfl
 ·intro k f y;rw[bC _ _ _ _ (by simpa using y)];exact j k f
open Go.Shelf
attribute [local go_sem] ua
theorem By{w:O}{base b e size:Nat}{v:A2}{n:Nat}{c:List A2}(h:w.ownsRow base e size v n c)(j:b<=base):w.ownsRow b e size v n c:=by
 obtain⟨i,a⟩:=h;refine⟨i,?_⟩;rcases a with a|⟨g,d,f,l,k,m⟩
 ·exact .inl a
 ·exact .inr ⟨g,d,f,l,bA j k,m⟩
end Go.Proofs.YtkdijoogonigpaaGreatDoor
namespace Go.Proofs.YtkdijoogonigpaaGreatDoor
open Go.RowKit Go.Shelf Go.Maps Go.WideMaps
attribute [local go_sem] ua
def tA(E:Bool×Nat×List Tk):Int:=if E.1=A0 then 0 else(E.2.1:Int)
def fi(E:Bool×Nat×List Tk):List Tk:=if E.1=A0 then E.2.2 else []
def pH(s:ByteArray):Bool×Nat×List Tk:=if 65536<s.size then(R,65536,[]) else qu s (s.size+1) 0 1
theorem Iv.put{b mb f l:Nat}{s:ByteArray}{d:List Tk->O->Prop}{pre:List Tk}{a:O}{p:Nat}{g:Int}{r:Loop}{e:Obj}(c:Iv b mb f s d pre a p g)(n:a.heap[l]?=N (.loop r))(h:d pre (a.putObj l e))(i:b≠l)(j:mb≠l)(k:8<=l):Iv b mb f s d pre (a.putObj l e) p g:=
 ⟨c.sc.heap (Q i),c.mp.kept (Y a l e) (by simp;exact j),c.ly.blocks (fun o m=>Q (by omega)),h,by simpa using c.sz⟩
theorem I1(s:ByteArray)(b:65536<s.size)(w:O):
  B2 S 5 #[.string s] w fun e a=>e= .returned (.agg #[.bool R,.int .i64 65536,.slice M 0 0])/\Below w.heap.size w a:=by
 have d:∀w:O,(zeroValue 26).run S w= .ok (.agg #[.bool R,.int .i64 0,.slice M 0 0]) w:=fun w=>by kernel_rfl
 have c:(65536:Int)<(s.size:Int):=by omega
 refine B1 (n:=5).1 ?_;refine callsIn_of_wp_marks Tryz.func5 rfl trivial ?_ rfl;simp only[Tryz.ntmps5,oC,db,gH,Nat.reduceAdd,Nat.reduceSub,yC,yD,yE,En,jF,gn]
 gi_wp2_with fail
 exact⟨_,fz rfl _ _ w.heap.size _ _ _ _ rfl (ax w _) Tryz.underlying26 rfl (by kernel_rfl),rfl,(aq _ w).alloc (ag _) _⟩
theorem yd{c:O}{base e size n:Nat}{v:A2}{g:List A2}(d:c.ownsRow base e size v n g):∃a b,v= .slice a n b:=by
 rcases d.2 with⟨rfl,f⟩|⟨i,b,h,rfl,_⟩
 ·exact⟨M,0,by rw[f]⟩
 ·exact⟨_,_,rfl⟩
theorem Dp(s:ByteArray)(e4:s.size<=65536)(E:Bool×Nat×List Tk)(bs:qu s (s.size+1) 0 1=E)(w:O)(b0:zr w)(ew:8<=w.heap.size):
  B2 S 5 #[.string s] w fun e ck=>∃v,e= .returned (.agg #[.bool E.1,.int .i64 (tA E),v])/\ck.ownsRow w.heap.size 29 6 v (fi E).length (jB (fi E))/\Below w.heap.size w ck:=by
 have d9:∀w:O,(zeroValue 26).run S w= .ok (.agg #[.bool R,.int .i64 0,.slice M 0 0]) w:=fun w=>by kernel_rfl
 obtain⟨cf,fr,a5⟩:=b0.tabs.word;have bt:∀m,(w.alloc m).heap[0]?=N (.cells cK cf fr):=fun m=>(cg w _ _ (au a5)).trans a5;have cz:tw s E [] 0 1 (s.size+1):=⟨by omega,by omega,by omega,by omega,by simp,by rw[bs];rfl⟩;clear bs;refine B1 (n:=5).1 ?_;refine callsIn_of_wp_marks Tryz.func5 rfl trivial ?_ rfl;simp only[Tryz.ntmps5,oC,db,gH,Nat.reduceAdd,Nat.reduceSub,yC,yD,yE,En,jF,gn]
 gi_wp2_with fail
 refine⟨trivial,(callsIn_wide.2 (pA (H:=Unit) _ fr cf (bt _))).mono ?_⟩;rintro e w1 ⟨rfl,a0,av⟩
 gi_wp2_with fail
 have e8:w.heap.size+1<=w1.heap.size:=by have:=av.size;simpa using this
 have b9:w1.heap[w.heap.size]?=N (.cells #[.bool R,.int .i64 0,.slice M 0 0] 26 (0,0)):=(av.block _ (by simp)).trans (ax w _);have b4:Below w.heap.size w w1:=((aq _ w).alloc (ag _) _).trans (av.mono (by simp));have d6:=a0.lt;rw[dI]at a0 d6;have a8:pf w1.heap.size ((w1.alloc (.cells #[.string s,.map (N (w.heap.size+1)),.int .i64 0,.int .i64 0,.int .i64 1,.bool R] 41)).alloc (.cells #[.slice M 0 0] 24)) s (.map (N (w.heap.size+1))) 0 1 R:=
  ⟨0,(cg _ _ _ (by simp)).trans (ax w1 _)⟩
 have b1:=(a0.alloc (.cells #[.string s,.map (N (w.heap.size+1)),.int .i64 0,.int .i64 0,.int .i64 1,.bool R] 41)).alloc (.cells #[.slice M 0 0] 24);have a6:ql w (w1.heap.size+1) (w1.heap.size+2) 0 [] ((w1.alloc (.cells #[.string s,.map (N (w.heap.size+1)),.int .i64 0,.int .i64 0,.int .i64 1,.bool R] 41)).alloc (.cells #[.slice M 0 0] 24)):=by
  refine⟨((cg _ _ _ (by simp;omega)).trans (cg _ _ _ (by omega))).trans b9,(b4.alloc (by omega) _).alloc (by simp;omega) _,by simp,.slice M 0 0,?_,dB _ _ _ _⟩;have:=ax (w1.alloc (.cells #[.string s,.map (N (w.heap.size+1)),.int .i64 0,.int .i64 0,.int .i64 1,.bool R] 41)) (.cells #[.slice M 0 0] 24);rw[dI]at this;exact this
 have C:((w1.alloc (.cells #[.string s,.map (N (w.heap.size+1)),.int .i64 0,.int .i64 0,.int .i64 1,.bool R] 41)).alloc (.cells #[.slice M 0 0] 24)).heap.size=w1.heap.size+2:=by simp
 obtain⟨c,b2⟩:∃c,(w1.alloc (.cells #[.string s,.map (N (w.heap.size+1)),.int .i64 0,.int .i64 0,.int .i64 1,.bool R] 41)).alloc (.cells #[.slice M 0 0] 24)=c:=⟨_,rfl⟩;rw[b2]at a8 a6 C b1⊢;have dx:zr c:=b0.below a6.below (ag _);clear b2 b9 d9 bt a5 a0 av b4;obtain⟨l,u⟩:∃l:List Tk->O->Prop,l=fun pre b=>ql w (w1.heap.size+1) (w1.heap.size+2) pre.length (jB pre) b:=⟨_,rfl⟩;have a9:∀g b a1,l g b->b.grownBy a1 (N w1.heap.size)->l g a1:=by
  intro g b a1 ak bb;rw[u]at ak⊢;exact ql.grown ak bb (by omega) (by omega) (by omega)
 have ds:Iv w1.heap.size (w.heap.size+1) c.heap.size s l [] c 0 1:=⟨a8,b1,dx,by rw[u];exact a6,ag _⟩;have bf:∀{pre:List Tk}{b:O}{p:Nat}{d:Int}{an:Loop}(m:Obj),Iv w1.heap.size (w.heap.size+1) c.heap.size s l pre b p d->b.heap[c.heap.size+1]?=N (.loop an)->Iv w1.heap.size (w.heap.size+1) c.heap.size s l pre (b.putObj (c.heap.size+1) m) p d:=by
  intro pre b p d an m ak r;refine ak.put r ?_ (by omega) (by omega) (by omega);have ca:=ak.tt;rw[u]at ca⊢;exact ca.putObj r m (by omega) (by omega) (by omega)
 refine Dg (P:=S) (α:=Tk) (n:=5) (gf:=14) (bd:=#[.pointer (N ⟨w1.heap.size,0,M⟩)]) rfl (enters_of Tryz.func14 (by kernel_rfl) rfl) (fun f=>#[vTk f]) (fun _=>rfl)
  (fun pre f b=>∃d j,Iv w1.heap.size (w.heap.size+1) c.heap.size s l pre b (lK (pre++[f])) d/\tw s E (pre++[f]) (lK (pre++[f])) d j)
  (fun pre b=>∃d j,Iv w1.heap.size (w.heap.size+1) c.heap.size s l pre b (lK pre) d/\tw s E pre (lK pre) d j)
  (fun pre f a2 b=>(∃d j,Iv w1.heap.size (w.heap.size+1) c.heap.size s l pre b (lK (pre++[f])) d/\tw s E (pre++[f]) (lK (pre++[f])) d j)/\∃Bx,cA Bx b f.k f.f f.t f.l f.n f.x/\
   a2={tmps:=#[.string s,Z,.pointer (N ⟨w.heap.size,0,M⟩),.pointer (N ⟨w1.heap.size,0,M⟩),.pointer (N ⟨w1.heap.size+1,0,M⟩),.pointer (N ⟨Bx,0,M⟩),.string s,.int .i64 (s.size:Int),.bool (decide ((65536:Int)<(s.size:Int))),Z,.string s,.map (N (w.heap.size+1)),
    .agg #[.string s,.map (N (w.heap.size+1)),.int .i64 0,.int .i64 0,.int .i64 1,.bool R],.func (.func 14) #[.pointer (N ⟨w1.heap.size,0,M⟩)] #[],vTk f,Z,Z,Z,Z,Z,Z,Z,Z,Z,Z,Z],defers:=[]})
  (fun b=>afp w1.heap.size (w.heap.size+1) c.heap.size s l E b)
  ?pZ ?pAx ?pD ?h0 ?assign ?body ?seq ?done
 case pZ=>
  rintro pre b an m ⟨d,j,h,k⟩ r;exact⟨d,j,bf m h r,k⟩
 case pAx=>
  rintro pre f a2 b an m ⟨⟨d,j,h,k⟩,Bx,ap,dg⟩ r;have b6:Bx≠c.heap.size+1:=by
   rintro rfl;have:=(show b.heap[c.heap.size+1]?=_ from ap).symm.trans r;simp at this
  exact⟨⟨d,j,bf m h r,k⟩,Bx,(Q b6).trans ap,dg⟩
 case pD=>
  rintro b an m (⟨h,p,x,k⟩|⟨h,pre,x,k,bp⟩) r
  ·exact .inl ⟨h,p,x,bf m k r⟩
  ·refine .inr ⟨h,pre,x,k.heap (Q (by omega)),?_⟩;rw[u]at bp⊢;exact bp.putObj r m (by omega) (by omega) (by omega)
 case h0=>
  intro c6 K e5;have bb:c.grownBy c6 (N w1.heap.size):=⟨K.os,K.tape,K.output,K.size,fun g q _=>K.block g q⟩;exact⟨1,s.size+1,ds.gr a9 (by omega) (by omega) (by omega) bb (a8.heap (K.block _ (by omega))),cz⟩
 case assign=>
  rintro x pre f b er ⟨d,j,h,k⟩ bE;unfold vTk at bE⊢;have d2:=h.sc.lt
  gi_wp2
  exact bE _ _ ⟨⟨d,j,h.gr a9 (by omega) (by omega) (by omega) (World.grownBy_alloc b _ (N w1.heap.size)) (h.sc.heap (cg b _ _ d2)),k⟩,b.heap.size,ax b _,rfl⟩ ((KeepsOthers.alloc b _).from _)
 case body=>
  rintro x pre f a2 b ⟨⟨d,j,h,k⟩,Bx,ap,rfl⟩;have a3:ql w (w1.heap.size+1) (w1.heap.size+2) pre.length (jB pre) b:=by have:=h.tt;rw[u]at this;exact this
  obtain⟨v,L,F⟩:=a3.box;obtain⟨ee,d4,ea,eb,ec⟩:=fd Tryz.info29;obtain⟨ek,el,em,en,ep,eq,e9⟩:=aE ap;have ce:=L.cell;have e7:=L.frozen;have e6:=a3.size;have e0:pre.length+1<=65536:=by have bo:=k.cn;have et:=k.le;rw[aH]at bo;simp at bo;omega
  have d7:=h.mp;have c5:Hid (l=fun pre b=>ql w (w1.heap.size+1) (w1.heap.size+2) pre.length (jB pre) b):=u;have I:Hid (c.heap.size=w1.heap.size+2):=C;clear u C;obtain⟨cp,cm,ct,cq,cr,cu⟩:=f;unfold vTk;simp only at ek el em en ep eq⊢
  gi_wp2_with (gi_at_builtin;refine wpListIn_append_own _ rfl _ _ 24 rfl (w1.heap.size+2) 29 ee _ 6 56 Tryz.underlying24 d4 ea eb ec rfl (by decide) _ _ _ rfl (F.alloc _) ⟨b.heap.size,0,M⟩ 1 1 [.int .i64 cp,.int .i64 cm,.int .i64 ct,.int .i64 cq,.int .i64 cr,.string cu] rfl rfl (World.news_of_block (cs:=#[.int .i64 cp,.int .i64 cm,.int .i64 ct,.int .i64 cq,.int .i64 cr,.string cu]) (fr:=(0,0)) (ax b _)) (by intro fa cb;simp at cb;rcases cb with rfl|rfl|rfl|rfl|rfl|rfl<;>rfl) (by unfold maxLen;omega) (by omega) (by simp;omega) ?_;intro fb fc b8 b5 _;obtain⟨ev,es,rfl⟩:=ownsRow_succ b8;obtain⟨cc,bw,d5,b7⟩:=a3.appended L F (by omega) (by omega) b8 b5;have eF:=cc.cell;have e3:=cc.frozen)
  refine⟨by rw[I.out];exact d5,d,⟨h.sc.heap (b7 _ (by omega) (by omega)),?_,h.ly.blocks (fun g q=>b7 g (by omega) (by omega)),?_,by rw[I.out];exact bw.size⟩,j,k⟩
  ·refine((d7.alloc _).kept b5 ?_).setCell (by simp;omega) _;intro e;have:=(F.lt _ e.symm).1;omega
  ·rw[c5.out];show ql w _ _ (pre++[_]).length (jB (pre++[_])) _;rw[aH,mA];exact bw
 case seq=>
  rintro x cv dk d0 b ⟨d,j,h,k⟩ d1 ex;exact Do 4 x w1.heap.size (w.heap.size+1) c.heap.size s (by omega) E (by omega) (by omega) (by omega) l a9 cv dk d0 b (lK []) d j h k d1
 case done=>
  rintro b (⟨z,p,x,bx⟩|⟨z,pre,x,hS,i⟩) br
  ·have i:=bx.tt;rw[u]at i;have I:Hid (c.heap.size=w1.heap.size+2):=C;clear C;obtain⟨v,L,F⟩:=i.box;obtain⟨G,B,rfl⟩:=yd F;obtain⟨c7,c8,bn,c9,da,dc,dd,df⟩:=pf.cells bx.sc;have ce:=L.cell;have ef:b.cell? ⟨w.heap.size,0,M⟩=N (.bool R):=by rw[ay _ _ _ _ _ _ i.res];rfl
   have eg:b.cell? ⟨w.heap.size,1,M⟩=N (.int .i64 0):=by rw[ay _ _ _ _ _ _ i.res];rfl
   have eh:b.cell? ⟨w.heap.size,2,M⟩=N (.slice M 0 0):=by rw[ay _ _ _ _ _ _ i.res];rfl
   have ej:∀al,b.frozen? ⟨w.heap.size,al,M⟩=R:=fun al=>dp _ _ _ _ _ i.res;obtain⟨o,a7⟩:∃o,E.2.2.length=o:=⟨_,rfl⟩;rw[a7]at F L ce;have cF:Hid (E.2.2.length=o):=a7;clear a7
   gi_wp2
   have am:(((b.setCell ⟨w.heap.size,0,M⟩ (.bool A0)).setCell ⟨w.heap.size,1,M⟩ (.int .i64 0)).setCell ⟨w.heap.size,2,M⟩ (.slice G o B)).heap[w.heap.size]?=N (.cells #[.bool A0,.int .i64 0,.slice G o B] 26 (0,0)):=
    bK _ _ 2 _ _ _ (bK _ _ 1 _ _ _ (bK b _ 0 _ _ _ i.res))
   have bj:∀g,g≠w.heap.size->(((b.setCell ⟨w.heap.size,0,M⟩ (.bool A0)).setCell ⟨w.heap.size,1,M⟩ (.int .i64 0)).setCell ⟨w.heap.size,2,M⟩ (.slice G o B)).heap[g]?=b.heap[g]?:=fun g q=>by
    rw[bC _ _ _ _ (by simpa using q),bC _ _ _ _ (by simpa using q),bC _ _ _ _ (by simpa using q)]
   have A:Below w.heap.size w (((b.setCell ⟨w.heap.size,0,M⟩ (.bool A0)).setCell ⟨w.heap.size,1,M⟩ (.int .i64 0)).setCell ⟨w.heap.size,2,M⟩ (.slice G o B)):=
    ((i.below.setCell (p:=⟨w.heap.size,0,M⟩) (ag _) _).setCell (p:=⟨w.heap.size,1,M⟩) (ag _) _).setCell (p:=⟨w.heap.size,2,M⟩) (ag _) _
   have cl:(((b.setCell ⟨w.heap.size,0,M⟩ (.bool A0)).setCell ⟨w.heap.size,1,M⟩ (.int .i64 0)).setCell ⟨w.heap.size,2,M⟩ (.slice G o B)).ownsRow (w1.heap.size+2) 29 6 (.slice G o B) o (jB E.2.2):=
    gq (a:=⟨w.heap.size,2,M⟩) (gq (a:=⟨w.heap.size,1,M⟩) (gq (a:=⟨w.heap.size,0,M⟩) F (by simp;omega) _) (by simp;omega) _) (by simp;omega) _
   have d8:=I.out;have J:=(bj c.heap.size (by omega)).trans br;generalize ((b.setCell ⟨w.heap.size,0,M⟩ (.bool A0)).setCell ⟨w.heap.size,1,M⟩ (.int .i64 0)).setCell ⟨w.heap.size,2,M⟩ (.slice G o B)=af at am A cl J⊢;refine⟨by simp,.inl ⟨_,_,rfl,run_takeDeferred J,?_⟩⟩;have bl:(af.putObj c.heap.size (.deferred M)).heap[w.heap.size]?=_:=(Q (by omega)).trans am;refine⟨_,fz rfl _ _ w.heap.size _ _ _ _ rfl bl Tryz.underlying26 rfl (by kernel_rfl),_,by rw[tA,ab z,z],?_,?_⟩
   ·rw[fi,ab z,cF.out];exact By (ownsRow_putObj cl (.deferred M) J rfl) (by omega)
   ·exact A.grown (Y af c.heap.size (.deferred M)) A.size (fun g e=>by cases e;omega)
  ·rw[u]at i;obtain⟨c7,c8,bn,c9,da,dc,dd,df⟩:=pf.cells hS;have ef:b.cell? ⟨w.heap.size,0,M⟩=N (.bool R):=by rw[ay _ _ _ _ _ _ i.res];rfl
   have eg:b.cell? ⟨w.heap.size,1,M⟩=N (.int .i64 0):=by rw[ay _ _ _ _ _ _ i.res];rfl
   have eh:b.cell? ⟨w.heap.size,2,M⟩=N (.slice M 0 0):=by rw[ay _ _ _ _ _ _ i.res];rfl
   have ej:∀al,b.frozen? ⟨w.heap.size,al,M⟩=R:=fun al=>dp _ _ _ _ _ i.res;have b6:w1.heap.size≠w.heap.size:=by omega
   have dn:¬E.1=A0:=by rw[z];simp
   obtain⟨y,a4⟩:∃y:Int,(E.2.1:Int)=y:=⟨_,rfl⟩;rw[a4]at bn hS;have cy:Hid ((E.2.1:Int)=y):=a4;clear a4;have I:Hid (c.heap.size=w1.heap.size+2):=C;clear C dn
   gi_wp2
   have am:(((b.setCell ⟨w.heap.size,0,M⟩ (.bool R)).setCell ⟨w.heap.size,1,M⟩ (.int .i64 y)).setCell ⟨w.heap.size,2,M⟩ (.slice M 0 0)).heap[w.heap.size]?=N (.cells #[.bool R,.int .i64 y,.slice M 0 0] 26 (0,0)):=
    bK _ _ 2 _ _ _ (bK _ _ 1 _ _ _ (bK b _ 0 _ _ _ i.res))
   have bj:∀g,g≠w.heap.size->(((b.setCell ⟨w.heap.size,0,M⟩ (.bool R)).setCell ⟨w.heap.size,1,M⟩ (.int .i64 y)).setCell ⟨w.heap.size,2,M⟩ (.slice M 0 0)).heap[g]?=b.heap[g]?:=fun g q=>by
    rw[bC _ _ _ _ (by simpa using q),bC _ _ _ _ (by simpa using q),bC _ _ _ _ (by simpa using q)]
   have A:Below w.heap.size w (((b.setCell ⟨w.heap.size,0,M⟩ (.bool R)).setCell ⟨w.heap.size,1,M⟩ (.int .i64 y)).setCell ⟨w.heap.size,2,M⟩ (.slice M 0 0)):=
    ((i.below.setCell (p:=⟨w.heap.size,0,M⟩) (ag _) _).setCell (p:=⟨w.heap.size,1,M⟩) (ag _) _).setCell (p:=⟨w.heap.size,2,M⟩) (ag _) _
   have d8:=I.out;have J:=(bj c.heap.size (by omega)).trans br;generalize ((b.setCell ⟨w.heap.size,0,M⟩ (.bool R)).setCell ⟨w.heap.size,1,M⟩ (.int .i64 y)).setCell ⟨w.heap.size,2,M⟩ (.slice M 0 0)=af at am A J⊢;refine⟨by simp,.inl ⟨_,_,rfl,run_takeDeferred J,?_⟩⟩;have bl:(af.putObj c.heap.size (.deferred M)).heap[w.heap.size]?=_:=(Q (by omega)).trans am;refine⟨_,fz rfl _ _ w.heap.size _ _ _ _ rfl bl Tryz.underlying26 rfl (by kernel_rfl),_,by rw[tA,aa (by rw[z];simp),cy.out,z],by rw[fi,aa (by rw[z];simp)];exact dB _ _ _ _,?_⟩;exact A.grown (Y af c.heap.size (.deferred M)) A.size (fun g e=>by cases e;omega)
theorem Bz(s:ByteArray)(w:O)(d:zr w)(c:8<=w.heap.size):
  B2 S 5 #[Ax s] w fun e b=>∃v,e= .returned (.agg #[B3 (pH s).1,U V (tA (pH s)),v])/\b.ownsRow w.heap.size 29 6 v (fi (pH s)).length (jB (fi (pH s)))/\Below w.heap.size w b:=by
 unfold pH;by_cases a:65536<s.size
 ·rw[ab a];refine(I1 s a w).mono ?_;rintro e b ⟨rfl,f⟩;exact⟨_,rfl,dB _ _ _ _,f⟩
 ·rw[aa a];exact Dp s (by omega) _ rfl w d c
