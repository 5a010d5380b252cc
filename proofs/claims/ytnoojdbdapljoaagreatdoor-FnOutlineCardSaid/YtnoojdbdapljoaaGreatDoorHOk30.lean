import Derived.Test.YtnoojdbdapljoaaGreatDoorHOk13
set_option linter.all false
set_option maxRecDepth 100000
set_option maxHeartbeats 6400000
open Go.IntKind renaming i64->M
open Option renaming some->O,none->S
open Go.Value renaming int->Q,slice->U,slice->V,string->A1,int->A2,string->A4,ownBlock->A5
open Go renaming Value->Y,World->Z,wpList_append_own_at->A6,ownsRow_succ->A7,maxLen->A9
open Go.Obj renaming cells->Ax
open Go.RowKit renaming Hid->A0,Below->A8
open Go.Proofs.Tryz renaming prog->A3
namespace Go.Proofs.YtnoojdbdapljoaaGreatDoor
open Go.RowKit Go.Maps Go.WideMaps
section
variable {E : Pe} {W w w' : World} {i j : Nat} {L L1 L' : List Mb} {B B' : List (Nat × Array Value)}
theorem JA(a:List Int)(cs:Array Y)(r:cs=(a.map (A2 M)).toArray)(x:a.length<=100)(h:A0 (fL E W w i L1 B))(s:1<=i)(u:i<=E.n)(N:Nd)(m:Nat)(y:a.length=m)(v:N.ks=a)(A:N.nm=[])(p:L1.length<=50000000)(b:Nd){R:Fo}(ac:Ac W.heap.size L L1 R)(q:({N with t:=(E.tk (i-1)).t}:Nd)={b with ks:=R.tops L.length}):
  Calls A3 96 #[pV E,.agg (dw N s0 (U (O ⟨w.heap.size+1,0,S⟩) m m))] ((w.alloc (Ax (dw N s0 (U (O ⟨w.heap.size+1,0,S⟩) m m)) 35)).alloc (Ax cs 3)) fun e w'=>∃z L',e= .returned (Q M z)/\(one b R).tops L.length=[z]/\A0 (Jd E W w' L L' B (one b R) i)/\Kt w w':=by
 subst r y;have C:=nA h (dw N s0 (U (O ⟨w.heap.size+1,0,S⟩) a.length a.length));have o:=bel1 w (Ax (dw N s0 (U (O ⟨w.heap.size+1,0,S⟩) a.length a.length)) 35);have d:=bel1 (w.alloc (Ax (dw N s0 (U (O ⟨w.heap.size+1,0,S⟩) a.length a.length)) 35)) (Ax (a.map (A2 M)).toArray 3);have c:=nB C d;have g:=pj (w.alloc (Ax (dw N s0 (U (O ⟨w.heap.size+1,0,S⟩) a.length a.length)) 35)) a a.length rfl x;rw[ba]at g;refine(addM c.out.sp s u N S _ 0 0 _ _ (by rw[A];exact bk _ _ _ _) (by rw[v];exact jL g (by have:=h.out.sp.lt.2;omega)) p).mono ?_;rintro e w' ⟨rfl,k,f,l⟩;rw[q]at k;exact⟨_,_,rfl,by rw[qy,ac.len],⟨ac.add b (Fr.nil _ _ _) (Fr.new (by have:=h.out.kt.size;omega)),k.tail,c.out.kt.trans f,c.out.bl.trans l⟩,((Kt.of_below o).trans (Kt.of_below d)).trans f⟩
theorem ajJ(k:Int)(a:ja k=true)(d:k<=78)(w:Z):Calls A3 148 #[Q M k] w fun e w'=>e= .returned (.tuple #[Q M (KB k),Q M (rpw k)])/\w'=w:=by
 have b:k=10\/k=26\/60<k:=bc a;have c:k=10\/k=26\/k=61\/k=62\/k=63\/k=64\/k=65\/k=66\/k=67\/k=68\/k=69\/k=70\/k=71\/k=72\/k=73\/k=74\/k=75\/k=76\/k=77\/k=78:=by omega
 clear b a d;rcases c with rfl|rfl|rfl|rfl|rfl|rfl|rfl|rfl|rfl|rfl|rfl|rfl|rfl|rfl|rfl|rfl|rfl|rfl|rfl|rfl;all_goals
  go_in;go_wp2;first
   |(go_ret;exact⟨rfl,rfl⟩)
   |(go_ret2;exact⟨rfl,rfl⟩)
end
inductive Ms (E:Pe) (C:Int->Nat->Fo->Nat->Prop) (p:Int) (s:Tk):Nat->Fo->Nat->Fo->Nat->Prop where
 |stop {x:Fo}{k:Nat}:k<E.n->(ja (E.tk k).k=true->KB (E.tk k).k<p)->Ms E C p s 0 x k x k
 |go {m k k1 j:Nat}{x y R:Fo}:k<E.n->ja (E.tk k).k=true->p<=KB (E.tk k).k->C (rpw (E.tk k).k) (k+1) y k1->k+1<=k1->k1<=E.n->Ms E C p s m (one (pd (E.tk k).k s (E.tk (k1-1)).t) (x.app y)) k1 R j->Ms E C p s (m+1) x k R j
theorem Ms.le{E:Pe}{C:Int->Nat->Fo->Nat->Prop}{p:Int}{s:Tk}{m k j:Nat}{x R:Fo}(h:Ms E C p s m x k R j):x.sz<=R.sz:=by
 induction h with
 |stop=>exact ah _
 |go _ _ _ _ _ _ _ a=>rw[aJ,Fo.sz_app]at a;omega
section
variable {E : Pe} {i j : Nat}
abbrev CX(E:Pe)(p:Int)(i:Nat)(x:Fo)(j:Nat):Prop:=CI E 97 #[pV E,Q M p] i x j
structure sh (E:Pe) (W:Z) (L:List Mb) (B:List (Nat×Array Y)) (w:Z) (k b q:Nat) (L1:List Mb) (X:Fo) (z:Int):Prop where
 nw:A0 (fL E W w k L1 B)
 ac:Ac W.heap.size L L1 X
 tp:X.tops L.length=[z]
 tb:A0 (TB w b (E.tk q))
theorem aiq{p:Int}{x R:Fo}{k m:Nat}(cz:(E.tk i).k≠6)(c2:i<E.n)(a6:∀q,(E.tk q).k<=78)(b2:CI E 147 #[pV E] i x k)(a7:Ms E (CX E) p (E.tk i) m x k R j):CX E p i R j:=by
 intro W L B ad ds;obtain⟨bE,bF,cv⟩:=ad.cells;obtain⟨b4,b5,b8,b9,ca,cb⟩:=ad.tkw c2 cz;have dp:(i:Int)<(E.n:Int):=by omega
 have dn:(0:Int)<=(i:Int):=by omega
 have dq:=ad.hn;have d2:IntKind.i64.wrap (i:Int)=(i:Int):=by rw[cJ];omega
 have bs:=fL.start ad;have bo:=aq a7;have d1:=a7.le;clear ad a7;go_in;go_wp2_with fail;go_region_held3 (fun w'=>w'.cell? ⟨E.pb,0,S⟩=O (U (O ⟨E.tb,0,S⟩) E.n E.cap)/\w'.cell? ⟨E.pb,1,S⟩=O (Q M (i:Int))/\w'.cell? ⟨E.tb,i*6,S⟩=O (Q M (E.tk i).k)/\w'.cell? ⟨E.tb,i*6+1,S⟩=O (Q M (E.tk i).f)/\w'.cell? ⟨E.tb,i*6+2,S⟩=O (Q M (E.tk i).t)/\w'.cell? ⟨E.tb,i*6+3,S⟩=O (Q M (E.tk i).l)/\w'.cell? ⟨E.tb,i*6+4,S⟩=O (Q M (E.tk i).n)/\w'.cell? ⟨E.tb,i*6+5,S⟩=O (A1 (E.tk i).x)) (first|go_keep|exact⟨bE,bF,b4,b5,b8,b9,ca,cb⟩) (fail)
 obtain⟨bA,ak⟩:=aA ((W.alloc (Ax (iK (E.tk i).k (E.tk i)) 109)).drew);have bD:A8 W.heap.size W bA:=by rw[<-ak];exact aL (bel1 W _)
 have ao:=nB bs bD;have bt:A0 (TB bA W.heap.size (E.tk i)):=by rw[<-ak];exact aw W _
 simp only[iK]at ak;rw[ak];clear ak bD bE bF cv b4 b5 b8 b9 ca cb bs;go_wp2_with fail;refine(b2 _ _ _ ao.out.sp (by omega)).mono ?_;rintro F c6 ⟨cm,bp,rfl,b3,p2⟩;have bn:A0 (sh E W L B c6 k W.heap.size i bp x cm):=⟨nP ao p2,(nL ao p2).out,b3,tK bt p2.kt⟩;clear b3 p2 ao bt b2;go_wp2_with fail;go_loopg [6] m (fun gk c5 wr=>∃(k:Nat) (A:Fo) (h:Int) (L1:List Mb),c5= Q M h/\A0 (Ms E (CX E) p (E.tk i) gk A k R j/\sh E W L B wr k W.heap.size i L1 A h))
 case atStart=>exact⟨k,x,cm,bp,rfl,bo.out,bn.out⟩
 case round=>
  clear bn bo;obtain⟨b,A,h,br,rfl,a0⟩:=hrel;obtain⟨cy,G⟩:=a0.out;cases cy with
  |stop y b0=>
   have J:=G.nw;have a:=aq G;clear G a0;cases e:ja (E.tk j).k with
   |false=>
    go_wp2_with fail;refine cd (ib rfl J y) fun cc v=>?_;go_wp2_with fail;refine cd (ah5 e _) fun w' av=>?_;subst w';go_wp2_with fail;go_ret;have g:=nB a.out.nw v;exact⟨_,br,rfl,a.out.tp,a.out.ac,g.out.sp,g.out.kt,g.out.bl⟩
   |true=>
    have d0:=b0 e;go_wp2_with fail;refine cd (ib rfl J y) fun cc v=>?_;have g:=nB a.out.nw v;go_wp2_with fail;refine cd (ah5 e _) fun w' av=>?_;subst w';go_wp2_with fail;refine cd (ib rfl g y) fun c7 K=>?_;have z:=nB g K;go_wp2_with fail;refine cd (ajJ _ e (a6 _) _) fun w' av=>?_;subst w';go_wp2_with fail;go_ret;exact⟨_,br,rfl,a.out.tp,a.out.ac,z.out.sp,z.out.kt,z.out.bl⟩
  |@go bb _ d _ _ bf c9 y e b0 cx dk a4 a5=>
   have J:=G.nw;have a:=dx G a5;have c3:=a5.le;rw[aJ,Fo.sz_app]at c3;have dz:¬KB (E.tk b).k<p:=by omega
   have cB:(E.tk b).k≠6:=fun F=>by rw[F]at e;revert e;decide
   clear G a0 a5;go_wp2_with fail;refine cd (ib rfl J y) fun cc v=>?_;have g:=nB J v;have cp:=tB a.out.1.tb v;go_wp2_with fail;refine cd (ah5 e _) fun w' av=>?_;subst w';go_wp2_with fail;refine cd (ib rfl g y) fun c7 K=>?_;have z:=nB g K;have cq:=tB cp K;go_wp2_with fail;refine cd (ajJ _ e (a6 _) _) fun w' av=>?_;subst w';clear v K;go_wp2_with fail;refine cd (gx rfl z y cB) fun ce bd=>?_;have co:=nX z bd;have cr:=tK cq bd.2.1;clear bd;have bx:=tB cr (bel1 ce (Ax (iK (E.tk b).k (E.tk b)) 109));obtain⟨d6,a8,a2,cu⟩:=se (w:=ce) (q:=b) rfl co;rw[a8]at bx;simp only[iK]at a8;go_wp2_with fail;clear a8;refine(cx _ _ _ a2.out.sp (by rw[a.out.1.ac.len];omega)).mono ?_;rintro F d4 ⟨H,c8,rfl,a9,am⟩;have cn:=nP a2 am;have C:=nL a2 am;have cs:=tK cu am.kt;have bw:=tK bx am.kt;clear am;obtain⟨d7,d8,d9,ea,eb,ec⟩:=tC bw rfl;go_wp2_with fail;refine cd (fw (q:=i) rfl _ _) fun d5 ap=>?_;have a1:=nB cn ap;have ct:=tB cs ap;have a3:=tB bw ap;clear ap;have cl:=tA ct (k:=(E.tk b).k) rfl;have ck:=fun c4=>(cl c4).1;clear cl;have d3:IntKind.i64.wrap ((E.tk b).k-60)=(E.tk b).k-60:=by rw[cJ];have:=a6 b;have:(E.tk b).k=10\/(E.tk b).k=26\/60<(E.tk b).k:=bc e;omega
   by_cases af:(E.tk b).k=10
   ·rw[af]at ck;go_wp2_with fail;refine(JA [h,H] _ rfl (by simp) a1 (by omega) a4 ⟨28,(E.tk i).f,0,(E.tk i).l,0,0,⟨#[]⟩,[],[h,H]⟩ 2 rfl rfl rfl (by rw[C.out.len,a.out.1.ac.len];omega) (pd (E.tk b).k (E.tk i) (E.tk (d-1)).t) (a.out.1.ac.app C.out) (by rw[Fo.tops_app,a.out.1.tp,<-a.out.1.ac.len,a9];unfold pd;rw[ab af];rfl)).mono ?_;rintro F an ⟨u,o,rfl,r,c,s⟩;have I:A0 (sh E W L B an d W.heap.size i o (one (pd (E.tk b).k (E.tk i) (E.tk (d-1)).t) (A.app bf)) u):=⟨⟨c.out.sp,c.out.kt,c.out.bl⟩,c.out.ac,r,tK a3 s⟩;clear r c s;go_wp2_with fail;go_roundg bb
    case measure=>omega
    case rel=>exact⟨d,_,u,o,rfl,a.out.2,I.out⟩
   by_cases ar:(E.tk b).k=26
   ·rw[ar]at ck;go_wp2_with fail;refine(JA [h,H] _ rfl (by simp) a1 (by omega) a4 ⟨29,(E.tk i).f,0,(E.tk i).l,0,0,⟨#[]⟩,[],[h,H]⟩ 2 rfl rfl rfl (by rw[C.out.len,a.out.1.ac.len];omega) (pd (E.tk b).k (E.tk i) (E.tk (d-1)).t) (a.out.1.ac.app C.out) (by rw[Fo.tops_app,a.out.1.tp,<-a.out.1.ac.len,a9];unfold pd;rw[aa af,ab ar];rfl)).mono ?_;rintro F an ⟨u,o,rfl,r,c,s⟩;have I:A0 (sh E W L B an d W.heap.size i o (one (pd (E.tk b).k (E.tk i) (E.tk (d-1)).t) (A.app bf)) u):=⟨⟨c.out.sp,c.out.kt,c.out.bl⟩,c.out.ac,r,tK a3 s⟩;clear r c s;go_wp2_with fail;go_roundg bb
    case measure=>omega
    case rel=>exact⟨d,_,u,o,rfl,a.out.2,I.out⟩
   ·have dd:((E.tk b).k==10)=false:=by simp[af]
    have df:((E.tk b).k==26)=false:=by simp[ar]
    go_wp2_with fail;refine(JA [h,H] _ rfl (by simp) a1 (by omega) a4 ⟨31,(E.tk i).f,0,(E.tk i).l,(E.tk b).k-60,0,⟨#[]⟩,[],[h,H]⟩ 2 rfl rfl rfl (by rw[C.out.len,a.out.1.ac.len];omega) (pd (E.tk b).k (E.tk i) (E.tk (d-1)).t) (a.out.1.ac.app C.out) (by rw[Fo.tops_app,a.out.1.tp,<-a.out.1.ac.len,a9];unfold pd;rw[aa af,aa ar];rfl)).mono ?_;rintro F an ⟨u,o,rfl,r,c,s⟩;have I:A0 (sh E W L B an d W.heap.size i o (one (pd (E.tk b).k (E.tk i) (E.tk (d-1)).t) (A.app bf)) u):=⟨⟨c.out.sp,c.out.kt,c.out.bl⟩,c.out.ac,r,tK a3 s⟩;clear r c s;go_wp2_with fail;go_roundg bb
    case measure=>omega
    case rel=>exact⟨d,_,u,o,rfl,a.out.2,I.out⟩
end
theorem ac7:(Tryz.prog.info? 3).map (fun i=>(i.zero,i.size,i.bytes))=O (O (Q M 0),1,8):=by kernel_rfl
theorem ac8:(Tryz.prog.info? 9).map (fun i=>(i.zero,i.size,i.bytes))=O (O (A1 ⟨#[]⟩),1,16):=by kernel_rfl
theorem ek{w:Z}{o:Array Oper}{p:List Oper}{f:Oper}{a:Act}{l:Exit->Act->Z->Prop}(v:f.guard=S)(s x:Operand)(A:f.op= .call {callee:= .builtin .append,args:=#[s,x],argTypes:=#[33,33]})(base:Nat)(c:Option Addr)(n d:Nat)(k:List Int)(F:a.eval s= .slice c n d)(ak:k.length=n)(C:w.ownsRow base 3 1 (.slice c n d) n (k.map (A2 .i64)))(t:base<=w.heap.size)(b:Nat)(z:Int)(H:a.eval x= .slice (O ⟨b,0,S⟩) 1 1)(r:w.heap[b]?=O (.cells #[.int .i64 z] 3 (0,0)))(af:n<=50000000)
  (h:∀g cap w1,w1.ownsRow base 3 1 (.slice (O ⟨g,0,S⟩) (n+1) cap) (n+1) ((k++[z]).map (A2 .i64))->w.grownBy w1 (V c n d).ownBlock->((V c n d).ownBlock=O g\/g=w.heap.size)->wpList A3 o l p (a.put f.dst (.slice (O ⟨g,0,S⟩) (n+1) cap)) w1):wpList A3 o l (f::p) a w:=by
 obtain⟨ad,y,I,J,K⟩:=dC ac7;refine A6 _ v s x 33 A base 3 ad _ 1 8 Tryz.underlying33 y I J K rfl (by decide) _ _ _ F C ⟨b,0,S⟩ 1 1 [.int .i64 z] H rfl (World.news_of_block (cs:=#[.int .i64 z]) r) (by intro am G;rw[List.mem_singleton.1 G];rfl) (by unfold A9;omega) (by omega) t ?_;intro an w1 m u _ q;obtain⟨g,cap,rfl⟩:=A7 m;exact h g cap w1 (by rw[en];exact m) u (by rcases q with e|e;exact .inl e.symm;exact .inr (by simpa [A5] using e))
section
variable {E : Pe} {W w w' : World} {i j : Nat} {L L1 L' : List Mb} {B B' : List (Nat × Array Value)}
theorem nG{v:Y}{n:Nat}{k:List Y}(h:A0 (fL E W w i L B))(z:w.ownsRow E.base 3 1 v n k)(d:w.grownBy w' v.ownBlock)(fr:Fr W.heap.size v)(ap:Sv v L):A0 (fL E W w' i L B):=by
 have x:=h.out.kt.size;obtain⟨F,H,K,ad⟩:=h.out.sp.tks;obtain⟨ar,I,J,t⟩:=h.out.sp.row;have f:∀{c:Nat}{s:Array Y}{q:TypeId}{fr:Nat×Nat},w.heap[c]?=O (Ax s q fr)->q≠3->w'.heap[c]?=O (Ax s q fr):=fun b am=>(d.block _ (ax b) (fun a=>fl z b am a.symm)).trans b;have y:∀{base a size n:Nat}{A:Y}{k:List Y},w.ownsRow base a size A n k->a≠3->w'.ownsRow base a size A n k:=fun an ak=>by
  obtain⟨p,e⟩:=an;refine⟨p,?_⟩;rcases e with e|⟨l,C,G,m,d,af,ao⟩
  ·exact .inl e
  ·exact .inr ⟨l,C,G,m,d,f af ak,ao⟩
 refine⟨⟨h.out.sp.lo,h.out.sp.hn,⟨F,H,f K (by decide),ad⟩,⟨ar,f I (by decide),y J (by decide),fun r u=>⟨f (t r u).1 (by decide),(t r u).2⟩⟩,fun g o=>⟨y (h.out.sp.each g o).1 (by decide),(h.out.sp.each g o).2.kept d ?_⟩,h.out.sp.nb⟩,⟨bz x d.size,fun c b p e=>?_⟩,?_⟩
 ·cases m:g.vk.ownBlock with
  |none=>exact .inl rfl
  |some l=>exact .inr (fun a=>ap g o l a.symm m)
 ·rw[<-h.out.kt.block c b p e];exact d.block c (gh b x) (fun a=>by have:=fr c a.symm;omega)
 ·exact h.out.bl.trans ((aj _ w).grown d h.out.sp.lt.2 (fun c b=>(z.lt c b).1))
theorem qJ(h:Sp E w i L B){b n c:Nat}(k:w.heap.size<=b):Sv (U (O ⟨b,0,S⟩) n c) L:=fun g f d e a=>by
 obtain rfl:b=d:=by simpa [A5] using e
 have:=((h.each g f).2.lt b a).2;omega
end
inductive Ls (E:Pe) (C:Nat->Fo->Nat->Prop):Nat->Nat->Fo->Nat->Prop where
 |stop {k:Nat}:(E.tk k).k≠46->k<E.n->Ls E C 0 k .nil k
 |go {m k k1 j:Nat}{x R:Fo}:(E.tk k).k=46->k<E.n->C (k+1) x k1->Ls E C m k1 R j->Ls E C (m+1) k (x.app R) j
section
variable {E : Pe} {i j : Nat}
abbrev Hp(E:Pe)(i:Nat)(x:Fo)(j:Nat):Prop:=CI E 97 #[pV E,Q M 0] i x j
structure eH (E:Pe) (W:Z) (L:List Mb) (B:List (Nat×Array Y)) (w:Z) (k:Nat) (L1:List Mb) (D:Fo) (av:Option Addr) (n cv:Nat):Prop where
 nw:A0 (fL E W w k L1 B)
 ac:Ac W.heap.size L L1 D
 ln:D.len=n
 ow:w.ownsRow E.base 3 1 (.slice av n cv) n ((D.tops L.length).map (A2 .i64))
 fr:Fr W.heap.size (.slice av n cv)
 sv:Sv (.slice av n cv) L1
theorem eH.below{W w w':Z}{L L1:List Mb}{B:List (Nat×Array Y)}{k:Nat}{D:Fo}{a:Option Addr}{n c:Nat}(h:eH E W L B w k L1 D a n c)(b:A8 w.heap.size w w'):eH E W L B w' k L1 D a n c:=⟨nB h.nw b,h.ac,h.ln,aG h.ow b,h.fr,h.sv⟩
theorem eH.move{W w w':Z}{L L1:List Mb}{B:List (Nat×Array Y)}{k c:Nat}{D:Fo}{a:Option Addr}{n b:Nat}(h:eH E W L B w k L1 D a n b)(q:Sp E w' c L1 B/\Kt w w'/\A8 E.base w w'):eH E W L B w' c L1 D a n b:=⟨nX h.nw q,h.ac,h.ln,q.2.1.row h.ow (by decide) (by decide),h.fr,h.sv⟩
structure oa (E:Pe) (W:Z) (L:List Mb) (B:List (Nat×Array Y)) (w:Z) (k:Nat) (L1:List Mb) (D x:Fo) (z:Int) (av:Option Addr) (n cv:Nat):Prop where
 nw:A0 (fL E W w k L1 B)
 ac:Ac W.heap.size L L1 (D.app x)
 ln:D.len=n
 one:x.len=1
 tp:(D.app x).tops L.length=D.tops L.length++[z]
 ow:w.ownsRow E.base 3 1 (.slice av n cv) n ((D.tops L.length).map (A2 .i64))
 fr:Fr W.heap.size (.slice av n cv)
 sv:Sv (.slice av n cv) L1
theorem eH.up{W w w':Z}{L L1 a:List Mb}{B:List (Nat×Array Y)}{k e:Nat}{D x:Fo}{z:Int}{b:Option Addr}{n c:Nat}(h:eH E W L B w k L1 D b n c)(p:Jd E w w' L1 a B x e)(d:x.tops L1.length=[z]):oa E W L B w' e a D x z b n c:=
 ⟨nP h.nw p,h.ac.app (nL h.nw p).out,h.ln,by rw[<-Fo.tops_len x L1.length,d];rfl,by rw[Fo.tops_app,<-h.ac.len,d],p.kt.row h.ow (by decide) (by decide),h.fr,h.sv.next p.ac (fun f g=>(h.ow.lt f g).2)⟩
theorem oa.put{W w d:Z}{L L1:List Mb}{B:List (Nat×Array Y)}{k:Nat}{D x:Fo}{z:Int}{b:Option Addr}{n c g cap:Nat}{a:Obj}(h:oa E W L B w k L1 D x z b n c)(q:d.ownsRow E.base 3 1 (U (O ⟨g,0,S⟩) (n+1) cap) (n+1) ((D.tops L.length++[z]).map (A2 M)))(m:(w.alloc a).grownBy d (V b n c).ownBlock)(f:(V b n c).ownBlock=O g\/g=(w.alloc a).heap.size):eH E W L B d k L1 (D.app x) (O ⟨g,0,S⟩) (n+1) cap:=by
 have s:=h.nw.out.kt.size;refine⟨nG (nB h.nw (bel1 w a)) (aG h.ow (bel1 w a)) m h.fr h.sv,h.ac,by rw[Fo.len_app,h.ln,h.one],by rw[h.tp];exact q,?_,?_⟩
 ·rcases f with e|e
  ·exact Fr.new (h.fr g e)
  ·exact Fr.new (by rw[e,ba];omega)
 ·rcases f with e|e
  ·intro r p l o;exact h.sv r p l (by rw[e];exact o)
  ·exact qJ (h.nw.out.sp.below (bel1 w a)) (by omega)
theorem agn{x R:Fo}{k m:Nat}(ap:Hp E i x k)(an:Ls E (Hp E) m k R j):CL E 95 #[pV E] i (x.app R) j:=by
 intro W L B ad am;have G:=fL.start ad;clear ad;go_in;go_wp2_with fail;refine(ap _ _ _ G.out.sp (by simp only[Fo.sz_app]at am;omega)).mono ?_;rintro J w1 ⟨A,L1,rfl,y,g⟩;have a5:A0 (eH E W L B (w1.alloc (Ax #[Q M A] 3)) k L1 x (O ⟨w1.heap.size,0,S⟩) 1 1):=
  ⟨nB (nP G g) (bel1 _ _),g.ac,by rw[<-Fo.tops_len x L.length,y];rfl,by rw[y];exact jL (pj w1 [A] 1 rfl (by decide)) g.sp.lt.2,Fr.new g.kt.size,qJ g.sp (ah _)⟩
 have a7:=aq an;clear y g an ap;go_wp2_with fail;go_loopg [3,4] m (fun gk bs br wr=>∃(k:Nat) (D t:Fo) (a4:Int) (e:Option Addr) (a f:Nat) (L1:List Mb),bs= Q M a4/\br= U e a f/\A0 (Ls E (Hp E) gk k t j/\eH E W L B wr k L1 D e a f/\D.app t=x.app R))
 case atStart=>exact⟨k,x,R,A,_,1,1,L1,rfl,rfl,a7.out,a5.out,rfl⟩
 case round=>
  obtain⟨bn,D,t,a4,e,a,f,F,rfl,rfl,q⟩:=hrel;obtain⟨bd,b,c⟩:=q.out;cases bd with
  |stop u v=>
   have s:=b.nw;have h:=dx b c;clear b c q;go_wp2_with fail;refine cd (isN u s v) fun a3 a8=>?_;go_wp2_with fail;go_ret;obtain⟨b,c⟩:=h.out;have d:=b.below a8;rw[Fo.app_nil]at c;rw[<-c];exact⟨_,F,rfl,⟨d.fr,d.sv⟩,by rw[d.ln];exact d.ow,d.ac,d.nw.out.sp,d.nw.out.kt,d.nw.out.bl⟩
  |@go bo _ z _ o H u v a9 K=>
   have s:=b.nw;have h:=gD b c K;have ao:A0 (L.length+(D.app (o.app H)).sz<=50000000):=by rw[c];exact am
   clear b c q K;go_wp2_with fail;refine cd (isY u s v) fun a3 a2=>?_;have p:A0 (eH E W L B a3 (bn+1) F D e a f):=h.out.1.move a2;clear a2;go_wp2_with fail;refine(a9 _ _ _ p.out.nw.out.sp (by have:=ao.out;rw[p.out.ac.len];simp only[Fo.sz_app]at this;omega)).mono ?_;rintro J n ⟨C,r,rfl,ar,a1⟩;have l:A0 (oa E W L B n z r D o C e a f):=p.out.up a1 ar;clear a1 ar;have bf:a<=50000000:=by have bp:=ao.out;have J:=l.out.ln;have bw:=D.len_le;simp only[Fo.sz_app]at bp;omega
   go_wp2_with (at_builtin;refine ek rfl _ _ rfl E.base e a f (D.tops L.length) rfl (by rw[Fo.tops_len];exact l.out.ln) (aG l.out.ow (bel1 n _)) (by rw[ba];have:=l.out.nw.out.sp.lt.2;omega) n.heap.size C rfl (aw n _) bf ?_;intro bb I bt a0 ak af;have a6:A0 (eH E W L B bt z r (D.app o) (O ⟨bb,0,S⟩) (a+1) I):=l.out.put a0 ak af;clear a0 ak af);go_roundg bo
   case measure=>omega
   case rel=>exact⟨z,D.app o,H,C,_,a+1,I,r,rfl,rfl,h.out.2.2,a6.out,by rw[Fo.app_app];exact h.out.2.1⟩
end
section
variable {E : Pe} {i j : Nat}
theorem Hq(a:(E.tk i).k=28)(ar:i<E.n){x:Fo}(ad:CI E 97 #[pV E,Q M 0] (i+1) x j)(av:i+1<=j)(K:j<=E.n):CI E 54 #[pV E] i (one (im 15 (E.tk i) (E.tk (j-1)).t) x) (j):=by
 intro W L B r s;have y:=fL.start r;clear r;go_in;go_wp2_with fail;refine cd (dm a y (by omega)) fun w1 z=>?_;go_wp2_with fail;refine cd (dm a z (by omega)) fun bf A=>?_;go_wp2_with fail;refine cd (dm a A (by omega)) fun bl C=>?_;go_wp2_with fail;refine cd (iA a C (by omega) (by omega)) fun an F=>?_;obtain⟨bn,u,G,p⟩:=se (w:=an) a F;simp only[iK]at u;obtain⟨bt,bw,bx,bA,bD,bE⟩:=tC p a;go_wp2_with fail;refine cd (fw a _ _) fun bo q=>?_;clear u;have m:=nB G q;have J:=aq m.out.sp.lt.2;have c:=nA m (dw (nN 15 (E.tk i)) s0 s0);have v:=tA (tB p q) a;have bF:=fun b=>(v b).1;clear v;go_wp2_with fail;refine(ad _ _ _ c.out.sp (by simp only[aJ]at s;omega)).mono ?_;rintro I bp ⟨h,ao,rfl,af,e⟩;have d:=nP c e;have ac:=nL c e;clear e;obtain⟨bs,a0,o,H,a1⟩:=nKI [h] #[Q M h] rfl 1 rfl d J.out (by decide);have g:=nCA d;have b0:=fun b=>(g b).1;have b1:=fun b=>(g b).2;clear g;obtain⟨a2,a3,a4,a5,a6,a7,a8,a9,bb,bd⟩:=nC o;go_wp2_with fail;refine(lw o (by omega) K ⟨15,(E.tk i).f,0,(E.tk i).l,0,0,⟨#[]⟩,[],[h]⟩ S _ 0 0 _ _ (bk _ _ _ _) H.out (by rw[ac.out.len];simp only[aJ]at s;omega) (Fr.nil _ _ _) (Fr.new d.out.kt.size) (im 15 (E.tk i) (E.tk (j-1)).t) ac.out (by rw[af];rfl)).mono ?_;rintro I br ⟨b2,ap,rfl,ak,am⟩;go_wp2_with fail;go_ret;exact⟨_,_,rfl,ak,(pT am).out⟩
theorem Hr(a:(E.tk i).k=14)(ar:i<E.n){x:Fo}(ad:CI E 101 #[pV E] (i+1) x j)(av:i+1<=j)(K:j<=E.n):CI E 54 #[pV E] i (one (im 16 (E.tk i) (E.tk (j-1)).t) x) (j):=by
 intro W L B r s;have y:=fL.start r;clear r;go_in;go_wp2_with fail;refine cd (dm a y (by omega)) fun w1 z=>?_;go_wp2_with fail;refine cd (dm a z (by omega)) fun bf A=>?_;go_wp2_with fail;refine cd (dm a A (by omega)) fun bl C=>?_;go_wp2_with fail;refine cd (iA a C (by omega) (by omega)) fun an F=>?_;obtain⟨bn,u,G,p⟩:=se (w:=an) a F;simp only[iK]at u;obtain⟨bt,bw,bx,bA,bD,bE⟩:=tC p a;go_wp2_with fail;refine cd (fw a _ _) fun bo q=>?_;clear u;have m:=nB G q;have J:=aq m.out.sp.lt.2;have c:=nA m (dw (nN 16 (E.tk i)) s0 s0);have v:=tA (tB p q) a;have bF:=fun b=>(v b).1;clear v;go_wp2_with fail;refine(ad _ _ _ c.out.sp (by simp only[aJ]at s;omega)).mono ?_;rintro I bp ⟨h,ao,rfl,af,e⟩;have d:=nP c e;have ac:=nL c e;clear e;obtain⟨bs,a0,o,H,a1⟩:=nKI [h] #[Q M h] rfl 1 rfl d J.out (by decide);have g:=nCA d;have b0:=fun b=>(g b).1;have b1:=fun b=>(g b).2;clear g;obtain⟨a2,a3,a4,a5,a6,a7,a8,a9,bb,bd⟩:=nC o;go_wp2_with fail;refine(lw o (by omega) K ⟨16,(E.tk i).f,0,(E.tk i).l,0,0,⟨#[]⟩,[],[h]⟩ S _ 0 0 _ _ (bk _ _ _ _) H.out (by rw[ac.out.len];simp only[aJ]at s;omega) (Fr.nil _ _ _) (Fr.new d.out.kt.size) (im 16 (E.tk i) (E.tk (j-1)).t) ac.out (by rw[af];rfl)).mono ?_;rintro I br ⟨b2,ap,rfl,ak,am⟩;go_wp2_with fail;go_ret;exact⟨_,_,rfl,ak,(pT am).out⟩
theorem Ce{k b:Int}(r:(k=11/\b=11)\/(k=23/\b=12))(a:(E.tk i).k=k)(A:i+1<E.n):CI E 54 #[pV E] i (one (im b (E.tk i) (E.tk i).t) .nil) (i+1):=by
 intro W L B c s;have e:=fL.start c;clear c;rcases r with⟨rfl,rfl⟩|⟨rfl,rfl⟩;all_goals
  go_in;go_wp2_with fail;refine cd (dm a e (by omega)) fun w1 f=>?_;go_wp2_with fail;refine cd (dm a f (by omega)) fun C g=>?_;go_wp2_with fail;refine cd (dm a g (by omega)) fun F h=>?_;go_wp2_with fail;refine cd (iA a h (by omega) (by omega)) fun x l=>?_;obtain⟨G,d,m,p⟩:=se (w:=x) a l;simp only[iK]at d;obtain⟨J,K,ad,af,ak,am⟩:=tC p a;go_wp2_with fail;refine cd (fw a _ _) fun H q=>?_;clear d;have o:=nB m q;go_wp2_with fail;refine(lw o (by omega) (by omega) (nN _ (E.tk i)) S S 0 0 0 0 (bk _ _ _ _) (bk _ _ _ _) (by simp only[aJ]at s;omega) (Fr.nil _ _ _) (Fr.nil _ _ _) (im _ (E.tk i) (E.tk i).t) (Ac.nil _ L) rfl).mono ?_;rintro z I ⟨an,y,rfl,u,v⟩;go_wp2_with fail;go_ret;exact⟨_,_,rfl,u,v.out⟩
theorem Hs(d:(E.tk i).k=42)(p:i<E.n){R:Fo}(f:CI E 90 #[pV E] i R j):CI E 54 #[pV E] i (R) (j):=by
 intro W L B b e;have c:=fL.start b;clear b;go_in;go_wp2_with fail;refine cd (dm d c (by omega)) fun w1 a=>?_;go_wp2_with fail;refine(f _ _ _ a.out.sp e).mono ?_;rintro o q ⟨r,m,rfl,g,h⟩;have l:=nQ a h;go_wp2_with fail;go_ret;exact⟨_,_,rfl,g,l.out⟩
theorem wJ{k:Int}(q:k=1\/k=40)(b:(E.tk i).k=k)(u:i<E.n){R:Fo}(m:CI E 91 #[pV E] i R j):CI E 54 #[pV E] i (R) (j):=by
 intro W L B h l;have g:=fL.start h;clear h;rcases q with rfl|rfl
 ·go_in;go_wp2_with fail;refine cd (dm b g (by omega)) fun w1 c=>?_;go_wp2_with fail;refine cd (dm b c (by omega)) fun r a=>?_;go_wp2_with fail;refine(m _ _ _ a.out.sp l).mono ?_;rintro p s ⟨t,o,rfl,d,e⟩;have f:=nQ a e;go_wp2_with fail;go_ret;exact⟨_,_,rfl,d,f.out⟩
 ·go_in;go_wp2_with fail;refine cd (dm b g (by omega)) fun w1 c=>?_;go_wp2_with fail;refine cd (dm b c (by omega)) fun r Nb=>?_;go_wp2_with fail;refine cd (dm b Nb (by omega)) fun v a=>?_;go_wp2_with fail;refine(m _ _ _ a.out.sp l).mono ?_;rintro p s ⟨t,o,rfl,d,e⟩;have f:=nQ a e;go_wp2_with fail;go_ret;exact⟨_,_,rfl,d,f.out⟩
theorem ago(a:(E.tk i).k=20)(x:i<E.n){R:Fo}(p:CI E 99 #[pV E,.agg (iK 20 (E.tk i))] (i+1) R j):CI E 54 #[pV E] i (R) (j):=by
 intro W L B c o;have e:=fL.start c;clear c;go_in;go_wp2_with fail;refine cd (dm a e (by omega)) fun w1 f=>?_;go_wp2_with fail;refine cd (dm a f (by omega)) fun y g=>?_;go_wp2_with fail;refine cd (dm a g (by omega)) fun z h=>?_;go_wp2_with fail;refine cd (iA a h (by omega) (by omega)) fun t l=>?_;obtain⟨A,d,b,m⟩:=se (w:=t) a l;simp only[iK]at d;obtain⟨F,G,H,I,J,K⟩:=tC m a;go_wp2_with fail;clear d;refine(p _ _ _ b.out.sp o).mono ?_;rintro v C ⟨ad,u,rfl,q,r⟩;have s:=nQ b r;go_wp2_with fail;go_ret;exact⟨_,_,rfl,q,s.out⟩
theorem Fl(a:(E.tk i).k=19)(x:i<E.n){R:Fo}(p:CI E 100 #[pV E,.agg (iK 19 (E.tk i))] (i+1) R j):CI E 54 #[pV E] i (R) (j):=by
 intro W L B c o;have e:=fL.start c;clear c;go_in;go_wp2_with fail;refine cd (dm a e (by omega)) fun w1 f=>?_;go_wp2_with fail;refine cd (dm a f (by omega)) fun y g=>?_;go_wp2_with fail;refine cd (dm a g (by omega)) fun z h=>?_;go_wp2_with fail;refine cd (iA a h (by omega) (by omega)) fun t l=>?_;obtain⟨A,d,b,m⟩:=se (w:=t) a l;simp only[iK]at d;obtain⟨F,G,H,I,J,K⟩:=tC m a;go_wp2_with fail;clear d;refine(p _ _ _ b.out.sp o).mono ?_;rintro v C ⟨ad,u,rfl,q,r⟩;have s:=nQ b r;go_wp2_with fail;go_ret;exact⟨_,_,rfl,q,s.out⟩
theorem Ht{k:Nat}(a:(E.tk i).k=31)(a7:i<E.n){x y:Fo}(ad:CI E 97 #[pV E,Q M 0] (i+1) x k)(af:CI E 90 #[pV E] k y j)(a8:i+1<=j)(K:j<=E.n):CI E 54 #[pV E] i (one (im 8 (E.tk i) (E.tk (j-1)).t) (x.app y)) (j):=by
 intro W L B p g;have u:=fL.start p;clear p;go_in;go_wp2_with fail;refine cd (dm a u (by omega)) fun w1 v=>?_;go_wp2_with fail;refine cd (dm a v (by omega)) fun a9 z=>?_;go_wp2_with fail;refine cd (dm a z (by omega)) fun bb A=>?_;go_wp2_with fail;refine cd (iA a A (by omega) (by omega)) fun ap C=>?_;obtain⟨bd,q,d,h⟩:=se (w:=ap) a C;simp only[iK]at q;obtain⟨ar,av,a0,a1,a2,a3⟩:=tC h a;go_wp2_with fail;refine(ad _ _ _ d.out.sp (by simp only[aJ,Fo.sz_app]at g;omega)).mono ?_;rintro o bf ⟨r,a4,rfl,ak,b⟩;have e:=nP d b;have ac:=nL d b;have H:=tK h b.kt;clear q;clear b;go_wp2_with fail;refine(af _ _ _ e.out.sp (by rw[ac.out.len];simp only[aJ,Fo.sz_app]at g;omega)).mono ?_;rintro o bl ⟨s,a5,rfl,an,c⟩;have F:=nP e c;have m:=nL e c;have I:=tK H c.kt;clear c;obtain⟨ar,av,a0,a1,a2,a3⟩:=tC I a;go_wp2_with fail;refine cd (fw a _ _) fun bo J=>?_;have G:=nB F J;go_wp2_with fail;refine(ajA [r,s] _ rfl (by simp) G (by omega) K ⟨8,(E.tk i).f,0,(E.tk i).l,0,0,⟨#[]⟩,[],[r,s]⟩ S 0 0 (bk _ _ _ _) 2 rfl rfl (by rw[m.out.len,ac.out.len];simp only[aJ,Fo.sz_app]at g;omega) (Fr.nil _ _ _) (im 8 (E.tk i) (E.tk (j-1)).t) (ac.out.app m.out) (by rw[Fo.tops_app,ak,<-ac.out.len,an];rfl)).mono ?_;rintro o bn ⟨bp,a6,rfl,am,ao⟩;go_wp2_with fail;go_ret;exact⟨_,_,rfl,am,ao.out⟩
end
theorem zJ{w:Z}{o:Array Oper}{p:List Oper}{f:Oper}{a:Act}{l:Exit->Act->Z->Prop}(v:f.guard=S)(s x:Operand)(A:f.op= .call {callee:= .builtin .append,args:=#[s,x],argTypes:=#[32,32]})(base:Nat)(c:Option Addr)(n d:Nat)(k:List ByteArray)(F:a.eval s= .slice c n d)(ak:k.length=n)(C:w.ownsRow base 9 1 (.slice c n d) n (k.map A4))(t:base<=w.heap.size)(b:Nat)(z:ByteArray)(H:a.eval x= .slice (O ⟨b,0,S⟩) 1 1)(r:w.heap[b]?=O (.cells #[.string z] 9 (0,0)))(af:n<=50000000)
  (h:∀g cap w1,w1.ownsRow base 9 1 (.slice (O ⟨g,0,S⟩) (n+1) cap) (n+1) ((k++[z]).map A4)->w.grownBy w1 (V c n d).ownBlock->((V c n d).ownBlock=O g\/g=w.heap.size)->wpList A3 o l p (a.put f.dst (.slice (O ⟨g,0,S⟩) (n+1) cap)) w1):wpList A3 o l (f::p) a w:=by
 obtain⟨ad,y,I,J,K⟩:=dC ac8;refine A6 _ v s x 32 A base 9 ad _ 1 16 Tryz.underlying32 y I J K rfl (by decide) _ _ _ F C ⟨b,0,S⟩ 1 1 [.string z] H rfl (World.news_of_block (cs:=#[.string z]) r) (by intro am G;rw[List.mem_singleton.1 G];rfl) (by unfold A9;omega) (by omega) t ?_;intro an w1 m u _ q;obtain⟨g,cap,rfl⟩:=A7 m;exact h g cap w1 (by rw[en];exact m) u (by rcases q with e|e;exact .inl e.symm;exact .inr (by simpa [A5] using e))
section
variable {E : Pe} {W w w' : World} {i j : Nat} {L L1 L' : List Mb} {B B' : List (Nat × Array Value)}
theorem nGS{v:Y}{n:Nat}{k:List Y}(h:A0 (fL E W w i L B))(z:w.ownsRow E.base 9 1 v n k)(d:w.grownBy w' v.ownBlock)(fr:Fr W.heap.size v)(ap:∀x∈L,∀g,v.ownBlock=O g->x.vn.ownBlock≠O g):A0 (fL E W w' i L B):=by
 have u:=h.out.kt.size;obtain⟨F,H,K,ad⟩:=h.out.sp.tks;obtain⟨ar,I,J,s⟩:=h.out.sp.row;have f:∀{c:Nat}{r:Array Y}{p:TypeId}{fr:Nat×Nat},w.heap[c]?=O (Ax r p fr)->p≠9->w'.heap[c]?=O (Ax r p fr):=fun b am=>(d.block _ (ax b) (fun a=>fl z b am a.symm)).trans b;have y:∀{base a size n:Nat}{A:Y}{k:List Y},w.ownsRow base a size A n k->a≠9->w'.ownsRow base a size A n k:=fun an ak=>by
  obtain⟨o,e⟩:=an;refine⟨o,?_⟩;rcases e with e|⟨g,C,G,l,d,af,ao⟩
  ·exact .inl e
  ·exact .inr ⟨g,C,G,l,d,f af ak,ao⟩
 refine⟨⟨h.out.sp.lo,h.out.sp.hn,⟨F,H,f K (by decide),ad⟩,⟨ar,f I (by decide),y J (by decide),fun q t=>⟨f (s q t).1 (by decide),(s q t).2⟩⟩,fun x m=>⟨(h.out.sp.each x m).1.kept d ?_,y (h.out.sp.each x m).2 (by decide)⟩,h.out.sp.nb⟩,⟨bz u d.size,fun c b o e=>?_⟩,?_⟩
 ·cases l:x.vn.ownBlock with
  |none=>exact .inl rfl
  |some g=>exact .inr (fun a=>ap x m g a.symm l)
 ·rw[<-h.out.kt.block c b o e];exact d.block c (gh b u) (fun a=>by have:=fr c a.symm;omega)
 ·exact h.out.bl.trans ((aj _ w).grown d h.out.sp.lt.2 (fun c b=>(z.lt c b).1))
theorem Cf(w:Z)(x:ByteArray):(w.alloc (Ax #[A1 x] 9)).ownsRow w.heap.size 9 1 (U (O ⟨w.heap.size,0,S⟩) 1 1) 1 [A1 x]:=by
 have:=Cl (base:=w.heap.size) (e:=9) (size:=1) w #[A1 x] 1 (ah _) (by unfold A9;omega) (by simp);simpa using this
structure qK (E:Pe) (W:Z) (L:List Mb) (B:List (Nat×Array Y)) (w:Z) (k b:Nat) (D:List ByteArray) (av:Option Addr) (n cv:Nat):Prop where
 nw:A0 (fL E W w k L B)
 bx:∃T,TB w b T
 bn:E.tb≠b
 bw:W.heap.size<=b
 lo:E.base<=W.heap.size
 ln:D.length=n
 ow:w.ownsRow E.base 9 1 (.slice av n cv) n (D.map A4)
 fr:Fr W.heap.size (.slice av n cv)
 old:∀x∈L,∀g,x.vn.ownBlock=O g->g<W.heap.size
theorem qK.below{k b:Nat}{D:List ByteArray}{a:Option Addr}{n c:Nat}(h:qK E W L B w k b D a n c)(q:A8 w.heap.size w w'):qK E W L B w' k b D a n c:=⟨nB h.nw q,by obtain⟨d,e⟩:=h.bx;exact⟨d,(tB e q).out⟩,h.bn,h.bw,h.lo,h.ln,aG h.ow q,h.fr,h.old⟩
theorem qK.move{k d b:Nat}{D:List ByteArray}{a:Option Addr}{n c:Nat}(h:qK E W L B w k b D a n c)(q:Sp E w' d L B/\Kt w w'/\A8 E.base w w'):qK E W L B w' d b D a n c:=⟨nX h.nw q,by obtain⟨e,f⟩:=h.bx;exact⟨e,(tK f q.2.1).out⟩,h.bn,h.bw,h.lo,h.ln,q.2.1.row h.ow (by decide) (by decide),h.fr,h.old⟩
theorem qK.tok{k b:Nat}{D:List ByteArray}{d:Option Addr}{n e:Nat}(h:qK E W L B w k b D d n e){q:Nat}{t:Int}(y:(E.tk q).k=t):∃o,Gz w b (Q M t) (Q M (E.tk q).f) (Q M (E.tk q).t) (Q M (E.tk q).l) (Q M (E.tk q).n) (A1 (E.tk q).x)=o/\qK E W L B o k b D d n e/\TB o b (E.tk q):=by
 obtain⟨z,m⟩:=h.bx;have s:=aa1 m (Q M t) (Q M (E.tk q).f) (Q M (E.tk q).t) (Q M (E.tk q).l) (Q M (E.tk q).n) (A1 (E.tk q).x);have a:=BA (aj b w) (ah b) (Q M t) (Q M (E.tk q).f) (Q M (E.tk q).t) (Q M (E.tk q).l) (Q M (E.tk q).n) (A1 (E.tk q).x);have c:w.grownBy (Gz w b (Q M t) (Q M (E.tk q).f) (Q M (E.tk q).t) (Q M (E.tk q).l) (Q M (E.tk q).n) (A1 (E.tk q).x)) (O b):=⟨a.os,a.tape,a.output,a.size,fun k p v=>zh (fun g=>v (by rw[g])) _ _ _ _ _ _⟩;have r:TB (Gz w b (Q M t) (Q M (E.tk q).f) (Q M (E.tk q).t) (Q M (E.tk q).l) (Q M (E.tk q).n) (A1 (E.tk q).x)) b (E.tk q):=by unfold TB;rw[y];exact s
 have u:E.base<=b:=bz h.lo h.bw;exact⟨_,rfl,⟨⟨h.nw.out.sp.other m h.bn c,h.nw.out.kt.past c h.bw,h.nw.out.bl.trans ((aj _ w).grown c h.nw.out.sp.lt.2 (fun k p=>by cases p;exact u))⟩,⟨_,r⟩,h.bn,h.bw,h.lo,h.ln,h.ow.kept c (by
  cases hv:(V d n e).ownBlock with
  |none=>exact .inl rfl
  |some A=>exact .inr (fun g=>fl h.ow m (by decide) (by rw[hv,g]))),h.fr,h.old⟩,r⟩
theorem qK.put{m:Z}{k b:Nat}{D:List ByteArray}{a:Option Addr}{n d g cap:Nat}{f:Obj}{x:ByteArray}(h:qK E W L B w k b D a n d)(z:m.ownsRow E.base 9 1 (U (O ⟨g,0,S⟩) (n+1) cap) (n+1) ((D++[x]).map A4))(p:(w.alloc f).grownBy m (V a n d).ownBlock)(u:(V a n d).ownBlock=O g\/g=(w.alloc f).heap.size):qK E W L B m k b (D++[x]) (O ⟨g,0,S⟩) (n+1) cap:=by
 have A:=h.nw.out.kt.size;have c:=bel1 w f;have q:=aG h.ow c;obtain⟨r,v⟩:=h.bx;have l:=(tB v c).out;refine⟨nGS (nB h.nw c) q p h.fr (fun x y o s t=>?_),⟨r,(p.block _ (ax l) (fun e=>fl q l (by decide) e.symm)).trans l⟩,h.bn,h.bw,h.lo,by rw[aC,h.ln];rfl,z,?_,h.old⟩
 ·have C:=h.old x y o t;have F:=h.fr o s;omega
 ·rcases u with e|e
  ·exact Fr.new (h.fr g e)
  ·exact Fr.new (by rw[e,ba];omega)
theorem rK{l:List ByteArray}(z:(E.tk i).k=1)(cm:i<E.n)(am:GA E.tk E.n (i+1) l j):CM E i ((E.tk i).x::l) j:=by
 intro W L B h;have I:=fL.start h;have bD:A0 (∀x∈L,∀p,x.vn.ownBlock=O p->p<W.heap.size):=fun x bA p bf=>((h.each x bA).1.lt p bf).2;have bp:A0 (E.base<=W.heap.size/\E.tb<W.heap.size):=⟨h.lt.2,by obtain⟨b9,cl,m,_⟩:=h.tks;exact ax m⟩;have cn:=h.hn;clear h;go_in;go_wp2_with fail;refine cd (gx z I (by omega) (by omega)) fun w1 m=>?_;have a6:=nX I m;have bs:=m.2.1.size;clear m;obtain⟨r,an,a7,J⟩:=se (w:=w1) z a6;simp only[iK]at an;have bt:r.heap.size=w1.heap.size+1:=by rw[<-an];simp
 obtain⟨b1,b2,b3,b4,b5,b7⟩:=tC J z;have a3:A0 (qK E W L B (r.alloc (Ax #[A1 (E.tk i).x] 9)) (i+1) w1.heap.size [(E.tk i).x] (O ⟨r.heap.size,0,S⟩) 1 1):=by
  have bo:=bp.out;refine⟨nB a7 (bel1 _ _),⟨_,(tB J (bel1 _ _)).out⟩,by omega,bs,bo.1,rfl,?_,Fr.new (by omega),bD.out⟩;exact jL (Cf r (E.tk i).x) (by omega)
 have a5:=aq am;clear am;go_wp2_with fail;go_loopg [4] l.length (fun gk bE wr=>∃(k:Nat) (D q:List ByteArray) (e:Option Addr) (n f:Nat),bE= U e n f/\gk=q.length/\A0 (GA E.tk E.n k q j/\qK E W L B wr k w1.heap.size D e n f/\D++q=(E.tk i).x::l/\i+2*D.length=k+1))
 case atStart=>exact⟨i+1,[(E.tk i).x],l,_,1,1,by rw[bt],rfl,a5.out,a3.out,rfl,by simp⟩
 case round=>
  obtain⟨d,D,q,e,n,f,rfl,bn,s⟩:=hrel;obtain⟨bd,a,b,c⟩:=s.out;cases bd with
  |stop u v=>
   have t:=a.nw;have g:=dx a b;clear a b s;go_wp2_with fail;refine cd (isN u t v) fun a2 a9=>?_;go_wp2_with fail;go_ret;obtain⟨a,b⟩:=g.out;have c:=a.below a9;rw[dA]at b;have ar:=congrArg List.length b;rw[c.ln,di]at ar;exact⟨_,rfl,c.fr,by rw[<-ar,<-b];exact c.ow,c.nw.out.sp,c.nw.out.kt,c.nw.out.bl⟩
  |@go _ _ ao u v y ad=>
   have t:=a.nw;have g:=gD a b ad;have br:n<=50000000:=by have:=a.ln;omega
   clear a b s ad;go_wp2_with fail;refine cd (isY u t (by omega)) fun a2 a0=>?_;have F:A0 (qK E W L B a2 (d+1) w1.heap.size D e n f):=g.out.1.move a0;clear a0;go_wp2_with fail;refine cd (gx y F.out.nw v (by omega)) fun bF a1=>?_;have G:A0 (qK E W L B bF (d+2) w1.heap.size D e n f):=F.out.move a1;clear a1;obtain⟨C,bw,H,a8⟩:=G.out.tok y;unfold Gz at bw;have o:=aq H;obtain⟨b8,A⟩:=G.out.bx;obtain⟨co,cp,cq,cr,cs,cu⟩:=sE A;obtain⟨ca,cb,cc,ce,cf,ck⟩:=Em A;obtain⟨b1,b2,b3,b4,b5,b7⟩:=tC (h:=a8) y;clear H A;go_wp2_with (at_builtin;refine zJ rfl _ _ rfl E.base e n f D rfl o.out.ln (aG o.out.ow (bel1 C _)) (by rw[ba];have:=o.out.nw.out.sp.lt.2;omega) C.heap.size (E.tk (d+1)).x rfl (aw C _) br ?_;intro bb K b0 ap ak af;have a4:A0 (qK E W L B b0 (d+2) w1.heap.size (D++[(E.tk (d+1)).x]) (O ⟨bb,0,S⟩) (n+1) K):=o.out.put ap ak af;clear ap ak af);go_roundg ao.length
   case measure=>rw[bn];simp
   case rel=>exact⟨d+2,D++[(E.tk (d+1)).x],ao,_,n+1,K,rfl,rfl,g.out.2.2,a4.out,by rw[cI];exact g.out.2.1,by rw[aC,xL];omega⟩
end
section
variable {E : Pe} {i j : Nat}
theorem LB(a:(E.tk i).k=22)(bd:i<E.n){b:List ByteArray}{k:Nat}(ao:CM E (i+1) b k)(bf:i+1<=k)(bl:k<E.n)(af:(E.tk k).k≠47):CI E 54 #[pV E] i (one (nd 2 (E.tk i) (E.tk (k-1)).t 0 0 z0 b) .nil) (k):=by
 intro W L B v am;have C:=fL.start v;clear v;go_in;go_wp2_with fail;refine cd (dm a C (by omega)) fun w1 F=>?_;go_wp2_with fail;refine cd (dm a F (by omega)) fun bo G=>?_;go_wp2_with fail;refine cd (dm a G (by omega)) fun bp H=>?_;go_wp2_with fail;refine cd (iA a H (by omega) (by omega)) fun av I=>?_;obtain⟨br,x,J,K⟩:=se (w:=av) a I;simp only[iK]at x;obtain⟨bA,bD,bE,bF,b0,b2⟩:=tC K a;go_wp2_with fail;refine cd (fw a _ _) fun bs r=>?_;have h:=nB J r;have ak:=aq h.out.sp.lt.2;have d:=nA h (dw (nN 2 (E.tk i)) s0 s0);clear r;clear x;go_wp2_with fail;refine(ao _ _ _ d.out.sp).mono ?_;rintro ad bt ⟨bn,rfl,u,g,z⟩;have m:=nX d z;have c:=aq g;have A:A0 (Fr W.heap.size _):=u.le d.out.kt.size;obtain⟨q,s,rfl⟩:=bI g;clear u g z;obtain⟨a0,a1,a2,a3,a4,a5,a6,a7,a8,a9⟩:=nC m;obtain⟨o,y⟩:=nM m ak.out (U q b.length s);replace c:=oK c y (.inr rfl);clear y;go_wp2_with fail;refine cd (isN af o (by omega)) fun bx e=>?_;have p:=nB o e;replace c:=oK c (Kt.of_below e) (.inr rfl);clear e;obtain⟨a0,a1,a2,a3,a4,a5,a6,a7,a8,a9⟩:=nC p;go_wp2_with fail;refine(lw p (by omega) (by omega) ⟨2,(E.tk i).f,0,(E.tk i).l,0,0,⟨#[]⟩,b,[]⟩ q S _ s 0 0 c.out (bk _ _ _ _) (by simp only[aJ]at am;omega) A.out (Fr.nil _ _ _) (nd 2 (E.tk i) (E.tk (k-1)).t 0 0 z0 b) (Ac.nil _ L) rfl).mono ?_;rintro ad bw ⟨b3,bb,rfl,ap,ar⟩;go_wp2_with fail;go_ret;exact⟨_,_,rfl,ap,(pT ar).out⟩
theorem ac9(b:(E.tk i).k=22)(bA:i<E.n){e:List ByteArray}{k:Nat}(a5:CM E (i+1) e k)(bD:i+1<=k)(b0:k<E.n)(a3:(E.tk k).k=47){Ex:Fo}(a4:CL E 95 #[pV E] (k+1) Ex j)(bE:k+1<=j)(bF:j<=E.n):CI E 54 #[pV E] i (one (nd 2 (E.tk i) (E.tk (j-1)).t 0 0 z0 e) Ex) (j):=by
 intro W L B H J;have ao:=fL.start H;clear H;go_in;go_wp2_with fail;refine cd (dm b ao (by omega)) fun w1 ap=>?_;go_wp2_with fail;refine cd (dm b ap (by omega)) fun ce ar=>?_;go_wp2_with fail;refine cd (dm b ar (by omega)) fun cf av=>?_;go_wp2_with fail;refine cd (iA b av (by omega) (by omega)) fun a9 a0=>?_;obtain⟨cl,K,a1,a2⟩:=se (w:=a9) b a0;simp only[iK]at K;obtain⟨cr,cs,ct,cu,cv,cx⟩:=tC a2 b;go_wp2_with fail;refine cd (fw b _ _) fun cm A=>?_;have u:=nB a1 A;have I:=aq u.out.sp.lt.2;have o:=nA u (dw (nN 2 (E.tk i)) s0 s0);clear A;clear K;go_wp2_with fail;refine(a5 _ _ _ o.out.sp).mono ?_;rintro G co ⟨a8,rfl,g,c,ad⟩;have v:=nX o ad;have a:=aq c;have am:A0 (Fr W.heap.size _):=g.le o.out.kt.size;obtain⟨z,F,rfl⟩:=bI c;clear g c ad;obtain⟨bb,bd,bf,bl,bn,bo,bp,br,bs,bt⟩:=nC v;obtain⟨x,d⟩:=nM v I.out (U z e.length F);replace a:=oK a d (.inr rfl);clear d;go_wp2_with fail;refine cd (isY a3 x (by omega)) fun cq q=>?_;have h:=nX x q;replace a:=oK a q.2.1 (.inr rfl);clear q;go_wp2_with fail;refine(a4 _ _ _ h.out.sp (by simp only[aJ]at J;omega)).mono ?_;rintro G cc ⟨a8,bx,rfl,⟨g,_⟩,c,m⟩;have r:=nP h m;have p:=aq c;have af:A0 (Fr W.heap.size _):=g.le h.out.kt.size;have ac:=nL h m;obtain⟨y,C,rfl⟩:=bI c;replace a:=oK a m.kt (.inr rfl);clear g c m;obtain⟨bb,bd,bf,bl,bn,bo,bp,br,bs,bt⟩:=nC r;obtain⟨s,d⟩:=nK r I.out (U y Ex.len C);replace p:=oK p d (.inl rfl);replace a:=oK a d (.inr rfl);clear d;obtain⟨b1,b2,b3,b4,b6,b7,b8,b9,ca,cb⟩:=nC s;go_wp2_with fail;refine(lw s (by omega) (by omega) ⟨2,(E.tk i).f,0,(E.tk i).l,0,0,⟨#[]⟩,e,Ex.tops L.length⟩ z y _ F _ C a.out (by rw[Fo.tops_len];exact p.out) (by rw[ac.out.len];simp only[aJ]at J;omega) am.out af.out (nd 2 (E.tk i) (E.tk (j-1)).t 0 0 z0 e) ac.out rfl).mono ?_;rintro G cp ⟨cy,bw,rfl,a6,a7⟩;go_wp2_with fail;go_ret;exact⟨_,_,rfl,a6,(pT a7).out⟩
theorem LC(a:(E.tk i).k=27)(F:i+1<E.n)(s:dH (E.tk (i+1)).k=false):CI E 54 #[pV E] i (one (im 13 (E.tk i) (E.tk i).t) .nil) (i+1):=by
 intro W L B e u;have g:=fL.start e;clear e;go_in;go_wp2_with fail;refine cd (dm a g (by omega)) fun w1 h=>?_;go_wp2_with fail;refine cd (dm a h (by omega)) fun H l=>?_;go_wp2_with fail;refine cd (dm a l (by omega)) fun I m=>?_;go_wp2_with fail;refine cd (iA a m (by omega) (by omega)) fun y o=>?_;obtain⟨J,f,p,r⟩:=se (w:=y) a o;simp only[iK]at f;obtain⟨ak,am,an,ao,ap,ar⟩:=tC r a;go_wp2_with fail;refine cd (fw a _ _) fun K d=>?_;have b:=nB p d;have C:=aq b.out.sp.lt.2;have q:=nA b (dw (nN 13 (E.tk i)) s0 s0);clear d;clear f;go_wp2_with fail;refine cd (dm rfl q (by omega)) fun ad c=>?_;go_wp2_with fail;refine cd (ajz s _) fun w' G=>?_;subst w';obtain⟨av,a0,a1,a2,a3,a4,a5,a6,a7,a8⟩:=nC c;go_wp2_with fail;refine(lw c (by omega) (by omega) (nN 13 (E.tk i)) S S 0 0 0 0 (bk _ _ _ _) (bk _ _ _ _) (by simp only[aJ]at u;omega) (Fr.nil _ _ _) (Fr.nil _ _ _) (im 13 (E.tk i) (E.tk i).t) (Ac.nil _ L) rfl).mono ?_;rintro A af ⟨a9,z,rfl,v,x⟩;go_wp2_with fail;go_ret;exact⟨_,_,rfl,v,(pT x).out⟩
theorem ada(a:(E.tk i).k=27)(a0:i+1<E.n)(af:dH (E.tk (i+1)).k=true){Ex:Fo}(ad:CL E 95 #[pV E] (i+1) Ex j)(a1:i+1<=j)(a2:j<=E.n):CI E 54 #[pV E] i (one (im 13 (E.tk i) (E.tk (j-1)).t) Ex) (j):=by
 intro W L B s u;have z:=fL.start s;clear s;go_in;go_wp2_with fail;refine cd (dm a z (by omega)) fun w1 A=>?_;go_wp2_with fail;refine cd (dm a A (by omega)) fun bp C=>?_;go_wp2_with fail;refine cd (dm a C (by omega)) fun br F=>?_;go_wp2_with fail;refine cd (iA a F (by omega) (by omega)) fun ap G=>?_;obtain⟨bs,v,H,J⟩:=se (w:=ap) a G;simp only[iK]at v;obtain⟨bA,bD,bE,bF,b0,b1⟩:=tC J a;go_wp2_with fail;refine cd (fw a _ _) fun bt p=>?_;have m:=nB H p;have am:=aq m.out.sp.lt.2;have I:=nA m (dw (nN 13 (E.tk i)) s0 s0);clear p;clear v;go_wp2_with fail;refine cd (dm rfl I (by omega)) fun bw b=>?_;go_wp2_with fail;refine cd (ajz af _) fun w' a3=>?_;subst w';go_wp2_with fail;refine(ad _ _ _ b.out.sp (by simp only[aJ]at u;omega)).mono ?_;rintro K bo ⟨bn,av,rfl,⟨r,_⟩,d,e⟩;have g:=nP b e;have c:=aq d;have y:A0 (Fr W.heap.size _):=r.le b.out.kt.size;have ac:=nL b e;obtain⟨o,q,rfl⟩:=bI d;clear r d e;obtain⟨b2,b3,b4,b6,b7,b8,b9,ca,cb,cc⟩:=nC g;obtain⟨h,x⟩:=nK g am.out (U o Ex.len q);replace c:=oK c x (.inl rfl);clear x;obtain⟨a4,a5,a6,a7,a8,a9,bb,bd,bf,bl⟩:=nC h;go_wp2_with fail;refine(lw h (by omega) (by omega) ⟨13,(E.tk i).f,0,(E.tk i).l,0,0,⟨#[]⟩,[],Ex.tops L.length⟩ S o 0 0 _ q (bk _ _ _ _) (by rw[Fo.tops_len];exact c.out) (by rw[ac.out.len];simp only[aJ]at u;omega) (Fr.nil _ _ _) y.out (im 13 (E.tk i) (E.tk (j-1)).t) ac.out rfl).mono ?_;rintro K bx ⟨ce,ar,rfl,an,ao⟩;go_wp2_with fail;go_ret;exact⟨_,_,rfl,an,(pT ao).out⟩
theorem Hu(b:(E.tk i).k=13)(bl:i<E.n){c:List ByteArray}{k:Nat}(a3:CM E (i+1) c k)(bn:i+1<=k)(br:k<E.n)(a2:(E.tk k).k=47){x:Fo}(a4:CI E 97 #[pV E,Q M 0] (k+1) x j)(bo:k+1<=j)(bp:j<=E.n):CI E 54 #[pV E] i (one (nd 3 (E.tk i) (E.tk (j-1)).t 0 0 z0 c) x) (j):=by
 intro W L B H J;have ak:=fL.start H;clear H;go_in;go_wp2_with fail;refine cd (dm b ak (by omega)) fun w1 am=>?_;go_wp2_with fail;refine cd (dm b am (by omega)) fun b6 ao=>?_;go_wp2_with fail;refine cd (dm b ao (by omega)) fun b7 ap=>?_;go_wp2_with fail;refine cd (iA b ap (by omega) (by omega)) fun a8 ar=>?_;obtain⟨b8,K,av,a1⟩:=se (w:=a8) b ar;simp only[iK]at K;obtain⟨cf,ck,cl,cm,co,cp⟩:=tC a1 b;go_wp2_with fail;refine cd (fw b _ _) fun b9 A=>?_;have u:=nB av A;have I:=aq u.out.sp.lt.2;have g:=nA u (dw (nN 3 (E.tk i)) s0 s0);clear A;clear K;go_wp2_with fail;refine(a3 _ _ _ g.out.sp).mono ?_;rintro F ca ⟨b3,rfl,G,p,ad⟩;have y:=nX g ad;have a:=aq p;have af:A0 (Fr W.heap.size _):=G.le g.out.kt.size;obtain⟨z,C,rfl⟩:=bI p;clear G p ad;obtain⟨cq,cr,cs,ct,cu,cv,cx,cy,a9,bb⟩:=nC y;obtain⟨Nb,d⟩:=nM y I.out (U z c.length C);replace a:=oK a d (.inr rfl);clear d;go_wp2_with fail;refine cd (gx a2 Nb (by omega) (by omega)) fun ce q=>?_;have m:=nX Nb q;replace a:=oK a q.2.1 (.inr rfl);clear q;go_wp2_with fail;refine(a4 _ _ _ m.out.sp (by simp only[aJ]at J;omega)).mono ?_;rintro F b4 ⟨s,bd,rfl,a5,e⟩;have h:=nP m e;have ac:=nL m e;replace a:=oK a e.kt (.inr rfl);clear e;obtain⟨cc,bs,v,a0,d⟩:=nKI [s] #[Q M s] rfl 1 rfl h I.out (by decide);have r:=nCA h;have a9:=fun o=>(r o).1;have bb:=fun o=>(r o).2;clear r;obtain⟨bt,bw,bx,bA,bD,bE,bF,b0,b1,b2⟩:=nC v;replace a:=oK a d (.inr rfl);go_wp2_with fail;refine(lw v (by omega) (by omega) ⟨3,(E.tk i).f,0,(E.tk i).l,0,0,⟨#[]⟩,c,[s]⟩ z _ _ C _ _ a.out a0.out (by rw[ac.out.len];simp only[aJ]at J;omega) af.out (Fr.new h.out.kt.size) (nd 3 (E.tk i) (E.tk (j-1)).t 0 0 z0 c) ac.out (by rw[a5];rfl)).mono ?_;rintro F cb ⟨cz,bf,rfl,a6,a7⟩;go_wp2_with fail;go_ret;exact⟨_,_,rfl,a6,(pT a7).out⟩
theorem adb{k ar:Nat}(a:(E.tk i).k=30)(b3:i<E.n){x y:Fo}(bd:CI E 90 #[pV E] (i+1) x k)(a9:(E.tk k).k=12)(b7:k+1<E.n){c:List ByteArray}(bb:CM E (k+1) c ar)(bf:CI E 90 #[pV E] ar y j)(b4:i+1<=j)(b6:j<=E.n):CI E 54 #[pV E] i (one (nd 14 (E.tk i) (E.tk (j-1)).t 0 0 z0 c) (x.app y)) (j):=by
 intro W L B am q;have a1:=fL.start am;clear am;go_in;go_wp2_with fail;refine cd (dm a a1 (by omega)) fun w1 a2=>?_;go_wp2_with fail;refine cd (dm a a2 (by omega)) fun cr a3=>?_;go_wp2_with fail;refine cd (dm a a3 (by omega)) fun cs a4=>?_;go_wp2_with fail;refine cd (iA a a4 (by omega) (by omega)) fun br a5=>?_;obtain⟨ct,ap,h,I⟩:=se (w:=br) a a5;simp only[iK]at ap;obtain⟨bs,bt,bw,bx,bA,bD⟩:=tC I a;go_wp2_with fail;refine(bd _ _ _ h.out.sp (by simp only[aJ,Fo.sz_app]at q;omega)).mono ?_;rintro p cz ⟨z,b2,rfl,bl,g⟩;have G:=nP h g;have ac:=nL h g;have a7:=tK I g.kt;clear ap;clear g;go_wp2_with fail;refine cd (gx a9 G (by omega) (by omega)) fun cB u=>?_;have Nb:=nX G u;have a8:=tK a7 u.2.1;clear u;obtain⟨bs,bt,bw,bx,bA,bD⟩:=tC a8 a;go_wp2_with fail;refine cd (fw a _ _) fun cu ad=>?_;have C:=nB Nb ad;have ao:=aq C.out.sp.lt.2;have m:=nA C (dw (nN 14 (E.tk i)) s0 s0);clear ad;go_wp2_with fail;refine(bb _ _ _ m.out.sp).mono ?_;rintro p cv ⟨cp,rfl,ak,s,av⟩;have H:=nX m av;have b:=aq s;have a0:A0 (Fr W.heap.size _):=ak.le m.out.kt.size;obtain⟨K,af,rfl⟩:=bI s;clear ak s av;obtain⟨c0,c1,c2,c3,c4,c5,c6,c7,bE,bF⟩:=nC H;obtain⟨Nd,d⟩:=nM H ao.out (U K c.length af);replace b:=oK b d (.inr rfl);clear d;go_wp2_with fail;refine(bf _ _ _ Nd.out.sp (by rw[ac.out.len];simp only[aJ,Fo.sz_app]at q;omega)).mono ?_;rintro p cq ⟨A,b0,rfl,bo,e⟩;have o:=nP Nd e;have J:=nL Nd e;replace b:=oK b e.kt (.inr rfl);clear e;obtain⟨cy,b8,F,a6,d⟩:=nKI [z,A] #[Q M z,Q M A] rfl 2 rfl o ao.out (by decide);have v:=nCA o;have bE:=fun r=>(v r).1;have bF:=fun r=>(v r).2;clear v;obtain⟨b9,ca,cb,cc,ce,cf,ck,cl,cm,co⟩:=nC F;replace b:=oK b d (.inr rfl);go_wp2_with fail;refine(lw F (by omega) (by omega) ⟨14,(E.tk i).f,0,(E.tk i).l,0,0,⟨#[]⟩,c,[z,A]⟩ K _ _ af _ _ b.out a6.out (by rw[J.out.len,ac.out.len];simp only[aJ,Fo.sz_app]at q;omega) a0.out (Fr.new o.out.kt.size) (nd 14 (E.tk i) (E.tk (j-1)).t 0 0 z0 c) (ac.out.app J.out) (by rw[Fo.tops_app,bl,<-ac.out.len,bo];rfl)).mono ?_;rintro p cx ⟨c8,b1,rfl,bn,bp⟩;go_wp2_with fail;go_ret;exact⟨_,_,rfl,bn,(pT bp).out⟩
end
