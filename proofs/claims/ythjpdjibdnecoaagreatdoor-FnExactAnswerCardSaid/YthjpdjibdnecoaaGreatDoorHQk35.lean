import Derived.Test.YthjpdjibdnecoaaGreatDoorHQk26
set_option linter.all false
set_option maxRecDepth 100000
set_option maxHeartbeats 6400000
open Option renaming some->M,none->O
open Go.IntKind renaming i64->S
open Go.Value renaming int->T,int->U,slice->Ax,slice->A0,ownBlock->A1
open Go.Obj renaming cells->V
open Go renaming Value->Y,World->Z
namespace Go.Proofs.YthjpdjibdnecoaaGreatDoor
open Go.RowKit Go.Maps Go.WideMaps
section
variable {E : Pe} {W w w' : World} {i j : Nat} {L L1 L' : List Mb} {B B' : List (Nat × Array Value)}
theorem aas(l:List Int)(cs:Array Y)(r:cs=(l.map (U S)).toArray)(x:l.length<=100)(h:Hid (gl E W w i L1 B))(s:1<=i)(u:i<=E.n)(N:Nd)(m:Nat)(y:l.length=m)(v:N.ks=l)(A:N.nm=[])(p:L1.length<=50000000)(a:Nd){R:Fo}(ac:Ac W.heap.size L L1 R)(q:({N with t:=(E.tk (i-1)).t}:Nd)={a with ks:=R.tops L.length}):
  Calls Tryz.prog 107 #[pV E,.agg (dy N s0 (Ax (M ⟨w.heap.size+1,0,O⟩) m m))] ((w.alloc (V (dy N s0 (Ax (M ⟨w.heap.size+1,0,O⟩) m m)) 53)).alloc (V cs 3)) fun e w'=>∃z L',e= .returned (T S z)/\(one a R).tops L.length=[z]/\Hid (Pst E W w' L L' B (one a R) i)/\Kt w w':=by
 subst r y;have C:=nA h (dy N s0 (Ax (M ⟨w.heap.size+1,0,O⟩) l.length l.length));have o:=bg w (V (dy N s0 (Ax (M ⟨w.heap.size+1,0,O⟩) l.length l.length)) 53);have c:=bg (w.alloc (V (dy N s0 (Ax (M ⟨w.heap.size+1,0,O⟩) l.length l.length)) 53)) (V (l.map (U S)).toArray 3);have b:=nB C c;have f:=qp (w.alloc (V (dy N s0 (Ax (M ⟨w.heap.size+1,0,O⟩) l.length l.length)) 53)) l l.length rfl x;rw[aF]at f;refine(ai6 b.out.sp s u N O _ 0 0 _ _ (by rw[A];exact bc _ _ _ _) (by rw[v];exact iE f (by have:=h.out.sp.lt.2;omega)) p).mono ?_;rintro e w' ⟨rfl,g,d,k⟩;rw[q]at g;exact⟨_,_,rfl,by rw[xF,ac.len],⟨ac.add a (Fr.nil _ _ _) (Fr.new (by have:=h.out.kt.size;omega)),g.tail,b.out.kt.trans d,b.out.bl.trans k⟩,((Kt.of_below o).trans (Kt.of_below c)).trans d⟩
theorem alo(k:Int)(a:ia k=true)(d:k<=78)(w:Z):Calls Tryz.prog 160 #[T S k] w fun e w'=>e= .returned (.tuple #[T S (Gn k),T S (rpw k)])/\w'=w:=by
 have b:k=10\/k=26\/60<k:=aC a;have c:k=10\/k=26\/k=61\/k=62\/k=63\/k=64\/k=65\/k=66\/k=67\/k=68\/k=69\/k=70\/k=71\/k=72\/k=73\/k=74\/k=75\/k=76\/k=77\/k=78:=by omega
 clear b a d;rcases c with rfl|rfl|rfl|rfl|rfl|rfl|rfl|rfl|rfl|rfl|rfl|rfl|rfl|rfl|rfl|rfl|rfl|rfl|rfl|rfl;all_goals
  go_in;go_wp2;first
   |(go_ret;exact⟨rfl,rfl⟩)
   |(go_ret2;exact⟨rfl,rfl⟩)
end
inductive Ms (E:Pe) (C:Int->Nat->Fo->Nat->Prop) (p:Int) (s:Tk):Nat->Fo->Nat->Fo->Nat->Prop where
 |stop {x:Fo}{k:Nat}:k<E.n->(ia (E.tk k).k=true->Gn (E.tk k).k<p)->Ms E C p s 0 x k x k
 |go {m k k1 j:Nat}{x y R:Fo}:k<E.n->ia (E.tk k).k=true->p<=Gn (E.tk k).k->C (rpw (E.tk k).k) (k+1) y k1->k+1<=k1->k1<=E.n->Ms E C p s m (one (qx (E.tk k).k s (E.tk (k1-1)).t) (x.app y)) k1 R j->Ms E C p s (m+1) x k R j
theorem Ms.le{E:Pe}{C:Int->Nat->Fo->Nat->Prop}{p:Int}{s:Tk}{m k j:Nat}{x R:Fo}(h:Ms E C p s m x k R j):x.sz<=R.sz:=by
 induction h with
 |stop=>exact ae _
 |go _ _ _ _ _ _ _ a=>rw[aA,Fo.sz_app]at a;omega
section
variable {E : Pe} {i j : Nat}
abbrev CX(E:Pe)(p:Int)(i:Nat)(x:Fo)(j:Nat):Prop:=CI E 108 #[pV E,T S p] i x j
structure uz (E:Pe) (W:Z) (L:List Mb) (B:List (Nat×Array Y)) (w:Z) (k b q:Nat) (L1:List Mb) (X:Fo) (z:Int):Prop where
 nw:Hid (gl E W w k L1 B)
 ac:Ac W.heap.size L L1 X
 tp:X.tops L.length=[z]
 tb:Hid (TB w b (E.tk q))
theorem ajr{p:Int}{x R:Fo}{k m:Nat}(cz:(E.tk i).k≠6)(cF:i<E.n)(a5:∀q,(E.tk q).k<=78)(b2:CI E 159 #[pV E] i x k)(a6:Ms E (CX E) p (E.tk i) m x k R j):CX E p i R j:=by
 intro W L B ad ds;obtain⟨bD,bE,cw⟩:=ad.cells;obtain⟨b4,b5,b8,b9,ca,cb⟩:=ad.tkw cF cz;have dn:(i:Int)<(E.n:Int):=by omega
 have dk:(0:Int)<=(i:Int):=by omega
 have dq:=ad.hn;have d2:IntKind.i64.wrap (i:Int)=(i:Int):=by rw[di];omega
 have br:=gl.start ad;have bk:=aw a6;have d1:=a6.le;clear ad a6;go_in;go_wp2_with fail;go_region_held3 (fun w'=>w'.cell? ⟨E.pb,0,O⟩=M (Ax (M ⟨E.tb,0,O⟩) E.n E.cap)/\w'.cell? ⟨E.pb,1,O⟩=M (T S (i:Int))/\w'.cell? ⟨E.tb,i*6,O⟩=M (T S (E.tk i).k)/\w'.cell? ⟨E.tb,i*6+1,O⟩=M (T S (E.tk i).f)/\w'.cell? ⟨E.tb,i*6+2,O⟩=M (T S (E.tk i).t)/\w'.cell? ⟨E.tb,i*6+3,O⟩=M (T S (E.tk i).l)/\w'.cell? ⟨E.tb,i*6+4,O⟩=M (T S (E.tk i).n)/\w'.cell? ⟨E.tb,i*6+5,O⟩=M (.string (E.tk i).x)) (first|go_keep|exact⟨bD,bE,b4,b5,b8,b9,ca,cb⟩) (fail)
 obtain⟨bx,ak⟩:=ay ((W.alloc (V (ew (E.tk i).k (E.tk i)) 96)).drew);have bA:Below W.heap.size W bx:=by rw[<-ak];exact cj (bg W _)
 have an:=nB br bA;have bs:Hid (TB bx W.heap.size (E.tk i)):=by rw[<-ak];exact aj W _
 simp only[ew]at ak;rw[ak];clear ak bA bD bE cw b4 b5 b8 b9 ca cb br;go_wp2_with fail;refine(b2 _ _ _ an.out.sp (by omega)).mono ?_;rintro F c4 ⟨ck,bn,rfl,b3,p2⟩;have bh:Hid (uz E W L B c4 k W.heap.size i bn x ck):=⟨nP an p2,(nL an p2).out,b3,tK bs p2.kt⟩;clear b3 p2 an bs b2;go_wp2_with fail;go_loopg [6] m (fun gk c3 wr=>∃(k:Nat) (A:Fo) (h:Int) (L1:List Mb),c3= T S h/\Hid (Ms E (CX E) p (E.tk i) gk A k R j/\uz E W L B wr k W.heap.size i L1 A h))
 case atStart=>exact⟨k,x,ck,bn,rfl,bk.out,bh.out⟩
 case round=>
  clear bh bk;obtain⟨b,A,h,bo,rfl,av⟩:=hrel;obtain⟨cy,G⟩:=av.out;cases cy with
  |stop y b0=>
   have J:=G.nw;have a:=aw G;clear G av;cases e:ia (E.tk j).k with
   |false=>
    go_wp2_with fail;refine aJ (iq rfl J y) fun cc v=>?_;go_wp2_with fail;refine aJ (ai7 e _) fun w' ar=>?_;subst w';go_wp2_with fail;go_ret;have g:=nB a.out.nw v;exact⟨_,bo,rfl,a.out.tp,a.out.ac,g.out.sp,g.out.kt,g.out.bl⟩
   |true=>
    have d0:=b0 e;go_wp2_with fail;refine aJ (iq rfl J y) fun cc v=>?_;have g:=nB a.out.nw v;go_wp2_with fail;refine aJ (ai7 e _) fun w' ar=>?_;subst w';go_wp2_with fail;refine aJ (iq rfl g y) fun c5 K=>?_;have z:=nB g K;go_wp2_with fail;refine aJ (alo _ e (a5 _) _) fun w' ar=>?_;subst w';go_wp2_with fail;go_ret;exact⟨_,bo,rfl,a.out.tp,a.out.ac,z.out.sp,z.out.kt,z.out.bl⟩
  |@go a9 _ d _ _ bd c7 y e b0 cx df a3 a4=>
   have J:=G.nw;have a:=gK G a4;have cI:=a4.le;rw[aA,Fo.sz_app]at cI;have dz:¬Gn (E.tk b).k<p:=by omega
   have cB:(E.tk b).k≠6:=fun F=>by rw[F]at e;revert e;decide
   clear G av a4;go_wp2_with fail;refine aJ (iq rfl J y) fun cc v=>?_;have g:=nB J v;have cn:=tB a.out.1.tb v;go_wp2_with fail;refine aJ (ai7 e _) fun w' ar=>?_;subst w';go_wp2_with fail;refine aJ (iq rfl g y) fun c5 K=>?_;have z:=nB g K;have cq:=tB cn K;go_wp2_with fail;refine aJ (alo _ e (a5 _) _) fun w' ar=>?_;subst w';clear v K;go_wp2_with fail;refine aJ (gG rfl z y cB) fun ce bb=>?_;have cm:=nX z bb;have cr:=tK cq bb.2.1;clear bb;have bw:=tB cr (bg ce (V (ew (E.tk b).k (E.tk b)) 96));obtain⟨d6,a7,a1,cv⟩:=uv (w:=ce) (q:=b) rfl cm;rw[a7]at bw;simp only[ew]at a7;go_wp2_with fail;clear a7;refine(cx _ _ _ a1.out.sp (by rw[a.out.1.ac.len];omega)).mono ?_;rintro F d4 ⟨H,c6,rfl,a8,al⟩;have cl:=nP a1 al;have C:=nL a1 al;have cs:=tK cv al.kt;have bt:=tK bw al.kt;clear al;obtain⟨d7,d8,d9,ea,eb,ec⟩:=tC bt rfl;go_wp2_with fail;refine aJ (fL (q:=i) rfl _ _) fun d5 ao=>?_;have a0:=nB cl ao;have ct:=tB cs ao;have a2:=tB bt ao;clear ao;have ch:=tA ct (k:=(E.tk b).k) rfl;have cg:=fun c2=>(ch c2).1;clear ch;have d3:IntKind.i64.wrap ((E.tk b).k-60)=(E.tk b).k-60:=by rw[di];have:=a5 b;have:(E.tk b).k=10\/(E.tk b).k=26\/60<(E.tk b).k:=aC e;omega
   by_cases af:(E.tk b).k=10
   ·rw[af]at cg;go_wp2_with fail;refine(aas [h,H] _ rfl (by simp) a0 (by omega) a3 ⟨28,(E.tk i).f,0,(E.tk i).l,0,0,⟨#[]⟩,[],[h,H]⟩ 2 rfl rfl rfl (by rw[C.out.len,a.out.1.ac.len];omega) (qx (E.tk b).k (E.tk i) (E.tk (d-1)).t) (a.out.1.ac.app C.out) (by rw[Fo.tops_app,a.out.1.tp,<-a.out.1.ac.len,a8];unfold qx;rw[ab af];rfl)).mono ?_;rintro F am ⟨u,o,rfl,r,c,s⟩;have I:Hid (uz E W L B am d W.heap.size i o (one (qx (E.tk b).k (E.tk i) (E.tk (d-1)).t) (A.app bd)) u):=⟨⟨c.out.sp,c.out.kt,c.out.bl⟩,c.out.ac,r,tK a2 s⟩;clear r c s;go_wp2_with fail;go_roundg a9
    case measure=>omega
    case rel=>exact⟨d,_,u,o,rfl,a.out.2,I.out⟩
   by_cases ap:(E.tk b).k=26
   ·rw[ap]at cg;go_wp2_with fail;refine(aas [h,H] _ rfl (by simp) a0 (by omega) a3 ⟨29,(E.tk i).f,0,(E.tk i).l,0,0,⟨#[]⟩,[],[h,H]⟩ 2 rfl rfl rfl (by rw[C.out.len,a.out.1.ac.len];omega) (qx (E.tk b).k (E.tk i) (E.tk (d-1)).t) (a.out.1.ac.app C.out) (by rw[Fo.tops_app,a.out.1.tp,<-a.out.1.ac.len,a8];unfold qx;rw[aa af,ab ap];rfl)).mono ?_;rintro F am ⟨u,o,rfl,r,c,s⟩;have I:Hid (uz E W L B am d W.heap.size i o (one (qx (E.tk b).k (E.tk i) (E.tk (d-1)).t) (A.app bd)) u):=⟨⟨c.out.sp,c.out.kt,c.out.bl⟩,c.out.ac,r,tK a2 s⟩;clear r c s;go_wp2_with fail;go_roundg a9
    case measure=>omega
    case rel=>exact⟨d,_,u,o,rfl,a.out.2,I.out⟩
   ·have c8:((E.tk b).k==10)=false:=by simp[af]
    have c9:((E.tk b).k==26)=false:=by simp[ap]
    go_wp2_with fail;refine(aas [h,H] _ rfl (by simp) a0 (by omega) a3 ⟨31,(E.tk i).f,0,(E.tk i).l,(E.tk b).k-60,0,⟨#[]⟩,[],[h,H]⟩ 2 rfl rfl rfl (by rw[C.out.len,a.out.1.ac.len];omega) (qx (E.tk b).k (E.tk i) (E.tk (d-1)).t) (a.out.1.ac.app C.out) (by rw[Fo.tops_app,a.out.1.tp,<-a.out.1.ac.len,a8];unfold qx;rw[aa af,aa ap];rfl)).mono ?_;rintro F am ⟨u,o,rfl,r,c,s⟩;have I:Hid (uz E W L B am d W.heap.size i o (one (qx (E.tk b).k (E.tk i) (E.tk (d-1)).t) (A.app bd)) u):=⟨⟨c.out.sp,c.out.kt,c.out.bl⟩,c.out.ac,r,tK a2 s⟩;clear r c s;go_wp2_with fail;go_roundg a9
    case measure=>omega
    case rel=>exact⟨d,_,u,o,rfl,a.out.2,I.out⟩
end
theorem Ip:(Tryz.prog.info? 3).map (fun i=>(i.zero,i.size,i.bytes))=M (M (T S 0),1,8):=by kernel_rfl
theorem Ci:(Tryz.prog.info? 9).map (fun i=>(i.zero,i.size,i.bytes))=M (M (.string ⟨#[]⟩),1,16):=by kernel_rfl
theorem dL{w:Z}{m:Array Oper}{p:List Oper}{o:Oper}{a:Act}{Q:Exit->Act->Z->Prop}(v:o.guard=O)(s x:Operand)(A:o.op= .call {callee:= .builtin .append,args:=#[s,x],argTypes:=#[51,51]})(base:Nat)(d:Option Addr)(n f:Nat)(l:List Int)(F:a.eval s= .slice d n f)(ak:l.length=n)(C:w.ownsRow base 3 1 (.slice d n f) n (l.map (U .i64)))(t:base<=w.heap.size)(b:Nat)(z:Int)(H:a.eval x= .slice (M ⟨b,0,O⟩) 1 1)(r:w.heap[b]?=M (.cells #[.int .i64 z] 3 (0,0)))(af:n<=50000000)
  (h:∀g cap c,c.ownsRow base 3 1 (.slice (M ⟨g,0,O⟩) (n+1) cap) (n+1) ((l++[z]).map (U .i64))->w.grownBy c (A0 d n f).ownBlock->((A0 d n f).ownBlock=M g\/g=w.heap.size)->wpList Tryz.prog m Q p (a.put o.dst (.slice (M ⟨g,0,O⟩) (n+1) cap)) c):wpList Tryz.prog m Q (o::p) a w:=by
 obtain⟨ad,y,I,J,K⟩:=dt Ip;refine wpList_append_own_at _ v s x 51 A base 3 ad _ 1 8 Tryz.underlying51 y I J K rfl (by decide) _ _ _ F C ⟨b,0,O⟩ 1 1 [.int .i64 z] H rfl (World.news_of_block (cs:=#[.int .i64 z]) r) (by intro al G;rw[List.mem_singleton.1 G];rfl) (by unfold maxLen;omega) (by omega) t ?_;intro am c k u _ q;obtain⟨g,cap,rfl⟩:=ownsRow_succ k;exact h g cap c (by rw[ee];exact k) u (by rcases q with e|e;exact .inl e.symm;exact .inr (by simpa [A1] using e))
section
variable {E : Pe} {W w w' : World} {i j : Nat} {L L1 L' : List Mb} {B B' : List (Nat × Array Value)}
theorem nG{v:Y}{n:Nat}{k:List Y}(h:Hid (gl E W w i L B))(o:w.ownsRow E.base 3 1 v n k)(d:w.grownBy w' v.ownBlock)(fr:Fr W.heap.size v)(ao:Sv v L):Hid (gl E W w' i L B):=by
 have y:=h.out.kt.size;obtain⟨F,H,K,ad⟩:=h.out.sp.tks;obtain⟨ap,I,J,u⟩:=h.out.sp.row;have f:∀{c:Nat}{t:Array Y}{r:TypeId}{fr:Nat×Nat},w.heap[c]?=M (V t r fr)->r≠3->w'.heap[c]?=M (V t r fr):=fun b al=>(d.block _ (ah b) (fun a=>gA o b al a.symm)).trans b;have z:∀{base a size n:Nat}{A:Y}{k:List Y},w.ownsRow base a size A n k->a≠3->w'.ownsRow base a size A n k:=fun am ak=>by
  obtain⟨q,e⟩:=am;refine⟨q,?_⟩;rcases e with e|⟨l,C,G,m,d,af,an⟩
  ·exact .inl e
  ·exact .inr ⟨l,C,G,m,d,f af ak,an⟩
 refine⟨⟨h.out.sp.lo,h.out.sp.hn,⟨F,H,f K (by decide),ad⟩,⟨ap,f I (by decide),z J (by decide),fun s x=>⟨f (u s x).1 (by decide),(u s x).2⟩⟩,fun g p=>⟨z (h.out.sp.each g p).1 (by decide),(h.out.sp.each g p).2.kept d ?_⟩,h.out.sp.nb⟩,⟨bF y d.size,fun c b q e=>?_⟩,?_⟩
 ·cases m:g.vk.ownBlock with
  |none=>exact .inl rfl
  |some l=>exact .inr (fun a=>ao g p l a.symm m)
 ·rw[<-h.out.kt.block c b q e];exact d.block c (eF b y) (fun a=>by have:=fr c a.symm;omega)
 ·exact h.out.bl.trans ((ag _ w).grown d h.out.sp.lt.2 (fun c b=>(o.lt c b).1))
theorem tm(h:Sp E w i L B){b n c:Nat}(k:w.heap.size<=b):Sv (Ax (M ⟨b,0,O⟩) n c) L:=fun g f d e a=>by
 obtain rfl:b=d:=by simpa [A1] using e
 have:=((h.each g f).2.lt b a).2;omega
end
inductive Ls (E:Pe) (C:Nat->Fo->Nat->Prop):Nat->Nat->Fo->Nat->Prop where
 |stop {k:Nat}:(E.tk k).k≠46->k<E.n->Ls E C 0 k .nil k
 |go {m k k1 j:Nat}{x R:Fo}:(E.tk k).k=46->k<E.n->C (k+1) x k1->Ls E C m k1 R j->Ls E C (m+1) k (x.app R) j
section
variable {E : Pe} {i j : Nat}
abbrev Kn(E:Pe)(i:Nat)(x:Fo)(j:Nat):Prop:=CI E 108 #[pV E,T S 0] i x j
structure fi (E:Pe) (W:Z) (L:List Mb) (B:List (Nat×Array Y)) (w:Z) (k:Nat) (L1:List Mb) (D:Fo) (av:Option Addr) (n cv:Nat):Prop where
 nw:Hid (gl E W w k L1 B)
 ac:Ac W.heap.size L L1 D
 ln:D.len=n
 ow:w.ownsRow E.base 3 1 (.slice av n cv) n ((D.tops L.length).map (U .i64))
 fr:Fr W.heap.size (.slice av n cv)
 sv:Sv (.slice av n cv) L1
theorem fi.below{W w w':Z}{L L1:List Mb}{B:List (Nat×Array Y)}{k:Nat}{D:Fo}{a:Option Addr}{n c:Nat}(h:fi E W L B w k L1 D a n c)(b:Below w.heap.size w w'):fi E W L B w' k L1 D a n c:=⟨nB h.nw b,h.ac,h.ln,aE h.ow b,h.fr,h.sv⟩
theorem fi.move{W w w':Z}{L L1:List Mb}{B:List (Nat×Array Y)}{k c:Nat}{D:Fo}{a:Option Addr}{n b:Nat}(h:fi E W L B w k L1 D a n b)(q:Sp E w' c L1 B/\Kt w w'/\Below E.base w w'):fi E W L B w' c L1 D a n b:=⟨nX h.nw q,h.ac,h.ln,q.2.1.row h.ow (by decide) (by decide),h.fr,h.sv⟩
structure pj (E:Pe) (W:Z) (L:List Mb) (B:List (Nat×Array Y)) (w:Z) (k:Nat) (L1:List Mb) (D x:Fo) (z:Int) (av:Option Addr) (n cv:Nat):Prop where
 nw:Hid (gl E W w k L1 B)
 ac:Ac W.heap.size L L1 (D.app x)
 ln:D.len=n
 one:x.len=1
 tp:(D.app x).tops L.length=D.tops L.length++[z]
 ow:w.ownsRow E.base 3 1 (.slice av n cv) n ((D.tops L.length).map (U .i64))
 fr:Fr W.heap.size (.slice av n cv)
 sv:Sv (.slice av n cv) L1
theorem fi.up{W w w':Z}{L L1 a:List Mb}{B:List (Nat×Array Y)}{k e:Nat}{D x:Fo}{z:Int}{b:Option Addr}{n c:Nat}(h:fi E W L B w k L1 D b n c)(p:Pst E w w' L1 a B x e)(d:x.tops L1.length=[z]):pj E W L B w' e a D x z b n c:=
 ⟨nP h.nw p,h.ac.app (nL h.nw p).out,h.ln,by rw[<-Fo.tops_len x L1.length,d];rfl,by rw[Fo.tops_app,<-h.ac.len,d],p.kt.row h.ow (by decide) (by decide),h.fr,h.sv.next p.ac (fun f g=>(h.ow.lt f g).2)⟩
theorem pj.put{W w c:Z}{L L1:List Mb}{B:List (Nat×Array Y)}{k:Nat}{D x:Fo}{z:Int}{a:Option Addr}{n b g cap:Nat}{o:Obj}(h:pj E W L B w k L1 D x z a n b)(q:c.ownsRow E.base 3 1 (Ax (M ⟨g,0,O⟩) (n+1) cap) (n+1) ((D.tops L.length++[z]).map (U S)))(l:(w.alloc o).grownBy c (A0 a n b).ownBlock)(d:(A0 a n b).ownBlock=M g\/g=(w.alloc o).heap.size):fi E W L B c k L1 (D.app x) (M ⟨g,0,O⟩) (n+1) cap:=by
 have s:=h.nw.out.kt.size;refine⟨nG (nB h.nw (bg w o)) (aE h.ow (bg w o)) l h.fr h.sv,h.ac,by rw[Fo.len_app,h.ln,h.one],by rw[h.tp];exact q,?_,?_⟩
 ·rcases d with e|e
  ·exact Fr.new (h.fr g e)
  ·exact Fr.new (by rw[e,aF];omega)
 ·rcases d with e|e
  ·intro r p f m;exact h.sv r p f (by rw[e];exact m)
  ·exact tm (h.nw.out.sp.below (bg w o)) (by omega)
theorem ahv{x R:Fo}{k m:Nat}(ap:Kn E i x k)(an:Ls E (Kn E) m k R j):CL E 106 #[pV E] i (x.app R) j:=by
 intro W L B af am;have H:=gl.start af;clear af;go_in;go_wp2_with fail;refine(ap _ _ _ H.out.sp (by simp only[Fo.sz_app]at am;omega)).mono ?_;rintro K A ⟨C,L1,rfl,y,g⟩;have a5:Hid (fi E W L B (A.alloc (V #[T S C] 3)) k L1 x (M ⟨A.heap.size,0,O⟩) 1 1):=
  ⟨nB (nP H g) (bg _ _),g.ac,by rw[<-Fo.tops_len x L.length,y];rfl,by rw[y];exact iE (qp A [C] 1 rfl (by decide)) g.sp.lt.2,Fr.new g.kt.size,tm g.sp (ae _)⟩
 have a7:=aw an;clear y g an ap;go_wp2_with fail;go_loopg [3,4] m (fun gk bs br wr=>∃(k:Nat) (D t:Fo) (a4:Int) (e:Option Addr) (a f:Nat) (L1:List Mb),bs= T S a4/\br= Ax e a f/\Hid (Ls E (Kn E) gk k t j/\fi E W L B wr k L1 D e a f/\D.app t=x.app R))
 case atStart=>exact⟨k,x,R,C,_,1,1,L1,rfl,rfl,a7.out,a5.out,rfl⟩
 case round=>
  obtain⟨bk,D,t,a4,e,a,f,G,rfl,rfl,q⟩:=hrel;obtain⟨bd,b,c⟩:=q.out;cases bd with
  |stop u v=>
   have s:=b.nw;have h:=gK b c;clear b c q;go_wp2_with fail;refine aJ (isN u s v) fun a3 a8=>?_;go_wp2_with fail;go_ret;obtain⟨b,c⟩:=h.out;have d:=b.below a8;rw[Fo.app_nil]at c;rw[<-c];exact⟨_,G,rfl,⟨d.fr,d.sv⟩,by rw[d.ln];exact d.ow,d.ac,d.nw.out.sp,d.nw.out.kt,d.nw.out.bl⟩
  |@go bn _ z _ o I u v a9 ad=>
   have s:=b.nw;have h:=iD b c ad;have ao:Hid (L.length+(D.app (o.app I)).sz<=50000000):=by rw[c];exact am
   clear b c q ad;go_wp2_with fail;refine aJ (isY u s v) fun a3 a2=>?_;have p:Hid (fi E W L B a3 (bk+1) G D e a f):=h.out.1.move a2;clear a2;go_wp2_with fail;refine(a9 _ _ _ p.out.nw.out.sp (by have:=ao.out;rw[p.out.ac.len];simp only[Fo.sz_app]at this;omega)).mono ?_;rintro K n ⟨F,r,rfl,ar,a1⟩;have l:Hid (pj E W L B n z r D o F e a f):=p.out.up a1 ar;clear a1 ar;have bh:a<=50000000:=by have bo:=ao.out;have K:=l.out.ln;have bw:=D.len_le;simp only[Fo.sz_app]at bo;omega
   go_wp2_with (at_builtin;refine dL rfl _ _ rfl E.base e a f (D.tops L.length) rfl (by rw[Fo.tops_len];exact l.out.ln) (aE l.out.ow (bg n _)) (by rw[aF];have:=l.out.nw.out.sp.lt.2;omega) n.heap.size F rfl (aj n _) bh ?_;intro bb J bt a0 al ak;have a6:Hid (fi E W L B bt z r (D.app o) (M ⟨bb,0,O⟩) (a+1) J):=l.out.put a0 al ak;clear a0 al ak);go_roundg bn
   case measure=>omega
   case rel=>exact⟨z,D.app o,I,F,_,a+1,J,r,rfl,rfl,h.out.2.2,a6.out,by rw[Fo.app_app];exact h.out.2.1⟩
end
section
variable {E : Pe} {i j : Nat}
theorem Ko(a:(E.tk i).k=28)(ap:i<E.n){x:Fo}(ad:CI E 108 #[pV E,T S 0] (i+1) x j)(ar:i+1<=j)(K:j<=E.n):CI E 64 #[pV E] i (one (fp 15 (E.tk i) (E.tk (j-1)).t) x) (j):=by
 intro W L B r s;have y:=gl.start r;clear r;go_in;go_wp2_with fail;refine aJ (cK a y (by omega)) fun bd z=>?_;go_wp2_with fail;refine aJ (cK a z (by omega)) fun bh A=>?_;go_wp2_with fail;refine aJ (cK a A (by omega)) fun bk C=>?_;go_wp2_with fail;refine aJ (ja a C (by omega) (by omega)) fun am F=>?_;obtain⟨bl,u,G,p⟩:=uv (w:=am) a F;simp only[ew]at u;obtain⟨bt,bw,bx,bA,bD,bE⟩:=tC p a;go_wp2_with fail;refine aJ (fL a _ _) fun bn q=>?_;clear u;have m:=nB G q;have J:=aw m.out.sp.lt.2;have c:=nA m (dy (nN 15 (E.tk i)) s0 s0);have v:=tA (tB p q) a;have b0:=fun b=>(v b).1;clear v;go_wp2_with fail;refine(ad _ _ _ c.out.sp (by simp only[aA]at s;omega)).mono ?_;rintro I bo ⟨h,an,rfl,af,e⟩;have d:=nP c e;have ac:=nL c e;clear e;obtain⟨bs,av,o,H,a0⟩:=nKI [h] #[T S h] rfl 1 rfl d J.out (by decide);have g:=nCA d;have b1:=fun b=>(g b).1;have b2:=fun b=>(g b).2;clear g;obtain⟨a1,a2,a3,a4,a5,a6,a7,a8,a9,bb⟩:=nC o;go_wp2_with fail;refine(mC o (by omega) K ⟨15,(E.tk i).f,0,(E.tk i).l,0,0,⟨#[]⟩,[],[h]⟩ O _ 0 0 _ _ (bc _ _ _ _) H.out (by rw[ac.out.len];simp only[aA]at s;omega) (Fr.nil _ _ _) (Fr.new d.out.kt.size) (fp 15 (E.tk i) (E.tk (j-1)).t) ac.out (by rw[af];rfl)).mono ?_;rintro I br ⟨b3,ao,rfl,ak,al⟩;go_wp2_with fail;go_ret;exact⟨_,_,rfl,ak,(pT al).out⟩
theorem Kq(a:(E.tk i).k=14)(ap:i<E.n){x:Fo}(ad:CI E 112 #[pV E] (i+1) x j)(ar:i+1<=j)(K:j<=E.n):CI E 64 #[pV E] i (one (fp 16 (E.tk i) (E.tk (j-1)).t) x) (j):=by
 intro W L B r s;have y:=gl.start r;clear r;go_in;go_wp2_with fail;refine aJ (cK a y (by omega)) fun bd z=>?_;go_wp2_with fail;refine aJ (cK a z (by omega)) fun bh A=>?_;go_wp2_with fail;refine aJ (cK a A (by omega)) fun bk C=>?_;go_wp2_with fail;refine aJ (ja a C (by omega) (by omega)) fun am F=>?_;obtain⟨bl,u,G,p⟩:=uv (w:=am) a F;simp only[ew]at u;obtain⟨bt,bw,bx,bA,bD,bE⟩:=tC p a;go_wp2_with fail;refine aJ (fL a _ _) fun bn q=>?_;clear u;have m:=nB G q;have J:=aw m.out.sp.lt.2;have c:=nA m (dy (nN 16 (E.tk i)) s0 s0);have v:=tA (tB p q) a;have b0:=fun b=>(v b).1;clear v;go_wp2_with fail;refine(ad _ _ _ c.out.sp (by simp only[aA]at s;omega)).mono ?_;rintro I bo ⟨h,an,rfl,af,e⟩;have d:=nP c e;have ac:=nL c e;clear e;obtain⟨bs,av,o,H,a0⟩:=nKI [h] #[T S h] rfl 1 rfl d J.out (by decide);have g:=nCA d;have b1:=fun b=>(g b).1;have b2:=fun b=>(g b).2;clear g;obtain⟨a1,a2,a3,a4,a5,a6,a7,a8,a9,bb⟩:=nC o;go_wp2_with fail;refine(mC o (by omega) K ⟨16,(E.tk i).f,0,(E.tk i).l,0,0,⟨#[]⟩,[],[h]⟩ O _ 0 0 _ _ (bc _ _ _ _) H.out (by rw[ac.out.len];simp only[aA]at s;omega) (Fr.nil _ _ _) (Fr.new d.out.kt.size) (fp 16 (E.tk i) (E.tk (j-1)).t) ac.out (by rw[af];rfl)).mono ?_;rintro I br ⟨b3,ao,rfl,ak,al⟩;go_wp2_with fail;go_ret;exact⟨_,_,rfl,ak,(pT al).out⟩
theorem D4{k nk:Int}(q:(k=11/\nk=11)\/(k=23/\nk=12))(a:(E.tk i).k=k)(z:i+1<E.n):CI E 64 #[pV E] i (one (fp nk (E.tk i) (E.tk i).t) .nil) (i+1):=by
 intro W L B b r;have d:=gl.start b;clear b;rcases q with⟨rfl,rfl⟩|⟨rfl,rfl⟩;all_goals
  go_in;go_wp2_with fail;refine aJ (cK a d (by omega)) fun A e=>?_;go_wp2_with fail;refine aJ (cK a e (by omega)) fun C f=>?_;go_wp2_with fail;refine aJ (cK a f (by omega)) fun F g=>?_;go_wp2_with fail;refine aJ (ja a g (by omega) (by omega)) fun v h=>?_;obtain⟨G,c,l,o⟩:=uv (w:=v) a h;simp only[ew]at c;obtain⟨J,K,ad,af,ak,al⟩:=tC o a;go_wp2_with fail;refine aJ (fL a _ _) fun H p=>?_;clear c;have m:=nB l p;go_wp2_with fail;refine(mC m (by omega) (by omega) (nN _ (E.tk i)) O O 0 0 0 0 (bc _ _ _ _) (bc _ _ _ _) (by simp only[aA]at r;omega) (Fr.nil _ _ _) (Fr.nil _ _ _) (fp _ (E.tk i) (E.tk i).t) (Ac.nil _ L) rfl).mono ?_;rintro y I ⟨am,x,rfl,s,u⟩;go_wp2_with fail;go_ret;exact⟨_,_,rfl,s,u.out⟩
theorem Kr(d:(E.tk i).k=42)(p:i<E.n){R:Fo}(f:CI E 101 #[pV E] i R j):CI E 64 #[pV E] i (R) (j):=by
 intro W L B b e;have c:=gl.start b;clear b;go_in;go_wp2_with fail;refine aJ (cK d c (by omega)) fun q a=>?_;go_wp2_with fail;refine(f _ _ _ a.out.sp e).mono ?_;rintro o r ⟨s,m,rfl,g,h⟩;have l:=nQ a h;go_wp2_with fail;go_ret;exact⟨_,_,rfl,g,l.out⟩
theorem zu{k:Int}(q:k=1\/k=40)(b:(E.tk i).k=k)(v:i<E.n){R:Fo}(m:CI E 102 #[pV E] i R j):CI E 64 #[pV E] i (R) (j):=by
 intro W L B h l;have g:=gl.start h;clear h;rcases q with rfl|rfl
 ·go_in;go_wp2_with fail;refine aJ (cK b g (by omega)) fun r c=>?_;go_wp2_with fail;refine aJ (cK b c (by omega)) fun s a=>?_;go_wp2_with fail;refine(m _ _ _ a.out.sp l).mono ?_;rintro p t ⟨u,o,rfl,d,e⟩;have f:=nQ a e;go_wp2_with fail;go_ret;exact⟨_,_,rfl,d,f.out⟩
 ·go_in;go_wp2_with fail;refine aJ (cK b g (by omega)) fun r c=>?_;go_wp2_with fail;refine aJ (cK b c (by omega)) fun s Nb=>?_;go_wp2_with fail;refine aJ (cK b Nb (by omega)) fun x a=>?_;go_wp2_with fail;refine(m _ _ _ a.out.sp l).mono ?_;rintro p t ⟨u,o,rfl,d,e⟩;have f:=nQ a e;go_wp2_with fail;go_ret;exact⟨_,_,rfl,d,f.out⟩
theorem ahw(a:(E.tk i).k=20)(x:i<E.n){R:Fo}(p:CI E 110 #[pV E,.agg (ew 20 (E.tk i))] (i+1) R j):CI E 64 #[pV E] i (R) (j):=by
 intro W L B c o;have e:=gl.start c;clear c;go_in;go_wp2_with fail;refine aJ (cK a e (by omega)) fun y f=>?_;go_wp2_with fail;refine aJ (cK a f (by omega)) fun z g=>?_;go_wp2_with fail;refine aJ (cK a g (by omega)) fun A h=>?_;go_wp2_with fail;refine aJ (ja a h (by omega) (by omega)) fun t l=>?_;obtain⟨C,d,b,m⟩:=uv (w:=t) a l;simp only[ew]at d;obtain⟨G,H,I,J,K,ad⟩:=tC m a;go_wp2_with fail;clear d;refine(p _ _ _ b.out.sp o).mono ?_;rintro v F ⟨af,u,rfl,q,r⟩;have s:=nQ b r;go_wp2_with fail;go_ret;exact⟨_,_,rfl,q,s.out⟩
theorem Iq(a:(E.tk i).k=19)(x:i<E.n){R:Fo}(p:CI E 111 #[pV E,.agg (ew 19 (E.tk i))] (i+1) R j):CI E 64 #[pV E] i (R) (j):=by
 intro W L B c o;have e:=gl.start c;clear c;go_in;go_wp2_with fail;refine aJ (cK a e (by omega)) fun y f=>?_;go_wp2_with fail;refine aJ (cK a f (by omega)) fun z g=>?_;go_wp2_with fail;refine aJ (cK a g (by omega)) fun A h=>?_;go_wp2_with fail;refine aJ (ja a h (by omega) (by omega)) fun t l=>?_;obtain⟨C,d,b,m⟩:=uv (w:=t) a l;simp only[ew]at d;obtain⟨G,H,I,J,K,ad⟩:=tC m a;go_wp2_with fail;clear d;refine(p _ _ _ b.out.sp o).mono ?_;rintro v F ⟨af,u,rfl,q,r⟩;have s:=nQ b r;go_wp2_with fail;go_ret;exact⟨_,_,rfl,q,s.out⟩
theorem Ks{k:Nat}(a:(E.tk i).k=31)(a6:i<E.n){x r:Fo}(ad:CI E 108 #[pV E,T S 0] (i+1) x k)(af:CI E 101 #[pV E] k r j)(a7:i+1<=j)(K:j<=E.n):CI E 64 #[pV E] i (one (fp 8 (E.tk i) (E.tk (j-1)).t) (x.app r)) (j):=by
 intro W L B p g;have v:=gl.start p;clear p;go_in;go_wp2_with fail;refine aJ (cK a v (by omega)) fun a8 y=>?_;go_wp2_with fail;refine aJ (cK a y (by omega)) fun a9 z=>?_;go_wp2_with fail;refine aJ (cK a z (by omega)) fun bb A=>?_;go_wp2_with fail;refine aJ (ja a A (by omega) (by omega)) fun ao C=>?_;obtain⟨bd,q,d,h⟩:=uv (w:=ao) a C;simp only[ew]at q;obtain⟨ap,ar,av,a0,a1,a2⟩:=tC h a;go_wp2_with fail;refine(ad _ _ _ d.out.sp (by simp only[aA,Fo.sz_app]at g;omega)).mono ?_;rintro o bh ⟨s,a3,rfl,ak,b⟩;have e:=nP d b;have ac:=nL d b;have H:=tK h b.kt;clear q;clear b;go_wp2_with fail;refine(af _ _ _ e.out.sp (by rw[ac.out.len];simp only[aA,Fo.sz_app]at g;omega)).mono ?_;rintro o bk ⟨u,a4,rfl,am,c⟩;have F:=nP e c;have m:=nL e c;have I:=tK H c.kt;clear c;obtain⟨ap,ar,av,a0,a1,a2⟩:=tC I a;go_wp2_with fail;refine aJ (fL a _ _) fun bn J=>?_;have G:=nB F J;go_wp2_with fail;refine(alb [s,u] _ rfl (by simp) G (by omega) K ⟨8,(E.tk i).f,0,(E.tk i).l,0,0,⟨#[]⟩,[],[s,u]⟩ O 0 0 (bc _ _ _ _) 2 rfl rfl (by rw[m.out.len,ac.out.len];simp only[aA,Fo.sz_app]at g;omega) (Fr.nil _ _ _) (fp 8 (E.tk i) (E.tk (j-1)).t) (ac.out.app m.out) (by rw[Fo.tops_app,ak,<-ac.out.len,am];rfl)).mono ?_;rintro o bl ⟨bo,a5,rfl,al,an⟩;go_wp2_with fail;go_ret;exact⟨_,_,rfl,al,an.out⟩
end
