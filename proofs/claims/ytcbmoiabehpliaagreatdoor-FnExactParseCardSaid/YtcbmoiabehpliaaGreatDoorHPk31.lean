import Derived.Test.YtcbmoiabehpliaaGreatDoorHPk01
import Derived.Test.YtcbmoiabehpliaaGreatDoorHPk27
import Derived.Deep.LoopGhost
import Derived.Test.YtcbmoiabehpliaaGreatDoorHPk25
set_option linter.unusedVariables false
set_option maxRecDepth 100000
set_option maxHeartbeats 6400000
namespace Go.Proofs.YtcbmoiabehpliaaGreatDoor
open Go.RowKit Go.Maps Go.WideMaps
inductive Ss (E:Pe) (C:Nat->Fo->Nat->Prop):Nat->Nat->Fo->Nat->Prop where
 |stop {k:Nat}:k<E.n->Ss E C 0 k .nil k
 |sep {m k j:Nat}{R:Fo}:(E.tk k).k=5->k<E.n->Ss E C m (k+1) R j->Ss E C (m+1) k R j
 |go {m k k1 j:Nat}{x R:Fo}:(E.tk k).k≠5->(E.tk k).k≠6->(E.tk k).k≠43->k<E.n->C k x k1->Ss E C m k1 R j->Ss E C (m+1) k (x.app R) j
section
variable {E : Pe} {i j : Nat}
abbrev JH(E:Pe)(i:Nat)(x:Fo)(j:Nat):Prop:=CI E 50 #[pV E] i x j
theorem yk{R:Fo}{m:Nat}{u:Int}(ak:u=43\/u=6)(a5:(E.tk j).k=u)(K:Ss E (JH E) m i R j):CL E 24 #[pV E,.int .i64 u] i R j:=by
 intro W L B J ap;have a1:Hid (bG E W L B W i L .nil none 0 0):=⟨bU.start J,Ac.nil _ L,rfl,World.ownsRow_nil _ _ _ _,Fr.nil _ _ _,fun bk bo bd a7=>by simp[Value.ownBlock]at a7⟩;have a9:=ab K;clear J K;go_in;go_wp2_with fail;go_loopg [5,6] m (fun gk a0 bh wr=>∃(k:Nat) (D v:Fo) (f:Option Addr) (a h:Nat) (L1:List Mb),a0= .slice f a h/\Hid (Ss E (JH E) gk k v j/\bG E W L B wr k L1 D f a h/\D.app v=R))
 case atStart=>exact⟨i,.nil,R,none,0,0,L,rfl,a9.out,a1.out,rfl⟩
 case round=>
  obtain⟨t,D,v,f,a,h,s,rfl,x⟩:=hrel;obtain⟨a3,b,c⟩:=x.out;cases a3 with
  |stop l=>
   have n:=b.nw;have e:=cK b c;clear b c x;have X:(u !=u)=false:=by simp
   go_wp2_with fail;refine au (cH a5 n l) fun af d=>?_;go_wp2_with fail;go_ret;obtain⟨b,c⟩:=e.out;have g:=b.below d;rw[Fo.app_nil]at c;rw[<-c];exact⟨_,s,rfl,⟨g.fr,g.sv⟩,by rw[g.ln];exact g.ow,g.ac,g.nw.out.sp,g.nw.out.kt,g.nw.out.bl⟩
  |@sep A _ _ _ q l p=>
   have n:=b.nw;have e:=cS b c p;clear b c x p;have X:((5:Int)!=u)=true:=by rcases ak with rfl|rfl<;>rfl
   go_wp2_with fail;refine au (cH q n l) fun af d=>?_;have G:=nB n d;go_wp2_with fail;refine au (EK q G l) fun H S=>?_;have a6:Hid (bG E W L B H (t+1) s D f a h):=(e.out.1.below d).move S;clear S d;go_wp2_with fail;go_roundg A
   case measure=>omega
   case rel=>exact⟨t+1,D,v,f,a,h,s,rfl,e.out.2.2,a6.out,e.out.2.1⟩
  |@go A _ I _ r Q q a8 a4 l an p=>
   have n:=b.nw;have e:=cS b c p;have Y:Hid (L.length+(D.app (r.app Q)).sz<=50000000):=by rw[c];exact ap
   clear b c x p;have X:((E.tk t).k !=u)=true:=by rcases ak with rfl|rfl<;>simp[a8,a4]
   go_wp2_with fail;refine au (cH rfl n l) fun af d=>?_;have G:=nB n d;go_wp2_with fail;refine au (Dv q G l) fun H N=>?_;have z:Hid (bG E W L B H t s D f a h):=(e.out.1.below d).below N;clear d N;go_wp2_with fail;refine(an _ _ _ z.out.nw.out.sp (by have F:=Y.out;rw[z.out.ac.len];simp only[Fo.sz_app]at F;omega)).mono ?_;rintro ar y ⟨T,C,rfl,al,M⟩;have o:Hid (ft E W L B y I C D r T f a h):=z.out.up M al;clear M al;have ao:a<=50000000:=by have F:=Y.out;have ar:=o.out.ln;have bn:=D.len_le;simp only[Fo.sz_app]at F;omega
   go_wp2_with (at_builtin;refine be rfl _ _ rfl E.base f a h (D.tops L.length) rfl (by rw[Fo.tops_len];exact o.out.ln) (ai o.out.ow (ax y _)) (by rw[World.size_alloc];have:=o.out.nw.out.sp.lt.2;omega) y.heap.size T rfl (heap_alloc_new y _) ao ?_;intro am U a2 Z V O;have bb:Hid (bG E W L B a2 I C (D.app r) (some ⟨am,0,none⟩) (a+1) U):=o.out.put Z V O;clear Z V O);go_roundg A
   case measure=>omega
   case rel=>exact⟨I,D.app r,Q,_,a+1,U,C,rfl,e.out.2.2,bb.out,by rw[Fo.app_app];exact e.out.2.1⟩
end
section
variable {E : Pe} {i j : Nat}
theorem wJ(a:(E.tk i).k=28)(bn:i<E.n){x:Fo}(O:CI E 101 #[pV E,.int .i64 0] (i+1) x j)(av:i+1<=j)(C:j<=E.n):CI E 50 #[pV E] i (one (bH 15 (E.tk i) (E.tk (j-1)).t) x) (j):=by
 intro W L B m p;have K:=bU.start m;clear m;go_in;go_wp2_with fail;refine au (aK a K (by omega)) fun a2 H=>?_;go_wp2_with fail;refine au (aK a H (by omega)) fun a7 F=>?_;go_wp2_with fail;refine au (aK a F (by omega)) fun S y=>?_;go_wp2_with fail;refine au (dc a y (by omega) (by omega)) fun I N=>?_;obtain⟨bk,q,G,s⟩:=iV (w:=I) a N;simp only[bg]at q;obtain⟨a6,a9,ao,a4,a3,bh⟩:=tC s a;go_wp2_with fail;refine au (bQ a _ _) fun am u=>?_;clear q;have o:=nB G u;have z:=ab o.out.sp.lt.2;have d:=nA o (aW (nN 15 (E.tk i)) s0 s0);have r:=tA (tB s u) a;have a8:=fun b=>(r b).1;clear r;go_wp2_with fail;refine(O _ _ _ d.out.sp (by simp only[ag]at p;omega)).mono ?_;rintro A U ⟨g,bb,rfl,M,c⟩;have h:=nP d c;have ac:=nL d c;clear c;obtain⟨ak,a1,v,J,al⟩:=Ah [g] #[.int .i64 g] rfl 1 rfl h z.out (by decide);have e:=Ag h;have ar:=fun b=>(e b).1;have bl:=fun b=>(e b).2;clear e;obtain⟨Z,af,an,bd,T,br,a5,X,Y,ap⟩:=nC v;go_wp2_with fail;refine(eC v (by omega) C ⟨15,(E.tk i).f,0,(E.tk i).l,0,0,⟨#[]⟩,[],[g]⟩ none _ 0 0 _ _ (World.ownsRow_nil _ _ _ _) J.out (by rw[ac.out.len];simp only[ag]at p;omega) (Fr.nil _ _ _) (Fr.new h.out.kt.size) (bH 15 (E.tk i) (E.tk (j-1)).t) ac.out (by rw[M];rfl)).mono ?_;rintro A bo ⟨V,a0,rfl,R,Q⟩;go_wp2_with fail;go_ret;exact⟨_,_,rfl,R,(pT Q).out⟩
theorem wK(a:(E.tk i).k=14)(bn:i<E.n){x:Fo}(O:CI E 105 #[pV E] (i+1) x j)(av:i+1<=j)(C:j<=E.n):CI E 50 #[pV E] i (one (bH 16 (E.tk i) (E.tk (j-1)).t) x) (j):=by
 intro W L B m p;have K:=bU.start m;clear m;go_in;go_wp2_with fail;refine au (aK a K (by omega)) fun a2 H=>?_;go_wp2_with fail;refine au (aK a H (by omega)) fun a7 F=>?_;go_wp2_with fail;refine au (aK a F (by omega)) fun S y=>?_;go_wp2_with fail;refine au (dc a y (by omega) (by omega)) fun I N=>?_;obtain⟨bk,q,G,s⟩:=iV (w:=I) a N;simp only[bg]at q;obtain⟨a6,a9,ao,a4,a3,bh⟩:=tC s a;go_wp2_with fail;refine au (bQ a _ _) fun am u=>?_;clear q;have o:=nB G u;have z:=ab o.out.sp.lt.2;have d:=nA o (aW (nN 16 (E.tk i)) s0 s0);have r:=tA (tB s u) a;have a8:=fun b=>(r b).1;clear r;go_wp2_with fail;refine(O _ _ _ d.out.sp (by simp only[ag]at p;omega)).mono ?_;rintro A U ⟨g,bb,rfl,M,c⟩;have h:=nP d c;have ac:=nL d c;clear c;obtain⟨ak,a1,v,J,al⟩:=Ah [g] #[.int .i64 g] rfl 1 rfl h z.out (by decide);have e:=Ag h;have ar:=fun b=>(e b).1;have bl:=fun b=>(e b).2;clear e;obtain⟨Z,af,an,bd,T,br,a5,X,Y,ap⟩:=nC v;go_wp2_with fail;refine(eC v (by omega) C ⟨16,(E.tk i).f,0,(E.tk i).l,0,0,⟨#[]⟩,[],[g]⟩ none _ 0 0 _ _ (World.ownsRow_nil _ _ _ _) J.out (by rw[ac.out.len];simp only[ag]at p;omega) (Fr.nil _ _ _) (Fr.new h.out.kt.size) (bH 16 (E.tk i) (E.tk (j-1)).t) ac.out (by rw[M];rfl)).mono ?_;rintro A bo ⟨V,a0,rfl,R,Q⟩;go_wp2_with fail;go_ret;exact⟨_,_,rfl,R,(pT Q).out⟩
theorem qC{k nk:Int}(g:(k=11/\nk=11)\/(k=23/\nk=12))(a:(E.tk i).k=k)(Q:i+1<E.n):CI E 50 #[pV E] i (one (bH nk (E.tk i) (E.tk i).t) .nil) (i+1):=by
 intro W L B b e;have q:=bU.start b;clear b;rcases g with⟨rfl,rfl⟩|⟨rfl,rfl⟩;all_goals
  go_in;go_wp2_with fail;refine au (aK a q (by omega)) fun G o=>?_;go_wp2_with fail;refine au (aK a o (by omega)) fun K l=>?_;go_wp2_with fail;refine au (aK a l (by omega)) fun x d=>?_;go_wp2_with fail;refine au (dc a d (by omega) (by omega)) fun p u=>?_;obtain⟨O,c,m,h⟩:=iV (w:=p) a u;simp only[bg]at c;obtain⟨J,M,A,I,H,N⟩:=tC h a;go_wp2_with fail;refine au (bQ a _ _) fun z r=>?_;clear c;have f:=nB m r;go_wp2_with fail;refine(eC f (by omega) (by omega) (nN _ (E.tk i)) none none 0 0 0 0 (World.ownsRow_nil _ _ _ _) (World.ownsRow_nil _ _ _ _) (by simp only[ag]at e;omega) (Fr.nil _ _ _) (Fr.nil _ _ _) (bH _ (E.tk i) (E.tk i).t) (Ac.nil _ L) rfl).mono ?_;rintro y R ⟨F,C,rfl,s,v⟩;go_wp2_with fail;go_ret;exact⟨_,_,rfl,s,v.out⟩
theorem wL(e:(E.tk i).k=42)(r:i<E.n){R:Fo}(g:CI E 94 #[pV E] i R j):CI E 50 #[pV E] i (R) (j):=by
 intro W L B a c;have d:=bU.start a;clear a;go_in;go_wp2_with fail;refine au (aK e d (by omega)) fun p b=>?_;go_wp2_with fail;refine(g _ _ _ b.out.sp c).mono ?_;rintro q s ⟨m,o,rfl,l,h⟩;have f:=nQ b h;go_wp2_with fail;go_ret;exact⟨_,_,rfl,l,f.out⟩
theorem mc{k:Int}(u:k=1\/k=40)(a:(E.tk i).k=k)(x:i<E.n){R:Fo}(m:CI E 95 #[pV E] i R j):CI E 50 #[pV E] i (R) (j):=by
 intro W L B g l;have h:=bU.start g;clear g;rcases u with rfl|rfl
 ·go_in;go_wp2_with fail;refine au (aK a h (by omega)) fun r d=>?_;go_wp2_with fail;refine au (aK a d (by omega)) fun t b=>?_;go_wp2_with fail;refine(m _ _ _ b.out.sp l).mono ?_;rintro s o ⟨p,q,rfl,f,e⟩;have c:=nQ b e;go_wp2_with fail;go_ret;exact⟨_,_,rfl,f,c.out⟩
 ·go_in;go_wp2_with fail;refine au (aK a h (by omega)) fun r d=>?_;go_wp2_with fail;refine au (aK a d (by omega)) fun t Nb=>?_;go_wp2_with fail;refine au (aK a Nb (by omega)) fun v b=>?_;go_wp2_with fail;refine(m _ _ _ b.out.sp l).mono ?_;rintro s o ⟨p,q,rfl,f,e⟩;have c:=nQ b e;go_wp2_with fail;go_ret;exact⟨_,_,rfl,f,c.out⟩
theorem ET(a:(E.tk i).k=20)(M:i<E.n){R:Fo}(r:CI E 103 #[pV E,.agg (bg 20 (E.tk i))] (i+1) R j):CI E 50 #[pV E] i (R) (j):=by
 intro W L B b h;have o:=bU.start b;clear b;go_in;go_wp2_with fail;refine au (aK a o (by omega)) fun z l=>?_;go_wp2_with fail;refine au (aK a l (by omega)) fun G g=>?_;go_wp2_with fail;refine au (aK a g (by omega)) fun u f=>?_;go_wp2_with fail;refine au (dc a f (by omega) (by omega)) fun m q=>?_;obtain⟨K,d,c,e⟩:=iV (w:=m) a q;simp only[bg]at d;obtain⟨H,I,v,C,A,J⟩:=tC e a;go_wp2_with fail;clear d;refine(r _ _ _ c.out.sp h).mono ?_;rintro F N ⟨x,y,rfl,t,s⟩;have p:=nQ c s;go_wp2_with fail;go_ret;exact⟨_,_,rfl,t,p.out⟩
theorem uq(a:(E.tk i).k=19)(M:i<E.n){R:Fo}(r:CI E 104 #[pV E,.agg (bg 19 (E.tk i))] (i+1) R j):CI E 50 #[pV E] i (R) (j):=by
 intro W L B b h;have o:=bU.start b;clear b;go_in;go_wp2_with fail;refine au (aK a o (by omega)) fun z l=>?_;go_wp2_with fail;refine au (aK a l (by omega)) fun G g=>?_;go_wp2_with fail;refine au (aK a g (by omega)) fun u f=>?_;go_wp2_with fail;refine au (dc a f (by omega) (by omega)) fun m q=>?_;obtain⟨K,d,c,e⟩:=iV (w:=m) a q;simp only[bg]at d;obtain⟨H,I,v,C,A,J⟩:=tC e a;go_wp2_with fail;clear d;refine(r _ _ _ c.out.sp h).mono ?_;rintro F N ⟨x,y,rfl,t,s⟩;have p:=nQ c s;go_wp2_with fail;go_ret;exact⟨_,_,rfl,t,p.out⟩
theorem wM{k:Nat}(a:(E.tk i).k=31)(a5:i<E.n){x u:Fo}(Y:CI E 101 #[pV E,.int .i64 0] (i+1) x k)(U:CI E 94 #[pV E] k u j)(ao:i+1<=j)(M:j<=E.n):CI E 50 #[pV E] i (one (bH 8 (E.tk i) (E.tk (j-1)).t) (x.app u)) (j):=by
 intro W L B h g;have O:=bU.start h;clear h;go_in;go_wp2_with fail;refine au (aK a O (by omega)) fun ar H=>?_;go_wp2_with fail;refine au (aK a H (by omega)) fun av A=>?_;go_wp2_with fail;refine au (aK a A (by omega)) fun ak z=>?_;go_wp2_with fail;refine au (dc a z (by omega) (by omega)) fun I X=>?_;obtain⟨a3,s,e,m⟩:=iV (w:=I) a X;simp only[bg]at s;obtain⟨K,N,v,F,C,S⟩:=tC m a;go_wp2_with fail;refine(Y _ _ _ e.out.sp (by simp only[ag,Fo.sz_app]at g;omega)).mono ?_;rintro q a4 ⟨o,a2,rfl,V,c⟩;have d:=nP e c;have ac:=nL e c;have G:=tK m c.kt;clear s;clear c;go_wp2_with fail;refine(U _ _ _ d.out.sp (by rw[ac.out.len];simp only[ag,Fo.sz_app]at g;omega)).mono ?_;rintro q am ⟨r,a1,rfl,y,b⟩;have J:=nP d b;have p:=nL d b;have Q:=tK G b.kt;clear b;obtain⟨K,N,v,F,C,S⟩:=tC Q a;go_wp2_with fail;refine au (bQ a _ _) fun a0 R=>?_;have T:=nB J R;go_wp2_with fail;refine(IS [o,r] _ rfl (by simp) T (by omega) M ⟨8,(E.tk i).f,0,(E.tk i).l,0,0,⟨#[]⟩,[],[o,r]⟩ none 0 0 (World.ownsRow_nil _ _ _ _) 2 rfl rfl (by rw[p.out.len,ac.out.len];simp only[ag,Fo.sz_app]at g;omega) (Fr.nil _ _ _) (bH 8 (E.tk i) (E.tk (j-1)).t) (ac.out.app p.out) (by rw[Fo.tops_app,V,<-ac.out.len,y];rfl)).mono ?_;rintro q al ⟨an,ap,rfl,af,Z⟩;go_wp2_with fail;go_ret;exact⟨_,_,rfl,af,Z.out⟩
end
section
variable {E : Pe} {i j : Nat}
theorem zI{k a:Nat}{q:Int}(am:q=20\/q=15)(p:(E.tk i).k=q)(bl:i<E.n){x J:Fo}(Y:CI E 101 #[pV E,.int .i64 0] (i+1) x k)(S:CI E 94 #[pV E] k J a)(bw:a<E.n)(ap:(E.tk a).k≠15)(U:(E.tk a).k≠16)(a7:i+1<=a):CI E 103 #[pV E,.agg (bg q (E.tk i))] (i+1) (one (bH 7 (E.tk i) (E.tk (a-1)).t) (x.app J)) (a):=by
 intro W L B F s;have X:=bU.start F;clear F;have a4:((E.tk a).k==15)=false:=by simp[ap]
 rcases am with rfl|rfl;all_goals
  obtain⟨bh,C,V,an⟩:=iV (w:=W) p X;simp only[bg]at C;obtain⟨bN,bd,bx,bE,bb,b0⟩:=tC an p;go_in;go_wp2_with fail;refine au (bQ p _ _) fun bs M=>?_;have z:=nB V M;have af:=ab z.out.sp.lt.2;have d:=nA z (aW (nN 7 (E.tk i)) s0 s0);clear M;clear C;go_wp2_with fail;refine(Y _ _ _ d.out.sp (by simp only[ag,Fo.sz_app]at s;omega)).mono ?_;rintro G br ⟨h,bo,rfl,a0,u⟩;have m:=nP d u;have ac:=nL d u;clear u;go_wp2_with fail;refine(S _ _ _ m.out.sp (by rw[ac.out.len];simp only[ag,Fo.sz_app]at s;omega)).mono ?_;rintro G a3 ⟨v,bA,rfl,ao,e⟩;have o:=nP m e;have A:=nL m e;clear e;obtain⟨a5,a9,y,c,a6⟩:=Ah [h,v] #[.int .i64 h,.int .i64 v] rfl 2 rfl o af.out (by decide);have g:=Ag o;have bD:=fun r=>(g r).1;have bk:=fun r=>(g r).2;clear g;obtain⟨R,ak,al,av,N,Z,ar,O,Q,T⟩:=nC y;go_wp2_with fail;refine au (cH rfl y (by omega)) fun bt b=>?_;have I:=nB y b;have K:=b;clear b;replace c:=oK c (Kt.of_below K) (.inl rfl);clear K;go_wp2_with fail;refine au (Dv U I (by omega)) fun b2 b=>?_;have H:=nB I b;replace c:=oK c (Kt.of_below b) (.inl rfl);clear b;obtain⟨R,ak,al,av,N,Z,ar,O,Q,T⟩:=nC H;go_wp2_with fail;refine(eC H (by omega) (by omega) ⟨7,(E.tk i).f,0,(E.tk i).l,0,0,⟨#[]⟩,[],[h,v]⟩ none _ 0 0 _ _ (World.ownsRow_nil _ _ _ _) c.out (by rw[A.out.len,ac.out.len];simp only[ag,Fo.sz_app]at s;omega) (Fr.nil _ _ _) (Fr.new o.out.kt.size) (bH 7 (E.tk i) (E.tk (a-1)).t) (ac.out.app A.out) (by rw[Fo.tops_app,a0,<-ac.out.len,ao];rfl)).mono ?_;rintro G b3 ⟨bn,a8,rfl,a2,a1⟩;go_wp2_with fail;go_ret;exact⟨_,_,rfl,a2,(pT a1).out⟩
theorem ur{k b:Nat}{q:Int}(bs:q=20\/q=15)(y:(E.tk i).k=q)(ct:i<E.n){x a e:Fo}(bh:CI E 101 #[pV E,.int .i64 0] (i+1) x k)(a5:CI E 94 #[pV E] k a b)(bo:b<E.n)(U:(E.tk b).k=15)(b1:CI E 103 #[pV E,.agg (bg 15 (E.tk b))] (b+1) e j)(ch:i+1<=j)(a3:j<=E.n):CI E 103 #[pV E,.agg (bg q (E.tk i))] (i+1) (one (bH 7 (E.tk i) (E.tk (j-1)).t) ((x.app a).app e)) (j):=by
 intro W L B O h;have a9:=bU.start O;clear O;rcases bs with rfl|rfl;all_goals
  have bN:2<=50000000:=by decide
  obtain⟨cs,I,a8,bt⟩:=iV (w:=W) y a9;simp only[bg]at I;obtain⟨c2,cn,cT,c1,cm,c4⟩:=tC bt y;go_in;go_wp2_with fail;refine au (bQ y _ _) fun cP ap=>?_;have H:=nB a8 ap;have S:=ab H.out.sp.lt.2;have p:=nA H (aW (nN 7 (E.tk i)) s0 s0);clear ap;clear I;go_wp2_with fail;refine(bh _ _ _ p.out.sp (by simp only[ag,Fo.sz_app]at h;omega)).mono ?_;rintro A cF ⟨M,cB,rfl,K,F⟩;have v:=nP p F;have ac:=nL p F;clear F;go_wp2_with fail;refine(a5 _ _ _ v.out.sp (by rw[ac.out.len];simp only[ag,Fo.sz_app]at h;omega)).mono ?_;rintro A o ⟨ao,C,rfl,af,r⟩;have g:=nP v r;have a0:=nL v r;clear r;obtain⟨a4,cl,G,bE,cb⟩:=Ah [M,ao] #[.int .i64 M,.int .i64 ao] rfl 2 rfl g S.out (by decide);have s:=Ag g;have bw:=fun z=>(s z).1;have bd:=fun z=>(s z).2;clear s;obtain⟨a2,bl,br,b0,ar,bk,bA,av,a1,a6⟩:=nC G;have bb:Hid (bG E W L _ a4 b C (x.app a) (some ⟨o.heap.size,0,none⟩) 2 2):=⟨G,ac.out.app a0.out,by rw[<-Fo.tops_len _ L.length,Fo.tops_app,K,<-ac.out.len,af];rfl,by rw[Fo.tops_app,K,<-ac.out.len,af];exact bE.out,Fr.new g.out.kt.size,iB g.out.sp (Nat.le_refl _)⟩;go_wp2_with fail;refine au (cH U G (by omega)) fun bn an=>?_;have Y:Hid (bG E W L _ bn b C (x.app a) (some ⟨o.heap.size,0,none⟩) 2 2):=bb.out.below an;clear an;go_wp2_with fail;refine au (co U Y.out.nw bo (by omega)) fun b2 al=>?_;have u:Hid (bG E W L _ b2 (b+1) C (x.app a) (some ⟨o.heap.size,0,none⟩) 2 2):=Y.out.move al;clear al;go_wp2_with fail;refine(b1 _ _ _ u.out.nw.out.sp (by rw[u.out.ac.len];simp only[ag,Fo.sz_app]at h⊢;omega)).mono ?_;rintro A m ⟨V,am,rfl,X,ak⟩;have d:Hid (ft E W L _ m j am (x.app a) e V _ 2 2):=u.out.up ak X;clear ak X;obtain⟨c3,c5,c0,cN,b6,b7,cI,cv,bw,bd⟩:=nC d.out.nw;go_wp2_with (at_builtin;refine be rfl _ _ rfl E.base _ 2 2 (Fo.tops (x.app a) L.length) rfl ((Fo.tops_len _ _).trans d.out.ln) (ai d.out.ow (ax m _)) (by rw[World.size_alloc];have:=d.out.nw.out.sp.lt.2;omega) m.heap.size V rfl (heap_alloc_new m _) bN ?_;intro R J bx N Z Q;have c:Hid (bG E W L _ bx j am (Fo.app (x.app a) e) (some ⟨R,0,none⟩) (3) J):=d.out.put N Z Q;obtain⟨cg,cq,cw,cf,b8,cr,cz,cc,c6,ca⟩:=nC c.out.nw;obtain⟨T,bD⟩:=nK c.out.nw S.out (.slice (some ⟨R,0,none⟩) (3) J);obtain⟨a2,bl,br,b0,ar,bk,bA,av,a1,a6⟩:=nC T;clear N Z Q);have a7:=oK (E:=E) c.out.ow bD (.inl rfl);refine(eC T (by omega) a3 ⟨7,(E.tk i).f,0,(E.tk i).l,0,0,⟨#[]⟩,[],((x.app a).app e).tops L.length⟩ none _ 0 0 _ _ (World.ownsRow_nil _ _ _ _) (by rw[Fo.tops_len,c.out.ln];exact a7.out) (by rw[c.out.ac.len];simp only[ag,Fo.sz_app]at h⊢;omega) (Fr.nil _ _ _) c.out.fr (bH 7 (E.tk i) (E.tk (j-1)).t) c.out.ac rfl).mono ?_;rintro A c7 ⟨cx,ck,rfl,b4,b3⟩;go_wp2_with fail;go_ret;exact⟨_,_,rfl,b4,(pT b3).out⟩
theorem ut{k b:Nat}{q:Int}(bs:q=20\/q=15)(y:(E.tk i).k=q)(ct:i<E.n){x a e:Fo}(bh:CI E 101 #[pV E,.int .i64 0] (i+1) x k)(a5:CI E 94 #[pV E] k a b)(bo:b<E.n)(V:(E.tk b).k=16)(b1:CI E 94 #[pV E] (b+1) e j)(ch:i+1<=j)(a3:j<=E.n):CI E 103 #[pV E,.agg (bg q (E.tk i))] (i+1) (one (bH 7 (E.tk i) (E.tk (j-1)).t) ((x.app a).app e)) (j):=by
 intro W L B O h;have a9:=bU.start O;clear O;rcases bs with rfl|rfl;all_goals
  have bN:2<=50000000:=by decide
  obtain⟨cs,I,a8,bt⟩:=iV (w:=W) y a9;simp only[bg]at I;obtain⟨c2,cn,cT,c1,cm,c4⟩:=tC bt y;go_in;go_wp2_with fail;refine au (bQ y _ _) fun cP ap=>?_;have H:=nB a8 ap;have S:=ab H.out.sp.lt.2;have p:=nA H (aW (nN 7 (E.tk i)) s0 s0);clear ap;clear I;go_wp2_with fail;refine(bh _ _ _ p.out.sp (by simp only[ag,Fo.sz_app]at h;omega)).mono ?_;rintro A cF ⟨M,cB,rfl,K,F⟩;have v:=nP p F;have ac:=nL p F;clear F;go_wp2_with fail;refine(a5 _ _ _ v.out.sp (by rw[ac.out.len];simp only[ag,Fo.sz_app]at h;omega)).mono ?_;rintro A o ⟨ao,C,rfl,af,r⟩;have g:=nP v r;have a0:=nL v r;clear r;obtain⟨a4,cl,G,bE,cb⟩:=Ah [M,ao] #[.int .i64 M,.int .i64 ao] rfl 2 rfl g S.out (by decide);have s:=Ag g;have bw:=fun z=>(s z).1;have bd:=fun z=>(s z).2;clear s;obtain⟨a2,bl,br,b0,ar,bk,bA,av,a1,a6⟩:=nC G;have bb:Hid (bG E W L _ a4 b C (x.app a) (some ⟨o.heap.size,0,none⟩) 2 2):=⟨G,ac.out.app a0.out,by rw[<-Fo.tops_len _ L.length,Fo.tops_app,K,<-ac.out.len,af];rfl,by rw[Fo.tops_app,K,<-ac.out.len,af];exact bE.out,Fr.new g.out.kt.size,iB g.out.sp (Nat.le_refl _)⟩;go_wp2_with fail;refine au (cH V G (by omega)) fun bn an=>?_;have Y:Hid (bG E W L _ bn b C (x.app a) (some ⟨o.heap.size,0,none⟩) 2 2):=bb.out.below an;clear an;go_wp2_with fail;refine au (EK V Y.out.nw bo) fun b2 al=>?_;have u:Hid (bG E W L _ b2 (b+1) C (x.app a) (some ⟨o.heap.size,0,none⟩) 2 2):=Y.out.move al;clear al;go_wp2_with fail;refine(b1 _ _ _ u.out.nw.out.sp (by rw[u.out.ac.len];simp only[ag,Fo.sz_app]at h⊢;omega)).mono ?_;rintro A m ⟨U,am,rfl,X,ak⟩;have d:Hid (ft E W L _ m j am (x.app a) e U _ 2 2):=u.out.up ak X;clear ak X;obtain⟨c3,c5,c0,cN,b6,b7,cI,cv,bw,bd⟩:=nC d.out.nw;go_wp2_with (at_builtin;refine be rfl _ _ rfl E.base _ 2 2 (Fo.tops (x.app a) L.length) rfl ((Fo.tops_len _ _).trans d.out.ln) (ai d.out.ow (ax m _)) (by rw[World.size_alloc];have:=d.out.nw.out.sp.lt.2;omega) m.heap.size U rfl (heap_alloc_new m _) bN ?_;intro R J bx N Z Q;have c:Hid (bG E W L _ bx j am (Fo.app (x.app a) e) (some ⟨R,0,none⟩) (3) J):=d.out.put N Z Q;obtain⟨cg,cq,cw,cf,b8,cr,cz,cc,c6,ca⟩:=nC c.out.nw;obtain⟨T,bD⟩:=nK c.out.nw S.out (.slice (some ⟨R,0,none⟩) (3) J);obtain⟨a2,bl,br,b0,ar,bk,bA,av,a1,a6⟩:=nC T;clear N Z Q);have a7:=oK (E:=E) c.out.ow bD (.inl rfl);refine(eC T (by omega) a3 ⟨7,(E.tk i).f,0,(E.tk i).l,0,0,⟨#[]⟩,[],((x.app a).app e).tops L.length⟩ none _ 0 0 _ _ (World.ownsRow_nil _ _ _ _) (by rw[Fo.tops_len,c.out.ln];exact a7.out) (by rw[c.out.ac.len];simp only[ag,Fo.sz_app]at h⊢;omega) (Fr.nil _ _ _) c.out.fr (bH 7 (E.tk i) (E.tk (j-1)).t) c.out.ac rfl).mono ?_;rintro A c7 ⟨cx,ck,rfl,b4,b3⟩;go_wp2_with fail;go_ret;exact⟨_,_,rfl,b4,(pT b3).out⟩
end
theorem jD{w:World}{k:Array Oper}{m:List Oper}{o:Oper}{a:Act}{Q:Exit->Act->World->Prop}(v:o.guard=none)(s x:Operand)(F:o.op= .call {callee:= .builtin .append,args:=#[s,x],argTypes:=#[66,66]})(base:Nat)(d:Option Addr)(n f:Nat)(l:List ByteArray)(t:a.eval s= .slice d n f)(N:l.length=n)(r:w.ownsRow base 9 1 (.slice d n f) n (l.map Value.string))(A:base<=w.heap.size)(b:Nat)(z:ByteArray)(K:a.eval x= .slice (some ⟨b,0,none⟩) 1 1)(u:w.heap[b]?=some (.cells #[.string z] 9 (0,0)))(O:n<=50000000)
  (h:∀g cap c,c.ownsRow base 9 1 (.slice (some ⟨g,0,none⟩) (n+1) cap) (n+1) ((l++[z]).map Value.string)->w.grownBy c (Value.slice d n f).ownBlock->((Value.slice d n f).ownBlock=some g\/g=w.heap.size)->wpList Tryz.prog k Q m (a.put o.dst (.slice (some ⟨g,0,none⟩) (n+1) cap)) c):wpList Tryz.prog k Q (o::m) a w:=by
 obtain⟨q,M,J,I,G⟩:=info_parts oE;refine wpList_append_own_at _ v s x 66 F base 9 q _ 1 16 Tryz.underlying66 M J I G rfl (by decide) _ _ _ t r ⟨b,0,none⟩ 1 1 [.string z] K rfl (World.news_of_block (cs:=#[.string z]) u) (by intro S H;rw[List.mem_singleton.1 H];rfl) (by unfold maxLen;omega) (by omega) A ?_;intro R c p y _ C;obtain⟨g,cap,rfl⟩:=ownsRow_succ p;exact h g cap c (by rw[List.map_append];exact p) y (by rcases C with e|e;exact .inl e.symm;exact .inr (by simpa [Value.ownBlock] using e))
section
variable {E : Pe} {W w w' : World} {i j : Nat} {L L1 L' : List Mb} {B B' : List (Nat × Array Value)}
theorem KI{v:Value}{n:Nat}{f:List Value}(h:Hid (bU E W w i L B))(o:w.ownsRow E.base 9 1 v n f)(d:w.grownBy w' v.ownBlock)(fr:Fr W.heap.size v)(O:∀x∈L,∀g,v.ownBlock=some g->x.vn.ownBlock≠some g):Hid (bU E W w' i L B):=by
 have t:=h.out.kt.size;obtain⟨K,T,M,U⟩:=h.out.sp.tks;obtain⟨R,F,C,r⟩:=h.out.sp.row;have k:∀{b:Nat}{y:Array Value}{p:TypeId}{fr:Nat×Nat},w.heap[b]?=some (.cells y p fr)->p≠9->w'.heap[b]?=some (.cells y p fr):=fun c H=>(d.block _ (lt_of_block c) (fun a=>bZ o c H a.symm)).trans c;have u:∀{base a size n:Nat}{A:Value}{f:List Value},w.ownsRow base a size A n f->a≠9->w'.ownsRow base a size A n f:=fun S N=>by
  obtain⟨m,e⟩:=S;refine⟨m,?_⟩;rcases e with e|⟨g,Q,I,l,d,G,J⟩
  ·exact .inl e
  ·exact .inr ⟨g,Q,I,l,d,k G N,J⟩
 refine⟨⟨h.out.sp.lo,h.out.sp.hn,⟨K,T,k M (by decide),U⟩,⟨R,k F (by decide),u C (by decide),fun s z=>⟨k (r s z).1 (by decide),(r s z).2⟩⟩,fun x q=>⟨(h.out.sp.each x q).1.kept d ?_,u (h.out.sp.each x q).2 (by decide)⟩,h.out.sp.nb⟩,⟨Nat.le_trans t d.size,fun b c m e=>?_⟩,?_⟩
 ·cases l:x.vn.ownBlock with
  |none=>exact .inl rfl
  |some g=>exact .inr (fun a=>O x q g a.symm l)
 ·rw[<-h.out.kt.block b c m e];exact d.block b (Nat.lt_of_lt_of_le c t) (fun a=>by have:=fr b a.symm;omega)
 ·exact h.out.bl.trans ((Below.refl _ w).grown d h.out.sp.lt.2 (fun b c=>(o.lt b c).1))
theorem lJ(w:World)(x:ByteArray):(w.alloc (.cells #[.string x] 9)).ownsRow w.heap.size 9 1 (.slice (some ⟨w.heap.size,0,none⟩) 1 1) 1 [.string x]:=by
 have:=World.ownsRow_lit (base:=w.heap.size) (e:=9) (size:=1) w #[.string x] 1 (Nat.le_refl _) (by unfold maxLen;omega) (by simp);simpa using this
structure iD (E:Pe) (W:World) (L:List Mb) (B:List (Nat×Array Value)) (w:World) (k b:Nat) (D:List ByteArray) (av:Option Addr) (n cv:Nat):Prop where
 nw:Hid (bU E W w k L B)
 bx:∃T,TB w b T
 bn:E.tb≠b
 bw:W.heap.size<=b
 lo:E.base<=W.heap.size
 ln:D.length=n
 ow:w.ownsRow E.base 9 1 (.slice av n cv) n (D.map Value.string)
 fr:Fr W.heap.size (.slice av n cv)
 old:∀x∈L,∀g,x.vn.ownBlock=some g->g<W.heap.size
theorem iD.below{k b:Nat}{D:List ByteArray}{a:Option Addr}{n c:Nat}(h:iD E W L B w k b D a n c)(q:Below w.heap.size w w'):iD E W L B w' k b D a n c:=⟨nB h.nw q,by obtain⟨d,e⟩:=h.bx;exact⟨d,(tB e q).out⟩,h.bn,h.bw,h.lo,h.ln,ai h.ow q,h.fr,h.old⟩
theorem iD.move{k c b:Nat}{D:List ByteArray}{a:Option Addr}{n d:Nat}(h:iD E W L B w k b D a n d)(q:Sp E w' c L B/\Kt w w'/\Below E.base w w'):iD E W L B w' c b D a n d:=⟨nX h.nw q,by obtain⟨e,f⟩:=h.bx;exact⟨e,(tK f q.2.1).out⟩,h.bn,h.bw,h.lo,h.ln,q.2.1.row h.ow (by decide) (by decide),h.fr,h.old⟩
theorem iD.tok{k b:Nat}{D:List ByteArray}{e:Option Addr}{n o:Nat}(h:iD E W L B w k b D e n o){q:Nat}{t:Int}(s:(E.tk q).k=t):∃m,ja w b (.int .i64 t) (.int .i64 (E.tk q).f) (.int .i64 (E.tk q).t) (.int .i64 (E.tk q).l) (.int .i64 (E.tk q).n) (.string (E.tk q).x)=m/\iD E W L B m k b D e n o/\TB m b (E.tk q):=by
 obtain⟨z,d⟩:=h.bx;have v:=kX d (.int .i64 t) (.int .i64 (E.tk q).f) (.int .i64 (E.tk q).t) (.int .i64 (E.tk q).l) (.int .i64 (E.tk q).n) (.string (E.tk q).x);have c:=qi (Below.refl b w) (Nat.le_refl b) (.int .i64 t) (.int .i64 (E.tk q).f) (.int .i64 (E.tk q).t) (.int .i64 (E.tk q).l) (.int .i64 (E.tk q).n) (.string (E.tk q).x);have a:w.grownBy (ja w b (.int .i64 t) (.int .i64 (E.tk q).f) (.int .i64 (E.tk q).t) (.int .i64 (E.tk q).l) (.int .i64 (E.tk q).n) (.string (E.tk q).x)) (some b):=⟨c.os,c.tape,c.output,c.size,fun k p u=>na (fun g=>u (by rw[g])) _ _ _ _ _ _⟩;have r:TB (ja w b (.int .i64 t) (.int .i64 (E.tk q).f) (.int .i64 (E.tk q).t) (.int .i64 (E.tk q).l) (.int .i64 (E.tk q).n) (.string (E.tk q).x)) b (E.tk q):=by unfold TB;rw[s];exact v
 have y:E.base<=b:=Nat.le_trans h.lo h.bw;exact⟨_,rfl,⟨⟨h.nw.out.sp.other d h.bn a,h.nw.out.kt.past a h.bw,h.nw.out.bl.trans ((Below.refl _ w).grown a h.nw.out.sp.lt.2 (fun k p=>by cases p;exact y))⟩,⟨_,r⟩,h.bn,h.bw,h.lo,h.ln,h.ow.kept a (by
  cases hv:(Value.slice e n o).ownBlock with
  |none=>exact .inl rfl
  |some A=>exact .inr (fun g=>bZ h.ow d (by decide) (by rw[hv,g]))),h.fr,h.old⟩,r⟩
theorem iD.put{a:World}{k b:Nat}{D:List ByteArray}{c:Option Addr}{n l g cap:Nat}{o:Obj}{x:ByteArray}(h:iD E W L B w k b D c n l)(v:a.ownsRow E.base 9 1 (.slice (some ⟨g,0,none⟩) (n+1) cap) (n+1) ((D++[x]).map Value.string))(m:(w.alloc o).grownBy a (Value.slice c n l).ownBlock)(y:(Value.slice c n l).ownBlock=some g\/g=(w.alloc o).heap.size):iD E W L B a k b (D++[x]) (some ⟨g,0,none⟩) (n+1) cap:=by
 have A:=h.nw.out.kt.size;have f:=ax w o;have p:=ai h.ow f;obtain⟨u,s⟩:=h.bx;have d:=(tB s f).out;refine⟨KI (nB h.nw f) p m h.fr (fun x z q r t=>?_),⟨u,(m.block _ (lt_of_block d) (fun e=>bZ p d (by decide) e.symm)).trans d⟩,h.bn,h.bw,h.lo,by rw[List.length_append,h.ln];rfl,v,?_,h.old⟩
 ·have C:=h.old x z q t;have F:=h.fr q r;omega
 ·rcases y with e|e
  ·exact Fr.new (h.fr g e)
  ·exact Fr.new (by rw[e,World.size_alloc];omega)
theorem iT{ns:List ByteArray}(z:(E.tk i).k=1)(b3:i<E.n)(F:rD E.tk E.n (i+1) ns j):CM E i ((E.tk i).x::ns) j:=by
 intro W L B h;have O:=bU.start h;have bs:Hid (∀x∈L,∀r,x.vn.ownBlock=some r->r<W.heap.size):=fun x a3 r a0=>((h.each x a3).1.lt r a0).2;have bo:Hid (E.base<=W.heap.size/\E.tb<W.heap.size):=⟨h.lt.2,by obtain⟨b0,cb,l,_⟩:=h.tks;exact lt_of_block l⟩;have b5:=h.hn;clear h;go_in;go_wp2_with fail;refine au (co z O (by omega) (by omega)) fun e l=>?_;have ar:=nX O l;have ak:=l.2.1.size;clear l;obtain⟨p,T,ao,X⟩:=iV (w:=e) z ar;simp only[bg]at T;have a6:p.heap.size=e.heap.size+1:=by rw[<-T];simp
 obtain⟨bk,a1,bd,bh,ap,br⟩:=tC X z;have a8:Hid (iD E W L B (p.alloc (.cells #[.string (E.tk i).x] 9)) (i+1) e.heap.size [(E.tk i).x] (some ⟨p.heap.size,0,none⟩) 1 1):=by
  have a5:=bo.out;refine⟨nB ao (ax _ _),⟨_,(tB X (ax _ _)).out⟩,by omega,ak,a5.1,rfl,?_,Fr.new (by omega),bs.out⟩;exact cU (lJ p (E.tk i).x) (by omega)
 have a2:=ab F;clear F;go_wp2_with fail;go_loopg [4] ns.length (fun gk a7 wr=>∃(k:Nat) (D q:List ByteArray) (f:Option Addr) (n g:Nat),a7= .slice f n g/\gk=q.length/\Hid (rD E.tk E.n k q j/\iD E W L B wr k e.heap.size D f n g/\D++q=(E.tk i).x::ns/\i+2*D.length=k+1))
 case atStart=>exact⟨i+1,[(E.tk i).x],ns,_,1,1,by rw[a6],rfl,a2.out,a8.out,rfl,by simp⟩
 case round=>
  obtain⟨c,D,q,f,n,g,rfl,Z,A⟩:=hrel;obtain⟨al,a,b,d⟩:=A.out;cases al with
  |stop C s=>
   have t:=a.nw;have m:=cK a b;clear a b A;go_wp2_with fail;refine au (Dv C t s) fun G bn=>?_;go_wp2_with fail;go_ret;obtain⟨a,b⟩:=m.out;have d:=a.below bn;rw[List.append_nil]at b;have U:=congrArg List.length b;rw[d.ln,List.length_cons]at U;exact⟨_,rfl,d.fr,by rw[<-U,<-b];exact d.ow,d.nw.out.sp,d.nw.out.kt,d.nw.out.bl⟩
  |@go _ _ R C s u Y=>
   have t:=a.nw;have m:=cS a b Y;have af:n<=50000000:=by have:=a.ln;omega
   clear a b A Y;go_wp2_with fail;refine au (EK C t (by omega)) fun G M=>?_;have H:Hid (iD E W L B G (c+1) e.heap.size D f n g):=m.out.1.move M;clear M;go_wp2_with fail;refine au (co u H.out.nw s (by omega)) fun bt I=>?_;have J:Hid (iD E W L B bt (c+2) e.heap.size D f n g):=H.out.move I;clear I;obtain⟨y,an,Q,am⟩:=J.out.tok u;unfold ja at an;have o:=ab Q;obtain⟨bw,v⟩:=J.out.bx;obtain⟨ca,cc,b9,b8,bA,bE⟩:=bz v;obtain⟨bN,b1,b7,b2,b4,bD⟩:=er v;obtain⟨bk,a1,bd,bh,ap,br⟩:=tC (h:=am) u;clear Q v;go_wp2_with (at_builtin;refine jD rfl _ _ rfl E.base f n g D rfl o.out.ln (ai o.out.ow (ax y _)) (by rw[World.size_alloc];have:=o.out.nw.out.sp.lt.2;omega) y.heap.size (E.tk (c+1)).x rfl (heap_alloc_new y _) af ?_;intro a4 K a9 N V S;have bb:Hid (iD E W L B a9 (c+2) e.heap.size (D++[(E.tk (c+1)).x]) (some ⟨a4,0,none⟩) (n+1) K):=o.out.put N V S;clear N V S);go_roundg R.length
   case measure=>rw[Z];simp
   case rel=>exact⟨c+2,D++[(E.tk (c+1)).x],R,_,n+1,K,rfl,rfl,m.out.2.2,bb.out,by rw[List.append_assoc];exact m.out.2.1,by rw[List.length_append,List.length_singleton];omega⟩
end
end Go.Proofs.YtcbmoiabehpliaaGreatDoor
namespace Go.Proofs.YtcbmoiabehpliaaGreatDoor
open Go.RowKit
def lK(b:Nat):Deferred:={target:= .collected b,args:=#[]}
structure eY (B:Nat) (c:List Nat) (W:World):Prop where
 nd:c.Nodup
 lo:∀b∈c,B<=b
 at_:∀b∈c,W.heap[b]?=some (.deferred (some []))
structure rP (c:List Nat) (W W':World):Prop where
 os:W'.os=W.os
 tape:W'.tape=W.tape
 output:W'.output=W.output
 size:W'.heap.size=W.heap.size
 same:∀k,k ∉ c->W'.heap[k]?=W.heap[k]?
theorem eJ{l:Fence}{n:Nat}{P:Program}{fn:Func}{tmps:Array Value}{R:Ending->World->Prop}(B:Nat):∀(c:List Nat)(W:World),eY B c W->(∀f,rP c W f->LeavesInM l n P fn tmps R [] .returning f)->LeavesInM l n P fn tmps R (c.map lK) .returning W
 |[],W,_,h=>h W ⟨rfl,rfl,rfl,rfl,fun _ _=>rfl⟩
 |b::c,W,g,h=>by
  have m:=g.at_ b (by simp);have k:=List.nodup_cons.1 g.nd;have o:b<W.heap.size:=(Array.getElem?_eq_some_iff.1 m).1;refine⟨by simp,.inl ⟨b,_,rfl,run_takeDeferred m,?_⟩⟩;refine eJ B c _ ⟨k.2,fun e a=>g.lo e (by simp[a]),fun e a=>?_⟩ (fun f d=>?_)
  ·exact(World.putObj_heap_other (by rintro rfl;exact k.1 a)).trans (g.at_ e (by simp[a]))
  ·refine h f ⟨d.os,d.tape,d.output,d.size.trans (by simp),fun e a=>?_⟩;simp at a;exact(d.same e a.2).trans (World.putObj_heap_other a.1)
theorem rP.below{c:List Nat}{w W e:World}{B:Nat}(h:rP c W e)(a:Below B w W)(f:∀b∈c,B<=b)(l:B<=w.heap.size):Below B w e:=
 ⟨h.os.trans a.os,h.tape.trans a.tape,h.output.trans a.output,by rw[h.size];exact a.size,fun d g=>(h.same d (fun k=>by have:=f d k;omega)).trans (a.block d g)⟩
theorem eY.below{B:Nat}{c:List Nat}{W b:World}(h:eY B c W)(e:Below W.heap.size W b):eY B c b:=
 ⟨h.nd,h.lo,fun a d=>(e.block a (Array.getElem?_eq_some_iff.1 (h.at_ a d)).1).trans (h.at_ a d)⟩
theorem eY.set{B:Nat}{c:List Nat}{W:World}(h:eY B c W)(a:Addr)(v:Value){cs:Array Value}{t:TypeId}{fr:Nat×Nat}(f:W.heap[a.block]?=some (.cells cs t fr)):eY B c (W.setCell a v):=
 ⟨h.nd,h.lo,fun d b=>(heap_setCell_other _ _ _ _ (fun e=>by
  have:=h.at_ d b;rw[e,f]at this;cases this)).trans (h.at_ d b)⟩
theorem eY.keeps{B:Nat}{c:List Nat}{W a:World}(h:eY B c W)(d:KeepsOthers W a):eY B c a:=
 ⟨h.nd,h.lo,fun b e=>d.same b _ (h.at_ b e) rfl⟩
end Go.Proofs.YtcbmoiabehpliaaGreatDoor
