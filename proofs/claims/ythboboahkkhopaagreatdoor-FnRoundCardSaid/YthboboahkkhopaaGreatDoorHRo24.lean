import Derived.Test.YthboboahkkhopaaGreatDoorHRo21
import Derived.Test.YthboboahkkhopaaGreatDoorHRo19
import Derived.Test.YthboboahkkhopaaGreatDoorHRo23
set_option linter.all false
set_option maxRecDepth 100000
set_option maxHeartbeats 25600000
open Go.Proofs.Tryz
open Option renaming some->M,none->O
open Go.Value renaming slice->R,int->Ax,pointer->A2,iface->B4,string->B6,bool->Ex,slice->E1,tuple->E3,ownBlock->F2,int->G2,nilIface->H1,agg->H2
open Go.IntKind renaming i64->U
open Go renaming undef->A0,World->B0,Value->B1,Calls->E0,grownBy_putObj'->F1,TypeId->Hm,wpAnyH_ready->H0,maxLen->H5
open Go.Obj renaming cells->A5
open Go.Proofs.Tryz renaming prog->A9
open Bool renaming false->Br,true->C2
open Go.World renaming putObj_heap_other->B2,news_of_block->G3,setCell->H3
open Go.RowKit renaming Hid->B3,intOf->G0,Below->H4
open List renaming set->B7,replicate->Fs
open Go.Lib renaming asciiSpaceTab->Ce,TabIs->F0
open Go.KeepsOthers renaming setCell->Ck
open Go.Ending renaming returned->E2
namespace Go.Proofs.YthboboahkkhopaaGreatDoor
open Go.RowKit Go.Maps Go.WideMaps
variable{B b base c i k n t vb:Nat}{L:List Im}{N:Nd}{S:List Int}{W W' w w0:World}{Y:ByteArray}{f:FuncId}{ns:List Nd}{r:Loop}{vn vs:Value}
def Co.start{lb mb p a:Nat}{r:B1}(x:pH w0)(u:nG w w0.heap.size vs L)(E:w.heap.size<=a)(y:lb≠a)(z:p≠a)(lk:Lk W lb mb vs)(ns:nG W w0.heap.size vs L)(A:nA p W 61 N vn r)(e:ic W a N vn 0 (R O 0 0))(t:be w0 W)(lo:w0.heap.size<=lb/\w0.heap.size<=a/\w0.heap.size<=p):
  Co w0 lb mb p a vs L N vn r (R O 0 0) 0 (W.setCell ⟨a,4,O⟩ (Ax U L.length)):=by
 have k:be w0 (W.setCell ⟨a,4,O⟩ (Ax U L.length)):=t.setCell lo.2.1 _;have g:∀{h:Nat},h≠a->(W.setCell ⟨a,4,O⟩ (Ax U L.length)).heap[h]?=W.heap[h]?:=λi=>aC _ _ _ _ i;have o:∀{q:B1}{n:Nat}{s:List B1},W.ownsRow w0.heap.size 44 1 q n s->(W.setCell ⟨a,4,O⟩ (Ax U L.length)).ownsRow w0.heap.size 44 1 q n s:=λj=>
  j.kept (row:=M a) ⟨rfl,rfl,rfl,by simp[H3],λl C i=>aC _ _ _ _ (λc=>i (by rw[c]))⟩ (by
   cases hv:F2 _ with
   |none=>exact .inl rfl
   |some l=>exact .inr (λc=>by obtain⟨⟨B,v⟩,_⟩:=qw j hv;obtain rfl:=bz c;exact sw e v (qG _).1 rfl))
 refine⟨⟨(g y).trans lk.b,uB lk.m (g (λc=>E8 lk.m e c)),x.keep k⟩,⟨o ns.row,λf b d=>?_,λf b d=>o (ns.kid f b d),ns.far,ns.rng⟩,(g z).trans A,?_,?_,.inl rfl,λb d=>?_,k,lo⟩
 .have:=ai (u.box f b d);exact(g (by omega)).trans (ns.box f b d)
 .unfold ic at e⊢;have:=bg W a 4 _ _ (Ax U L.length) e;rw[this];simp
 .rw[Hq];exact fE _ _ _ _
 .cases b.kv.ownBlock with
  |none=>exact .inl rfl
  |some l=>exact .inr (by simp[F2])
def wA(g m:Nat):(⟨g,0,O⟩:Addr).add m=⟨g,m,O⟩:=by unfold Addr.add;split<;>simp_all
def Co.done{lb mb p o:Nat}{a0 y:B1}(ap:pH w0)(h:Co w0 lb mb p o vs L N vn a0 y N.ks.length W)(ax:∀z∈N.ks,0<=z/\z<(L.length:Int)){a:B1}(t:W.grownBy W' vs.ownBlock)(l:W'.ownsRow w0.heap.size 44 1 a (L.length+1) (L.map nV++[gB N.k o]))(ao:a.ownBlock=vs.ownBlock\/a.ownBlock=M W.heap.size):
  W'.heap[lb]?=M (A5 #[.map (M mb),vs] 94 (0,0))/\
  Lk (W'.setCell ⟨lb,1,O⟩ a) lb mb a/\nG (W'.setCell ⟨lb,1,O⟩ a) w0.heap.size a (L++[⟨N,o,vn,y⟩])/\ic (W'.setCell ⟨lb,1,O⟩ a) o N vn L.length y/\be w0 (W'.setCell ⟨lb,1,O⟩ a):=by
 have B:∀k,vs.ownBlock=M k->ad5 W k/\w0.heap.size<=k:=λk x=>qw h.ns.row x;have F:∀{n:Nat}{q:Array B1}{j:Hm},W.heap[n]?=M (A5 q j (0,0))->j≠44->W'.heap[n]?=M (A5 q j (0,0)):=λd C=>
  (t.block _ (ai d) (λe=>by obtain⟨⟨I,s⟩,_⟩:=B _ e.symm;exact sw d s C rfl)).trans d
 have u:=F h.lk.b (by decide);have al:be w0 W':=h.bl.grown t h.bl.size (λk x=>(B k x).2);have ad:be w0 (W'.setCell ⟨lb,1,O⟩ a):=al.setCell h.lo.1 _;have set:∀{n:Nat}{q:Array B1}{j:Hm},W'.heap[n]?=M (A5 q j (0,0))->j≠94->(W'.setCell ⟨lb,1,O⟩ a).heap[n]?=M (A5 q j (0,0)):=λd C=>
  (aC _ _ _ _ (λe=>by exact sw d u C e)).trans d
 have G:∀{c:B1}{v:Nat}{w:List B1},W'.ownsRow w0.heap.size 44 1 c v w->(W'.setCell ⟨lb,1,O⟩ a).ownsRow w0.heap.size 44 1 c v w:=λl=>
  l.kept (row:=M lb) ⟨rfl,rfl,rfl,by simp[H3],λk x av=>aC _ _ _ _ (λe=>av (by rw[e]))⟩ (by
   cases E:F2 _ with
   |none=>exact .inl rfl
   |some k=>exact .inr (λe=>by obtain⟨⟨I,s⟩,_⟩:=qw l E;obtain rfl:=bz e;exact sw u s (by decide) rfl))
 have H:ic (W'.setCell ⟨lb,1,O⟩ a) o N vn L.length y:=set (F h.bx (qG _).1) (qG _).2.1;have K:=uB h.lk.m (t.block _ h.lk.m.lt (λe=>by obtain⟨⟨I,s⟩,_⟩:=B _ e.symm;exact E8 h.lk.m s rfl));have ar:pL L (N.ks.take N.ks.length)=pL L N.ks:=by rw[yB]
 have A:=h.kr;rw[ar]at A;have J:∀{c:B1}{v:Nat}{w:List B1},W.ownsRow w0.heap.size 44 1 c v w->(c.ownBlock=O\/c.ownBlock≠vs.ownBlock)->(c.ownBlock=O\/c.ownBlock≠a.ownBlock):=λl E=>by
  rcases E with e|e
  .exact .inl e
  .rename_i c v w;cases d:c.ownBlock with
   |none=>exact .inl rfl
   |some k=>
    have:=(l.lt k d).2;rcases ao with e2|e2
    .rw[e2,<-d];exact .inr e
    .rw[e2];exact .inr (by simp only[ne_eq,fI];omega)
 refine⟨u,⟨bg W' lb 1 _ _ _ u,uB K (aC _ _ _ _ (λe=>by exact E8 K u e)),ap.keep ad⟩,⟨?_,?_,?_,?_,?_⟩,H,ad⟩
 .rw[bm,eK];exact G l
 .intro b f hx;rcases bI b L.length with g|g
  .rw[gq g]at hx;exact set (F (h.ns.box b f hx) (qG _).1) (qG _).2.1
  .rw[dE g]at hx;obtain⟨r,i⟩:=List.getElem?_eq_some_iff.1 hx;simp at r i;subst i;obtain rfl:b=L.length:=by omega
   exact H
 .intro b f hx;rcases bI b L.length with g|g
  .rw[gq g]at hx;rw[List.take_append_of_le_length (by omega)];exact G ((h.ns.kid b f hx).kept t (h.ns.far f (cG hx)))
  .rw[dE g]at hx;obtain⟨r,i⟩:=List.getElem?_eq_some_iff.1 hx;simp at r i;subst i;obtain rfl:b=L.length:=by omega
   rw[List.take_left];exact G (A.kept t h.fr)
 .intro f hx;rcases List.mem_append.1 hx with hx|hx
  .obtain⟨b,au,an⟩:=iw hx;exact J (h.ns.kid b f (by rw[az au,an])) (h.ns.far f hx)
  .obtain rfl:=List.mem_singleton.1 hx;exact J A h.fr
 .intro b f z hx ak;rcases bI b L.length with g|g
  .rw[gq g]at hx;exact h.ns.rng b f z hx ak
  .rw[dE g]at hx;obtain⟨r,i⟩:=List.getElem?_eq_some_iff.1 hx;simp at r i;subst i;obtain rfl:b=L.length:=by omega
   exact ax z ak
def kinds(ns:List Nd)(ks:List Int):List Int:=ks.map λa=>(ns.getD a.toNat xL).k
def nG.kids(h:nG W base vs L)(s:L.map Im.N=ns.take L.length){x:Im}(j:L[i]?=M x):jy W x.kv (kinds ns x.N.ks):=by
 have e:=h.kid i x j;have n:(kinds ns x.N.ks).length=x.N.ks.length:=by simp[kinds]
 have w:i<L.length:=(List.getElem?_eq_some_iff.1 j).1;rcases bJ e with⟨z,f⟩|⟨q,p,f⟩
 .exact .inl ⟨jb (by omega),_,_,f⟩
 .rw[f]at e⊢;refine .inr ⟨⟨q,0,O⟩,p,by rw[n],?_,λl A c=>?_⟩
  .rw[n];rcases e.2 with⟨g,_⟩|⟨v,t,u,g,_,_,r,_⟩
   .cases g
   .cases g;exact r
  .unfold kinds at c;rw[ci]at c;cases hz:x.N.ks[l]? with
   |none=>rw[hz]at c;cases c
   |some d=>
    rw[hz]at c;obtain rfl:=bz c;have⟨z0,B⟩:=h.rng i x d j (cG hz);obtain⟨a,k⟩:∃a,L[d.toNat]?=M a:=⟨L[d.toNat]'(by omega),az _⟩;have o:(ns.getD d.toNat xL)=a.N:=by
     have m:(L.map Im.N)[d.toNat]?=M a.N:=by rw[ci,k];rfl
     rw[s,lp,ae (by omega)]at m;rw[aD,m];rfl
    have y:l<x.N.ks.length:=(List.getElem?_eq_some_iff.1 hz).1;refine⟨a.b,?_,?_⟩
    .rw[wA,e.cellAt l (by omega)];unfold pL;rw[ci,hz];simp only[ug];rw[lp,ae (by omega),k,o];rfl
    .show W.cell? ⟨a.b,0,O⟩=M (Ax U (ns.getD d.toNat xL).k);rw[o];exact(h.box _ a k).cells.1
def afI:(Tryz.prog.info? 44).map (λi=>(i.zero,i.size,i.bytes))=M (M H1,1,16):=by kernel_rfl
def Gi(N:Nd):Bool:=decide (0<=N.f/\N.f<=N.t/\0<=N.l/\N.ks.length<=200/\N.nm.length<=200)
def JI(ns:List Nd)(i:Nat)(N:Nd):Bool:=
 Gi N&&(Bw (py N (dF N.k)) N&&(G6 N.ks i N.ks.length 0&&(ffB N N.ks.length (dF N.k)&&kfB N (kinds ns N.ks))))
def JJ(c:B0)(lb mb:Nat)(L:List Im)(ns:List Nd)(N:Nd)(d:B1)(e:Ending)(w':B0):Prop:=
 e= E2 (Ex (JI ns L.length N))/\be c w'/\(JI ns L.length N=C2->∃b a,a.N=N/\a.vn=d/\Lk w' lb mb b/\nG w' c.heap.size b (L++[a]))
def afJ(w:B0)(lb:Nat)(N:Nd)(g f:B1)(l:bi w g N.nm)(k:dh w f N.ks)(e:jE N)(h:Gi N=Br):
  E0 A9 38 #[A2 (M ⟨lb,0,O⟩),jG N g f] w (gy w (Ex Br)):=by
 have b:∀c,be w (w.alloc c):=λc=>(ah _ w).alloc (af _) c;obtain⟨q,s,rfl⟩:=l.form;obtain⟨r,t,rfl⟩:=k.form;have m:=e.l1;have n:=e.l2;unfold Gi at h;have a:=mh h;unfold jG;generalize N.nm.length=i at m a⊢;generalize N.ks.length=j at n a⊢;obtain⟨A,d,p,o,F,C,G,E,B⟩:=N;simp only at a⊢;by_cases u:d<0
 .clear a;go_in;go_wp2;go_ret;exact⟨rfl,b _⟩
 by_cases v:p<d
 .clear a;go_in;go_wp2;go_ret;exact⟨rfl,b _⟩
 by_cases x:o<0
 .clear a;go_in;go_wp2;go_ret;exact⟨rfl,b _⟩
 by_cases y:(200:Int)<(j:Int)
 .clear a;go_in;go_wp2;go_ret;exact⟨rfl,b _⟩
 have z:(200:Int)<(i:Int):=by omega
 go_in;go_wp2;go_ret;exact⟨rfl,b _⟩
def aaH(c:be W W'){a:Addr}(b:a.block<W.heap.size){r:Bool}(h:W.frozen? a=r):W'.frozen? a=r:=by
 rw[<-h];exact World.frozen?_of_block (c.block _ b)
def as5(h:bi w vn N.nm)(k:Int):bi w (vf vn (dF k)) (py N (dF k)).nm:=by
 rcases E4 k with hc|hc|hc|hc|hc|hc|hc
 .rw[hc];exact h
 .rw[hc];exact .inl ⟨rfl,_,_,rfl⟩
 .rw[hc];exact .inl ⟨rfl,_,_,rfl⟩
 .rw[hc];exact .inl ⟨rfl,_,_,rfl⟩
 .rw[hc];exact .inl ⟨rfl,_,_,rfl⟩
 .rw[hc];exact h
 .rw[hc];exact .inl ⟨rfl,_,_,rfl⟩
def ai4(k:Int)(h:N.nm.length<=1048576):(py N (dF k)).nm.length<=1048576:=by
 rcases E4 k with hc|hc|hc|hc|hc|hc|hc
 .rw[hc];exact h
 .rw[hc];exact aH _
 .rw[hc];exact aH _
 .rw[hc];exact aH _
 .rw[hc];exact aH _
 .rw[hc];exact h
 .rw[hc];exact aH _
def ai5(g w:B0)(ad:pH g)(a5:be g w)(lb mb:Nat)(gi:g.heap.size<=lb)(bo:B1)(L:List Im)(h:Lk w lb mb bo)(fF:nG w g.heap.size bo L)(N:Nd)(cd dd:B1)(cz:bi g cd N.nm)(bh:dh g dd N.ks)(a7:jE N)(fB:L.length<=3000)(ns:List Nd)(gr:L.map Im.N=ns.take L.length)(b7:ns[L.length]?=M N)(ca:∀W,be g W->F0 A9 W "strings.asciiSpace" .u8 Ce)(cw:Gi N=C2):
  E0 A9 38 #[A2 (M ⟨lb,0,O⟩),jG N cd dd] w (JJ g lb mb L ns N cd):=by
 have cc:=λW (cr:be w W)=>abu W N cd dd (by obtain⟨cm,bb,k⟩:=cz.form;exact⟨_,_,_,k⟩) (by obtain⟨cm,bb,k⟩:=bh.form;exact⟨_,_,_,k⟩);have⟨a8,b5⟩:=aJ (JI ns L.length N);unfold JJ;rw[b5];unfold JI at b5;rw[cw,gE]at b5;obtain⟨o,p,rfl⟩:=cz.form;obtain⟨au,a4,rfl⟩:=bh.form;unfold Gi at cw;have⟨hK,h0,h1,fx,fz⟩:=aG cw;have y:B3 (Lk w lb mb bo/\nG w g.heap.size bo L/\bi g (R o N.nm.length p) N.nm/\dh g (R au N.ks.length a4) N.ks/\jE N/\L.map Im.N=ns.take L.length/\(∀W,be g W->F0 A9 W "strings.asciiSpace" .u8 Ce)/\pH g/\be g w/\ns[L.length]?=M N):=⟨h,fF,cz,bh,a7,gr,ca,ad,a5,b7⟩;have dq:=am b5;have h3:¬N.f<0:=by omega
 have h4:¬N.t<N.f:=by omega
 have h5:¬N.l<0:=by omega
 unfold jG at cc⊢;have⟨n,ee⟩:=aJ N.nm.length;have⟨q,eg⟩:=aJ N.ks.length;have bp:=iK ee eg;rw[ee]at cc y fz⊢;rw[eg]at cc y fx⊢;have h6:¬(200:Int)<(q:Int):=by omega
 have h7:¬(200:Int)<(n:Int):=by omega
 have io:lb<w.heap.size:=ai y.1.b;go_in;go_wp2_with fail;generalize f6:w.alloc _=dx;have⟨cF,ej,g7⟩:=al1 f6;replace cF:nA w.heap.size dx 61 N (R o n p) (R au q a4):=cF;refine(cc dx ej).mono ?_;rintro k C ⟨rfl,b6,eh⟩;rw[g7]at b6⊢;have⟨i,gb⟩:=aJ (w.heap.size+1+1+1);rw[gb]at b6⊢;have e8:=cF.below eh;have a9:be w C:=ej.trans (eh.mono (by omega));have⟨bt,bv,bw,bE,bF,b0,b1,b2,b3,hH⟩:=bu e8;have d9:be C C.drew:=aw (ah _ C);have em:bi C.drew (R o n p) N.nm:=((y.2.2.1.below y.2.2.2.2.2.2.2.2.1).below a9).below d9;have ap:=Hd C.drew i N (R o n p) (R O 0 0) 0 ⟨_,_,_,rfl⟩ (b6.below d9);have a6:=λW (cr:H4 C.drew.heap.size C.drew W)=>DJ W (py N (dF N.k)) N (vf (R o n p) (dF N.k)) (R O 0 0) (R o n p) (R au q a4) ((as5 em N.k).below cr) (em.below cr) ⟨_,_,_,rfl⟩ ⟨_,_,_,rfl⟩ (ai4 _ y.2.2.2.2.1.l1) y.2.2.2.2.1.l1;obtain⟨hD,iy,hE,g6⟩:∃cm hm bb,vf (R o n p) (dF N.k)= R cm hm bb:=by
  unfold vf;split<;>exact⟨_,_,_,rfl⟩
 rw[g6]at ap a6;unfold jG at ap a6;have⟨hs,er⟩:=aJ (Bw (py N (dF N.k)) N);rw[er]at a6;have cf:=am er;have⟨hA,cI⟩:=aJ (py N (dF N.k));rw[cI]at ap a6 cf;have gn:=λw=>tF N.k i w;have hb:=λw=>dw i w;unfold gB at ap⊢;have hx:B3 (lH (dF N.k)=lH (dF N.k)):=rfl;generalize c0:lH (dF N.k)=c9 at ap gn⊢;go_wp2_with fail;cases hs with
 |false=>
  have E:B3 (Br=a8):=by have:=dq.out;rw[cI,cf.out,fw]at this;exact this
  go_region_held3 (λm=>m.cell? ⟨w.heap.size,0,O⟩=M (Ax U N.k)/\m.cell? ⟨w.heap.size,1,O⟩=M (Ax U N.f)/\m.cell? ⟨w.heap.size,2,O⟩=M (Ax U N.t)/\m.cell? ⟨w.heap.size,3,O⟩=M (Ax U N.l)/\m.cell? ⟨w.heap.size,4,O⟩=M (Ax U N.op)/\m.cell? ⟨w.heap.size,5,O⟩=M (Ax U N.n)/\m.cell? ⟨w.heap.size,6,O⟩=M (B6 N.x)/\m.cell? ⟨w.heap.size,7,O⟩=M (R o n p)/\m.cell? ⟨w.heap.size,8,O⟩=M (R au q a4)) (first|go_keep|exact⟨ag j (ag a bt),ag j (ag a bv),ag j (ag a bw),ag j (ag a bE),ag j (ag a bF),ag j (ag a b0),ag j (ag a b1),ag j (ag a b2),ag j (ag a b3)⟩|exact⟨ag a bt,ag a bv,ag a bw,ag a bE,ag a bF,ag a b0,ag a b1,ag a b2,ag a b3⟩) (first|(go_at_call 92;refine ap.mono ?_;rintro k hw ⟨rfl,a⟩)|(go_at_call 111;refine(a6 _ a).mono ?_;rintro k ar ⟨rfl,j⟩))
  go_wp2;go_ret;have f9:be w ar:=a9.trans (((aw (ah _ C)).trans (a.trans (j.mono a.size))).mono a9.size);exact⟨by rw[<-E.out];rfl,y.2.2.2.2.2.2.2.2.1.trans (f9.mono y.2.2.2.2.2.2.2.2.1.size),λh=>by rw[<-E.out]at h;cases h⟩
 |true=>
  have ff:B3 ((G6 N.ks L.length N.ks.length 0&&(ffB N N.ks.length (dF N.k)&&kfB N (kinds ns N.ks)))=a8):=by have:=dq.out;rw[cI,cf.out,gE]at this;exact this
  go_region_held3 (λm=>m.cell? ⟨w.heap.size,0,O⟩=M (Ax U N.k)/\m.cell? ⟨w.heap.size,1,O⟩=M (Ax U N.f)/\m.cell? ⟨w.heap.size,2,O⟩=M (Ax U N.t)/\m.cell? ⟨w.heap.size,3,O⟩=M (Ax U N.l)/\m.cell? ⟨w.heap.size,4,O⟩=M (Ax U N.op)/\m.cell? ⟨w.heap.size,5,O⟩=M (Ax U N.n)/\m.cell? ⟨w.heap.size,6,O⟩=M (B6 N.x)/\m.cell? ⟨w.heap.size,7,O⟩=M (R o n p)/\m.cell? ⟨w.heap.size,8,O⟩=M (R au q a4)) (first|go_keep|exact⟨ag j (ag a bt),ag j (ag a bv),ag j (ag a bw),ag j (ag a bE),ag j (ag a bF),ag j (ag a b0),ag j (ag a b1),ag j (ag a b2),ag j (ag a b3)⟩|exact⟨ag a bt,ag a bv,ag a bw,ag a bE,ag a bF,ag a b0,ag a b1,ag a b2,ag a b3⟩) (first|(go_at_call 92;refine ap.mono ?_;rintro k hw ⟨rfl,a⟩)|(go_at_call 111;refine(a6 _ a).mono ?_;rintro k ar ⟨rfl,j⟩))
  have cp:be C ar:=(aw (ah _ C)).trans (a.trans (j.mono a.size));have cn:be w ar:=a9.trans (cp.mono a9.size);have⟨lk,b8,eo,gf,a7,ep,ca,ad,a5,b7⟩:=y.out;have fq:be g ar:=a5.trans (cn.mono a5.size);have e3:=lk.below cn;have e7:=b8.below cn;have hq:=e8.below cp;have bs:=b6.below cp;have g8:=a5.size;have e:=Co.start ad b8 (by omega) (by omega) (by omega) e3 e7 hq bs fq ⟨gi,by omega,g8⟩;have⟨I,J,bk⟩:=cg e7.row;have fu:ar.cell? ⟨lb,1,O⟩=M (R I L.length J):=by rw[<-bk,aj _ _ _ _ _ _ e3.b];rfl
  have eb:=bs.cells.2.2.2.1;have ec:=bs.cells.2.2.2.2.2;have ia:i<ar.heap.size:=ai bs;have br:=am e;have⟨d,en⟩:=aJ L.length;rw[en]at fu br fB;have F:=am en;go_wp2_with (go_at_call 330;refine(hb _).mono ?_;rintro k s ⟨rfl,rfl⟩);have⟨eF,ek,ev,ew,ex⟩:=eu afI;go_loopw [54] (λdc wr=>∃(c:Nat) (e0:B1),dc= Ax U c/\c<=q/\B3 ((G6 N.ks d (q-c) c&&(ffB N q (dF N.k)&&kfB N (kinds ns N.ks)))=a8)/\B3 (∀r∈N.ks.take c,0<=r/\r<(d:Int))/\B3 (Co g lb mb w.heap.size i bo L N (R o n p) (R au q a4) e0 c wr)) (λdc _=>q-(G0 dc).toNat)
  case atStart=>
   refine⟨0,_,rfl,aH _,?_,λr an=>by simp at an,br⟩;have:=ff.out;rw[F.out,bp.out.2]at this;exact this
  case round=>
   obtain⟨c,e0,rfl,ih,dn,ds,ce⟩:=hrel;have e:=ce.out;have G:=dn.out;by_cases gl:c<q
   .obtain⟨r,an⟩:=cA bp.2 gl;have⟨hC,f7,ib⟩:=(y.2.2.2.1.below e.bl).get an;subst f7;have ik:(c:Int)<(q:Int):=by omega
    have ii:(0:Int)<=(c:Int):=by omega
    have eb:=e.bx.cells.2.2.2.1;rw[F.out]at eb;rw[show q-c=(q-(c+1))+1 by omega,G6,aD,an,ie]at G;by_cases b4:0<=r/\r<(d:Int)
    .obtain⟨c7,rfl⟩:=lr b4.1;have fA:c7<d:=by omega
     have⟨H,et⟩:=cA F.out fA;have b9:=e.ns.row;rw[F.out]at b9;rcases bJ b9 with⟨ir,_⟩|⟨bc,cs,bk⟩
     .omega
     subst bk;have ft:wr.cell? ⟨lb,1,O⟩=M (R (M ⟨bc,0,O⟩) d cs):=by rw[aj _ _ _ _ _ _ e.lk.b];rfl
     have ea:wr.cell? ⟨bc,c7,O⟩=M (B4 (lH (dF H.N.k)) (A2 (M ⟨H.b,0,O⟩))):=by
      rw[b9.cellAt c7 (by omega),ci,et];rfl
     have⟨u,v,cx⟩:=cg e.kr;subst cx;have fv:=e.bx.cells.2.2.2.2.1;have ec:=e.bx.cells.2.2.2.2.2 5;have el:=e.kr;have cl:B3 (pL L (N.ks.take (c+1))=pL L (N.ks.take c)++[B4 (lH (dF H.N.k)) (A2 (M ⟨H.b,0,O⟩))]):=by
      show _=_;rw[jc,an];unfold pL;rw[eK];simp[et,nV,gB]
     have fd:B3 ((G6 N.ks d (q-(c+1)) (c+1)&&(ffB N q (dF N.k)&&kfB N (kinds ns N.ks)))=a8):=by
      rw[aI b4,gE]at G;exact G
     have fn:B3 (∀r∈N.ks.take (c+1),0<=r/\r<(d:Int)):=λr ey=>by
      rw[jc,an]at ey;rcases List.mem_append.1 ey with h|h
      .exact ds r h
      .simp at h;subst h;exact b4
     have hh:lb<wr.heap.size:=ai e.lk.b;have hl:i<wr.heap.size:=ai e.bx;have iv:bc<wr.heap.size:=(b9.lt bc rfl).2;have eL:∀c4,(E1 u c v).ownBlock=M c4->ad5 wr c4:=λc4 bh=>(qw el bh).1;have i1:M lb≠(E1 u c v).ownBlock:=λk=>by obtain⟨bb,bd⟩:=eL lb k.symm;exact sw e.lk.b bd (by decide) rfl
     have e6:M i≠(E1 u c v).ownBlock:=λk=>by obtain⟨bb,bd⟩:=eL i k.symm;exact sw e.bx bd (qG _).1 rfl
     have i2:M bc≠(E1 u c v).ownBlock:=λk=>by
      rcases e.fr with e2|e2
      .rw[e2]at k;cases k
      .exact e2 k.symm
     have g9:g.heap.size<=wr.heap.size:=e.bl.size;have fm:B3 (lH (dF H.N.k)=lH (dF H.N.k)):=rfl;generalize lH (dF H.N.k)=da at ea cl fm;generalize H.b=dg at ea cl;have ba:∀B,be wr (wr.alloc B).drew:=λB=>aw ((ah _ wr).alloc (af _) B);go_wp2_with fail;go_region_law (refine step_append_lies _ (by rfl) _ _ _ (by rfl) g.heap.size 44 eF _ 1 16 underlying92 ek ev ew ex rfl (by omega) (R u c v) c (pL L (N.ks.take c)) (by rfl) ((el.alloc _).drew) ⟨wr.heap.size,0,O⟩ 1 1 [B4 da (A2 (M ⟨dg,0,O⟩))] (by rfl) (by rfl) (G3 (cs:=#[B4 da (A2 (M ⟨dg,0,O⟩))]) (t:=44) (fr:=(0,0)) (aB wr _)) (by simp[Value.oneCell']) (by omega) (by unfold H5;omega) (by omega) (by simp;omega) (wr.heap.size+1) (by simp) ?_;intro h2 hG s bj bf ct il;have hI:=(bf.cell_far ⟨i,5,O⟩ (by simp;omega) e6).trans (ag (ba _) fv);have hJ:=(bf.frozen_far ⟨i,5,O⟩ (by simp;omega) e6).trans (aaH (ba _) hl ec))
     all_goals
      go_wp2_with fail;have⟨_,b8,_,_,_,_,_,ad,_,_⟩:=y.out;have hv:=ce.below (ba (A5 #[B4 da (A2 (M ⟨dg,0,O⟩))] 44));rw[<-cl.out]at bj;have⟨_,stB⟩:=hv.kid ad bf bj ct (by simp);exact⟨⟨c+1,_,by go_num,by omega,fd,fn,stB⟩,by simp[G0];omega⟩
    .have E:B3 (Br=a8):=by rw[aE b4,fw,fw]at G;exact G
     have ei:=e.bl;by_cases h8:r<0
     .clear G e ce dn an;go_wp2;go_ret;exact⟨by rw[<-E.out];rfl,ei,λh=>by rw[<-E.out]at h;cases h⟩
     .have h9:¬r<(d:Int):=by omega
      go_wp2;go_ret;exact⟨by rw[<-E.out];rfl,ei,λh=>by rw[<-E.out]at h;cases h⟩
   .obtain rfl:c=q:=by omega
    rw[fH,G6,gE]at G;have⟨u,v,cx⟩:=cg e.kr;subst cx;have⟨I,J,bk⟩:=cg e.ns.row;subst bk;rw[F.out];have ft:wr.cell? ⟨lb,1,O⟩=M (R I d J):=by rw[<-F.out,aj _ _ _ _ _ _ e.lk.b];rfl
    have eq:=e.ns.row;rw[F.out]at eq;have g9:g.heap.size<=wr.heap.size:=e.bl.size;have hh:lb<wr.heap.size:=ai e.lk.b;have ba:∀B,be wr (wr.alloc B):=λB=>(ah _ wr).alloc (af _) B;have br:=am e;have fg:=am G;have fk:=am eq;have⟨_,b8,eo,gf,a7,ep,ca,ad,a5,b7⟩:=y.out;have fb:B3 (∀B s A z,(wr.alloc B).grownBy s (E1 I d J).ownBlock->s.ownsRow g.heap.size 44 1 (R (M ⟨A,0,O⟩) (d+1) z) (d+1) (L.map nV++[B4 c9 (A2 (M ⟨i,0,O⟩))])->((E1 (M ⟨A,0,O⟩) (d+1) z).ownBlock=(E1 I d J).ownBlock\/(E1 (M ⟨A,0,O⟩) (d+1) z).ownBlock=M (wr.alloc B).heap.size)->
      s.heap[lb]?=M (A5 #[.map (M mb),R I d J] 94 (0,0))/\Lk (s.setCell ⟨lb,1,O⟩ (R (M ⟨A,0,O⟩) (d+1) z)) lb mb (R (M ⟨A,0,O⟩) (d+1) z)/\nG (s.setCell ⟨lb,1,O⟩ (R (M ⟨A,0,O⟩) (d+1) z)) g.heap.size (R (M ⟨A,0,O⟩) (d+1) z) (L++[⟨N,i,R o n p,R u c v⟩])/\ic (s.setCell ⟨lb,1,O⟩ (R (M ⟨A,0,O⟩) (d+1) z)) i N (R o n p) d (R u c v)/\be g (s.setCell ⟨lb,1,O⟩ (R (M ⟨A,0,O⟩) (d+1) z))):=by
     intro B s A z gd gv ct;have ht:=br.below (ba B);have cB:=F.out;have cy:=bp.2;subst cy;subst cB;have g0:∀r∈N.ks,0<=r/\r<(L.length:Int):=by
      have:=ds.out;rw[yB]at this;exact this
     refine ht.done ad g0 gd ?_ ct;unfold gB;rw[c0];exact gv
    go_wp2_with (at_builtin;refine wpList_append_own_at _ rfl _ _ 92 rfl g.heap.size 44 eF _ 1 16 underlying92 ek ev ew ex rfl (by decide) _ _ _ rfl (fk.alloc _) ⟨wr.heap.size,0,O⟩ 1 1 [B4 c9 (A2 (M ⟨i,0,O⟩))] rfl rfl (G3 (cs:=#[B4 c9 (A2 (M ⟨i,0,O⟩))]) (fr:=(0,0)) (aB wr _)) (by intro i3 es;simp at es;subst es;rfl) (by unfold H5;omega) (by omega) (by simp;omega) ?_;intro i4 s bj bf ip f8;obtain⟨A,z,rfl⟩:=ownsRow_succ bj;obtain⟨e1,c6,c8,cq,ax⟩:=fb.out _ s A z bf bj f8;have i6:s.cell? ⟨lb,1,O⟩=M (R I d J):=by {rw[aj _ _ _ _ _ _ e1];rfl};have i7:s.frozen? ⟨lb,1,O⟩=Br:=cC _ _ _ _ _ e1);generalize s.setCell ⟨lb,1,O⟩ (R (M ⟨A,0,O⟩) (d+1) z)=fo at c6 c8 cq ax⊢;have cB:=F.out;have cy:=bp.2;have ha:(L++[⟨N,i,R o n p,R u c v⟩])[d]?=M ⟨N,i,R o n p,R u c v⟩:=by rw[<-cB];simp
    have gt:(L++[(⟨N,i,R o n p,R u c v⟩:Im)]).map Im.N=ns.take (L++[(⟨N,i,R o n p,R u c v⟩:Im)]).length:=by
     rw[eK,ep,bm,yx,jc,b7];rfl
    have ge:=c8.kids gt ha;have ao:=Gc fo lb mb _ c6 i N (R o n p) d u c v (by omega) (eo.below ax) a7.l1 a7.ls a7.lx cq;unfold gB at ao;rw[c0]at ao;have al:=fg.out;cases hfb:ffB N c (dF N.k) with
    |false=>
     rw[hfb]at ao al;rw[fw]at al;have E:=am al;refine ao.mono ?_;rintro k e9 ⟨rfl,K⟩;have a0:=ax.trans (K.mono ax.size);clear al hfb ao;go_wp2;go_ret;exact⟨by rw[<-E.out];rfl,a0,λh=>by rw[<-E.out]at h;cases h⟩
    |true=>
     rw[hfb]at ao al;rw[gE]at al;have gp:dF N.k=1->0<=N.n/\N.n<=200:=λbd=>by
      rw[bd]at hfb;have:=aG (show decide (1<=N.n/\N.n<(c:Int))=C2 from hfb);omega
     refine ao.mono ?_;rintro k e9 ⟨rfl,K⟩;have a0:=ax.trans (K.mono ax.size);have hd:=c6.below K;have hp:=c8.below K;have gj:(kinds ns N.ks).length<=1048576:=by unfold kinds;rw[bC,cy];omega
     have cb:=aax e9 i N (R o n p) (R u c v) d (kinds ns N.ks) (ge.below K) gj (λW f0=>ca W (a0.trans (f0.mono a0.size))) (cq.below K) gp;rw[al]at cb;unfold gB at cb;rw[c0]at cb;go_wp2_with (go_at_call 113;refine cb.mono ?_;rintro k i5 ⟨rfl,cu⟩);go_ret;exact⟨rfl,a0.trans (cu.mono a0.size),λ_=>⟨_,_,rfl,rfl,hd.below cu,hp.below cu⟩⟩
def ai6(a w:B0)(n:pH a)(b:be a w)(lb mb:Nat)(p:a.heap.size<=lb)(e:B1)(L:List Im)(h:Lk w lb mb e)(l:nG w a.heap.size e L)(N:Nd)(c d:B1)(i:bi a c N.nm)(g:dh a d N.ks)(j:jE N)(k:L.length<=3000)(ns:List Nd)(q:L.map Im.N=ns.take L.length)(o:ns[L.length]?=M N)(r:∀W,be a W->F0 A9 W "strings.asciiSpace" .u8 Ce):
  E0 A9 38 #[A2 (M ⟨lb,0,O⟩),jG N c d] w (JJ a lb mb L ns N c):=by
 cases hf:Gi N with
 |true=>exact ai5 a w n b lb mb p e L h l N c d i g j k ns q o r hf
 |false=>
  refine gL (afJ w lb N c d (i.below b) (g.below b) j hf) λs m=>?_;have f:JI ns L.length N=Br:=by unfold JI;rw[hf,fw]
  exact⟨by rw[f],b.trans (m.mono b.size),λh=>by rw[f]at h;cases h⟩
def aaI(n l Bs b o:Nat)(a:Option Addr)(f:Nat->B1)(J:b<=3000)(H:b<=o)(c:Nat->B0->Prop)(k:B0->Prop)
  (q:∀m W,c m W->W.cell? ⟨Bs,0,O⟩=M (R a b o))
  (y:∀m W,c m W->∀j,j<b->∃h,a=M h/\W.cell? (h.add j)=M (f j))
  (x:∀m W,m<b->c (m+1) W->YieldAt Fence.wide (n-1) A9 l #[Ax U (m:Int),f m] W λe W'=>(e= E2 (Ex C2)/\c m W')\/(e= E2 (Ex Br)/\k W'))
  (W:B0) (p:c b W):
  CallsIn Fence.wide n A9 173 #[.func (.yield l) #[] #[],A2 (M ⟨Bs,0,O⟩)] W λe W'=>(∃v,e= E2 v)/\(c 0 W'\/k W'):=by
 have F:=q _ _ p;refine callsIn_of_wp func173 rfl trivial ?_ rfl;simp only[ntmps173,jo,bB,fs,Nat.reduceAdd,Nat.reduceSub,jI,kG,kH,qd,dI,ed]
 gi_wp2
 gi_loopw [3] (λi wr=>∃d:Nat,d<=b/\i= Ax U ((d:Int)-1)/\c d wr) (λi _=>(G0 i+1).toNat)
 case atStart=>exact⟨b,af _,rfl,p⟩
 case round=>
  obtain⟨d,I,rfl,g⟩:=hrel;have E:=q _ _ g;rcases nK d with rfl|hp
  .gi_wp2
   go_end0
   exact⟨⟨_,rfl⟩,.inl g⟩
  .obtain⟨m,rfl⟩:∃m,d=m+1:=⟨d-1,by omega⟩;obtain⟨h,rfl,G⟩:=y _ _ g m (by omega);have⟨C,tmps,A,B,K,w⟩:=x m wr (by omega) g;have r:((m+1:Nat):Int)-1=(m:Int):=by omega
   rw[r];have L:(m:Int)<(b:Int):=by omega
   have ad:(0:Int)<=(m:Int):=by omega
   gi_wp2
   refine⟨λs=>by simp[Fence.wide]at s,w.mono ?_⟩;rintro e z (⟨rfl,t⟩|⟨rfl,u⟩)
   .gi_wp2
    go_roundw
    case rel=>exact⟨m,by omega,by simp,t⟩
    case measure=>simp[G0]
   .gi_wp2
    refine bH (fK rfl _ _ _) rfl ?_;exact⟨⟨_,rfl⟩,.inr u⟩
def Aa(a:Option Addr)(c b:Nat)(w:B0):
  E0 A9 114 #[R a c b] w λe w'=>e= E2 (.func (.func 173) #[] #[A2 (M ⟨w.heap.size,0,O⟩)])/\w'=w.alloc (A5 #[R a c b] 92):=by
 refine calls_of_wp func114 rfl ?_;simp only[ntmps114,jo,bB,fs,Nat.reduceAdd,Nat.reduceSub,jI,kG,kH,qd,dI,ed];go_wp2;go_ret;exact⟨rfl,rfl⟩
attribute [local go_sem] mi
def aq9:Option Nat->B1
 |some i=> E3 #[Ax U (i:Int),Ex C2]
 |none=> E3 #[Ax U 0,Ex Br]
structure Fj (w:B0) (B:Nat) (vs:B1) (n:Nat) (D:List Int) (W:B0):Prop where
 bl:be w W
 row:W.ownsRow w.heap.size 3 1 (.slice (M ⟨w.heap.size,0,O⟩) n n) n (D.map (G2 .i64))
 bx:W.heap[B]?=M (.cells #[.slice (M ⟨w.heap.size,0,O⟩) n n] 59 (0,0))
 bs:W.heap[B+1]?=M (.cells #[vs] 92 (0,0))
 ok:afq n D
def Fj.put{D:List Int}(h:Fj w B vs n D W)(c:w.heap.size<B)(d:B+1<k)(b:W.heap[k]?=M (.loop r))(o:Obj):Fj w B vs n D (W.putObj k o):=
 ⟨h.bl.grown (F1 W k o) h.bl.size (λe a=>by cases a;omega),ownsRow_putObj h.row o b rfl,(B2 (by omega)).trans h.bx,(B2 (by omega)).trans h.bs,h.ok⟩
structure ao7 (w:B0) (B:Nat) (vs:B1) (n t:Nat) (ks D:List Int) (j:Nat) (E:List Int) (W0 W:B0):Prop where
 st:Fj w B vs n E W
 rest:Er t (ks.drop j) E=Er t ks D
 kf:KeepsFrom (B+2) W0 W
def Bh{e size:Nat}{v:B1}{d:List B1}(h:W.ownsRow base e size v n d):∃a b,v= R a n b:=by
 rcases h.2 with⟨rfl,c⟩|⟨g,b,f,rfl,_⟩
 .exact⟨O,0,by rw[c]⟩
 .exact⟨_,_,rfl⟩
def aaJ{e size m:Nat}{a:Option Addr}{b:List B1}(h:W.ownsRow base e size (R a n c) m b):n=m:=by
 have⟨d,f,e⟩:=Bh h;cases e;rfl
def nG.at{g:Nat}(h:nG W base (R (M ⟨g,0,O⟩) n c) L){x:Im}(a:L[i]?=M x):W.cell? ⟨g,i,O⟩=M (B4 (lH (dF x.N.k)) (A2 (M ⟨x.b,0,O⟩))):=by
 have e:i<L.length:=(List.getElem?_eq_some_iff.1 a).1;have d:=aaJ h.row;subst d;rw[h.row.cellAt i (by omega),ci,a];rfl
def nG.kidAt(h:nG W base vs L){x:Im}(d:L[i]?=M x){g:Nat}(o:x.kv= R (M ⟨g,0,O⟩) n c){j:Nat}{z:Int}(e:x.N.ks[j]?=M z):
  ∃q f,z=((q:Nat):Int)/\q<i/\L[q]?=M f/\W.cell? ⟨g,j,O⟩=M (B4 (lH (dF f.N.k)) (A2 (M ⟨f.b,0,O⟩))):=by
 have⟨z0,s⟩:=h.rng i x z d (cG e);obtain⟨q,rfl⟩:=lr z0;have p:i<L.length:=(List.getElem?_eq_some_iff.1 d).1;have r:j<x.N.ks.length:=(List.getElem?_eq_some_iff.1 e).1;have l:q<i:=by omega
 refine⟨q,L[q]'(by omega),rfl,l,az _,?_⟩;have a:=h.kid i x d;rw[o]at a;have m:=aaJ a;subst m;rw[a.cellAt j (by omega)];unfold pL;rw[ci,e];simp only[ug,ix];rw[lp,ae l,az (by omega)];rfl
def Gj(w:B0)(base:Nat)(bd:B1)(L:List Im)(a7:nG w base bd L)(ns:List Nd)(c9:L.map Im.N=ns)(n:Nat)(bn:L.length=n)(ee:1<=n)(p:n<=3000)(c7:∀x∈L,x.N.ks.length<=200):
  E0 A9 40 #[bd] w (gy w (aq9 (li (ku (F7 ns)) n 0))):=by
 obtain⟨e,i,rfl⟩:∃e bf,bd= R (M ⟨e,0,O⟩) n bf:=by
  rcases bJ a7.row with⟨h,_⟩|h
  .omega
  .rw[<-bn];exact h
 have cB:n<=i:=by
  rcases a7.row.2 with⟨p,_⟩|⟨ec,d5,d7,p,_,_,ef,_⟩
  .cases p
  .cases p;omega
 have⟨dq,c2,df,dg,dn⟩:=eu wI;have⟨a3,bo⟩:=aJ (li (ku (F7 ns)) n 0);rw[bo];have l:=aev a7 c9 bn bo c7;refine mJ (n:=5).1 ?_;refine callsIn_of_wp_marks func40 rfl trivial ?_ rfl;simp only[ntmps40,jo,bB,fs,Nat.reduceAdd,Nat.reduceSub,jI,kG,kH,qd,dI,ed];refine wpIn_wide.2 ?_;go_wp2_with (first|(at_make;refine CG _ rfl _ _ 59 rfl w.heap.size 3 dq (Ax U 0) 1 underlying59 c2 df dg U U _ _ n rfl rfl rfl rfl (by rw[dn];omega) (by unfold H5;omega) (af _) ?_;intro A bb J)|(go_at_call 114;refine(Aa (M ⟨e,0,O⟩) n i _).mono ?_;rintro C ey ⟨rfl,rfl⟩));rename_i d2 cp;have cx:be w A:=⟨J.os,J.tape,J.output,J.size,λf c4=>J.block f c4 (by simp)⟩;rw[show(madeCells (G2 U 0).cells (n*1)).toList=Fs n (G2 U 0) by rw[uf];exact Cy _ n]at bb;have bc:w.heap.size<A.heap.size:=(bb.lt w.heap.size rfl).2;have⟨c,a5⟩:=aJ A.heap.size;have F:Fj w c (R (M ⟨e,0,O⟩) n i) n (Fs n 0) ((A.alloc (A5 #[R (M ⟨w.heap.size,0,O⟩) n n] 59)).alloc (A5 #[R (M ⟨e,0,O⟩) n i] 92)):=by
  refine⟨(cx.alloc (by omega) _).alloc (by simp;omega) _,?_,?_,?_,?_⟩
  .rw[List.map_replicate];exact(bb.alloc _).alloc _
  .exact(fp _ _ _ (by simp;omega)).trans (by rw[<-a5];exact aB A _)
  .have:=aB (A.alloc (A5 #[R (M ⟨w.heap.size,0,O⟩) n n] 59)) (A5 #[R (M ⟨e,0,O⟩) n i] 92);rw[dm,a5]at this;exact this
  .refine⟨by simp,λr an ap=>?_⟩;obtain⟨p,cl⟩:=List.getElem?_eq_some_iff.1 ap;simp at p cl;omega
 have G:((A.alloc (A5 #[R (M ⟨w.heap.size,0,O⟩) n n] 59)).alloc (A5 #[R (M ⟨e,0,O⟩) n i] 92)).heap.size=c+2:=by simp;omega
 rw[a5]at bc⊢;generalize (A.alloc (A5 #[R (M ⟨w.heap.size,0,O⟩) n n] 59)).alloc (A5 #[R (M ⟨e,0,O⟩) n i] 92)=d4 at F G⊢;refine(uh (n:=5)).1 ?_;refine xb (P:=A9) (gf:=173) (lb:=#[A2 (M ⟨c+1,0,O⟩)]) rfl (enters_of func173 (by kernel_rfl) rfl)
  (λa=>#[Ax U (a:Int),match L[a]? with|some x=> B4 (lH (dF x.N.k)) (A2 (M ⟨x.b,0,O⟩))|none=> H1]) (λ_=>rfl) n
  (λa b=>∃D,Fj w c (R (M ⟨e,0,O⟩) n i) n D b/\dpN ns a D=F7 ns)
  (λa H b=>(∃D,Fj w c (R (M ⟨e,0,O⟩) n i) n D b/\dpN ns (a+1) D=F7 ns)/\∃x,L[a]?=M x/\
   H={tmps:=#[R (M ⟨e,0,O⟩) n i,A0,Ax U 0,Ex Br,A2 (M ⟨c,0,O⟩),Ax U (a:Int),B4 (lH (dF x.N.k)) (A2 (M ⟨x.b,0,O⟩)),A0,A0,A0,A0,
    R (M ⟨e,0,O⟩) n i,Ax U (n:Int),R (M ⟨w.heap.size,0,O⟩) n n,R (M ⟨e,0,O⟩) n i,.func (.func 173) #[] #[A2 (M ⟨c+1,0,O⟩)],Ax U (a:Int),B4 (lH (dF x.N.k)) (A2 (M ⟨x.b,0,O⟩)),
    A0,A0,A0,A0,A0,A0,A0,A0,A0,A0,A0,A0,A0,A0,A0,A0,A0,A0,A0,A0,A0,A0,A0,A0,A0,A0,A0,A0,A0,A0,A0,A0,A0,A0],defers:=[]})
  (λ_=>False)
  ?pZ ?pAx ?pX ?h0 ?assign ?body ?seq ?done ?ret
 case pZ=>
  rintro a b b2 a1 ⟨D,h,m⟩ K;rw[G]at K⊢;exact⟨D,h.put bc (by omega) K a1,m⟩
 case pAx=>
  rintro a H b b2 a1 ⟨⟨D,h,m⟩,x,q,rfl⟩ K;rw[G]at K⊢;exact⟨⟨D,h.put bc (by omega) K a1,m⟩,x,q,rfl⟩
 case pX=>intro b b2 a1 h;exact h.elim
 case h0=>
  intro cc ao es;have cy:be w cc:=F.bl.trans (ao.mono (by omega));exact⟨Fs n 0,⟨cy,de F.row ao,(ao.block _ (by omega)).trans F.bx,(ao.block _ (by omega)).trans F.bs,F.ok⟩,by rw[F7,<-l.out.2.1,bC,l.out.2.2.1]⟩
 case assign=>
  rintro a0 a b d3 au ⟨D,h,m⟩ bk;have⟨x,q⟩:=cA l.2.2.1 au;rw[q]at⊢;have d1:=λH=>bk H b;have g:=mo h m q
  gi_wp2
  exact bk _ _ ⟨⟨D,g.1,g.2.1⟩,x,g.2.2,rfl⟩ (KeepsFrom.refl _ _)
 case body=>
  rintro a0 a H b au ⟨⟨D,h,m⟩,x,q,rfl⟩;rw[G];have bp:=ag h.bl (l.1.box a x q).cells.2.2.2.2.1;have ar:=l.1.kid a x q;have⟨cd,d8,E⟩:=Bh ar;rw[E]at bp;have c6:=l.2.2.2.2 x (cG q);have⟨ak,bv⟩:=aJ x.N.ks.length;rw[bv]at bp c6 E;have da:ns[a]?=M x.N:=by rw[<-l.out.2.1,ci,q];rfl
  have cI:dpN ns a (Er a x.N.ks D)=F7 ns:=by
   rw[dpN,aD,da,ie]at m;exact m
  have g:=Dl q cI bv E;have b7:B3 (ao7 w c (R (M ⟨e,0,O⟩) n i) n a x.N.ks D 0 D b b):=⟨h,rfl,KeepsFrom.refl _ _⟩;have ba:=λw=>tF x.N.k x.b w;have eo:(a:Int)<(n:Int):=by omega
  have en:(0:Int)<=(a:Int):=by omega
  have bF:=λ(ce:Nat) w=>CallsIn.inRound a0 (mJ (n:=2).2 (dw ce w));generalize lH (dF x.N.k)=ex at ba⊢
  gi_wp2_with (refine⟨trivial,?_⟩;gi_at_call 330;refine(bF _ _).mono ?_;rintro C al ⟨rfl,bA⟩;subst al)
  gi_loopw [24] (λB d0=>∃(r:Nat) (t:List Int),r<=ak/\B= Ax U r/\B3 (ao7 w c (R (M ⟨e,0,O⟩) n i) n a x.N.ks D r t b d0)) (λB _=>ak-(G0 B).toNat)
  case atStart=>exact⟨0,D,aH _,rfl,b7⟩
  case round=>
   obtain⟨r,t,ap,rfl,k⟩:=hrel;by_cases c3:r<ak
   .have ej:(r:Int)<(ak:Int):=by omega
    have ei:(0:Int)<=(r:Int):=by omega
    have⟨an,ad⟩:=cA g.2.2.1 c3;have E:=g.2.2.2;obtain⟨gk,c1⟩:∃gk,cd=M ⟨gk,0,O⟩:=by
     have ar:=l.1.kid a x g.1;rw[E]at ar;rcases bJ ar with⟨h,_⟩|⟨gk,bf,h⟩
     .rw[g.out.2.2.1]at h;omega
     .cases h;exact⟨_,rfl⟩
    subst c1;obtain⟨d,s,rfl,dc,bD,cF⟩:=(l.1.below (k.st.bl)).kidAt g.1 E ad;have bw:=ag k.st.bl (l.1.box d s bD).cells.2.2.2.1;have⟨j,a8⟩:=cA k.st.ok.1 au;have⟨ck,c0⟩:=cA k.st.ok.1 (show d<n by omega);have eh:=k.st.ok.2 a j a8;have I:Fj w c (R (M ⟨e,0,O⟩) n i) n t wr.drew:=⟨k.st.bl.drew,k.st.row,k.st.bx,k.st.bs,k.st.ok⟩;have ax:=I.row;have bh:wr.drew.cell? ⟨w.heap.size,a,O⟩=M (Ax U j):=by rw[ax.cellAt a (by omega),ci,a8];rfl
    have d6:wr.drew.cell? ⟨w.heap.size,d,O⟩=M (Ax U ck):=by rw[ax.cellAt d (by omega),ci,c0];rfl
    have ea:=ax.frozenAt d;have br:t.getD a 0=j:=by rw[aD,a8];rfl
    have b0:=(ax.stored d (Ax U (j+1))).1;rw[<-List.map_set]at b0;have b1:=k.st.ok.set a d au dc;rw[br]at b1;have dd:Er a (x.N.ks.drop (r+1)) (t.set d (j+1))=Er a x.N.ks D:=by
     have p:=k.rest;have bt:=(List.getElem?_eq_some_iff.1 ad);rw[mI bt.1,bt.2,Er,br]at p;exact p
    have a4:wr.drew.cell? ⟨c,0,O⟩=_:=eI I.bx;have ds:Fj w c (R (M ⟨e,0,O⟩) n i) n (t.set d (j+1)) (wr.drew.setCell ⟨w.heap.size,d,O⟩ (Ax U (j+1))):=
     ⟨I.bl.setCell (af _) _,b0,(aC _ _ _ _ (by simp;omega)).trans I.bx,(aC _ _ _ _ (by simp;omega)).trans I.bs,b1⟩
    have b3:B3 (ao7 w c (R (M ⟨e,0,O⟩) n i) n a x.N.ks D (r+1) (t.set d (j+1)) b (wr.drew.setCell ⟨w.heap.size,d,O⟩ (Ax U (j+1)))):=⟨ds,dd,k.kf.trans (((KeepsOthers.drew wr).from _).trans ((Ck _ _ _).from _))⟩;have ep:d≠a:=by omega
    have ev:IntKind.i64.wrap (j+1)=j+1:=by rw[fh];omega
    have ew:=ai (l.1.box d s bD);have cs:(wr.drew.setCell ⟨w.heap.size,d,O⟩ (Ax U (j+1))).cell? ⟨c,0,O⟩=M (R (M ⟨w.heap.size,0,O⟩) n n)/\(wr.drew.setCell ⟨w.heap.size,d,O⟩ (Ax U (j+1))).cell? ⟨s.b,4,O⟩=M (Ax U (d:Int))/\(wr.drew.setCell ⟨w.heap.size,d,O⟩ (Ax U (j+1))).cell? ⟨w.heap.size,a,O⟩=M (Ax U j):=
     ⟨(World.cell?_setCell_far _ _ _ _ (by simp;omega)).trans a4,(World.cell?_setCell_far _ _ _ _ (by simp;omega)).trans bw,(World.cell?_setCell_other _ _ _ _ (by simp;try omega)).trans bh⟩
    have er:(d:Int)<(n:Int):=by omega
    have eq:(0:Int)<=(d:Int):=by omega
    have ba:=λw=>tF s.N.k s.b w;generalize lH (dF s.N.k)=dx at ba cF
    gi_wp2_with (refine⟨trivial,?_⟩;gi_at_call 330;refine(bF _ _).mono ?_;rintro C al ⟨rfl,bA⟩;subst al)
    have cr:wr.drew.cell? ⟨c,0,O⟩=M (R (M ⟨w.heap.size,0,O⟩) n n)/\wr.drew.cell? ⟨s.b,4,O⟩=M (Ax U (d:Int))/\wr.drew.cell? ⟨w.heap.size,a,O⟩=M (Ax U j):=⟨a4,bw,bh⟩;refine yJ (S:=λo=>o.cell? ⟨c,0,O⟩=M (R (M ⟨w.heap.size,0,O⟩) n n)/\o.cell? ⟨s.b,4,O⟩=M (Ax U (d:Int))/\o.cell? ⟨w.heap.size,a,O⟩=M (Ax U j)) (by kernel_rfl) (by kernel_rfl) (λ⟨_,_,h⟩=>h) cr (λhS=>?_);refine dB 0 (R (M ⟨w.heap.size,0,O⟩) n n) rfl rfl hS (λo ⟨u,v,y⟩=>by go_simp) ?_;simp only[B7];refine dB 1 (B4 dx (A2 (M ⟨s.b,0,O⟩))) rfl rfl hS (λo ⟨u,v,y⟩=>by go_simp) ?_;simp only[B7];refine dB 6 (R (M ⟨w.heap.size,0,O⟩) n n) rfl rfl hS (λo ⟨u,v,y⟩=>by go_simp) ?_;simp only[B7];refine dB 7 (Ax U (a:Int)) rfl rfl hS (λo ⟨u,v,y⟩=>by go_simp) ?_;simp only[B7];refine dB 8 (A2 (M ⟨w.heap.size,a,O⟩)) rfl rfl hS (λo ⟨u,v,y⟩=>by go_simp) ?_;simp only[B7];refine dB 9 (Ax U j) rfl rfl hS (λo ⟨u,v,y⟩=>by go_simp) ?_;simp only[B7];refine dB 10 (Ax U (j+1)) rfl rfl hS (λo ⟨u,v,y⟩=>by go_simp) ?_;simp only[B7];refine H0 (rs:=[2]) (by kernel_rfl) (by simp) (AllReadyH.cons rfl (λca a6=>?_) AllReadyH.nil);go_simp;refine gL (dw _ _) λal bA=>?_;subst al;refine a6 _ _ hS (λhS=>?_);try simp only[Act.put,fe,fl,fG]
    refine dB 3 (A2 (M ⟨s.b,0,O⟩)) rfl rfl hS (λo ⟨u,v,y⟩=>by go_simp) ?_;simp only[B7];refine dB 4 (A2 (M ⟨s.b,4,O⟩)) rfl rfl hS (λo ⟨u,v,y⟩=>by go_simp) ?_;simp only[B7];refine dB 5 (Ax U (d:Int)) rfl rfl hS (λo ⟨u,v,y⟩=>by go_simp) ?_;simp only[B7];refine dB 11 (A2 (M ⟨w.heap.size,d,O⟩)) rfl rfl hS (λo ⟨u,v,y⟩=>by go_simp) ?_;simp only[B7];refine H0 (rs:=[12]) (by kernel_rfl) (by simp) (AllReadyH.cons rfl (λca a6=>?_) AllReadyH.nil);go_simp;refine a6 _ _ cs (λhS=>?_);refine wpAnyH_done (by kernel_rfl) ?_ _
    gi_wp2
    exact⟨⟨r+1,_,by omega,by go_num,b3⟩,by simp[G0];omega⟩
   .obtain rfl:r=ak:=by omega
    have a9:B3 (Fj w c (R (M ⟨e,0,O⟩) n i) n t wr/\dpN ns a t=F7 ns/\KeepsFrom (c+2) b wr):=by
     refine⟨k.st,?_,k.kf⟩;have p:=k.rest;rw[ma (by rw[g.out.2.2.1];exact af _),Er]at p;rw[p];exact g.2.1
    gi_wp2
    exact⟨a9.2.2,t,a9.1,a9.2.1⟩
 case seq=>
  intro a0 b8 b9 bj cw b cu;refine aaI 4 a0 (c+1) n i (M ⟨e,0,O⟩) _ p cB b8 b9 (λa b h=>?_) (λa b h r ap=>?_) cw b cu
  .obtain⟨D,m,_⟩:=bj a b h;exact eI m.bs
  .obtain⟨D,m,_⟩:=bj a b h;have⟨x,q⟩:=cA l.2.2.1 ap;refine⟨_,rfl,?_⟩;rw[wA,q];exact ag m.bl (l.1.at q)
 case ret=>intro b h;exact h.elim
 case done=>
  rintro b ⟨D,h,m⟩ cm;have cn:D=F7 ns:=m;refine cp _ _ ?_;have a4:=eI h.bx;have g:B3 (Fj w c (R (M ⟨e,0,O⟩) n i) n D b/\b.heap[c+2]?=M (.deferred (M []))):=⟨h,by rw[<-G];exact cm⟩;have b5:Ci (ku D) (n-0) 0 a3:=⟨by rw[cn];exact l.2.2.2.1⟩;have eg:w.heap.size<c+2:=by omega
  rw[G];go_wp2;go_loop [43] (λB=>∃f:Nat,f<=n/\B= Ax U f/\Ci (ku D) (n-f) f a3) (λB=>n-(G0 B).toNat)
  case atStart=>exact⟨0,aH _,rfl,b5⟩
  case round=>
   obtain⟨f,el,rfl,b4⟩:=hrel;have z:=b4.out;by_cases c8:f<n
   .have em:(f:Int)<(n:Int):=by omega
    have ek:(0:Int)<=(f:Int):=by omega
    have⟨an,ad⟩:=cA g.1.ok.1 c8;have d9:b.cell? ⟨w.heap.size,f,O⟩=M (Ax U an):=by rw[g.out.1.row.cellAt f (by omega),ci,ad];rfl
    rw[show n-f=(n-(f+1))+1 by omega,li]at z;have cf:ku D f=decide (100<an):=by unfold ku;rw[aD,ad];rfl
    rw[cf]at z;by_cases bE:100<an
    .rw[ae (aI bE)]at z;have a2:=am z.symm;go_wp2_with fail;refine⟨by simp,.inl ⟨_,_,rfl,run_takeDeferred g.2,?_⟩⟩;refine⟨_,results_tmp2 rfl _ _ _,by rw[a2.out];rfl,?_⟩;exact g.1.bl.grown (F1 b (c+2) (.deferred O)) g.1.bl.size (λf C=>by cases C;omega)
    .rw[aa (by simpa using bE)]at z;have b6:Ci (ku D) (n-(f+1)) (f+1) a3:=⟨z⟩;go_wp2;go_round
     case rel=>exact⟨f+1,by omega,by go_num,b6⟩
     case measure=>simp[G0];omega
   .obtain rfl:f=n:=by omega
    rw[fH,li]at z;have a2:=am z.symm;go_wp2_with fail;refine⟨by simp,.inl ⟨_,_,rfl,run_takeDeferred g.2,?_⟩⟩;refine⟨_,results_tmp2 rfl _ _ _,by rw[a2.out];rfl,?_⟩;exact g.1.bl.grown (F1 b (c+2) (.deferred O)) g.1.bl.size (λf C=>by cases C;omega)
attribute [local go_sem] mi
structure Cq (w:B0) (B n:Nat) (S:List Int) (c:List Nat) (W:B0):Prop where
 bl:be w W
 r0:W.heap[w.heap.size]?=M (.cells #[.int .i64 0] 3 (0,0))
 r1:W.heap[w.heap.size+1]?=M (.cells #[.bool Br] 4 (0,0))
 row:W.ownsRow w.heap.size 3 1 (.slice (M ⟨w.heap.size+1+1,0,O⟩) n n) n (S.map (G2 .i64)++Fs (n-S.length) (.int .i64 0))
 bx:W.heap[B]?=M (.cells #[.slice (M ⟨w.heap.size+1+1,0,O⟩) n n] 59 (0,0))
 mks:vI (w.heap.size+1+1+1) c W
def Cq.below{c:List Nat}(h:Cq w B n S c W)(a:be W W'):Cq w B n S c W':=
 ⟨h.bl.trans (a.mono h.bl.size),(a.block _ (ai h.r0)).trans h.r0,(a.block _ (ai h.r1)).trans h.r1,de h.row a,(a.block _ (ai h.bx)).trans h.bx,h.mks.below a⟩
def Cq.put{c:List Nat}(h:Cq w B n S c W)(f:w.heap.size+1<B)(g:B<k)(b:W.heap[k]?=M (.loop r))(o:Obj):Cq w B n S c (W.putObj k o):=
 ⟨h.bl.grown (F1 W k o) h.bl.size (λi e=>by cases e;omega),(B2 (by omega)).trans h.r0,(B2 (by omega)).trans h.r1,ownsRow_putObj h.row o b rfl,(B2 (by omega)).trans h.bx,
  ⟨h.mks.nd,h.mks.lo,λa d=>(B2 (by rintro rfl;have:=(h.mks.at_ a d).symm.trans b;cases this)).trans (h.mks.at_ a d)⟩⟩
structure JK (w:B0) (B n:Nat) (S:List Int) (c:List Nat) (sz k:Nat) (kv:B1) (a:Int) (W:B0):Prop where
 oo:Cq w B n S c W
 b5:W.heap[sz]?=M (.cells #[.int .i64 (k:Int)] 3 (0,0))
 b7:W.heap[sz+1]?=M (.cells #[.int .i64 (a-1)] 3 (0,0))
 b8:W.heap[sz+1+1]?=M (.cells #[kv] 92 (0,0))
def JK.put{c:List Nat}{b:Nat}{d:B1}{a:Int}(h:JK w B n S c b k d a W)(e:w.heap.size+1<B)(i:B<b){j:Nat}(g:b+1+1<j)(f:W.heap[j]?=M (.loop r))(o:Obj):JK w B n S c b k d a (W.putObj j o):=
 ⟨h.oo.put e (by omega) f o,(B2 (by omega)).trans h.b5,(B2 (by omega)).trans h.b7,(B2 (by omega)).trans h.b8⟩
def Gk{d:Func}{p c:Tmp}{t u:Hm}(h:d.results=#[.cell p t,.cell c u])(tmps:Array B1)(P:Program)(w:B0)(a b:Addr)(v e:B1)(i:tmps.getD p A0= A2 (M a))(k:tmps.getD c A0= A2 (M b))
  (f:(loadVar t a).run P w= .ok v w) (g:(loadVar u b).run P w= .ok e w):(results d tmps).run P w= .ok (E3 #[v,e]) w:=by
 have j:tmps[p]?.getD A0= A2 (M a):=by simpa using i
 have l:tmps[c]?.getD A0= A2 (M b):=by simpa using k
 simp only[results,h];simp[Hr,Result.andThen,j,l,asAddr,f,g]
def ai7(w:B0)(a:Addr)(z:Int)(h:w.cell? a=M (Ax U z)):(loadVar 3 a).run A9 w= .ok (Ax U z) w:=by go_simp
def afK(w:B0)(a:Addr)(z:Bool)(h:w.cell? a=M (Ex z)):(loadVar 4 a).run A9 w= .ok (Ex z) w:=by go_simp
def alC(a b:List Nd):∃t,jj (a++b)=jj a++t:=by
 refine zr (p:=λb=>∃t,jj (a++b)=jj a++t) ⟨[],by simp⟩ (λd e ⟨t,c⟩=>?_) b;rw[<-dj,ux,c];exact⟨t++[_],dj _ _ _⟩
def aaK(h:ns[k]?=M N):jj (ns.take (k+1))=jj (ns.take k)++[oy (jj (ns.take k)) k N.ks]:=by
 have a:k<ns.length:=(List.getElem?_eq_some_iff.1 h).1;rw[jc,h];show jj (ns.take k++[N])=_;rw[ux,my,eE,ui (by omega)]
def ai8(h:ns[k]?=M N):(jj ns).getD k 0=oy (jj (ns.take k)) k N.ks:=by
 have c:k<ns.length:=(List.getElem?_eq_some_iff.1 h).1;have⟨d,a⟩:=alC (ns.take (k+1)) (ns.drop (k+1));rw[ud,aaK h]at a;have b:(jj (ns.take k)).length=k:=by rw[my,eE,ui (by omega)]
 rw[a,aD,dj,dE (by omega),b];simp
def ai9(L:List Im)(ks:List Int)(m:Nat):B1:=match ks[m]? with
 |some c=>(match L[c.toNat]? with|some a=> B4 (lH (dF a.N.k)) (A2 (M ⟨a.b,0,O⟩))|none=> H1)
 |none=> H1
def aeo{ks:List Int}{m c:Nat}{a:Im}(d:ks[m]?=M (c:Int))(e:L[c]?=M a):ai9 L ks m= B4 (lH (dF a.N.k)) (A2 (M ⟨a.b,0,O⟩)):=by
 unfold ai9;rw[d];simp[e]
def Gl(w:B0)(base:Nat)(b4:B1)(L:List Im)(ax:nG w base b4 L)(ns:List Nd)(e8:L.map Im.N=ns)(n:Nat)(cm:L.length=n)(gi:1<=n)(F:n<=3000)(e4:∀x∈L,x.N.ks.length<=200)(eF:∀i,i<n->(jj ns).getD i 0≠0)(s:(jj ns).getD (n-1) 0=(n:Int)):
  E0 A9 39 #[b4] w (gy w (E3 #[Ax U ((n:Int)-1),Ex Br])):=by
 obtain⟨y,an,rfl⟩:∃y j,b4= R (M ⟨y,0,O⟩) n j:=by
  rcases bJ ax.row with⟨h,_⟩|h
  .omega
  .rw[<-cm];exact h
 have gn:n<=an:=by
  rcases ax.row.2 with⟨F,_⟩|⟨ek,ee,eg,F,_,_,el,_⟩
  .cases F
  .cases F;omega
 have⟨fr,bp,fn,fo,fq⟩:=eu wI;have g:=ajF ax e8 cm e4 eF s;refine mJ (n:=5).1 ?_;refine callsIn_of_wp_marks func39 rfl trivial ?_ rfl;simp only[ntmps39,jo,bB,fs,Nat.reduceAdd,Nat.reduceSub,jI,kG,kH,qd,dI,ed];refine wpIn_wide.2 ?_;go_wp2_with (at_make;refine CG _ rfl _ _ 59 rfl w.heap.size 3 fr (Ax U 0) 1 underlying59 bp fn fo U U _ _ n rfl rfl rfl rfl (by rw[fq];omega) (by unfold H5;omega) (by simp;omega) ?_;intro al bd a0);rename_i fA gl;have bb:H4 ((w.alloc (A5 #[Ax U 0] 3)).alloc (A5 #[Ex Br] 4)).heap.size ((w.alloc (A5 #[Ax U 0] 3)).alloc (A5 #[Ex Br] 4)) al:=⟨a0.os,a0.tape,a0.output,a0.size,λa cs=>a0.block a cs (by simp)⟩;rw[show(madeCells (G2 U 0).cells (n*1)).toList=Fs n (G2 U 0) by rw[uf];exact Cy _ n]at bd;simp only[dm]at bd bb;have fd:w.heap.size+1+1<al.heap.size:=(bd.lt _ rfl).2;have bv:Cq w al.heap.size n [] [] (al.alloc (A5 #[R (M ⟨w.heap.size+1+1,0,O⟩) n n] 59)):=by
  refine⟨?_,?_,?_,?_,aB al _,⟨H8,λv hb=>by simp at hb,λv hb=>by simp at hb⟩⟩
  .exact((((ah _ w).alloc (af _) _).alloc (by simp) _).trans (bb.mono (by omega))).alloc (by omega) _
  .exact(fp _ _ _ (by omega)).trans ((bb.block _ (by omega)).trans ((fp _ _ _ (by simp)).trans (aB w _)))
  .refine(fp _ _ _ (by omega)).trans ((bb.block _ (by omega)).trans ?_);have:=aB (w.alloc (A5 #[Ax U 0] 3)) (A5 #[Ex Br] 4);rw[dm]at this;exact this
  .exact bd.alloc _
 have⟨l,en⟩:=aJ al.heap.size;have ce:l<(al.alloc (A5 #[R (M ⟨w.heap.size+1+1,0,O⟩) n n] 59)).heap.size:=by simp;omega
 rw[en]at bv fd⊢;generalize al.alloc (A5 #[R (M ⟨w.heap.size+1+1,0,O⟩) n n] 59)=ec at bv ce⊢;have d4:B3 (Cq w l n (jj (ns.take 0)) [] ec/\∀(E:Nat) k,(jj (ns.take 0))[E]?=M k->1<=k):=⟨bv,λE k h=>by simp[jj]at h⟩;refine(uh (n:=5)).1 (wpIn_loop (λad d=>∃(a:Nat) (j:List Nat),a<=n/\l<d.heap.size/\B3 (Cq w l n (jj (ns.take a)) j d/\∀(E:Nat) k,(jj (ns.take a))[E]?=M k->1<=k)/\
  ∃dx d0 d1 c4 c6 c8 c9 da dc dd df dg dn dq ds bD bE bF b0 b1 b2 b3:B1,ad={tmps:=#[R (M ⟨y,0,O⟩) n an,A0,A2 (M ⟨w.heap.size,0,O⟩),A2 (M ⟨w.heap.size+1,0,O⟩),A2 (M ⟨l,0,O⟩),dx,d0,d1,A0,A0,A0,R (M ⟨y,0,O⟩) n an,Ax U (n:Int),R (M ⟨w.heap.size+1+1,0,O⟩) n n,R (M ⟨y,0,O⟩) n an,Ax U (n:Int),Ax U (a:Int),c4,c6,c8,c9,da,dc,dd,df,dg,dn,dq,ds,A0,A0,A0,A0,A0,A0,A0,A0,A0,A0,A0,A0,A0,A0,A0,A0,bD,bE,bF,b0,b1,b2,b3,A0,A0,A0,A0,A0,A0,A0,A0,A0,A0,A0],defers:=j.map DF}) (λad _=>n-(G0 (ad.tmps.getD 16 A0)).toNat) ?start ?round)
 case start=>exact⟨0,[],aH _,ce,d4,A0,A0,A0,A0,A0,A0,A0,A0,A0,A0,A0,A0,A0,A0,A0,A0,A0,A0,A0,A0,A0,A0,rfl⟩
 case round=>
  rintro ad d ⟨a,j,cs,bj,o,dx,d0,d1,c4,c6,c8,c9,da,dc,dd,df,dg,dn,dq,ds,bD,bE,bF,b0,b1,b2,b3,rfl⟩;refine wpIn_wide.2 ?_;by_cases bs:a<n
  .have gp:(a:Int)<(n:Int):=by omega
   have e2:(0:Int)<=(a:Int):=by omega
   have⟨x,au⟩:=cA g.2.2.1 bs;have ey:=ag o.1.bl (g.1.at au);have cp:=ag o.1.bl (g.1.box a x au).cells.2.2.2.2.1;have C:=g.1.kid a x au;have⟨r,u,br⟩:=Bh C;have e3:=g.2.2.2.1 x (cG au);have⟨t,ct⟩:=aJ x.N.ks.length;rw[br]at cp;rw[ct]at cp e3 br;have p:=mo au br ct;have bt:=λw=>tF x.N.k x.b w;have fm:x.b<d.heap.size:=iu (ai (g.1.box a x au)) o.1.bl.size;generalize lH (dF x.N.k)=bA at bt ey;go_wp2_with (first|(go_at_call 330;refine(dw _ _).mono ?_;rintro ao b6 ⟨rfl,fg⟩;subst b6)|(go_at_call 114;refine(Aa r t u _).mono ?_;rintro ao fz ⟨rfl,a6⟩;subst fz));rename_i fB ep;have⟨S,hS⟩:=aJ (jj (ns.take a));have⟨K,bn⟩:=aJ (qF S x.N.ks.reverse (a:Int));rw[hS]at o;have⟨f,a5⟩:=aJ d.heap.size;have a4:JK w l n S j f a (R r t u) (a:Int) (((d.alloc (A5 #[Ax U (a:Int)] 3)).alloc (A5 #[Ax U ((a:Int)-1)] 3)).alloc (A5 #[R r t u] 92)):=by
    refine⟨o.1.below ((((ah _ d).alloc (af _) _).alloc (by simp) _).alloc (by simp;omega) _),?_,?_,?_⟩
    .exact(fp _ _ _ (by simp;omega)).trans ((fp _ _ _ (by simp;omega)).trans (by rw[<-a5];exact aB d _))
    .refine(fp _ _ _ (by simp;omega)).trans ?_;have:=aB (d.alloc (A5 #[Ax U (a:Int)] 3)) (A5 #[Ax U ((a:Int)-1)] 3);rw[dm,a5]at this;exact this
    .have:=aB ((d.alloc (A5 #[Ax U (a:Int)] 3)).alloc (A5 #[Ax U ((a:Int)-1)] 3)) (A5 #[R r t u] 92);rw[dm,dm,a5]at this;exact this
   have a8:(((d.alloc (A5 #[Ax U (a:Int)] 3)).alloc (A5 #[Ax U ((a:Int)-1)] 3)).alloc (A5 #[R r t u] 92)).heap.size=f+1+1+1:=by simp;omega
   rw[a5]at bj fm⊢;generalize ((d.alloc (A5 #[Ax U (a:Int)] 3)).alloc (A5 #[Ax U ((a:Int)-1)] 3)).alloc (A5 #[R r t u] 92)=f2 at a4 a8⊢;have ex:∀v∈j,v<f:=λv hb=>by rw[<-a5];exact(Array.getElem?_eq_some_iff.1 (o.1.mks.at_ v hb)).1
   have cu:ns[a]?=M x.N:=by rw[<-g.out.2.1,ci,p.out.1];rfl
   have bc:(jj ns).getD a 0=oy S a x.N.ks:=by rw[ai8 cu,hS]
   have er:K≠O:=λao=>g.out.2.2.2.2.1 a bs (by rw[bc];unfold oy;rw[bn,ao]);refine(uh (n:=5)).1 ?_;refine xb (P:=A9) (gf:=173) (lb:=#[A2 (M ⟨f+1+1,0,O⟩)]) rfl (enters_of func173 (by kernel_rfl) rfl)
    (λc=>#[Ax U (c:Int),ai9 L x.N.ks c]) (λ_=>rfl) t
    (λc d=>∃b:Int,JK w l n S j f a (R r t u) b d/\0<=b/\b<=(a:Int)/\qF S (x.N.ks.take c).reverse b=K)
    (λc ad d=>(∃b:Int,JK w l n S j f a (R r t u) b d/\0<=b/\b<=(a:Int)/\qF S (x.N.ks.take (c+1)).reverse b=K)/\ad={tmps:=#[R (M ⟨y,0,O⟩) n an,A0,A2 (M ⟨w.heap.size,0,O⟩),A2 (M ⟨w.heap.size+1,0,O⟩),A2 (M ⟨l,0,O⟩),A2 (M ⟨f,0,O⟩),B4 bA (A2 (M ⟨x.b,0,O⟩)),A2 (M ⟨f+1,0,O⟩),A0,ai9 L x.N.ks c,A0,R (M ⟨y,0,O⟩) n an,Ax U (n:Int),R (M ⟨w.heap.size+1+1,0,O⟩) n n,R (M ⟨y,0,O⟩) n an,Ax U (n:Int),Ax U (a:Int),Ex C2,Ax U (a:Int),A2 (M ⟨y,a,O⟩),B4 bA (A2 (M ⟨x.b,0,O⟩)),Ax U (a:Int),Ax U ((a:Int)-1),B4 bA (A2 (M ⟨x.b,0,O⟩)),A2 (M ⟨x.b,0,O⟩),A2 (M ⟨x.b,0,O⟩),A2 (M ⟨x.b,5,O⟩),R r t u,.func (.func 173) #[] #[A2 (M ⟨f+1+1,0,O⟩)],Ax U (c:Int),ai9 L x.N.ks c,A0,A0,A0,A0,A0,A0,A0,A0,A0,A0,A0,A0,A0,A0,bD,bE,bF,b0,b1,b2,b3,A0,A0,A0,A0,A0,A0,A0,A0,A0,A0,A0],defers:=[]})
    (λ_=>False)
    ?pZ ?pAx ?pX ?h0 ?assign ?body ?seq ?done ?ret
   case pZ=>
    rintro c d c0 bf ⟨b,h,I⟩ a2;rw[a8]at a2⊢;exact⟨b,h.put (by omega) bj (by omega) a2 bf,I⟩
   case pAx=>
    rintro c ad d c0 bf ⟨⟨b,h,I⟩,rfl⟩ a2;rw[a8]at a2⊢;exact⟨⟨b,h.put (by omega) bj (by omega) a2 bf,I⟩,rfl⟩
   case pX=>intro d c0 bf h;exact h.elim
   case h0=>
    intro fF hb gz;refine⟨(a:Int),⟨a4.oo.below hb,(hb.block _ (by omega)).trans a4.b5,(hb.block _ (by omega)).trans a4.b7,(hb.block _ (by omega)).trans a4.b8⟩,e2,Int.le_refl _,?_⟩;rw[cj (by rw[p.out.2.2];exact af _)];exact bn
   case assign=>
    rintro bw c d eb ak ⟨b,h,I⟩ bk;have d2:B3 (∃b:Int,JK w l n S j f a (R r t u) b d/\0<=b/\b<=(a:Int)/\qF S (x.N.ks.take (c+1)).reverse b=K):=⟨b,h,I⟩
    gi_wp2
    exact bk _ _ ⟨d2,rfl⟩ (KeepsFrom.refl _ _)
   case seq=>
    intro bw d8 d9 cl et d es;have e5:t<=u:=by
     have C:=g.1.kid a x p.1;rw[p.out.2.1,p.out.2.2]at C;rcases C.2 with⟨F,cd⟩|⟨ek,ee,eg,F,_,_,el,_⟩
     .omega
     .cases F;omega
    refine aaI 4 bw (f+1+1) t u r _ (by omega) e5 d8 d9 (λc d h=>?_) (λc d h E ap=>?_) et d es
    .obtain⟨b,I,_⟩:=cl c d h;exact eI I.b8
    .obtain⟨b,I,_⟩:=cl c d h;have⟨k,s⟩:=cA p.2.2 ap;obtain⟨gk,bc⟩:∃gk,r=M ⟨gk,0,O⟩:=by
      have C:=g.1.kid a x p.1;rw[p.out.2.1]at C;rcases bJ C with⟨h,_⟩|⟨gk,j,h⟩
      .rw[p.out.2.2]at h;omega
      .cases h;exact⟨_,rfl⟩
     obtain⟨e,B,rfl,cx,a7,bo⟩:=g.1.kidAt p.1 (by rw[p.out.2.1,bc]) s;refine⟨_,bc,?_⟩;rw[wA,aeo s a7];exact ag I.oo.bl bo
   case body=>
    rintro bw c ad m ak ⟨⟨b,h,ev,ew,J⟩,rfl⟩;rw[a8];have⟨k,s⟩:=cA p.2.2 ak;obtain⟨gk,eL⟩:∃gk,r=M ⟨gk,0,O⟩:=by
     have C:=g.1.kid a x p.1;rw[p.out.2.1]at C;rcases bJ C with⟨h,_⟩|⟨gk,j,h⟩
     .rw[p.out.2.2]at h;omega
     .cases h;exact⟨_,rfl⟩
    obtain⟨e,B,rfl,cx,a7,bo⟩:=g.1.kidAt p.1 (by rw[p.out.2.1,eL]) s;rw[aeo s a7];have e9:=ag h.oo.bl (g.1.box e B a7).cells.2.2.2.1;have g5:=ai (g.1.box e B a7);have H:S.length=a:=by rw[<-hS,my,eE,<-g.out.2.1,bC,g.out.2.2.1];omega
    obtain⟨q,a3⟩:=cA H cx;have g0:=o.2 e q a3;have g3:q<=(e:Int)+1:=by
     have fb:F6 S:=by
      rw[<-hS];refine AJ _ (λN ax k s=>?_);obtain⟨i,bp,ao⟩:=iw (CJ ax);have a1:(L.map Im.N)[i]?=M N:=by rw[g.out.2.1,az bp,ao]
      rw[ci]at a1;cases hLi:L[i]? with
      |none=>rw[hLi]at a1;cases a1
      |some fx=>
       rw[hLi]at a1;obtain rfl:=bz a1;exact(g.1.rng i fx k hLi s).1
     exact(fb e q a3).2
    have cr:S.getD e 0=q:=by rw[aD,a3];rfl
    have a6:(if(e:Int)=b-1/\q≠0 then qF S (x.N.ks.take c).reverse (b-q) else O)=K:=by
     rw[jc,s,Ia,List.reverse_append]at J;show _=K;rw[<-J];show _=qF S ((e:Int)::(x.N.ks.take c).reverse) b;rw[qF,ix,cr]
    have bh:=eI h.b7;have cb:=eI h.oo.bx;have ar:=h.oo.row;have ef:m.cell? ⟨w.heap.size+1+1,e,O⟩=M (Ax U q):=by
     rw[ar.cellAt e (by omega),gq (by simp;omega),ci,a3];rfl
    have ej:m.frozen? ⟨f+1,0,O⟩=Br:=cC _ _ _ _ _ h.b7;have bt:=λw=>tF B.N.k B.b w;have z:m.drew.cell? ⟨f+1,0,O⟩=M (Ax U (b-1))/\m.drew.cell? ⟨B.b,4,O⟩=M (Ax U (e:Int)):=⟨bh,e9⟩;have d3:=am h;generalize lH (dF B.N.k)=fv at bt⊢;have cy:(e:Int)=b-1:=Classical.byContradiction λy=>er (by rw[<-a6,aa (λao=>y ao.1)]);rw[ae ⟨cy,by omega⟩]at a6;have d6:=am a6;clear a6 J s bo h a3 cr H ar;have ei:b=(e:Int)+1:=by omega
    subst ei;have cc:(e:Int)+1-1=(e:Int):=by omega
    rw[cc]at bh z;clear cy cc;have gv:(e:Int)<(n:Int):=by omega
    have gt:(0:Int)<=(e:Int):=by omega
    gi_wp2
    refine yJ (S:=λA=>A.cell? ⟨f+1,0,O⟩=M (Ax U (e:Int))/\A.cell? ⟨B.b,4,O⟩=M (Ax U (e:Int))) (by kernel_rfl) (by kernel_rfl) (λ⟨_,_,h⟩=>h) z (λz=>?_);refine dB 0 (B4 fv (A2 (M ⟨B.b,0,O⟩))) rfl rfl z (λA ⟨a9,ba⟩=>by go_simp) ?_;simp only[B7];refine dB 5 (Ax U (e:Int)) rfl rfl z (λA ⟨a9,ba⟩=>by go_simp) ?_;simp only[B7];refine H0 (rs:=[1]) (by kernel_rfl) (by simp) (AllReadyH.cons rfl (λeb bk=>?_) AllReadyH.nil);go_simp;refine gL (dw _ _) λb6 fg=>?_;subst b6;refine bk _ _ z (λz=>?_);try simp only[Act.put,fe,fl,fG]
    refine dB 2 (A2 (M ⟨B.b,0,O⟩)) rfl rfl z (λA ⟨a9,ba⟩=>by go_simp) ?_;simp only[B7];refine dB 3 (A2 (M ⟨B.b,4,O⟩)) rfl rfl z (λA ⟨a9,ba⟩=>by go_simp) ?_;simp only[B7];refine dB 4 (Ax U (e:Int)) rfl rfl z (λA ⟨a9,ba⟩=>by go_simp) ?_;simp only[B7];refine dB 6 (Ex Br) rfl rfl z (λA ⟨a9,ba⟩=>by go_simp) ?_;simp only[B7];refine wpAnyH_done (by kernel_rfl) ?_ _
    gi_wp2
    have gm:m.drew.cell? ⟨f+1,0,O⟩=M (Ax U (e:Int))/\m.drew.cell? ⟨w.heap.size+1+1,e,O⟩=M (Ax U q)/\m.drew.cell? ⟨l,0,O⟩=M (R (M ⟨w.heap.size+1+1,0,O⟩) n n)/\m.drew.frozen? ⟨f+1,0,O⟩=Br:=⟨bh,ef,cb,ej⟩;have g4:IntKind.i64.wrap ((e:Int)-q)=(e:Int)-q:=by rw[fh];omega
    have G:=d3.out;have gr:f+1≠w.heap.size+1+1:=by omega
    have e0:JK w l n S j f a (R r t u) ((e:Int)+1-q) (m.setCell ⟨f+1,0,O⟩ (Ax U ((e:Int)-q))).drew.drew:=by
     have eh:(e:Int)+1-q-1=(e:Int)-q:=by omega
     refine⟨⟨(G.oo.bl.setCell (by simp;omega) _).drew.drew,(aC _ _ _ _ (by simp;omega)).trans G.oo.r0,(aC _ _ _ _ (by simp;omega)).trans G.oo.r1,?_,(aC _ _ _ _ (by simp;omega)).trans G.oo.bx,(G.oo.mks.keeps (Ck _ _ _)).keeps ((KeepsOthers.drew _).trans (KeepsOthers.drew _))⟩,(aC _ _ _ _ (by simp)).trans G.b5,?_,(aC _ _ _ _ (by simp)).trans G.b8⟩
     .exact(show(m.setCell ⟨f+1,0,O⟩ (Ax U ((e:Int)-q))).ownsRow _ _ _ _ _ _ from G.oo.row.kept (grownBy_setCell' m (f+1) _) (.inr (by simp[F2];omega)))
     .rw[eh];exact bg _ _ 0 _ _ _ G.b7
    have d7:B3 (agy (f+1+1+1) m (λd=>∃b:Int,JK w l n S j f a (R r t u) b d/\0<=b/\b<=(a:Int)/\qF S (x.N.ks.take c).reverse b=K) (λ_=>False) .normal {tmps:=#[],defers:=[]} (m.setCell ⟨f+1,0,O⟩ (Ax U ((e:Int)-q))).drew.drew):=
     ⟨(((Ck _ _ _).trans (KeepsOthers.drew _)).trans (KeepsOthers.drew _)).from _,_,e0,by omega,by omega,d6⟩
    gi_region
    all_goals exact d7
   case ret=>intro d h;exact h.elim
   case done=>
    rintro m ⟨b,h,ev,ew,J⟩ cf;rw[a8]at cf⊢;have eq:K=M b:=by rw[<-J];rfl
    have ff:oy S a x.N.ks=(a:Int)-(b-1):=by unfold oy;rw[bn,eq];show(a:Int)-b+1=_;omega
    have H:S.length=a:=by rw[<-hS,my,eE,<-g.out.2.1,bC,g.out.2.2.1];omega
    have ar:=h.oo.row;have f6:m.cell? ⟨w.heap.size+1+1,a,O⟩=M (Ax U 0):=by
     rw[ar.cellAt a (by omega),dE (by simp;omega),bC,H,fH,CC,ae (by omega)]
    have ge:=ar.frozenAt a;have cI:=(ar.stored a (Ax U ((a:Int)-(b-1)))).1;rw[H,G1 S n a ((a:Int)-(b-1)) H bs]at cI;have cn:jj (ns.take (a+1))=S++[(a:Int)-(b-1)]:=by rw[aaK cu,hS,ff]
    have e6:vI (w.heap.size+1+1+1) ((f+1+1+1)::j) m:=⟨List.nodup_cons.2 ⟨λak=>by have:=ex _ ak;omega,h.oo.mks.nd⟩,λv hb=>by
      rcases List.mem_cons.1 hb with rfl|hb
      .omega
      .exact h.oo.mks.lo v hb,λv hb=>by
      rcases List.mem_cons.1 hb with rfl|hb
      .exact cf
      .exact h.oo.mks.at_ v hb⟩
    have cw:Cq w l n (S++[(a:Int)-(b-1)]) ((f+1+1+1)::j) (m.setCell ⟨w.heap.size+1+1,a,O⟩ (Ax U ((a:Int)-(b-1)))):=
     ⟨h.oo.bl.setCell (by simp;omega) _,(aC _ _ _ _ (by simp;omega)).trans h.oo.r0,(aC _ _ _ _ (by simp)).trans h.oo.r1,by rw[bm,H];exact cI,(aC _ _ _ _ (by simp;omega)).trans h.oo.bx,e6.keeps (Ck _ _ _)⟩
    have d5:B3 (Cq w l n (jj (ns.take (a+1))) ((f+1+1+1)::j) (m.setCell ⟨w.heap.size+1+1,a,O⟩ (Ax U ((a:Int)-(b-1))))/\∀(E:Nat) k,(jj (ns.take (a+1)))[E]?=M k->1<=k):=by
     refine⟨by rw[cn];exact cw,λE k ap=>?_⟩;rw[cn]at ap;rcases bI E a with g1|g1
     .rw[gq (by omega)]at ap;exact o.2 E k ap
     .rw[dE (by omega)]at ap;obtain⟨F,cd⟩:=List.getElem?_eq_some_iff.1 ap;simp at F cd;omega
    have f3:=eI h.oo.bx;have f4:=eI h.b5;have f5:=eI h.b7;have eo:l<(m.setCell ⟨w.heap.size+1+1,a,O⟩ (Ax U ((a:Int)-(b-1)))).heap.size:=ai cw.bx;have gj:((a:Int)-(b-1))<=3001/\1<=((a:Int)-(b-1)):=by omega
    refine ep _ _ ?_;go_wp2;exact⟨⟨a+1,(f+1+1+1)::j,by omega,eo,d5,_,_,_,_,_,_,_,_,_,_,_,_,_,_,_,_,_,_,_,_,_,_,rfl⟩,by simp[G0];omega⟩
  .obtain rfl:a=n:=by omega
   have gs:¬(a:Int)<(a:Int):=by omega
   obtain⟨c,rfl⟩:∃c,a=c+1:=⟨a-1,by omega⟩;have hS:jj (ns.take (c+1))=jj ns:=by rw[cj (by rw[<-g.out.2.1,bC,g.out.2.2.1];exact af _)]
   rw[hS]at o;have H:(jj ns).length=c+1:=by rw[my,<-g.out.2.1,bC,g.out.2.2.1]
   obtain⟨k,s⟩:=cA H (show c<c+1 by omega);have cF:k=(c:Int)+1:=by have:=g.out.2.2.2.2.2;rw[re,aD,s]at this;exact this
   have b9:=iK o.1 cF;have f8:d.cell? ⟨w.heap.size+1+1,c,O⟩=M (Ax U k):=by
    rw[o.out.1.row.cellAt c (by omega),gq (by simp;omega),ci,s];rfl
   have cb:=eI o.1.bx;have he:=eI o.1.r0;have hf:=eI o.1.r1;have gb:d.frozen? ⟨w.heap.size,0,O⟩=Br:=cC _ _ _ _ _ o.1.r0;have gd:d.frozen? ⟨w.heap.size+1,0,O⟩=Br:=cC _ _ _ _ _ o.1.r1;have f9:(c:Int)+1-1=(c:Int):=by omega
   have g6:(0:Int)<=(c:Int):=by omega
   have g7:(c:Int)<(c:Int)+1:=by omega
   clear s cF hS o g;go_wp2_with fail;have g8:w.heap.size≠l:=by omega
   have g9:w.heap.size+1≠l:=by omega
   have ha:w.heap.size≠w.heap.size+1+1:=by omega
   have hc:w.heap.size+1≠w.heap.size+1+1:=by omega
   go_region_held3 (λA=>A.cell? ⟨l,0,O⟩=M (R (M ⟨w.heap.size+1+1,0,O⟩) (c+1) (c+1))/\A.cell? ⟨w.heap.size+1+1,c,O⟩=M (Ax U k)) (go_keep) (fail)
   all_goals go_wp2_with fail
   have h:=b9.1;show LeavesInM _ _ _ _ _ _ (j.map DF) .returning _;refine ul (w.heap.size+1+1+1) j _ (((h.mks.keeps (Ck _ _ _)).keeps (Ck _ _ _)).keeps (KeepsOthers.drew _)) (λca J=>?_);have ft:ca.heap[w.heap.size]?=M (A5 #[Ax U (c:Int)] 3 (0,0)):=(J.same _ (λak=>by have:=h.mks.lo _ ak;omega)).trans ((aC _ _ _ _ (by simp)).trans (bg _ _ 0 _ _ _ h.r0));have fu:ca.heap[w.heap.size+1]?=M (A5 #[Ex (decide (k<(c:Int)+1))] 4 (0,0)):=(J.same _ (λak=>by have:=h.mks.lo _ ak;omega)).trans (bg _ _ 0 _ _ _ ((aC _ _ _ _ (by simp)).trans h.r1));refine⟨_,Gk rfl _ _ _ ⟨w.heap.size,0,O⟩ ⟨w.heap.size+1,0,O⟩ _ _ rfl rfl (ai7 _ _ _ (eI ft)) (afK _ _ _ (eI fu)),?_,J.below (((h.bl.setCell (by simp) _).setCell (by simp) _).drew) (λv hb=>by have:=h.mks.lo v hb;omega) (af _)⟩;rw[show((c+1:Nat):Int)-1=(c:Int) by omega,aE (by have:=b9.out.2;omega)]
def ack(x:ByteArray):vJ x=decide (x=⟨#[]⟩):=by
 unfold vJ;rw[ja];by_cases a:x=⟨#[]⟩
 .subst a;rfl
 .rw[aE a,aE];intro b;apply a;cases x;simp only at b
  congr 1
  exact Array.toList_inj.1 b
def yr(N:Nd):Bw (py N (dF N.k)) N=(match dF N.k with
  |0=>aL N Br Br Br C2
  |1=>aL N Br C2 Br Br
  |2=>aL N Br C2 Br Br
  |3=>aL N Br Br C2 Br
  |4=>aL N C2 Br Br Br
  |5=>aL N C2 Br Br C2&&(N.op==0||N.op==1)
  |_=>aL N Br Br Br Br):=by
 have p:∀(l m o:Bool)(P f g h:Prop) [Decidable P] [Decidable f] [Decidable g] [Decidable h],decide (P/\f/\g/\h)=(decide P&&decide f&&decide g&&decide h):=λl m o P f g h _ _ _ _=>by
  by_cases c:P<;>by_cases q:f<;>by_cases r:g<;>by_cases s:h<;>simp[c,q,r,s]
 have d:decide ((0:Int)=N.op)=(N.op==0):=by
  by_cases a:N.op=0
  .rw[aI a.symm,a];rfl
  .rw[aE (λb=>a b.symm)];exact(beq_eq_false_iff_ne.2 a).symm
 have j:decide ((0:Int)=N.n)=(N.n==0):=by
  by_cases a:N.n=0
  .rw[aI a.symm,a];rfl
  .rw[aE (λb=>a b.symm)];exact(beq_eq_false_iff_ne.2 a).symm
 have e:decide ((⟨#[]⟩:ByteArray)=N.x)=vJ N.x:=by
  rw[ack];by_cases a:N.x=⟨#[]⟩
  .rw[aI a.symm,aI a]
  .rw[aE (λb=>a b.symm),aE a]
 have i:decide (([]:List ByteArray)=N.nm)=decide (N.nm.length=0):=by
  by_cases a:N.nm=[]
  .rw[aI a.symm,aI (by rw[a];rfl)]
  .rw[aE (λb=>a b.symm),aE (λb=>a (jb b))]
 unfold Bw aL;rw[p C2 C2 C2];rcases E4 N.k with hc|hc|hc|hc|hc|hc|hc
 .rw[hc];simp only[py,d,j,e];simp
 .rw[hc];simp only[py,d,e,i];simp
 .rw[hc];simp only[py,d,e,i];simp
 .rw[hc];simp only[py,d,j,i];simp
 .rw[hc];simp only[py,j,e,i];simp
 .rw[hc];simp only[py,j,e];have b:decide ((if N.op=1 then(1:Int) else 0)=N.op)=(N.op==0||N.op==1):=by
   by_cases c:N.op=1
   .rw[ae c,c];rfl
   .rw[aa c,d];rw[beq_eq_false_iff_ne.2 c,Hw]
  rw[b];simp;cases (N.op==0||N.op==1)<;>cases (N.n==0)<;>cases vJ N.x<;>rfl
 .rw[hc];simp only[py,d,j,e,i];simp
def nF(ns:List Nd)(ks:List Int):(kinds ns ks).length=ks.length:=by simp[kinds]
def aja(ns:List Nd)(N:Nd)(j:Nat)(h:j<N.ks.length):(kinds ns N.ks)[j]?=M (dK ns N j):=by
 unfold kinds dK;rw[ci,az h];simp[List.getD,az h]
def acl(a:List Int):gH [] a=a.isEmpty:=rfl
def aep(i:Nat)(a:List Int):gH [(i,1)] a=a.all (ms i):=by
 rw[gH,aa (by omega),acl];have c:Kb i 1 a=(a.takeWhile (ms i)).length:=by unfold Kb;rw[ae rfl]
 rw[c]
 induction a with
 |nil=>rfl
 |cons b e d=>
  cases h:ms i b with
  |false=>rw[Ht (by simp[h])];simp[h]
  |true=>
   rw[Hu (by simp[h]),Ie,h,gE,bB,List.drop_succ_cons];exact d (by unfold Kb;rw[ae rfl])
def ara(i f:Nat)(b:f≠1)(a:Int)(r:List Int):Kb i f (a::r)=if ms i a=C2 then 1 else 0:=by
 unfold Kb;rw[aa b];cases h:ms i a with
 |false=>rw[Ht (by simp[h])];simp
 |true=>rw[Hu (by simp[h]),bB,ae rfl];omega
def JL(i:Nat)(b:List (Nat×Nat))(a:Int)(r:List Int):gH ((i,0)::b) (a::r)=(ms i a&&gH b r):=by
 rw[gH,ara i 0 (by omega)];cases h:ms i a with
 |false=>simp
 |true=>simp
def aeq(i:Nat)(a:List (Nat×Nat)):gH ((i,0)::a) []=Br:=by
 rw[gH];simp[Kb]
def ao8(i:Nat)(b:List (Nat×Nat))(a:Int)(r:List Int):gH ((i,2)::b) (a::r)=if ms i a=C2 then gH b r else gH b (a::r):=by
 rw[gH,ara i 2 (by omega)];cases h:ms i a with
 |false=>simp
 |true=>simp
def alD(i:Nat)(a:List (Nat×Nat)):gH ((i,2)::a) []=gH a []:=by
 rw[gH];simp[Kb]
def ao9(n:Nat):∀(b:List Int),n<b.length->gH (Gb n) b=((b.take n).all (ms 5)&&(b.drop n).all (ms 3)):=by
 induction n with
 |zero=>
  intro b c
  match b,c with
  |a::d,_=>
   show gH ((3,0)::[(3,1)]) (a::d)=_;rw[JL,aep];simp
 |succ n e=>
  intro b c
  match b,c with
  |a::d,c=>
   show gH ((5,0)::Gb n) (a::d)=_;rw[JL,e d (by simpa using c)];simp[Bool.and_assoc]
def tH(ns:List Nd)(N:Nd)(j:Nat)(h:j<N.ks.length):dK ns N j=(kinds ns N.ks).getD j 0:=by
 rw[aD,aja ns N j h];rfl
def Ab(a:List Int)(p:Int->Bool)(f j:Nat)(h:j+(f+1)<=a.length):((a.drop j).take (f+1)).all p=(p (a.getD j 0)&&((a.drop (j+1)).take f).all p):=by
 have b:j<a.length:=by omega
 rw[mI b,List.take_succ_cons,Ie,aD,az b];rfl
def acm(ns:List Nd)(N:Nd):∀(f j:Nat),j+f<=N.ks.length->jF ns N f j=(((kinds ns N.ks).drop j).take f).all fy
 |0,j,_=>by simp[jF]
 |f+1,j,h=>by
  rw[jF,acm ns N f (j+1) (by omega),Ab _ _ _ _ (by rw[nF];exact h),tH ns N j (by omega)]
def ajb(ns:List Nd)(N:Nd):∀(f j:Nat),j+f<=N.ks.length->Ei ns N f j=(((kinds ns N.ks).drop j).take f).all eA
 |0,j,_=>by simp[Ei]
 |f+1,j,h=>by
  rw[Ei,ajb ns N f (j+1) (by omega),Ab _ _ _ _ (by rw[nF];exact h),tH ns N j (by omega)]
def ajc(ns:List Nd)(N:Nd):∀(f j:Nat),j+f<=N.ks.length->BD ns N f j=(((kinds ns N.ks).drop j).take f).all ti
 |0,j,_=>by simp[BD]
 |f+1,j,h=>by
  rw[BD,ajc ns N f (j+1) (by omega),Ab _ _ _ _ (by rw[nF];exact h),tH ns N j (by omega)]
def ajd(ns:List Nd)(N:Nd):∀(f j:Nat),j+f<=N.ks.length->Eh ns N f j=(((kinds ns N.ks).drop j).take f).all (ms 9)
 |0,j,_=>by simp[Eh]
 |f+1,j,h=>by
  rw[Eh,ajd ns N f (j+1) (by omega),Ab _ _ _ _ (by rw[nF];exact h),tH ns N j (by omega)];rfl
def alE(k:Int):ms 5 k=ti k:=by
 unfold ms ti;by_cases a:k=26<;>by_cases b:k=32<;>by_cases c:k=33<;>simp[a,b,c]
def xJ(ns:List Nd)(N:Nd):Bool:=Bw (py N (dF N.k)) N&&(ffB N N.ks.length (dF N.k)&&kfB N (kinds ns N.ks))
def arb(ns:List Nd)(N:Nd)(hk:N.k=3\/N.k=4\/N.k=6\/N.k=7\/N.k=8\/N.k=9\/N.k=10\/N.k=11\/N.k=12\/N.k=14\/N.k=15\/N.k=16\/N.k=20\/N.k=21\/N.k=22\/N.k=23\/N.k=24\/N.k=25\/N.k=26\/N.k=27\/N.k=28\/N.k=29\/N.k=30\/N.k=31\/N.k=32\/N.k=33\/N.k=36\/N.k=37\/N.k=40\/N.k=41\/N.k=42)(j:N.nm.length<=200):xJ ns N=lg ns N:=by
 have a:=nF ns N.ks;have b:=tH ns N;have h:fy 1=Br:=rfl;unfold xJ kfB rkB;rw[yr];revert a b;generalize kinds ns N.ks=c;intro a b;rcases hk with hk|hk|hk|hk|hk|hk|hk|hk|hk|hk|hk|hk|hk|hk|hk|hk|hk|hk|hk|hk|hk|hk|hk|hk|hk|hk|hk|hk|hk|hk|hk;all_goals
  rcases c with _|⟨d,_|⟨e,_|⟨f,_|⟨g,_|⟨i,l⟩⟩⟩⟩⟩;all_goals
   simp at a;simp[lg,eA,stB,gh,dF,acb,ffB,txB,EK,hk,<-a,b,jF,fj,JL,aeq,acl,ao8,alD,ms]<;>grind
def arc(ns:List Nd)(N:Nd)(hk:N.k=1\/N.k=2\/N.k=13\/N.k=34\/N.k=35)(j:N.nm.length<=200):xJ ns N=lg ns N:=by
 have b:=nF ns N.ks;have e:=tH ns N 0;have d:=acm ns N N.ks.length 0 (by omega);have c:=ajb ns N N.ks.length 0 (by omega);have a:=ajd ns N N.ks.length 0 (by omega);have g:ms 0=eA:=rfl;have h:ms 3=fy:=rfl;rw[<-b]at d c a e;rw[ga,yB]at d c a;unfold xJ kfB rkB;rw[yr,<-b];revert b e d c a;generalize kinds ns N.ks=f;intro b e d c a;rcases hk with hk|hk|hk|hk|hk;all_goals
  rcases f with _|⟨i,l⟩;all_goals
   simp at b e;simp only[bB,Ie,fs,List.all_nil]at d c a;simp[lg,eA,stB,gh,dF,acb,ffB,txB,EK,hk,d,c,a,g,h,<-b,e,fj,aep,JL,aeq,acl,ms]<;>grind
def ard(ns:List Nd)(N:Nd)(a:N.k=5)(e:N.nm.length<=200):xJ ns N=lg ns N:=by
 have c:dF N.k=1:=by rw[a];rfl
 have d:lg ns N=(aL N Br C2 Br Br&&(decide (1<=N.n/\N.n<(N.ks.length:Int))&&(BD ns N N.n.toNat 0&&jF ns N (N.ks.length-N.n.toNat) N.n.toNat))):=by
  unfold lg;rw[ae (by rw[a];rfl)];unfold stB;rw[aa (by rw[a];decide),aa (by rw[a];decide),aa (by rw[a];decide),aa (by rw[a];decide),ae a]
 unfold xJ kfB;rw[yr,c,d,ae rfl];simp only[ffB];by_cases b:1<=N.n/\N.n<(N.ks.length:Int)
 .rw[aI b,gE,gE,ao9 _ _ (by rw[nF];omega),ajc ns N _ _ (by omega),acm ns N _ _ (by omega)]
  congr 1
  congr 1
  .rw[ga]
   congr 1
   funext k
   exact alE k
  .have:(kinds ns N.ks).drop N.n.toNat=((kinds ns N.ks).drop N.n.toNat).take (N.ks.length-N.n.toNat):=by
    rw[cj (by rw[fJ,nF];exact af _)]
   rw[<-this];rfl
 .rw[aE b,fw,fw]
def apa(ns:List Nd)(N:Nd)(h:N.k ∉ oK)(f:N.k≠5):xJ ns N=lg ns N:=by
 have d:=(Jt N.k h).1;simp only[oK,pd,rh,rm,not_or]at h;have e:eA N.k=Br:=by unfold eA;exact aE (by omega)
 have b:lg ns N=Br:=by
  unfold lg;rw[aa (by rw[e];decide)];unfold gh
  repeat rw[aa (by omega)]
 have a:dF N.k=6:=by
  unfold dF
  repeat rw[aa (by omega)]
 have c:rkB N.k (kinds ns N.ks)=Br:=by unfold rkB;rw[d]
 unfold xJ kfB;rw[b,a,aa (by decide),c,qe,qe]
def aje(ns:List Nd)(N:Nd)(a:N.nm.length<=200):xJ ns N=lg ns N:=by
 by_cases b:N.k∈oK
 .simp only[oK,pd,rh,rm]at b;by_cases d:N.k=1\/N.k=2\/N.k=13\/N.k=34\/N.k=35
  .exact arc ns N d a
  .exact arb ns N (by omega) a
 .by_cases c:N.k=5
  .exact ard ns N c a
  .exact apa ns N b c
def acn(ns:List Nd)(N:Nd)(l:200<N.nm.length):lg ns N=Br:=by
 have f:∀c d e,aL N c d e Br=Br:=λc d e=>by unfold aL;rw[aE (by omega)];simp
 have a:∀g b,b<=200->fj N g b=Br:=λg b m=>by unfold fj;rw[aE (by omega)];rfl
 have h:=a 1 1 (by omega);have i:=a 1 2 (by omega);have j:=a 1 200 (by omega);have k:=a 0 200 (by omega);unfold lg;split
 .unfold stB;simp only[f,h,i,j,fw,qe];simp
 .unfold gh;simp only[f,k,fw,qe];simp
def alF(ns:List Nd)(i:Nat)(N:Nd):JI ns i N=lh ns i N:=by
 unfold JI lh;by_cases c:N.nm.length<=200
 .have d:Gi N=aak N:=by
   unfold Gi aak;by_cases a:0<=N.f/\N.f<=N.t/\0<=N.l/\N.ks.length<=200
   .rw[aI a,aI ⟨a.1,a.2.1,a.2.2.1,a.2.2.2,c⟩]
   .rw[aE a,aE (λb=>a ⟨b.1,b.2.1,b.2.2.1,b.2.2.2.1⟩)]
  have e:=aje ns N c;unfold xJ at e;rw[d,<-e];generalize Bw (py N (dF N.k)) N=g;generalize G6 N.ks i N.ks.length 0=h;cases g<;>cases h<;>rfl
 .have d:Gi N=Br:=by unfold Gi;exact aE (λb=>c b.2.2.2.2)
  rw[d,acn ns N (by omega),fw,qe,qe]
structure ajf (w0:B0) (lb mb:Nat) (vs:B1) (L:List Im) (W:B0):Prop where
 bl:be w0 W
 lk:Lk W lb mb vs
 ns:nG W w0.heap.size vs L
def oA.keep{c n:Int}(h:oA b W c n)(a:H4 B W W')(d:b<B):oA b W' c n:=(a.block _ d).trans h
def apb(c:Nat):yi c≠29:=by
 unfold yi;split<;>decide
def nG.setFt(h:nG W base vs L){c n:Int}(g:oA b W c n)(f:b<base)(j:Nat)(v:B1):nG (W.setCell ⟨b,j,O⟩ v) base vs L:=
 ⟨jr h.row f _,λe a d=>(aC W ⟨b,j,O⟩ a.b v (sw (h.box e a d) (show W.heap[b]?=M (A5 #[Ax U c,Ax U n] 29 (0,0)) from g) (apb _))).trans (h.box e a d),λe a d=>jr (h.kid e a d) f _,h.far,h.rng⟩
def nG.putFt(h:nG W base vs L){c n:Int}(e:oA b W c n)(d:b<base)(a n2:Int):nG ((W.setCell ⟨b,0,O⟩ (Ax U a)).setCell ⟨b,1,O⟩ (Ax U n2)) base vs L:=
 (h.setFt e d 0 _).setFt (c:=a) (n:=n) (bg _ b 0 _ _ _ e) d 1 _
structure as6 (w:B0) (v:B1) (w0:B0):Prop where
 tb:w0.heap[w.heap.size]?=M (.cells #[v] 25 (0,0))
 fb:oA (w.heap.size+1) w0 0 0
 bl:be w w0
 sz:w0.heap.size=w.heap.size+1+1
def aco{c:Func}{p b:Tmp}{u:Hm}(h:c.results=#[.tmp p,.cell b u])(tmps:Array B1)(P:Program)(w:B0)(a:Addr)(v d:B1)(f:tmps.getD p A0=v)(i:tmps.getD b A0= A2 (M a))
  (e:(loadVar u a).run P w= .ok d w):(results c tmps).run P w= .ok (E3 #[v,d]) w:=by
 have g:tmps[p]?.getD A0=v:=by simpa using f
 have j:tmps[b]?.getD A0= A2 (M a):=by simpa using i
 simp only[results,h];simp[Result.andThen,g,j,asAddr,e]
def alG(w:B0)(b:Nat)(c n:Int)(h:oA b w c n):(loadVar 29 ⟨b,0,O⟩).run A9 w= .ok (H2 #[Ax U c,Ax U n]) w:=
 Hy w b 29 29 _ _ _ h underlying29 rfl (by kernel_rfl)
def J0(b:B1->Prop)(w:B0)(ns:List Nd)(e:Ending)(w':B0):Prop:=
 be w w'/\∃base vs L a,e= E2 (E3 #[nV a,H2 #[Ax U 0,Ax U 0]])/\L[ns.length-1]?=M a/\L.map Im.N=ns/\nG w' base vs L/\∀a∈L,bi w a.vn a.N.nm/\b a.vn
structure are (ns:List Nd):Prop where
 h:js ns=Br
 n:∀(i:Nat) N,ns[i]?=M N->lh ns i N=C2
 s:∀i,i<ns.length->(jj ns).getD i 0≠0
 l:(jj ns).getD (ns.length-1) 0=(ns.length:Int)
 d:li (ku (F7 ns)) ns.length 0=O
def ajg(h:eG ns=(0,0)):are ns:=by
 unfold eG at h;split at h
 .simp at h
 .rename_i e;cases h1:li (gF ns) ns.length 0 with
  |some a=>rw[h1]at h;simp[tf2]at h
  |none=>
   rw[h1,tf2]at h;cases h2:li (jt (jj ns)) ns.length 0 with
   |some a=>rw[h2]at h;simp[tf3]at h
   |none=>
    rw[h2,tf3]at h;split at h
    .simp at h
    .rename_i d;refine⟨by simpa using e,λa f b=>?_,λa g c=>?_,by simpa using d,aao (congrArg Prod.fst h)⟩
     .have:=oh h1 a (aH _) (by have:=(List.getElem?_eq_some_iff.1 b).1;omega);unfold gF at this;rw[aD,b,ie]at this;simpa using this
     .have:=oh h2 a (aH _) (by omega);unfold jt at this;rw[c]at this;simp at this
def Fk(y:B1->Prop)(w:B0)(v:B1)(ns:List Nd)(df:∀(ba:Addr) (n c i:Nat) (N:Nd) (vn:B1),v= R (M ba) n c->ns[i]?=M N->w.cell? ⟨(ba.add (i*9)).block,(ba.add (i*9)).off+7,O⟩=M vn->y vn)(h:dy w v ns)(ep:∀N∈ns,jE N)(ec:pH w)(tt:Hm)(fr:Nat×Nat)(dd:w.heap[0]?=M (A5 gA tt fr))
  (ek:∀W,be w W->F0 A9 W "strings.asciiSpace" .u8 Ce) (ht:eG ns=(0,0)):
  E0 A9 16 #[H2 #[v]] w (J0 y w ns):=by
 have G:=iK (ajg ht) (tB (congrArg Prod.fst ht));have dx:=G.out.1.h;have cf:=am df;obtain⟨ex,c,rfl⟩:=h.form;have bd:=mh dx;have a7:=iK h ep;have ao:=mo ec dd ek;have c9:¬ns.length=0:=λB=>bd (.inl B);have da:¬3000<ns.length:=λB=>bd (.inr (.inl B));have bA:(ns.getD (ns.length-1) xL).k=1:=by
  by_cases t:(ns.getD (ns.length-1) xL).k=1
  .exact t
  .exact absurd (.inr (.inr t)) bd
 obtain⟨N,bE⟩:∃N,ns[ns.length-1]?=M N:=⟨_,az (by omega)⟩;rw[aD,bE,ie]at bA;obtain⟨a9,rfl,vn,gi,ea⟩:=h.get bE;have au:=ea.c0;rw[bA]at au;have d9:∀E F,be w ((w.alloc E).alloc F):=λE F=>((ah _ w).alloc (af _) E).alloc (by simp) F;have⟨n,b7⟩:=aJ ns.length;have z:B3 (ns.length=n):=b7;rw[b7]at a7 au c9 da⊢;obtain⟨a,eg⟩:∃a:Nat,n=a+1:=⟨n-1,by omega⟩;have eh:n-1=a:=by omega
 rw[eh]at au;have f7:a<3000:=by omega
 have fn:((a+1:Nat):Int)-1=(a:Int):=by omega
 have ge:(0:Int)<=(a:Int):=by omega
 have fg:decide ((a:Int)<0)=Br:=aE (by omega);have fk:decide ((3000:Int)<=(a:Int))=Br:=aE (by omega);have gf:(a:Int)<(a:Int)+1:=by omega
 have fF:∀E F,((w.alloc E).alloc F).cell? (a9.add (a*9))=M (Ax U 1):=λE F=>ag (d9 E F) au;subst eg;go_in;go_wp2_with fail;generalize dq:(w.alloc _).alloc _=k;have⟨cu,ce,cc,s0⟩:=If dq;have m:B3 (as6 w (R (M a9) (a+1) c) k):=⟨cu,ce,cc,by omega⟩;have bh:=ai ao.2.1;have ap:B3 (pH k/\k.heap[0]?=M (A5 gA tt fr)/\(∀W,be k W->F0 A9 W "strings.asciiSpace" .u8 Ce)):=
  ⟨ao.1.below m.bl (af _),(m.bl.block _ bh).trans ao.2.1,λW dn=>ao.2.2 W (m.bl.trans (dn.mono m.bl.size))⟩
 refine(rJ (H:=Unit) k fr tt ap.2.1).mono ?_;rintro B p ⟨rfl,b4,bf⟩;have⟨r,b5⟩:=aJ k.heap.size;have f8:=m.sz;have eL:p.cell? ⟨w.heap.size,0,O⟩=M (R (M a9) (a+1) c):=eI ((bf.block _ (by omega)).trans m.tb);have f9:=bf.size;have gb:w.heap.size<p.heap.size:=by omega
 have gd:w.heap.size≠p.heap.size:=by omega
 rw[b5]at b4⊢;have K:=mo b4 bf b5;go_wp2_with fail;have cd:=aB p (A5 #[.map (M r),R O 0 0] 94);have bF:be p (p.alloc (A5 #[.map (M r),R O 0 0] 94)):=(ah _ p).alloc (af _) _;have bk:ajf k p.heap.size r (R O 0 0) [] (p.alloc (A5 #[.map (M r),R O 0 0] 94)):=by
  have bt:=K.2.1.trans (bF.mono K.2.1.size);have ei:r<p.heap.size:=by
   have⟨fz,fd,ee,_⟩:=K.1;exact ai ee
  exact⟨bt,⟨cd,uB K.1 (bF.block _ ei),ap.1.below bt (af _)⟩,⟨fE _ _ _ _,λi f o=>by simp at o,λi f o=>by simp at o,λf o=>by simp at o,λi f gm o=>by simp at o⟩⟩
 have b3:k.heap.size<=p.heap.size:=K.2.1.size;generalize p.alloc (A5 #[.map (M r),R O 0 0] 94)=cv at bk⊢;have⟨C,ef⟩:=aJ p.heap.size;rw[ef]at bk b3⊢;have cp:B3 (k.heap.size<=C):=b3;have cr:B3 (ajf k C r (R O 0 0) [] cv):=bk;go_loopw [37] (λbn wr=>∃(j:Nat) (g:List Im) (a4:B1),j<=a+1/\bn= Ax U j/\B3 (ajf k C r a4 g wr/\g.length=j/\g.map Im.N=ns.take j/\∀f∈g,bi w f.vn f.N.nm/\y f.vn)) (λbn _=>a+1-(G0 bn).toNat)
 case atStart=>exact⟨0,[],_,aH _,rfl,cr,rfl,rfl,λf o=>by simp at o⟩
 case round=>
  obtain⟨j,g,a4,f3,rfl,e⟩:=hrel;by_cases bh:j<a+1
  .obtain⟨q,I⟩:=cA z.out bh;have f5:(j:Int)<(a:Int)+1:=by omega
   have f4:(0:Int)<=(j:Int):=by omega
   have⟨ey,ds,gl,gj,eb⟩:=a7.1.get I;obtain rfl:=bz ds;have u:be w wr:=m.bl.trans (e.1.bl.mono m.bl.size);obtain⟨cy,cz,cB,cF,cI,c1,c2,bv,c4,bj,b1⟩:=eb;obtain⟨ar,ax,rfl⟩:=bj.form;obtain⟨eF,e9,rfl⟩:=b1.form;have fm:=ag u cy;have fo:=ag u cz;have fq:=ag u cB;have ft:=ag u cF;have fu:=ag u cI;have fv:=ag u c1;have fx:=ag u c2;have c6:=ag u bv;have c7:=ag u c4;have bc:∀x,be wr (wr.alloc x):=λx=>(ah _ wr).alloc (af _) x;have a3:=λx=>ai6 k (wr.alloc x) ap.1 (e.1.bl.trans ((bc x).mono e.1.bl.size)) C r cp a4 g (e.1.lk.below (bc x)) (e.1.ns.below (bc x)) q _ _ (bj.below m.bl) (b1.below m.bl) (a7.2 q (cG I)) (by rw[e.out.2.1];omega) ns (by rw[e.out.2.1];exact e.2.2.1) (by rw[e.out.2.1];exact I) ap.2.2;unfold jG at a3;have br:B3 (JI ns g.length q=C2):=by show _=_;rw[alF,e.out.2.1];exact G.out.1.n j q I
   have cl:B3 (ns[j]?=M q):=I;have⟨bs,bD⟩:=aJ q.nm.length;have⟨ew,dg⟩:=aJ q.ks.length;have a8:B3 (bi w (R ar q.nm.length ax) q.nm/\y (R ar q.nm.length ax)):=⟨bj,cf.out _ _ _ j q _ rfl I bv⟩;rw[bD]at a3 c6;replace a8:B3 (bi w (R ar bs ax) q.nm/\y (R ar bs ax)):=by rw[<-bD];exact a8
   rw[dg]at a3 c7;go_wp2_with fail;refine(a3 _).mono ?_;rintro B a5 ⟨rfl,L,ej⟩;rw[br.out];have⟨eq,f,b9,a1,en,eo⟩:=ej br.out;have cs:B3 (ajf k C r eq (g++[f]) a5/\(g++[f]).length=j+1/\(g++[f]).map Im.N=ns.take (j+1)/\∀al∈g++[f],bi w al.vn al.N.nm/\y al.vn):=
    ⟨⟨L,en,eo⟩,by rw[bm,e.out.2.1];rfl,by rw[eK,e.out.2.2.1,jc,cl.out];simp[b9],λal hy=>by
     rcases List.mem_append.1 hy with hy|hy
     .exact e.2.2.2 al hy
     .obtain rfl:=List.mem_singleton.1 hy;rw[b9,a1];exact a8⟩
   go_wp2;exact⟨⟨j+1,_,_,by omega,by go_num,cs⟩,by simp[G0];omega⟩
  .obtain rfl:j=a+1:=by omega
   have a0:g.map Im.N=ns:=by rw[e.out.2.2.1];exact cj (by rw[z.out];exact af _)
   have b2:∀f∈g,f.N.ks.length<=200:=λf o=>G.out.2.kn _ (a0 ▸ acz o);obtain⟨t,av,rfl⟩:∃t c,a4= R (M ⟨t,0,O⟩) (a+1) c:=by
    rcases bJ e.1.ns.row with⟨h,_⟩|h
    .rw[e.out.2.1]at h;omega
    .rw[e.out.2.1]at h;exact h
   have et:wr.cell? ⟨C,1,O⟩=M (R (M ⟨t,0,O⟩) (a+1) av):=by rw[aj _ _ _ _ _ _ e.out.1.lk.b];rfl
   have ca:=Gl wr k.heap.size _ g e.1.ns ns a0 (a+1) e.2.1 (by omega) (by omega) b2 (z.out ▸ G.out.1.s) (by have:=G.out.1.l;rw[z.out]at this;exact this);have cm:B3 (∀W,be wr W->E0 A9 40 #[R (M ⟨t,0,O⟩) (a+1) av] W (gy W (E3 #[Ax U 0,Ex Br]))):=λW dc=>by
    have j:=Gj W k.heap.size _ g (e.1.ns.below dc) ns a0 (a+1) e.2.1 (by omega) (by omega) b2;rw[<-z.out,G.out.1.d,z.out]at j;exact j
   have f2:=m.sz;have bw:=m.fb.keep e.1.bl (by rw[m.out.sz];omega);have A:B3 (ajf k C r (R (M ⟨t,0,O⟩) (a+1) av) g wr/\oA (w.heap.size+1) wr 0 0/\g.map Im.N=ns/\g.length=a+1/\be w wr):=⟨e.1,bw,a0,e.2.1,m.bl.trans (e.1.bl.mono m.bl.size)⟩;have cq:B3 (∀f∈g,bi w f.vn f.N.nm/\y f.vn):=e.2.2.2;have c8:((a+1:Nat):Int)-1=(a:Int):=by omega
   rw[c8]at ca;go_wp2_with fail;refine ca.mono ?_;rintro B a5 ⟨rfl,L⟩;have el:=cm.out a5 L;have ev:=ag L et;have bp:B3 (be wr a5):=L;go_wp2_with fail;refine el.mono ?_;rintro B a6 ⟨rfl,b0⟩;have bb:=bp.out.trans (b0.mono bp.size);have gn:=ag b0 ev;have bx:=A.2.1.below bb;have cb:=A.1.ns.below bb;have⟨f,o⟩:=cA A.2.2.2.1 (show a<a+1 by omega);have cw:a6.cell? ⟨t,a,O⟩=M (nV f):=by have b8:=cb.row;rw[A.out.2.2.2.1]at b8;rw[b8.cellAt a (by omega),ci,o];rfl
   have⟨bw,fA,fB⟩:=pz bx;have J:B3 (oA (w.heap.size+1) a6 0 0/\be w a6/\nG a6 k.heap.size (R (M ⟨t,0,O⟩) (a+1) av) g/\g[a]?=M f):=⟨bx,A.2.2.2.2.trans (bb.mono A.2.2.2.2.size),cb,o⟩;have⟨er,a1⟩:=aJ (nV f);rw[a1]at cw;have ct:B3 (nV f=er):=a1;go_wp2;exact bH (aco rfl _ _ _ ⟨w.heap.size+1,0,O⟩ _ _ rfl rfl (alG _ _ 0 0 (ym J.1 0 0))) rfl ⟨(J.2.1.setCell (by simp) _).setCell (by simp) _,k.heap.size,_,g,f,by rw[ct.out];rfl,by rw[z.out,re];exact J.2.2.2,A.2.2.1,J.2.2.1.putFt J.1 (by rw[m.out.sz];omega) 0 0,cq⟩
def afL(w:B0)(v:B1)(ns:List Nd)(h:dy w v ns)(d:∀N∈ns,jE N)(b:pH w)(tt:Hm)(fr:Nat×Nat)(a:w.heap[0]?=M (A5 gA tt fr))
  (c:∀W,be w W->F0 A9 W "strings.asciiSpace" .u8 Ce) (ht:eG ns=(0,0)):E0 A9 16 #[H2 #[v]] w (J0 (λ_=>True) w ns):=
 Fk _ w v ns (λ_ _ _ _ _ _ _ _ _=>trivial) h d b tt fr a c ht
def wM(ns:List Nd)(i:Int):Nat:=(wN ns i).toNat
def wMK(ns:List Nd):List Int->Nat
 |[]=>0
 |k::l=>wM ns k+wMK ns l
structure Tzd (ns:List Nd):Prop where
 nb:∀i:Nat,i<ns.length->lh ns i (ab ns i)=C2
 at_:∀i:Nat,i<ns.length->wM ns i=150+8000*bgN (ab ns i)+wMK ns (ab ns i).ks
 root:wM ns ((ns.length:Int)-1)=(Wp ns ns.length).toNat
def ajh:∀{ks:List Int},(∀z∈ks,0<=wN ns z)->(wMK ns ks:Int)=wK ns ks
 |[],_=>rfl
 |k::l,h=>by
  have c:=h k (by simp);have a:=ajh (ks:=l) λz b=>h z (by simp[b]);rw[wMK,wK,<-a,wM];omega
def apc(h:(eG ns).1=0):Tzd ns:=by
 have b:=A8 h;have m:∀a:Nat,a<ns.length->0<=wN ns a:=λa c=>Int.le_trans (by decide) (aqt b c);refine⟨b.nb,λa c=>?_,by unfold wM;rw[b.root]⟩;have j:∀f∈(ab ns a).ks,0<=wN ns f:=λf k=>by
  obtain⟨l,i,rfl⟩:=om k;obtain⟨n,e⟩:=iJ (b.nb a c) c l i;rw[e.id];exact m n e.len
 have g:=ajh j;have d:=b.at_ a c;unfold fW at d;unfold wM;rw[d,<-g];omega
section
variable (ns : List Nd) {N : Nd}
def Fl(h:N.ks.length=1):wMK ns N.ks=wM ns (dt N 0):=by
 match e:N.ks,h with
 |[a],_=>unfold dt;rw[e];rfl
def Bi(h:N.ks.length=2):wMK ns N.ks=wM ns (dt N 0)+wM ns (dt N 1):=by
 match e:N.ks,h with
 |[a,b],_=>unfold dt;rw[e];rfl
def aji(h:N.ks.length=3):wMK ns N.ks=wM ns (dt N 0)+wM ns (dt N 1)+wM ns (dt N 2):=by
 match e:N.ks,h with
 |[a,b,c],_=>unfold dt;rw[e];simp[wMK];omega
def acp:∀(a b:List Int),wMK ns (a++b)=wMK ns a+wMK ns b
 |[],b=>(gu _).symm
 |k::l,b=>by rw[ed,wMK,wMK,acp l b,fi]
end
def ajj(h:C9 N):(Cf N).size+37<=150+8000*bgN N:=by
 have c:N.k≠25->N.x.size<=19:=λa=>by
  rcases h.x with⟨_,b,_⟩|⟨b,_⟩
  .exact b
  .exact absurd b a
 unfold Cf;split
 .show 3+_<=_;omega
 split
 .show 4+_<=_;omega
 split
 .show 5+_<=_;omega
 split
 .have:=Hc N.n h.int.n.2;omega
 split
 .rename_i a;have:=c (by omega);omega
 split
 .rename_i a;have:=aii h a;unfold fW at this;omega
 split
 .show 3+_<=_;omega
 .show 0+_<=_;omega
def acq:List ByteArray->ByteArray
 |[]=>ByteArray.empty
 |y::r=>dH++y++acq r
def af0(l:List ByteArray):∀x:ByteArray,l.foldl B5 (C2,x)=(C2,x++acq l):=by
 induction l with
 |nil=>intro x;simp[acq]
 |cons a d c=>
  intro x;rw[jd];have b:B5 (C2,x) a=(C2,x++dH++a):=rfl;rw[b,c];simp only[acq,aK]
def Hh(x:ByteArray)(l:List ByteArray):bK (x::l)=x++acq l:=by
 unfold bK K9;rw[jd];have a:B5 (Br,ByteArray.empty) x=(C2,x):=by unfold B5;simp
 rw[a,af0]
def ajk(l:List ByteArray):(⟨(Lib.join (l.map (·.data.toList)) dH.data.toList).toArray⟩:ByteArray)=bK l:=by
 cases l with
 |nil=>rfl
 |cons e l=>
  rw[dv,Lib.join_cons,Hh];have d:∀l:List ByteArray,Lib.joinTail dH.data.toList (l.map (·.data.toList))=(acq l).data.toList:=by
   intro l
   induction l with
   |nil=>rfl
   |cons a l c=>
    have b:Lib.joinTail dH.data.toList ((a::l).map (·.data.toList))=(dH.data.toList++a.data.toList)++Lib.joinTail dH.data.toList (l.map (·.data.toList)):=by simp[Lib.joinTail]
    rw[b,c];show _=(((dH++a)++acq l).data).toList;rw[lm,lm];simp
  rw[d];apply kI;rw[lm];simp
def af1(l:List ByteArray)(x:ByteArray):bK (l++[x])=if l=[] then x else bK l++dH++x:=by
 unfold bK;rw[Aw];unfold B5;rw[La];cases l with
 |nil=>simp[K9]
 |cons a b=>simp
def Hi(w:B0)(d:B1)(l:List ByteArray)(h:bi w d l)(n:uK d)(u:l.length<=1048576)(v:(bK l).size<=100000000):
  E0 A9 174 #[d,B6 ⟨#[44,32]⟩] w (gy w (B6 (bK l))):=by
 rcases h with⟨rfl,a,b,rfl⟩|⟨a,b,rfl,j⟩
 .refine(Tryz.strings_Join_none a b _ w).mono ?_;rintro e s ⟨rfl,rfl⟩;exact⟨rfl,ah _ _⟩
 .by_cases g:l=[]
  .subst g;refine(Tryz.strings_Join_none _ b _ w).mono ?_;rintro e s ⟨rfl,rfl⟩;exact⟨rfl,ah _ _⟩
  .obtain⟨k,i⟩:=n a _ b rfl;have p:0<l.length:=by rcases nK l.length with e|e;exact absurd (jb e) g;exact e
   have m:a.block<w.heap.size:=by
    have:=yG (j 0 _ (az p));unfold Addr.add at this;simpa using this
   have f:=ajk l;have x:(Lib.join (l.map (·.data.toList)) dH.data.toList).length=(bK l).size:=by rw[<-f];simp[ByteArray.size]
   have:=Tryz.strings_Join a.block a.off b l dH w (λr t q=>by
    have c:=j r t q;unfold Addr.add at c;split at c
    .rename_i o;subst o;rw[i]at c;simpa using c
    .exact c) m (by omega) k (by omega)
   rw[f,<-i]at this;exact this
def sx.take{a:Option Addr}{l:List Int}(h:sx W L (R a n c) l)(k:Nat)(f:k<=l.length):sx W L (R a k c) (l.take k):=by
 rcases h with⟨rfl,d,g,e⟩|⟨d,g,e,p,j⟩
 .have:k=0:=by simpa using f
  subst this;exact .inl ⟨rfl,a,c,rfl⟩
 .cases e;by_cases i:k=0
  .subst i;exact .inl ⟨by simp,_,_,rfl⟩
  .refine .inr ⟨d,c,by rw[eE,ui f],by rw[eE];omega,λm o b=>j m o ?_⟩;rw[lp]at b;split at b
   .exact b
   .cases b
def ajl(a:Addr)(i j:Nat):(a.add i).add j=a.add (i+j):=by
 unfold Addr.add;by_cases b:i=0
 .subst b;simp
 .by_cases c:j=0
  .subst c;simp[b]
  .simp[b,c];omega
def sx.drop{a:Addr}{l:List Int}(h:sx W L (R (M a) n c) l)(k m:Nat)(q:k<=l.length)(i:m=l.length-k):sx W L (R (M (a.add k)) m (c-k)) (l.drop k):=by
 subst i;rcases h with⟨rfl,e,f,b⟩|⟨e,f,b,p,g⟩
 .exact .inl ⟨by simp,M (a.add k),c-k,by simp⟩
 .cases b;refine .inr ⟨a.add k,c-k,by rw[fJ],by rw[fJ];omega,λj o d=>?_⟩;rw[rj]at d;rw[ajl];exact g (k+j) o d
def ys(b:Nat)(a:ByteArray)(w:B0):(nilAhead 438 54 (H2 #[A2 (M ⟨b,0,O⟩),B6 a]) "loop.example/warp/impl.put").run A9 w= .ok (M Br) w:=by kernel_rfl
def as7(b:Nat)(w:B0):(Instr.typeAssert (B4 198 (A2 (M ⟨b,0,O⟩))) 44 198 Br).run A9 w= .ok (A2 (M ⟨b,0,O⟩)) w:=by kernel_rfl
def as8(b:Nat)(w:B0):(Instr.typeAssert (B4 150 (A2 (M ⟨b,0,O⟩))) 44 150 Br).run A9 w= .ok (A2 (M ⟨b,0,O⟩)) w:=by kernel_rfl
def as9(b:Nat)(w:B0):(Instr.typeAssert (B4 159 (A2 (M ⟨b,0,O⟩))) 44 159 Br).run A9 w= .ok (A2 (M ⟨b,0,O⟩)) w:=by kernel_rfl
def ata(b:Nat)(w:B0):(Instr.typeAssert (B4 162 (A2 (M ⟨b,0,O⟩))) 44 162 Br).run A9 w= .ok (A2 (M ⟨b,0,O⟩)) w:=by kernel_rfl
def apd(b:Nat)(w:B0):(Instr.typeAssert (B4 169 (A2 (M ⟨b,0,O⟩))) 44 169 Br).run A9 w= .ok (A2 (M ⟨b,0,O⟩)) w:=by kernel_rfl
def atb(b:Nat)(w:B0):(Instr.typeAssert (B4 201 (A2 (M ⟨b,0,O⟩))) 44 201 Br).run A9 w= .ok (A2 (M ⟨b,0,O⟩)) w:=by kernel_rfl
def aaL(w:B0)(b:Nat)(a:B1)(l:List ByteArray)(h:bi w a l)(c:uK a)(e:l.length<=1048576)(f:(bK l).size<=100000000)(p:w.cell? ⟨b,6,O⟩=M a):
  E0 A9 115 #[B4 198 (A2 (M ⟨b,0,O⟩))] w (gy w (B6 (bK l))):=by
 have g:=Hi w a l h c e f;have m:=λw=>as7 b w;obtain⟨i,j,rfl⟩:=h.form;generalize l.length=n at *;clear h c;go_enter func115,ntmps115;go_wp2_with (go_at_call 174;refine g.mono ?_;rintro k o ⟨rfl,d⟩);go_ret;exact⟨rfl,d⟩
def acr(s:ByteArray)(b:s.size<=4000)(w:B0):E0 A9 122 #[B6 s] w (gy w (B6 (eD (dA s)))):=by
 refine(aew s b w).mono ?_;rintro c d a;first|exact a|exact⟨a.1,a.2⟩
def jh(k:Int):Bool:=k==28||k==29||k==31
def mz(N:Nd):Int:=if N.k=28 then 10 else if N.k=29 then 26 else if N.k=31 then 60+N.op else 0
def oz(N:Nd):Int:=if N.k=28 then 2 else if N.k=29 then 1 else if N.k=31 then(qL N.op).1 else 0
def lj(N:Nd):Int:=if N.k=28 then 3 else if N.k=29 then 2 else if N.k=31 then(qL N.op).2 else 0
def ape{op:Int}(h:1<=op/\op<=18):∃j,j<20/\qK.getD j 0=60+op/\(∀i,i<j->qK.getD i 0≠60+op)/\sJ (3*j+1)=(qL op).1/\sJ (3*j+2)=(qL op).2:=by
 obtain⟨a,b⟩:=h;rcases(show op=1\/op=2\/op=3\/op=4\/op=5\/op=6\/op=7\/op=8\/op=9\/op=10\/op=11\/op=12\/op=13\/op=14\/op=15\/op=16\/op=17\/op=18 by omega) with rfl|rfl|rfl|rfl|rfl|rfl|rfl|rfl|rfl|rfl|rfl|rfl|rfl|rfl|rfl|rfl|rfl|rfl
 .exact⟨14,by decide,rfl,by decide,rfl,rfl⟩
 .exact⟨15,by decide,rfl,by decide,rfl,rfl⟩
 .exact⟨16,by decide,rfl,by decide,rfl,rfl⟩
 .exact⟨17,by decide,rfl,by decide,rfl,rfl⟩
 .exact⟨18,by decide,rfl,by decide,rfl,rfl⟩
 .exact⟨19,by decide,rfl,by decide,rfl,rfl⟩
 .exact⟨11,by decide,rfl,by decide,rfl,rfl⟩
 .exact⟨9,by decide,rfl,by decide,rfl,rfl⟩
 .exact⟨10,by decide,rfl,by decide,rfl,rfl⟩
 .exact⟨12,by decide,rfl,by decide,rfl,rfl⟩
 .exact⟨13,by decide,rfl,by decide,rfl,rfl⟩
 .exact⟨8,by decide,rfl,by decide,rfl,rfl⟩
 .exact⟨2,by decide,rfl,by decide,rfl,rfl⟩
 .exact⟨3,by decide,rfl,by decide,rfl,rfl⟩
 .exact⟨4,by decide,rfl,by decide,rfl,rfl⟩
 .exact⟨5,by decide,rfl,by decide,rfl,rfl⟩
 .exact⟨6,by decide,rfl,by decide,rfl,rfl⟩
 .exact⟨7,by decide,rfl,by decide,rfl,rfl⟩
def Ac(w:B0):Prop:=∃b a,w.heap[3]?=M (A5 BL b a)
def Ac.below{w':B0}(h:Ac w)(c:H4 B w w')(b:w.heap.size<=B):Ac w':=by
 obtain⟨d,a,h⟩:=h;exact⟨d,a,(c.block _ (iu (ai h) b)).trans h⟩
def acs(w:B0)(i:Ac w){op:Int}(h:1<=op/\op<=18):E0 A9 179 #[Ax U (60+op)] w (gy w (E3 #[H2 #[Ax U (60+op),Ax U (qL op).1,Ax U (qL op).2],Ex C2])):=by
 obtain⟨k,a,g⟩:=i;obtain⟨j,b,c,d,e,f⟩:=ape h;have:=uF w k a g j b _ c d
 rwa [e,f]at this
def rH(F:B0)(ns:List Nd)(L:List Im)(base:Nat)(bf:B1)(a7:Tp F ns L base bf)(a9:Ac F)(i:Nat)(ba:i<ns.length)(v:(ab ns i).k=31->1<=(ab ns i).op/\(ab ns i).op<=18)(w:B0)(a4:be F w):
  E0 A9 123 #[nV (ny L i)] w (gy w (E3 #[H2 #[Ax U (mz (ab ns i)),Ax U (oz (ab ns i)),Ax U (lj (ab ns i))],Ex (jh (ab ns i).k)])):=by
 obtain⟨H,bp,bj,bo,bk,x,r⟩:=xn a7 ba;have B:=λw=>dw H w;have t:=λw=>qH (dF (ab ns i).k) H w;have z:∀p,be w (w.alloc p):=λp=>(ah _ w).alloc (af _) p;have ar:∀p,be F (w.alloc p):=λp=>a4.trans ((z p).mono a4.size);have G:=(r.cells (ar (A5 #[Ax U 0,Ax U 0,Ax U 0] 164))).1;have ap:Ac (w.alloc (A5 #[Ax U 0,Ax U 0,Ax U 0] 164)):=a9.below (ar _) (af _);have o:gw w.heap.size (w.alloc (A5 #[Ax U 0,Ax U 0,Ax U 0] 164)) 0 0 0:=aB w _;have u:∀(b:B0)(h j l:Int),H4 (w.alloc (A5 #[Ax U 0,Ax U 0,Ax U 0] 164)).heap.size (w.alloc (A5 #[Ax U 0,Ax U 0,Ax U 0] 164)) b->gw w.heap.size b 0 0 0/\gw w.heap.size (((b.setCell ⟨w.heap.size,0,O⟩ (Ax U h)).setCell ⟨w.heap.size,1,O⟩ (Ax U j)).setCell ⟨w.heap.size,2,O⟩ (Ax U l)) h j l/\be w (((b.setCell ⟨w.heap.size,0,O⟩ (Ax U h)).setCell ⟨w.heap.size,1,O⟩ (Ax U j)).setCell ⟨w.heap.size,2,O⟩ (Ax U l)):=by
  intro b h j l g;have a3:gw w.heap.size b 0 0 0:=(g.block _ (ai o)).trans o;have a8:=(z _).trans (g.mono (z _).size);exact⟨a3,a3.put h j l,((a8.setCell (af _) _).setCell (af _) _).setCell (af _) _⟩
 have y:B3 (∀(b:B0)(h j l:Int),H4 (w.alloc (A5 #[Ax U 0,Ax U 0,Ax U 0] 164)).heap.size (w.alloc (A5 #[Ax U 0,Ax U 0,Ax U 0] 164)) b->gw w.heap.size b 0 0 0/\gw w.heap.size (((b.setCell ⟨w.heap.size,0,O⟩ (Ax U h)).setCell ⟨w.heap.size,1,O⟩ (Ax U j)).setCell ⟨w.heap.size,2,O⟩ (Ax U l)) h j l/\be w (((b.setCell ⟨w.heap.size,0,O⟩ (Ax U h)).setCell ⟨w.heap.size,1,O⟩ (Ax U j)).setCell ⟨w.heap.size,2,O⟩ (Ax U l))):=u;rw[x];by_cases c:(ab ns i).k=28
 .have a:B3 (mz (ab ns i)=10/\oz (ab ns i)=2/\lj (ab ns i)=3/\jh (ab ns i).k=C2):=⟨by unfold mz;rw[ae c],by unfold oz;rw[ae c],by unfold lj;rw[ae c],by rw[c];rfl⟩;obtain⟨av,an,ao⟩:=ap;have n:=uF _ av an ao 1 (by decide) 10 rfl (by decide);rw[c]at G;generalize lH (dF (ab ns i).k)=a6 at t⊢;clear u r x v o;go_enter func123,ntmps123;go_wp2_with (first|(go_at_call 330;refine(B _).mono ?_;rintro s q ⟨rfl,au⟩;subst q)|(go_at_call 179;fail));refine n.mono ?_;rintro s b ⟨rfl,g⟩;have d:=y.out b 10 2 3 g;obtain⟨I,J,K,ad⟩:=d.1.cells;have m:B3 (gw w.heap.size (((b.setCell ⟨w.heap.size,0,O⟩ (Ax U 10)).setCell ⟨w.heap.size,1,O⟩ (Ax U 2)).setCell ⟨w.heap.size,2,O⟩ (Ax U 3)) 10 2 3/\be w (((b.setCell ⟨w.heap.size,0,O⟩ (Ax U 10)).setCell ⟨w.heap.size,1,O⟩ (Ax U 2)).setCell ⟨w.heap.size,2,O⟩ (Ax U 3))):=d.2;have ak:sJ (3*1+1)=2:=rfl;have al:sJ (3*1+2)=3:=rfl;rw[ak,al];clear d g;go_wp2;exact bH (pc rfl _ _ _ ⟨w.heap.size,0,O⟩ (Ex C2) _ rfl rfl (xj _ _ _ _ _ m.out.1)) rfl ⟨by rw[a.out.1,a.out.2.1,a.out.2.2.1,a.out.2.2.2],m.out.2⟩
 have a0:((ab ns i).k==28)=Br:=by simpa using c
 by_cases e:(ab ns i).k=29
 .have a:B3 (mz (ab ns i)=26/\oz (ab ns i)=1/\lj (ab ns i)=2/\jh (ab ns i).k=C2):=⟨by unfold mz;rw[aa c,ae e],by unfold oz;rw[aa c,ae e],by unfold lj;rw[aa c,ae e],by rw[e];rfl⟩;obtain⟨av,an,ao⟩:=ap;have n:=uF _ av an ao 0 (by decide) 26 rfl (by decide);rw[e]at G;generalize lH (dF (ab ns i).k)=a6 at t⊢;clear u r x v o;go_enter func123,ntmps123;go_wp2_with (first|(go_at_call 330;refine(B _).mono ?_;rintro s q ⟨rfl,au⟩;subst q)|(go_at_call 179;fail));refine n.mono ?_;rintro s b ⟨rfl,g⟩;have d:=y.out b 26 1 2 g;obtain⟨I,J,K,ad⟩:=d.1.cells;have m:B3 (gw w.heap.size (((b.setCell ⟨w.heap.size,0,O⟩ (Ax U 26)).setCell ⟨w.heap.size,1,O⟩ (Ax U 1)).setCell ⟨w.heap.size,2,O⟩ (Ax U 2)) 26 1 2/\be w (((b.setCell ⟨w.heap.size,0,O⟩ (Ax U 26)).setCell ⟨w.heap.size,1,O⟩ (Ax U 1)).setCell ⟨w.heap.size,2,O⟩ (Ax U 2))):=d.2;have ak:sJ (3*0+1)=1:=rfl;have al:sJ (3*0+2)=2:=rfl;rw[ak,al];clear d g;go_wp2;exact bH (pc rfl _ _ _ ⟨w.heap.size,0,O⟩ (Ex C2) _ rfl rfl (xj _ _ _ _ _ m.out.1)) rfl ⟨by rw[a.out.1,a.out.2.1,a.out.2.2.1,a.out.2.2.2],m.out.2⟩
 have a1:((ab ns i).k==29)=Br:=by simpa using e
 by_cases f:(ab ns i).k=31
 .have a:B3 (mz (ab ns i)=60+(ab ns i).op/\oz (ab ns i)=(qL (ab ns i).op).1/\lj (ab ns i)=(qL (ab ns i).op).2/\jh (ab ns i).k=C2):=⟨by unfold mz;rw[aa c,aa e,ae f],by unfold oz;rw[aa c,aa e,ae f],by unfold lj;rw[aa c,aa e,ae f],by rw[f];rfl⟩;have A:=v f;have n:=acs _ ap A;have a5:dF (ab ns i).k=4:=by rw[f];rfl
  have bh:=(r.cells (ar (A5 #[Ax U 0,Ax U 0,Ax U 0] 164))).2.2 _ (by rw[a5];rfl);rw[a5]at t⊢;simp only[lH]at t⊢;have bl:=λw=>apd H w;rw[f]at G;have bd:IntKind.i64.wrap (60+(ab ns i).op)=60+(ab ns i).op:=by rw[fh];omega
  have bb:(ab ns i).op<=18:=A.2;have bc:1<=(ab ns i).op:=A.1;generalize (qL (ab ns i).op).1=C at n a;generalize (qL (ab ns i).op).2=E at n a;generalize (ab ns i).op=op at n a bh bd bb bc;clear u r x v o A;go_enter func123,ntmps123;go_wp2_with (first|(go_at_call 330;refine(B _).mono ?_;rintro s q ⟨rfl,au⟩;subst q)|(go_at_call 179;fail));refine n.mono ?_;rintro s b ⟨rfl,g⟩;have d:=y.out b (60+op) C E g;obtain⟨I,J,K,ad⟩:=d.1.cells;have m:B3 (gw w.heap.size (((b.setCell ⟨w.heap.size,0,O⟩ (Ax U (60+op))).setCell ⟨w.heap.size,1,O⟩ (Ax U C)).setCell ⟨w.heap.size,2,O⟩ (Ax U E)) (60+op) C E/\be w (((b.setCell ⟨w.heap.size,0,O⟩ (Ax U (60+op))).setCell ⟨w.heap.size,1,O⟩ (Ax U C)).setCell ⟨w.heap.size,2,O⟩ (Ax U E))):=d.2;clear d g;go_wp2;exact bH (pc rfl _ _ _ ⟨w.heap.size,0,O⟩ (Ex C2) _ rfl rfl (xj _ _ _ _ _ m.out.1)) rfl ⟨by rw[a.out.1,a.out.2.1,a.out.2.2.1,a.out.2.2.2],m.out.2⟩
 .have a2:((ab ns i).k==31)=Br:=by simpa using f
  have a:B3 (mz (ab ns i)=0/\oz (ab ns i)=0/\lj (ab ns i)=0/\jh (ab ns i).k=Br):=⟨by unfold mz;rw[aa c,aa e,aa f],by unfold oz;rw[aa c,aa e,aa f],by unfold lj;rw[aa c,aa e,aa f],by unfold jh;rw[a0,a1,a2];rfl⟩;have d:=y.out _ 0 0 0 (ah _ _);obtain⟨I,J,K,ad⟩:=d.1.cells;have ax:B3 (gw w.heap.size (w.alloc (A5 #[Ax U 0,Ax U 0,Ax U 0] 164)) 0 0 0/\be w (w.alloc (A5 #[Ax U 0,Ax U 0,Ax U 0] 164))):=⟨o,z _⟩;generalize lH (dF (ab ns i).k)=a6 at t⊢;generalize (ab ns i).k=bn at G a0 a1 a2 t a;clear u r x v o d c e f;go_enter func123,ntmps123;go_wp2_with (go_at_call 330;refine(B _).mono ?_;rintro s q ⟨rfl,au⟩;subst q);exact bH (pc rfl _ _ _ ⟨w.heap.size,0,O⟩ (Ex Br) _ rfl rfl (xj _ _ 0 0 0 ax.out.1)) rfl ⟨by rw[a.out.1,a.out.2.1,a.out.2.2.1,a.out.2.2.2],ax.out.2⟩
section
variable {w0 : World} {vb : Nat}
structure Pq (w0:B0) (vb:Nat) (w:B0) (T:ByteArray) (W:B0):Prop where
 ps:Ps w0 vb T W
 kq:Kq w0.heap.size w W
variable {w V W : World} {T Y : ByteArray} {f : FuncId} {args : Array Value} {Q : Ending → World → Prop}
def Pq.below(P:Pq w0 vb w T V)(b:be V W):Pq w0 vb w T W:=⟨P.ps.below b,P.kq.trans (Kq.of_below b)⟩
def Pq.stp(P:B3 (Pq w0 vb w T V))(b:be V W)(S:B3 (Pw w0 vb f args Y))(k:∀W',B3 (Pq w0 vb w (T++Y) W')->be w0 W'->Q (E2 (E3 #[])) W'):E0 A9 f args W Q:=
 (S _ _ (P.below b).ps).mono λd c a=>a.1 ▸ k c ⟨a.2.1,(P.below b).kq.trans a.2.2⟩ a.2.1.pg.bel
def Pq.fin(P:B3 (Pq w0 vb w Y W))(e:Y=T):Ending.returned (E3 #[])= E2 (E3 #[])/\Ps w0 vb T W/\Kq w0.heap.size w W:=⟨rfl,e ▸ P.ps,P.kq⟩
variable {L : List Im} {N : Nd} {b n c j : Nat} {vn : Value} {pa : Addr} {q : Int}
def NdQ.kid0(a:NdQ w0 L N b vn (M pa) n c)(f:N.ks[0]?=M q)(W:B0)(e:be w0 W):W.cell? pa=M (nV (ny L q)):=by
 obtain⟨_,d,_,g⟩:=(a.ks.below e).get f;cases d;simpa [Addr.add] using g
def NdQ.kid(a:NdQ w0 L N b vn (M pa) n c)(g:N.ks[j]?=M q)(f:j≠0)(W:B0)(e:be w0 W):W.cell? ⟨pa.block,pa.off+j,O⟩=M (nV (ny L q)):=by
 obtain⟨_,d,_,h⟩:=(a.ks.below e).get g;cases d;exact En h f
end
section
variable (w0 : World) (vb : Nat) (L : List Im) (t : Nat)
abbrev LX(b:List Int)(X:ByteArray):Prop:=∀a,sx w0 L a b->Pw w0 vb 118 #[vP vb,ju w0 t,a] X
abbrev VX(f:FuncId)(b:Nat)(a:ByteArray):Prop:=Pw w0 vb f #[vP vb,ju w0 t,nV (ny L (b:Int))] a
inductive MO (N:Nd) (i:Nat):FuncId->ByteArray->Prop
 |brk:MO N i 51 ⟨#[98,114,101,97,107]⟩
 |nxt:MO N i 52 ⟨#[110,101,120,116]⟩
 |nil_:MO N i 57 ⟨#[110,105,108]⟩
 |tru:MO N i 58 ⟨#[116,114,117,101]⟩
 |fls:MO N i 59 ⟨#[102,97,108,115,101]⟩
 |rst:MO N i 64 ⟨#[46,46,46]⟩
 |do_ {q:Nat}{E:ByteArray}:N.ks[0]?=some (q:Int)->Hid (VX w0 vb L t 76 q E)->MO N i 46 E
 |itm {q:Nat}{E:ByteArray}:N.ks[0]?=some (q:Int)->Hid (VX w0 vb L t 76 q E)->MO N i 73 E
 |ret0:N.ks.length=0->MO N i 53 ⟨#[114,101,116,117,114,110]⟩
 |ret {X:ByteArray}:0<N.ks.length->LX w0 vb L t N.ks X->MO N i 53 (⟨#[114,101,116,117,114,110]⟩++(⟨#[32]⟩++X))
 |thr {X:ByteArray}:LX w0 vb L t N.ks X->MO N i 55 (⟨#[116,104,114,111,119,32]⟩++X)
 |dfr {X:ByteArray}:LX w0 vb L t N.ks X->MO N i 56 (⟨#[100,101,102,101,114,32]⟩++X)
 |ind {q r:Nat}{E F:ByteArray}:N.ks[0]?=some (q:Int)->N.ks[1]?=some (r:Int)->Hid (VX w0 vb L t 128 q E)->Hid (VX w0 vb L t 129 r F)->MO N i 67 (E++F)
 |one {q:Nat}{E:ByteArray}:N.ks[0]?=some (q:Int)->Hid (Pw w0 vb 124 #[vP vb,ju w0 t,nV (ny L (q:Int)),.bool true] E)->MO N i 72 E
 |iff {Y:ByteArray}:Hid (Pw w0 vb 119 #[vP vb,ju w0 t,.string ⟨#[105,102,32]⟩,nV (ny L (i:Int))] Y)->MO N i 47 Y
 |par {q:Nat}{E X:ByteArray}:N.ks.length=2->N.ks[0]?=some (q:Int)->Hid (VX w0 vb L t 129 q E)->LX w0 vb L t (N.ks.drop 1) X->MO N i 74 (E++(⟨#[32,61,32]⟩++X))
 |whl {q:Nat}{X E:ByteArray}:N.ks.length=2->LX w0 vb L t (N.ks.take 1) X->N.ks[1]?=some (q:Int)->Hid (VX w0 vb L t 76 q E)->MO N i 48 (⟨#[119,104,105,108,101,32]⟩++X++⟨#[32]⟩++E)
 |fnx {Y:ByteArray}:Hid (VX w0 vb L t 117 i Y)->MO N i 71 (⟨#[102,110]⟩++Y)
end
def Kc(v:Tp w0 ns L base vs)(ht:t<=100000)(H:i<ns.length)(E:ab ns i=N)(ap:N.ks.length<=1048576)(F:MO w0 vb L t N i f Y):
  Pw w0 vb f #[vP vb,ju w0 t,nV (ny L i)] Y:=by
 intro B e g;obtain⟨w,a2,ad,K,k,m,b⟩:=xn v H;rw[E]at m b;have s:=λe=>dw w e;have ar:=λe=>qz w0.heap.size (gx t) e;have av:=λe=>ys w0.heap.size (gx t) e;have I:=b.hn;have au:=λe=>qH (dF N.k) w e;have z:B3 (∀a:ByteArray,a.size<=100000000->Pw w0 vb 329 #[ph w0 t,B6 a] a):=λa g=>lK w0 vb t a g;have A:B3 (∀(a c:ByteArray)(d:B1),a.size<=100000000->B3 (Pw w0 vb 118 #[vP vb,ju w0 t,d] c)->Pw w0 vb 116 #[vP vb,ju w0 t,B6 a,d] (a++c)):=λa c d g p=>oL w0 vb t a c g d p;have y:B3 (∀(a c Y:ByteArray)(d h:B1),a.size<=100000000->B3 (Pw w0 vb 118 #[vP vb,ju w0 t,d] c)->B3 (Pw w0 vb 76 #[vP vb,ju w0 t,h] Y)->Pw w0 vb 120 #[vP vb,ju w0 t,B6 a,d,h] (a++c++⟨#[32]⟩++Y)):=λa c Y d h g p J=>yo w0 vb t a (a++c) Y d h (oL w0 vb t a c g d p) J;have ax:=λl (r:be w0 l)=>(b.cells r).1;have r5:=λl (r:be w0 l)=>(b.cells r).2.1;have q:=g.pg.bel;have P:B3 (Pq w0 vb e B e):=⟨g,Kq.refl _ _⟩;have u:=am b;cases F
 case' ret hX=>have n:=am (hX _ b.ks)
 case' ret=>have al:(0:Int)<(K:Int):=by omega
 case' thr hX=>have n:=am (hX _ b.ks)
 case' dfr hX=>have n:=am (hX _ b.ks)
 case' iff hX=>rw[m]at hX
 case' par hq _ hX=>obtain⟨o,rfl,x, -⟩:=b.ks.get hq;have n:=am (hX (R (M ⟨o.block,o.off+1,O⟩) 1 (k-1)) (b.ks.drop 1 1 (by omega) (by omega)))
 case' whl hX hq _=>obtain⟨o,rfl,x, -⟩:=b.ks.get hq;have n:=am (hX _ (b.ks.take 1 (by omega)))
 case' fnx hX=>unfold VX at hX;rw[m]at hX
 all_goals
  try (have h:=I.symm.trans (by with_reducible assumption:N.ks.length=_);subst h)
  try (have h:=b.ks.get (by with_reducible assumption:N.ks[_]?=M _);obtain⟨o,rfl,x, -⟩:=h)
  (try have a3:=u.kid0 (by with_reducible assumption))
  (try have a4:=u.kid (j:=1) (by with_reducible assumption) (by decide))
  try (have an:=ss (by with_reducible assumption:N.ks[0]?=M _))
  try (have ao:=ss (by with_reducible assumption:N.ks[1]?=M _))
  try (have G:(1:Int)<=(k:Int)/\1<=k/\¬k=0/\(1<=k):=(by omega);obtain⟨_,_,_,_⟩:=G)
  try (have ak:¬k=1:=(by omega))
  rw[m];generalize lH (dF N.k)=a1 at *;try unfold VX at *
  unfold ju ph at *;generalize gx t=a0 at *;clear g b m v;go_in
  repeat' (go_wp2_with (go_at_call 330;refine iI (s _) ?_);first|(refine Pq.stp P (ah _ _) (by with_reducible first|assumption|exact am (z.out _ (by decide))|exact am (A.out _ _ _ (by decide) (by assumption))) ?_;intro l P q)|(go_region_held3 (λC=>be w0 C) (first|exact(P.below (aw (ah _ _))).ps.pg.bel|exact q|go_keep) (first|(go_at_call 330;refine iI (s _) ?_)|(refine Pq.stp P (aw (ah _ _)) (by with_reducible exact am (y.out _ _ _ _ _ (by decide) (by assumption) (by assumption))) ?_;intro l P q))))
  all_goals
   go_wp2_with (go_at_call 330;refine iI (s _) ?_);go_end0
   exact Pq.fin P (by simp only[aK])
def sz2{a s:ByteArray}(b:a.size<=100)(c:s.size<=1000000):(a++s).size<=100000000:=by rw[aq];omega
def sz3{a s b:ByteArray}(c:a.size<=100)(e:s.size<=1000000)(d:b.size<=100):(a++s++b).size<=100000000:=by rw[aq,aq];omega
section
variable (w0 : World) (vb : Nat) (L : List Im) (t : Nat)
inductive MN (N:Nd) (i:Nat):FuncId->ByteArray->Prop
 |let0:Hid (N.k=2)->N.ks.length=0->MN N i 42 (⟨#[108,101,116,32]⟩++bK N.nm)
 |let1 {X:ByteArray}:Hid (N.k=2)->0<N.ks.length->LX w0 vb L t N.ks X->MN N i 42 (⟨#[108,101,116,32]⟩++bK N.nm++(⟨#[32,61,32]⟩++X))
 |cst {X:ByteArray}:Hid (N.k=3)->LX w0 vb L t N.ks X->MN N i 43 (⟨#[99,111,110,115,116,32]⟩++bK N.nm++⟨#[32,61,32]⟩++X)
 |fns {q:Nat}{E:ByteArray}:Hid (N.k=4)->N.ks[0]?=some (q:Int)->Hid (VX w0 vb L t 117 q E)->MN N i 44 (⟨#[102,110,32]⟩++bK N.nm++E)
 |try_ {q r:Nat}{E F:ByteArray}:Hid (N.k=14)->N.ks[0]?=some (q:Int)->N.ks[1]?=some (r:Int)->Hid (VX w0 vb L t 76 q E)->Hid (VX w0 vb L t 76 r F)->MN N i 54 (⟨#[116,114,121,32]⟩++E++⟨#[32,99,97,116,99,104,32]⟩++bK N.nm++⟨#[32]⟩++F)
 |eac {q:Nat}{X E:ByteArray}:Hid (N.k=10)->N.ks.length=2->LX w0 vb L t (N.ks.take 1) X->N.ks[1]?=some (q:Int)->Hid (VX w0 vb L t 76 q E)->MN N i 50 (⟨#[102,111,114,32]⟩++bK N.nm++⟨#[32,105,110,32]⟩++X++⟨#[32]⟩++E)
 |fr {k q:Nat}{X E:ByteArray}:Hid (N.k=9)->k=2\/k=3->N.ks.length=k+1->LX w0 vb L t (N.ks.take k) X->N.ks[k]?=some (q:Int)->Hid (VX w0 vb L t 76 q E)->MN N i 49 (⟨#[102,111,114,32]⟩++bK N.nm++⟨#[32,61,32]⟩++X++⟨#[32]⟩++E)
end
def m_n(E:Tp w0 ns L base vs)(ht:t<=100000)(ao:i<ns.length)(ad:ab ns i=N)(a9:N.ks.length<=1048576)(ap:N.nm.length<=1048576)(c:(bK N.nm).size<=1000000)(F:MN w0 vb L t N i f Y):
  Pw w0 vb f #[vP vb,ju w0 t,nV (ny L i)] Y:=by
 intro I h k;obtain⟨r,ax,a1,av,n,w,b⟩:=xn E ao;rw[ad]at w b;have x:=λh=>dw r h;have ba:=λh=>qz w0.heap.size (gx t) h;have bb:=λh=>ys w0.heap.size (gx t) h;have au:=b.hn;have G:dF N.k=0:=by cases F<;>(rw[(by with_reducible assumption:B3 (N.k=_)).out];rfl)
 have ar:=λh=>qH 0 r h;have B:B3 (∀a:ByteArray,a.size<=100000000->Pw w0 vb 329 #[ph w0 t,B6 a] a):=λa k=>lK w0 vb t a k;have C:B3 (∀(a e:ByteArray)(g:B1),a.size<=100000000->B3 (Pw w0 vb 118 #[vP vb,ju w0 t,g] e)->Pw w0 vb 116 #[vP vb,ju w0 t,B6 a,g] (a++e)):=λa e g k v=>oL w0 vb t a e k g v;have A:B3 (∀(a e Y:ByteArray)(g m:B1),a.size<=100000000->B3 (Pw w0 vb 118 #[vP vb,ju w0 t,g] e)->B3 (Pw w0 vb 76 #[vP vb,ju w0 t,m] Y)->Pw w0 vb 120 #[vP vb,ju w0 t,B6 a,g,m] (a++e++⟨#[32]⟩++Y)):=λa e Y g m k v l=>yo w0 vb t a (a++e) Y g m (oL w0 vb t a e k g v) l;have z:B3 (∀d,be w0 d->E0 A9 115 #[B4 198 (A2 (M ⟨r,0,O⟩))] d (gy d (B6 (bK N.nm)))):=λd o=>aaL d r ax N.nm (b.nm.below o) b.jn ap (by omega) ((b.cells o).2.2 _ (by rw[G];rfl));have bd:=λd (o:be w0 d)=>(b.cells o).1;have r5:=λd (o:be w0 d)=>(b.cells o).2.1;have p:=k.pg.bel;have P:B3 (Pq w0 vb h I h):=⟨k,Kq.refl _ _⟩;have q:=am b;cases F
 case' let1 hX=>have u:=am (hX _ b.ks);have a6:(0:Int)<(av:Int):=by omega
 case' cst hX=>have u:=am (hX _ b.ks)
 case' eac hX _ _=>have u:=am (hX _ (b.ks.take 1 (by omega)))
 case' fr hk _ hX _ _=>have u:=am (hX _ (b.ks.take _ (by omega)));obtain rfl|rfl:=hk
 all_goals
  try (have m:=au.symm.trans (by with_reducible assumption:N.ks.length=_);subst m)
  try (have m:=b.ks.get (by with_reducible assumption:N.ks[_]?=M _);obtain⟨bc,rfl,a5, -⟩:=m)
  (try have bh:=q.kid0 (by with_reducible assumption))
  (try have bj:=q.kid (j:=1) (by with_reducible assumption) (by decide))
  (try have bk:=q.kid (j:=2) (by with_reducible assumption) (by decide))
  (try have bl:=q.kid (j:=3) (by with_reducible assumption) (by decide))
  try (have a7:=ss (by with_reducible assumption:N.ks[0]?=M _))
  try (have a8:=ss (by with_reducible assumption:N.ks[1]?=M _))
  try (have a4:¬n=0:=by omega)
  try (have ak:(1:Int)<=(n:Int)/\1<=n:=(by omega);obtain⟨_,_⟩:=ak)
  try (have al:(2:Int)<=(n:Int)/\2<=n:=(by omega);obtain⟨_,_⟩:=al)
  try (have an:(3:Int)<=(n:Int)/\3<=n:=(by omega);obtain⟨_,_⟩:=an)
  rw[w,G];simp only[lH]at ar⊢;generalize bK N.nm=H at *;have a2:∀l:Nat,l<=100->¬9223372036854775807<l+H.size:=λl _=>by omega
  have a3:∀l y:Nat,l<=100->y<=100->¬9223372036854775807<l+H.size+y:=λl y _ _=>by omega
  try unfold VX at *
  unfold ju ph at *;generalize gx t=bf at *;clear k b w E;go_in
  repeat' (go_wp2_with (first|(go_at_call 330;refine iI (x _) ?_)|(go_at_call 115;refine(z.out _ p).mono ?_;rintro K a0 ⟨rfl,s⟩;have P:=am (P.below s);have p:=P.ps.pg.bel));first|(refine Pq.stp P (ah _ _) (by with_reducible first|assumption|exact am (B.out _ (by first|decide|exact sz2 (by decide) c|exact sz3 (by decide) c (by decide)))|exact am (C.out _ _ _ (by first|decide|exact sz2 (by decide) c|exact sz3 (by decide) c (by decide)) (by assumption))|exact am (A.out _ _ _ _ _ (by first|decide|exact sz2 (by decide) c|exact sz3 (by decide) c (by decide)) (by assumption) (by assumption))) ?_;intro d P p)|(go_region_held3 (λJ=>be w0 J) (first|exact(P.below (aw (ah _ _))).ps.pg.bel|exact((P.below (aw (ah _ _))).below s).ps.pg.bel|exact p|go_keep) (first|(go_at_call 330;refine iI (x _) ?_)|(go_at_call 115;refine(z.out _ (P.below (aw (ah _ _))).ps.pg.bel).mono ?_;rintro K a0 ⟨rfl,s⟩)|(refine Pq.stp P (by first|exact aw (ah _ _)|exact(aw (ah _ _)).trans s) (by with_reducible first|assumption|exact am (B.out _ (by first|decide|exact sz2 (by decide) c|exact sz3 (by decide) c (by decide)))|exact am (C.out _ _ _ (by first|decide|exact sz2 (by decide) c|exact sz3 (by decide) c (by decide)) (by assumption))|exact am (A.out _ _ _ _ _ (by first|decide|exact sz2 (by decide) c|exact sz3 (by decide) c (by decide)) (by assumption) (by assumption))) ?_;intro d P p))))
  all_goals
   go_wp2_with (go_at_call 330;refine iI (x _) ?_);go_end0
   exact Pq.fin P (by simp only[aK])
section
variable (w0 : World) (vb : Nat) (L : List Im) (t : Nat)
inductive MV (N:Nd) (i:Nat):FuncId->ByteArray->Prop
 |flt:Hid (N.k=24)->MV N i 61 N.x
 |nam:Hid (N.k=26)->MV N i 63 N.x
 |str:Hid (N.k=25)->MV N i 62 (eD (dA N.x))
 |nmd {X:ByteArray}:Hid (N.k=42)->LX w0 vb L t N.ks X->MV N i 75 (⟨#[46]⟩++N.x++⟨#[32,61,32]⟩++X)
 |fld {q:Nat}{E:ByteArray}:Hid (N.k=33)->N.ks[0]?=some (q:Int)->Hid (VX w0 vb L t 128 q E)->MV N i 68 (E++(⟨#[46]⟩++N.x))
 |int_:Hid (N.k=23)->Lay w0-> -9223372036854775808<=N.n->N.n<=9223372036854775807->MV N i 60 (tA N.n)
 |set {m:Nat}{X Z:ByteArray}:Hid (N.k=5)->Hid (N.n=(m:Int))->1<=m/\m<N.ks.length->LX w0 vb L t (N.ks.take m) X->LX w0 vb L t (N.ks.drop m) Z->MV N i 45 (X++(⟨#[32,61,32]⟩++Z))
end
def m_v(A:Tp w0 ns L base vs)(ht:t<=100000)(an:i<ns.length)(K:ab ns i=N)(bh:N.ks.length<=1048576)(ap:N.x.size<=4000)(ad:MV w0 vb L t N i f Y):
  Pw w0 vb f #[vP vb,ju w0 t,nV (ny L i)] Y:=by
 intro G b d;obtain⟨l,ax,a3,w,o,u,e⟩:=xn A an;rw[K]at u e;have v:=λb=>dw l b;have bj:=λb=>qz w0.heap.size (gx t) b;have bl:=λb=>ys w0.heap.size (gx t) b;have bk:=e.hn;have C:=λb=>qH (dF N.k) l b;have y:B3 (∀g:ByteArray,g.size<=100000000->Pw w0 vb 329 #[ph w0 t,B6 g] g):=λg d=>lK w0 vb t g d;have z:B3 (∀(g k:ByteArray)(r:B1),g.size<=100000000->B3 (Pw w0 vb 118 #[vP vb,ju w0 t,r] k)->Pw w0 vb 116 #[vP vb,ju w0 t,B6 g,r] (g++k)):=λg k r d J=>oL w0 vb t g k d r J;have r5:=λa (j:be w0 a)=>(e.cells j).2.1;have m:=d.pg.bel;have P:B3 (Pq w0 vb b G b):=⟨d,Kq.refl _ _⟩;have E:=am e;have q:N.x.size<=1000000:=by omega
 cases ad
 case' str d=>
  have s:B3 (∀a,be w0 a->E0 A9 122 #[B6 N.x] a (gy a (B6 (eD (dA N.x))))):=λa j=>acr N.x ap a;have B:=aez N.x;unfold ano at B;have ao:(eD (dA N.x)).size<=100000000:=by omega
  generalize eD (dA N.x)=av at *
 case' int_ d hLay h0 h1=>
  have s:B3 (∀a,be w0 a->E0 A9 121 #[Ax U N.n] a (gy a (B6 (tA N.n)))):=λa j=>aae N.n h0 h1 a (hLay.below j (af _));have B:=Hc N.n h1;have ao:(tA N.n).size<=100000000:=by omega
  have n:dF N.k=2:=by rw[d.out];rfl
  generalize tA N.n=av at *
 case' set c k Z d hm h1 hX hZ=>
  have n:dF N.k=1:=by rw[d.out];rfl
  obtain⟨ar,rfl,al, -⟩:=e.ks.get (az (show 0<N.ks.length by omega));have F:=am (hX _ (e.ks.take c (by omega)));have a2:=am (hZ _ (e.ks.drop c (w-c) (by omega) (by omega)));have a9:¬o=0:=by omega
  have ba:(c:Int)<=(o:Int):=by omega
  have bb:¬o=c:=by omega
  have bc:(0:Int)<=(c:Int):=by omega
  have bd:(c:Int)<=(w:Int):=by omega
  have ak:c<=w/\c<=o:=by omega
  obtain⟨_,_⟩:=ak
 case' nmd hX=>have F:=am (hX _ e.ks)
 all_goals
  try (have n:dF N.k=3:=by rw[(by with_reducible assumption:B3 (N.k=_)).out];rfl)
  have au:=λa (j:be w0 a)=>(e.cells j).2.2 _ (show(exT N ax (dF N.k))[0]?=M _ by rw[n];rfl);try (rw[(by with_reducible assumption:B3 (N.n=_)).out]at au)
  try (have a1:=e.ks.get (by with_reducible assumption:N.ks[_]?=M _);obtain⟨ar,rfl,al, -⟩:=a1)
  (try have bo:=E.kid0 (by with_reducible assumption))
  try (have bf:=ss (by with_reducible assumption:N.ks[0]?=M _))
  rw[u,n];rw[n]at C;simp only[lH]at C⊢;have a6:=λb=>as8 l b;have a7:=λb=>as9 l b;have a8:=λb=>ata l b;have a4:∀h:Nat,h<=100->¬9223372036854775807<h+N.x.size:=λh _=>by omega
  have a5:∀h c:Nat,h<=100->c<=100->¬9223372036854775807<h+N.x.size+c:=λh c _ _=>by omega
  try unfold VX at *
  unfold ju ph at *;generalize gx t=bn at *;clear d e u A;go_in
  repeat' (go_wp2_with (first|(go_at_call 330;refine iI (v _) ?_)|((first|go_at_call 122|go_at_call 121);refine(s.out _ m).mono ?_;rintro I a0 ⟨rfl,p⟩;have P:=am (P.below p);have m:=P.ps.pg.bel));first|(refine Pq.stp P (ah _ _) (by with_reducible first|assumption|exact am (y.out _ (by first|assumption|decide|omega|exact sz2 (by decide) q))|exact am (z.out _ _ _ (by first|decide|exact sz3 (by decide) q (by decide)) (by assumption))) ?_;intro a P m)|(go_region_held3 (λH=>be w0 H) (first|exact(P.below (aw (ah _ _))).ps.pg.bel|exact((P.below (aw (ah _ _))).below p).ps.pg.bel|exact m|go_keep) (first|(go_at_call 330;refine iI (v _) ?_)|((first|go_at_call 122|go_at_call 121);refine(s.out _ (P.below (aw (ah _ _))).ps.pg.bel).mono ?_;rintro I a0 ⟨rfl,p⟩)|(refine Pq.stp P (by first|exact aw (ah _ _)|exact(aw (ah _ _)).trans p) (by with_reducible first|assumption|exact am (y.out _ (by first|assumption|decide|omega|exact sz2 (by decide) q))|exact am (z.out _ _ _ (by first|decide|exact sz3 (by decide) q (by decide)) (by assumption))) ?_;intro a P m))))
  all_goals
   go_wp2_with (go_at_call 330;refine iI (v _) ?_);go_end0
   exact Pq.fin P (by simp only[aK])
section
variable (w0 : World) (vb : Nat) (L : List Im) (t : Nat)
inductive MD (N:Nd) (i:Nat):FuncId->UInt8->ByteArray->Prop
 |tab {X:ByteArray}:LX w0 vb L t N.ks X->MD N i 70 125 (⟨#[123]⟩++X)
 |call {q:Nat}{E X:ByteArray}:N.ks[0]?=some (q:Int)->Hid (VX w0 vb L t 128 q E)->LX w0 vb L t (N.ks.drop 1) X->MD N i 69 41 (E++⟨#[40]⟩++X)
end
def m_d(p:Tp w0 ns L base vs)(ht:t<=100000)(H:i<ns.length)(C:ab ns i=N)(an:N.ks.length<=1048576){z:UInt8}(E:MD w0 vb L t N i f z Y):
  Pw w0 vb f #[vP vb,ju w0 t,nV (ny L i)] (Y++⟨#[z]⟩):=by
 intro d a c;obtain⟨q,a1,K,e,r,m,b⟩:=xn p H;rw[C]at m b;have u:=λa=>dw q a;have ao:=λa=>qz w0.heap.size (gx t) a;have au:=λa=>ys w0.heap.size (gx t) a;have ar:=b.hn;have ap:=λa=>qH (dF N.k) q a;have A:B3 (∀g:ByteArray,g.size<=100000000->Pw w0 vb 329 #[ph w0 t,B6 g] g):=λg c=>lK w0 vb t g c;have y:B3 (∀d a,Ps w0 vb d a->∀j,CallsD A9 329 #[ph w0 t,B6 ⟨#[z]⟩] j a λs v w=>v=j/\(s= E2 (E3 #[])/\Ps w0 vb (d++⟨#[z]⟩) w/\Kq w0.heap.size a w)):=λd a c j=>ot w0 vb t _ d (by show(1:Nat)<=100000000;decide) j a c;have av:=λh (l:be w0 h)=>(b.cells l).1;have r5:=λh (l:be w0 h)=>(b.cells l).2.1;have B:=c.pg.bel;have P:B3 (Pq w0 vb a d a):=⟨c,Kq.refl _ _⟩;have x:=am b;cases E
 case' tab hX=>have o:=am (hX _ b.ks)
 case' call hq _ hX=>
  obtain⟨n,rfl,ad, -⟩:=b.ks.get hq;have ak:=ss hq;have al:(0:Int)<(e:Int):=by omega
  have F:(1:Int)<=(e:Int)/\1<=e:=by omega
  obtain⟨_,_⟩:=F;have a3:=x.kid0 hq;by_cases G:r=1
  case' pos=>
   obtain rfl:e=1:=by omega
   subst G;have o:=am (hX (R (M n) 0 0) (.inl ⟨by rw[List.drop_eq_nil_iff];omega,_,_,rfl⟩))
  case' neg=>have o:=am (hX (R (M ⟨n.block,n.off+1,O⟩) (e-1) (r-1)) (b.ks.drop 1 (e-1) (by omega) (by omega)))
 all_goals
  rw[m];generalize lH (dF N.k)=a0 at *;try unfold VX at *
  unfold ju ph at *;generalize gx t=ax at *;clear c b m p;first|go_enter_defers func70,ntmps70|go_enter_defers func69,ntmps69
  repeat (go_wp2_with (go_at_call 330;refine iI (u _) ?_);refine Pq.stp P (ah _ _) (by with_reducible first|assumption|exact am (A.out _ (by decide))) ?_;intro h P B)
  go_wp2_with (go_at_call 330;refine iI (u _) ?_);refine rp (f:=329) (by simp) (uC _ _ _ _) ?_;refine(y.out _ _ P.ps .returning).mono ?_;rintro s v a2 ⟨rfl,rfl,J,I⟩;refine⟨_,fK rfl _ _ _,rfl,?_,P.kq.trans I⟩;simpa only[aK] using J
def Fp(w:B0)(v:B1)(ns:List Nd)(h:dy w v ns)(A:∀N∈ns,jE N)(x:pH w)(tt:Hm)(fr:Nat×Nat)(p:w.heap[0]?=M (A5 gA tt fr))
  (z:∀W,be w W->F0 A9 W "strings.asciiSpace" .u8 Ce) (ht:eG ns=(0,0)):
  E0 A9 7 #[H2 #[v]] w (gy w (H2 #[Ax U 0,Ax U 0])):=by
 have t:∀j k,be w ((w.alloc j).alloc k):=λj k=>((ah _ w).alloc (af _) j).alloc (by simp) k;have n:B3 (∀W,be w W->E0 A9 16 #[H2 #[v]] W (J0 (λ_=>True) W ns)):=λW a=>
  afL W v ns (h.below a) A (x.below a (af _)) tt fr ((a.block _ (ai p)).trans p) (λg s=>z g (a.trans (s.mono a.size))) ht
 obtain⟨d,e,rfl⟩:=h.form;have⟨f,y⟩:=aJ ns.length;rw[y]at n⊢;go_in;go_wp2_with fail;have l:oA (w.heap.size+1) ((w.alloc (A5 #[R d f e] 25)).alloc (A5 #[Ax U 0,Ax U 0] 29)) 0 0:=by
  have:=aB (w.alloc (A5 #[R d f e] 25)) (A5 #[Ax U 0,Ax U 0] 29);rw[dm]at this;exact this
 have c:=t (A5 #[R d f e] 25) (A5 #[Ax U 0,Ax U 0] 29);generalize (w.alloc (A5 #[R d f e] 25)).alloc (A5 #[Ax U 0,Ax U 0] 29)=g at l c⊢;refine(n g c).mono ?_;rintro B b ⟨q,_,_,_,I,rfl,_⟩;have i:=l.below q;have⟨C,E,F⟩:=pz i;have G:w.heap.size+1<b.heap.size:=ai i;have H:w.heap.size+1≠b.heap.size:=by omega
 have u:be w b:=c.trans (q.mono c.size);have m:=iK u i;go_wp2_with fail;have r:=(ym m.2 0 0).below ((ah _ ((b.setCell ⟨w.heap.size+1,0,O⟩ (Ax U 0)).setCell ⟨w.heap.size+1,1,O⟩ (Ax U 0))).alloc (af _) (A5 #[Ax U 0,Ax U 0] 29));have o:be w ((b.setCell ⟨w.heap.size+1,0,O⟩ (Ax U 0)).setCell ⟨w.heap.size+1,1,O⟩ (Ax U 0)):=(m.1.setCell (by simp) _).setCell (by simp) _;exact bH (iF rfl _ _ (w.heap.size+1) _ _ _ _ rfl r underlying29 rfl (by kernel_rfl)) rfl ⟨rfl,o.alloc o.size _⟩
