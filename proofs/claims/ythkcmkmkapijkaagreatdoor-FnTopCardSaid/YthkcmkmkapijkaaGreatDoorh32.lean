import Derived.Test.YthkcmkmkapijkaaGreatDoorh29
set_option linter.all false
set_option maxRecDepth 100000
set_option maxHeartbeats 25600000
open List renaming length->N
open Go.Value renaming slice->S,ownBlock->Ax
open Go.Obj renaming cells->V
open Go renaming World->Y,Value->A0
namespace Go.Proofs.YthkcmkmkapijkaaGreatDoor
open Go.RowKit Go.Maps Go.WideMaps
def Fnq.up{f a k c}(h:Fnq f a k)(j:k<=c:=by omega):Fnq f a c:=λ_ _ _ _ _ _ _ d _=>(h d O).mono λb _ ⟨i,b,g,e⟩=>⟨i,b,g,e.le⟩
def Fb(x:Int)(d:Int)(k:Nat):Prop:=∀ ⦃C:Cd⦄ ⦃T:Int⦄ ⦃E:Bs⦄ ⦃W:Y⦄ ⦃m a:Nat⦄ ⦃c:List (TypeId×A0)⦄,In C T E W m a c->T-a<=x->k<=m->Calls Tryz.prog 284 #[bV E,zI d] W λe f=>∃b:Nat,e= .returned (zI b)/\a<=b/\At C T E W f (m-k) (b+1) c
section
variable {d : Int} {K B R1 : Nat}
def avr(j:1<=d/\d<=900)(a:Fnq 281 [zI<|d-1] K)(hS:Fnq 197 [zI<|d-1] K):Fnq 281 [zI d] (6*K+60):=by
 intro _ _ _ _ _ _ _ c _;have b:=c.at
 have cs:=b.cs;have l:=w1 (d:=d);have f:=afy a;have g:=afz O a;have i:=arj O a;have hF:=aya O<|Gu hS;have e:=anE;have h:=Dj;have k:¬d<=0:=O;go_in;exact dgo
def aod(f:1<=d/\d<=900)(c:Fnq 281 [zI<|d-1] K):Fnq 283 [zI d] (2*K+10):=by
 intro _ _ _ _ _ _ _ a _;have b:=a.at
 have cs:=b.cs;have g:=w1 (d:=d);have e:=afy c;have hS:=Dj;go_in;exact dgo
def I0{x}(m: -900<=d/\d<=900)(l:Fnq 281 [zI d] K)(k:Fnq 285 [zI<|d-1] B)(g:10<x->Fb (x-2) (d-1) R1):Fb x d (K+2*B+R1+20):=by
 intro _ _ _ _ _ _ _ j _ _;have a:=j.at
 have b:=a.cs;have n:=w1 (d:=d);have i:Hid (10<x->Fb (x-2) (d-1) R1):=g;clear g;go_in
 repeat' (go_wp2_with (at_builtin;with_reducible apply At.app a O O R _ _ R R R;clear a b;intro _ _ e a;have b:=a.cs);first
  |(go_at_call 38;with_reducible refine At.runC a.lit2 gc ?_;clear a b;rintro _ e ⟨_,rfl,z0,_⟩ a -;have b:=a.cs)
  |(go_at_call 284;apply(i.out O a.bd O O).mono;rintro _ e ⟨h,rfl,f,c⟩;have f:=(⟨f,by have:=c.bd.bd;omega⟩:_/\h<=1000000000000);replace a:=At.mk c.bd<|a.bel.trans c.bel;clear c b;have b:=a.cs)
  |(go_at_call 280;with_reducible apply At.add a.nilS;clear a b;intro e a;have b:=a.cs)|(go_ret;exact⟨_,R,O,a.le⟩)|(with_reducible apply At.run a O;clear a b;intro h e f a;have b:=a.cs))
def avs{X}(ax:1<=d/\d<=900)(a7:3*K+2*B+40<=X/\R1+40<=X)(am:300<=K)(H:Fnq 281 [zI d] K)(hF:Fnq 282 [zI d] K)(L:Fnq 283 [zI d] B)(ap:Fnq 276 [zI d] K)(ar:Fnq 276 [zI 1] 200)(ao:Fnq 284 [zI d] R1)(an:Fnq 285 [zI<|d-1] B):Fnq 197 [zI d] X:=by
 intro t l u x o r v G _;have b:=G.at
 have cs:=b.cs;have a6:=w1 (d:=d);have hN:=@ahL;have hX:=@ah0 _ _ H;have a0:¬d<=0:=O;have C:∀z:Int,0<=z->z<2->IntKind.i64.wrap (1+z)=1+z:=λz h0 y=>by rw[du];omega
 have a4:∀z:Int,0<=z->z<3->IntKind.i64.wrap (1+z)=1+z:=λz h0 y=>by rw[du];omega
 have a5:∀z:Int,0<=z->z<2->IntKind.i64.wrap (2+z)=2+z:=λz h0 y=>by rw[du];omega
 go_in;by_cases a2:l-r<8
 .exact dgo
 go_wp2_with fail;apply At.runC b gc;clear b cs;rintro _ w ⟨z,rfl,z0,z1⟩ b -;have cs:=b.cs;by_cases k:z=4\/z=5\/z=6
 .rcases k with rfl|rfl|rfl;all_goals
   go_wp2_with fail;apply At.runC b gc;clear b cs;rintro _ w ⟨E,rfl,_,_⟩ b -;have b:=ah b.nilI;go_wp2;go_loopw [11,13] (λs iv wr=>∃(a e p:Nat) (f:_),iv=zI a/\s=S f a e/\(a<=1+E/\r<=p)/\At t l u x wr (o-4-B*a) p ((3,S f a e)::v)) (λ_ iv _=>2-(intOf iv).toNat)
   .exact⟨0,0,r,none,R,R,O,b⟩
   .
    clear b;obtain⟨a,e,p,f,rfl,rfl,c,b⟩:=hrel;have cs:=b.cs;have i:=Nat.mul_le_mul_left B (O:a<=2);by_cases n:(a:Int)<1+E
    .have i:=Nat.mul_le_mul_left B (O:a+1<=2);have c:=jG c (show B*(a+1)=B*a+B from Nat.mul_succ B a) i;clear i;go_wp2_with fail;refine At.run b L ?_ (by have:=c.out;omega);clear b cs;intro q w hq b;have b:=fs b hq.1;have af:a<=2:=O;go_wp2_with (at_builtin;apply b.1.app O O R _ _ R R R;intro av cv _ m);go_roundw
     .exact⟨_,cv,_,av,by go_num,R,O,m.le (by have:=c.out;omega)⟩
     simp[intOf];omega
    .obtain⟨h,A,_⟩:∃h,o-4-B*a=h/\3*K+36<=h:=⟨_,R,O⟩;have c:=fs c<|(O:o-X<=h-(3*K+30));rw[A]at b;clear A i;go_wp2_with fail;apply At.runC b gc;clear b cs;rintro _ w ⟨ak,rfl,_,_⟩ b -;go_wp2_with fail;apply At.runR b<|hX O O;clear b;intro av cp q p2 w hq b;have b:=ah b.swap;have af:a<=2:=by have:=c.out;omega
     go_wp2;go_loopw [11,118] (λs iv wr=>∃(j e:Nat) (f:_),iv=zI j/\s=S f (a+j) e/\j<=q/\At t l u x wr (h-2-3*K) p2 ((3,S f (a+j) e)::(3,S av q cp)::v)) (λ_ iv _=>q-(intOf iv).toNat)
     .exact⟨0,_,_,R,R,O,b⟩
     .
      clear b;obtain⟨j,e,f,rfl,rfl,_,b⟩:=hrel;have a1:(0:Int)<=(j:Int):=O;by_cases n:j<q
      .obtain⟨g,ak,rfl,C,_⟩:=b.intAt n;have ad:(j:Int)<(q:Int):=O;have b:=ah b;go_wp2_with (at_builtin;apply b.out.app O C R _ _ R R R;intro av cv _ F);go_roundw
       .exact⟨j+1,cv,av,by go_num,R,O,F⟩
       simp[intOf];omega
      .have ad:¬(j:Int)<(q:Int):=O;have b:=fs b.swap.drop.nilS c;have a3:p<=p2:=O;clear c n;go_wp2_with fail;apply b.1.add;intro w m;go_wp2;go_ret;exact⟨_,R,O,m.le (by have:=b.2.out;omega)⟩
 .rw[not_or,not_or]at k;have al:(z==4)=false/\(z==5)=false/\(z==6)=false:=by simpa using k
  clear k;exact dgo
end
section
variable {d : Int} {K R1 : Nat}
def Fb.up{x k}(h:Fb x d K)(i:K<=k:=by omega):Fb x d k:=λ_ _ _ _ _ _ _ b e _=>(h b e O).mono λa _ ⟨g,a,f,c⟩=>⟨g,a,f,c.le⟩
def expr0(e:d<=0):Fnq 281 [zI d] 31:=by
 intro _ _ _ _ _ _ _ a _;have b:=a.at
 have cs:=b.cs;have c:=anE;go_in;exact dgo
def ata:Fnq 276 [zI 1] 200:=(afz Z<|expr0 Z).up Z
def aoe(e:d<=0):Fnq 197 [zI d] 201:=by
 intro _ _ _ _ _ _ _ a _;have b:=a.at
 have cs:=b.cs;have c:=ata;go_in;exact dgo
def aie:∀(k:Nat)(d),k<=100->d<=0-> -500+(k:Int)<=d->Fb (2*k) d (1300*(k+1))|0,d,_,h,_=>(I0 (R1:=0) O (expr0 h) (Gu<|aoe O) λh=>O).up|k+1,d,a,h,b=>(I0 (R1:=1300*(k+1)) O (expr0 h) (Gu<|aoe O) λ_=>by rw[(O:2*((k+1:Nat):Int)-2=2*k)];exact aie k _ O O O).up
structure Lv (d:Int) (K R1:Nat):Prop where
 e:Fnq 281 [zI d] K
 s:Fnq 197 [zI d] K
 r:Fnq 284 [zI d] R1
def lvS{X}(h:Lv (d-1) K R1)(f:1<=d/\d<=900)(q:200<=K)(t:24*K+260<=X/\12*K+R1+130<=X):Lv d X (12*K+R1+90):=by
 have c:=avr f h.e h.s;have b:=Gu h.s;have i:Fnq 284 [zI d] (12*K+R1+90):=λj m k n o p l a g=>(I0 (x:=140) O c b λ_ j m k n o p l a _ g=>h.r a g).up O a (by have:=a.bd;omega) g;exact⟨c.up,(avs (B:=3*K+10) f O O c (aya O b).up (aod f h.e).up (afz O h.e).up ata i b.up),i⟩
def aof(j:1<=d/\d<=5):Fnq 197 [zI d] 31470049892:=by
 have h:Lv 0 201 92300:=⟨(expr0 Z).up,aoe Z,λ_ _ _ _ _ _ _ a g=>aie 70 0 Z Z Z a (by have:=a.bd;omega) g⟩;have b:=lvS (d:=1) (X:=94842) h Z Z Z;have c:=lvS (d:=2) (X:=2276468) b Z Z Z;have e:=lvS (d:=3) (X:=54635492) c Z Z Z;have f:=lvS (d:=4) (X:=1311252068) e Z Z Z;have i:=lvS (d:=5) (X:=31470049892) f Z Z Z;obtain rfl|rfl|rfl|rfl|rfl:=(O:d=1\/d=2\/d=3\/d=4\/d=5)
 .exact b.s.up
 .exact c.s.up
 .exact e.s.up
 .exact f.s.up
 .exact i.s
end
structure Tw (w:Y) (lo:Nat) (v:A0) (M:zLM):Prop where
 lw:Lw w lo v M
 sep:(bL M).Nodup
section
variable {C : Cd} {T : Int} {E F : Bs} {W W' : World} {m : Nat} {M : zLM}
def Cq.start{w1}(h:Cq C E w1 m)(a){q}(j:w1.heap[q]?=some (V #[fe] 26 (0,0)))(g:E.base<=q):Bd C a ⟨E.base,E.cb,w1.heap.size,E.a0,E.cap⟩ (w1.alloc<|V #[cV E,fe,zI a] 264) m [] [trR q]:=by
 have d:=dj w1<|V #[cV E,fe,zI a] 264;have⟨e,b,f⟩:=h.below d;have i:w1.ownsRow E.base 26 1 (bI q 1 1) 1 [fe]:=⟨R,.inr ⟨q,1,_,R,g,j,O,byM,R,R⟩⟩;refine⟨⟨e,⟨b.lo,b.code,b.cur⟩,f⟩,h.lo.2,⟨_,?_,onN⟩,λk c=>(by cases c),λk c=>?_,?_⟩
 .simpa using au w1 _
 .rw[ic.1 c];exact⟨by show TO 26;decide,cj i d⟩
 .simp[bR,bL,Ax]
def Bd.ans{q}(h:Bd C T F W m M [trR q]):W.heap[q]?=some (V #[fe] 26 (0,0))/\q≠F.bb:=by
 have i:=(h.rows _ bG).2;have b:W.heap[q]?=some (V #[fe] 26 (0,0)):=by
  obtain⟨a,_⟩|⟨_,_,c,a,_,g,_,_,d,e⟩:=i.2
  .cases a
  .cases a;have:c.toList=[fe]:=by
    have f:c.toList.take (1*1)=[fe]:=e;rw[<-f,ci];rw[oG,d];exact fG _
   rw[g,Array.toList_inj.1<|this.trans R]
 have⟨_,c,_⟩:=h.row;refine⟨b,λa=>?_⟩;rw[a,c]at b;simp only[mw,vI]at b;exact absurd b.2.1 Z
def Bd.done{q v}(h:Bd C T F W m M [trR q])(d:W.cell? (aj F.bb 1)=some v):Tw (W.setCell (aj q 0) v) F.base v M/\Cq C F (W.setCell (aj q 0) v) m/\Below F.base W (W.setCell (aj q 0) v)/\(W.setCell (aj q 0) v).heap[q]?=some (V #[v] 26 (0,0)):=by
 have⟨j,i⟩:=h.ans;have⟨c,e,p2⟩:=h.row;obtain rfl:c=v:=by
  rw[oe e]at d;exact de d
 obtain⟨a,f⟩:=h.hot (r':=⟨_,_,_⟩) (Dw (tA W q) 0 c) (by show TO 26;decide) onN (λ_ g=>by cases g);have⟨l,b,k⟩:=a.row;obtain rfl:l=c:=by
  rw[jg i.symm,e]at b;simp at b;exact b.symm
 exact⟨⟨⟨k,a.each⟩,by simpa [bR,Ax] using a.sep⟩,a.cu,f,aD _ q 0 _ _ _ j⟩
def Bd.root{wr e q c i}{b h:zOA}{ks:zLI}{s}(o:Bd C T F wr m M (rS fe []::rI (S b (N ks) c) ks::[trR q]))
  (n:wr.heap[F.bb]?=some (V #[cV F,S h (N M) i,zI<|T-N M] 264 (0,0)))
  (k:e.ownsRow F.base 37 9 s (N M+1) (mG M++(zK (dN 1 0 0 zE0 [] ks) fe<|S b (N ks) c).toList))
  (H:(wr.alloc<|V (zK (dN 1 0 0 zE0 [] ks) fe<|S b (N ks) c) 37).grownBy e (Value.slice h (N M) i).ownBlock):
  ∃d a,s=bI d (N M+1) a/\(e.cell? (aj F.bb 1)=some (S h (N M) i)/\e.frozen? (aj F.bb 1)=false)/\(e.cell? (aj q 0)=some fe/\e.frozen? (aj q 0)=false)/\q≠F.bb/\F.bb≠q/\
   Hid (∀f,f=(e.setCell (aj F.bb 1)<|bI d (N M+1) a).setCell ⟨q,0,none⟩ (bI d (N M+1) a)->Tw f F.base (bI d (N M+1) a) (M++[⟨dN 1 0 0 zE0 [] ks,fe,S b (N ks) c⟩])/\Cq C F f m/\Below F.base wr f/\f.heap[q]?=some (V #[bI d (N M+1) a] 26 (0,0))):=by
 have j:=dj wr<|V (zK (dN 1 0 0 zE0 [] ks) fe<|S b (N ks) c) 37;have G:=o.below j;have K:=(j.block _<|ai n).trans n;obtain⟨_,_⟩|⟨d,a,rfl⟩:=aC k
 .omega
 have E:mG M++(zK (dN 1 0 0 zE0 [] ks) fe<|S b (N ks) c).toList=mG (M++[⟨dN 1 0 0 zE0 [] ks,fe,S b (N ks) c⟩]):=by rw[uC];show _=mG M++(cMb _++[]);rw[fp];rfl
 rw[E]at k;have A:T+1-1=T:=O;have B:T+1-(N M:Int)-1=T-N M:=O;obtain⟨r,u,l⟩:=Bd.push (by rw[A];exact G) (by rw[B];exact K) R k H;have⟨t,g⟩:=r.ans;have p:=(jg g).symm.trans t;refine⟨d,a,R,⟨crV l,frR l⟩,⟨crV p,frR p⟩,g,g.symm,?_⟩;rintro f rfl;obtain⟨w,x,y,z⟩:=r.done (v:=S _ _ a) (by rw[oe<|aD _ _ 1 _ _ _ l];rfl);exact⟨w,x,((j.mono o.lt.2.2.1).trans u).trans y,z⟩
end
def avt{q R1}(h:R1.map tv=[tv<|trR q])(k:∀r∈R1,Okr r):R1=[trR q]:=by
 cases R1 with
 |nil=>cases h
 |cons r R1=>
  simp[List.map_eq_nil_iff]at h;obtain⟨⟨b,a⟩,rfl⟩:=h;cases k r bG with
  |t c=>simp at a;rw[a]|_=>simp at b
def At.root{C g a W m p q Q c}{x:zOA}{wr}(b:At C g a W wr m p [(3,S x q c),tv<|trR Q]):∃M ks e f,N M=p/\N ks=q/\q<=1000/\
  Hid (Bd C g a wr m M (rS fe []::rI (S x (N ks) c) ks::[trR Q])/\wr.heap[a.bb]?=some (V #[cV a,S e (N M) f,zI<|g-N M] 264 (0,0))/\wr.ownsRow a.base 37 9 (S e (N M) f) (N M) (mG M)/\Below a.base W wr/\∀i∈M++[⟨dN 1 0 0 zE0 [] ks,fe,S x (N ks) c⟩],Ndk i)/\wr.cell? (aj a.bb 1)=some (S e (N M) f)/\a.cb<wr.heap.size/\a.bb<wr.heap.size/\a.base<=wr.heap.size/\a.cb≠a.bb:=by
 obtain⟨⟨⟨M,n,rfl,d,hS,h,u⟩,_⟩,t⟩:=b;obtain⟨ks,n,rfl,hS,r,s,h⟩:=ahK hS h;obtain rfl:=avt hS h;obtain⟨_,_,j⟩:=d.form;simp[Value.slice.injEq]at j;obtain⟨-,rfl, -⟩:=j;have d:=d.nil toS;have⟨_,k,l⟩:=d.row;obtain⟨e,f,rfl⟩:=aF l;exact⟨M,ks,e,f,R,R,r,⟨d,k,l,t,λi w=>(dg.1 w).elim (u i) λo=>by rw[ic.1 o];exact⟨⟨leZ,by show N ks<=_;omega,leZ,λ_ v=>by cases v⟩,(Z:I6 1),(Z:I6 0),(Z:I6 0),(Z:I6 0),(Z:I6 0),(Z:I6 0),s⟩⟩,crV k,d.lt⟩
def TrP(C:Cd)(E:Bs)(W:Y)(m:Nat)(e:Ending)(a:Y):Prop:=∃(c b:Nat) (M:zLM),e= .returned (.agg #[bI c (N M) b])/\N M<=1000000000000/\(∀d∈M,Ndk d)/\Tw a E.base (bI c (N M) b) M/\Cq C E a m/\Below E.base W a
def avu{C E W m}(h:Cq C E W m)(ba:230000000000<=m):Calls Tryz.prog 114 #[cV E] W (TrP C E W<|m-230000000000):=by
 have z:=h.cw;have r:=h.lo;have a9:=h.lt;have bc:m<=1000000000000:=h.elim λq h=>O;have a6:∀b:Int,0<=b->b<120->IntKind.i64.wrap (20+b)=20+b:=λb a4 a5=>by rw[du];omega
 have a7:∀b:Int,0<=b->b<5->IntKind.i64.wrap (1+b)=1+b:=λb a4 a5=>by rw[du];omega
 clear h;go_in;go_wp2_with fail;apply Cw.run z.al gc;clear z;rintro _ w1 ⟨b,rfl,z0,_⟩ p G;have v:=(G.block _ I (λg=>by have:=de g;omega)).trans<|au W _;have s:=p.cu.start (20+b) v r.2;have H:=xC p.gr r.1 r.2;have u:=ah<|H.trans<|(dj w1<|V #[cV E,fe,zI<|20+b] 264).mono p.cu.lo.2;clear v G H p;go_wp2_with fail;obtain⟨e,hF⟩:=aw (⟨E.base,E.cb,w1.heap.size,E.a0,E.cap⟩:Bs);have l:e.base=E.base/\e.cb=E.cb/\w1.heap.size=e.bb/\e.a0=E.a0/\e.cap=E.cap:=by rw[<-hF];exact⟨R,R,R,R,R⟩
 rw[hF]at s;have F:cV E=cV e:=by show Value.pointer _=Value.pointer _;rw[l.2.1]
 have a:At C (20+b) e _ _ (m-2) 0 [tv<|trR W.heap.size]:=In.at ⟨⟨_,_,R,s,R,λ_ h=>by rw[ic.1 h];exact .t _,λbw h=>by cases h⟩,O,O⟩;rw[<-l.1]at u;generalize (w1.alloc _)=ao at a u⊢;rw[l.2.2.1,F];have an:=ah l;clear s hF F l r a9;go_wp2_with fail;apply At.runC a gc;clear a;rintro _ ak ⟨d,rfl,_,_⟩ a -;go_wp2_with fail;apply At.runC a gc;clear a;rintro _ ak ⟨y,rfl,bo,_⟩ a -;obtain⟨y,rfl⟩:=iJ bo;have a:=ah a.nilI;go_wp2;go_loopw [5,6] (λbt w wr=>∃(f i q n:Nat) (x:_),w=zI f/\bt=S x i q/\i+f<=7/\At C (20+b) e ao wr (m-6-31470049892*i) n ((3,S x i q)::[tv<|trR W.heap.size])) (λ_ w _=>(intOf w).toNat)
 .exact⟨y,0,0,0,none,R,R,O,a⟩
 .
  clear a;obtain⟨f,i,q,n,x,rfl,rfl,g,a⟩:=hrel;have a2:=a.cs;obtain⟨hj,_⟩|hj:((0:Int)<(f:Int)/\(5:Int)<20+b-n)\/(¬(0:Int)<(f:Int)\/(0:Int)<(f:Int)/\¬(5:Int)<20+b-n):=O
  .have j:IntKind.i64.wrap ((f:Int)-1)=((f-1:Nat):Int):=by rw[du];omega
   have g:=fs g hj;have hS:=aof (d:=1+d) O;go_wp2_with fail;refine At.run a hS ?_ O;clear a a2;intro bw ak _ a;have a:=ah a;have v:i<=7:=by have:=g.out;omega
   go_wp2_with (at_builtin;apply a.out.app O O R _ _ R R R;intro A B _ c);go_roundw
   .exact⟨_,_,B,_,A,by go_num,R,O,c.le O⟩
   have:=g.out;simp[intOf];omega
  .have bx:n<1000000000000:=by have:=a.bd.bd;omega
   obtain⟨_,bn,A,B,rfl,rfl,_,j,_,_⟩:=(a.le (k:=m-230000000000)).root;have⟨bf,bh,bj,bk,bl⟩:=dw CA;clear g a6 a7 ba bc a;obtain hj|⟨hj,_⟩:=hj;all_goals
    go_wp2_with (at_builtin;refine wpList_append_own_at _ R _ _ _ R _ 37 bf _ 9 _ Tryz.underlying24 bh bj bk bl R Z _ _ _ R (cj j.2.2.1<|dj wr _) _ 1 1 (zK (dN 1 0 0 _ [] bn) _ _).toList R R (World.news_of_block<|au wr _) (by intro _ ad;simp at ad;obtain rfl|rfl|rfl|rfl|rfl|rfl|rfl|rfl|rfl:=ad<;>rfl) byM O lr ?_;intro _ _ L K _ a8;obtain⟨a3,ar,rfl,_,_,_,_,am⟩:=j.1.root j.2.1 L K;clear L K a8);obtain⟨af,o,ap,br⟩:=am.out _ R;have c:=an.out;rw[c.1]at af;obtain⟨ax,o,bs⟩:=o;exact aA (fD R _ _ _ _ _ _ _ R br Tryz.underlying26 R J) R ⟨a3,ar,_,I,lr,j.2.2.2.2,by simpa using af,⟨ax,⟨by rw[<-c.1,<-c.2.1];exact o.lo,by rw[<-c.1,<-c.2.2.2.1];exact o.code,by have:=o.cur;unfold cuO at this;rw[c.2.1,c.2.2.2.1,c.2.2.2.2]at this;exact this⟩,bs⟩,by have:=(u.out.trans j.2.2.2.1).trans ap;rw[c.1]at this;exact this⟩
