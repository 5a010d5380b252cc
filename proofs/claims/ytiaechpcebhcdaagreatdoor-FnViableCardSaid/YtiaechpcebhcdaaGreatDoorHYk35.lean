import Derived.Test.YtiaechpcebhcdaaGreatDoorHYk32
set_option linter.all false
set_option maxRecDepth 100000
set_option maxHeartbeats 25600000
open List renaming length->Q
open Go.Value renaming slice->S,int->Y,string->A2,ownBlock->A3
open Option renaming none->V,some->Ax
open Go.IntKind renaming i64->X
open Go.Obj renaming cells->A0
namespace Go.Proofs.YtiaechpcebhcdaaGreatDoor
open Go.RowKit Go.Maps Go.WideMaps
variable{d k m:Int}
def FBl(f:FuncId)(d m s k b:Int):Prop:=∀ ⦃C:Cd⦄ ⦃T:Int⦄ ⦃c:Cr⦄ ⦃a:List Nd⦄,Pd T c a m->T-Q a<=b->∃h g e,An T c a g e h s k 100/\Rb C T f [Y X d] c a (Y X h) g e
def FBl.all{f:FuncId}{s:Int}(h:FBl f d m s k 140):FB f d m s k 100:=λ_ _ _ _ a=>h a (by have:=a.sum;omega)
def Mv.subL{T:Int}{j c:Cr}{i L:List Nd}{l:Int}(p:Pd T j i m)(a:Mv T j i c L l)(C:Cd){f:FuncId}{h s b:Int}(hF:FBl f d h s k b)(x:T-Q L<=b)(ad:1<=h/\h+1<=m)(ag:l<=500)(y: -20000+12*h<=T-Q L)(af:s<=12/\k<=4000):
  ∃(z:Int) (g:Cr) (e:List Nd),(0<=z/\z<=100000)/\(Q L<Q e/\z=Q e-1/\Lf s k (T-Q L) (T-Q e))/\Mv T j i g e (l-100)/\Rb C T f [Y X d] c L (Y X z) g e:=by
 have K:=a.len p;have B:=p.hx;have E:=a.p;have w:=a.p0;have F:=p.m0;have G:=a.n;have H:=p.sum;obtain⟨z,g,e,b,o⟩:=@hF C T c L ⟨p.sum,y,O,O,w⟩ x;obtain⟨q,r,t,A,u,v⟩:=b;exact⟨z,g,e,O,⟨r,t,v⟩,⟨a.nx.trans q,O,O,u,O⟩,o⟩
def Km{me mk mr ce ck cr b:Int}(A: -1000<=d/\d<=1000)(B:(1<=me/\me+1<=m)/\(1<=mk/\mk+1<=m)/\(1<=mr/\mr+1<=m))(af:(0<=ce/\ce+3<=k)/\(0<=ck/\ck+3<=k)/\(0<=cr/\cr+1<=k)/\k<=3800)(ad:FB 172 d me 1 ce 0)(y:FB 176 (d-1) mk 1 ck 0)
  (z:10<b->FBl 175 (d-1) mr 4 cr (b-2)):FBl 175 d m 4 k b:=by
 intro i F a6 ar c ag;have bf:=w1 A;have ak:=c.lo;have al:=c.m0;obtain⟨bl,a7,aL,q,K,r,bg⟩:=c.mv.sub c i ad;obtain⟨bk,a8,C,p,L,s,bh⟩:=r.sub c i y;obtain⟨n,a9,am,g,bj⟩:=s.pick c i 3;have l:=jp (k:=7) (op:=0) (n:=0) (t:=⟨#[]⟩) lC li (pl2 q p);have a:=g.len c;rcases((O:n=0\/n=1\/(n≠0/\n≠1))) with rfl|rfl|⟨v,w⟩
 case' inl=>
  obtain⟨ao,G,E,o,j,f,an⟩:=g.sub c i y;have a:=f.len c;refine⟨_,_,_,f.fin c (jp (k:=7) (op:=0) (n:=0) (t:=⟨#[]⟩) lC li ((pl2 q p).add o)),?_⟩;clear f j
 case' inr.inl=>
  by_cases bc:10<F-Q C
  case' pos=>
   obtain⟨ao,G,E,o,j,f,an⟩:=g.subL c i (z O) O B.2.2 O O O;have a:=f.len c;refine⟨_,_,_,f.fin c (jp (k:=7) (op:=0) (n:=0) (t:=⟨#[]⟩) lC li ((pl2 q p).add o)),?_⟩;clear f j
  case' neg=>refine⟨_,_,_,g.fin c l,?_⟩
 case' inr.inr=>
  refine⟨_,_,_,g.fin c l,?_⟩;have bb:(n==0)=false/\(n==1)=false:=by simp[v,w]
  clear v w
 all_goals
  clear r s g K L am l c ak al af B A ag z;intro ap a5 a0 x;have b:=x.at
  have e:=b.cs;clear x;go_in
  repeat' (go_wp2_with (at_builtin;with_reducible refine At.app b rfl I rfl _ _ rfl rfl rfl ?_;clear b e;intro u ba h b;have e:=b.cs);first
   |(go_at_call 29;(first|with_reducible refine At.runC b lG ?_|with_reducible refine At.runC b.lit2 lG ?_|with_reducible refine At.runC b.lit1 lG ?_);clear b e;intro h b _;have e:=b.cs)
   |(go_at_call 169;with_reducible refine At.runR b lG ?_;clear b e;intro h u H b;have e:=b.cs)
   |(go_at_call 170;with_reducible refine At.runR b lG ?_;clear b e;intro h u H b;have e:=b.cs)
   |(go_at_call 168;(first|with_reducible refine At.kids b.lit1 a.1.2 a.1.1 ?_|with_reducible refine At.kids b.lit2 a.1.2 a.1.1 ?_|with_reducible refine At.kids b.nilI a.1.2 a.1.1 ?_);clear b e;intro h b;have e:=b.cs)
   |(go_at_call 171;(first|with_reducible refine At.add b.lit1.nilS a.1.2 a.1.1 ?_|with_reducible refine At.add b.lit2.nilS a.1.2 a.1.1 ?_|with_reducible refine At.add b.lit1.swap a.1.2 a.1.1 ?_|with_reducible refine At.add b.lit2.swap a.1.2 a.1.1 ?_|with_reducible refine At.add b.swap a.1.2 a.1.1 ?_|with_reducible refine At.add b a.1.2 a.1.1 ?_|with_reducible refine At.add b.nilS a.1.2 a.1.1 ?_|with_reducible refine At.add b.nilI.nilS a.1.2 a.1.1 ?_);clear b e;intro h b;have e:=b.cs)
   |(go_ret;exact⟨rfl,b.bd,b.bel⟩)
   |(with_reducible refine At.run b lG ?_;clear b e;intro h b;have e:=b.cs))
def aqH{C':Int}(G:d<=0)(s:2<=m)(q:0<=C'/\C'<=3800)(p:FB 167 1 (m-1) 5 C' 0):FB 107 d m 6 (C'+1) 0:=by
 intro j A C x e;have r:=e.lo;have u:=e.m0;obtain⟨K,E,y,v,o,g,H⟩:=e.mv.sub e j p;have b:=g.len e;refine⟨_,_,_,g.fin e (k:=6) (op:=0) (n:=0) (t:=⟨#[]⟩) (jp lC li (pl1 v)),?_⟩;clear g o e r u q s;intro w B z i;have a:=i.at
 have c:=a.cs;clear i;go_in
 repeat' (go_wp2_with (at_builtin;with_reducible refine At.app a rfl I rfl _ _ rfl rfl rfl ?_;clear a c;intro h F f a;have c:=a.cs);first
  |(go_at_call 29;(first|with_reducible refine At.runC a lG ?_|with_reducible refine At.runC a.lit2 lG ?_|with_reducible refine At.runC a.lit1 lG ?_);clear a c;intro f a _;have c:=a.cs)
  |(go_at_call 169;with_reducible refine At.runR a lG ?_;clear a c;intro f h l a;have c:=a.cs)
  |(go_at_call 170;with_reducible refine At.runR a lG ?_;clear a c;intro f h l a;have c:=a.cs)
  |(go_at_call 168;(first|with_reducible refine At.kids a.lit1 b.1.2 b.1.1 ?_|with_reducible refine At.kids a.lit2 b.1.2 b.1.1 ?_|with_reducible refine At.kids a.nilI b.1.2 b.1.1 ?_);clear a c;intro f a;have c:=a.cs)
  |(go_at_call 171;(first|with_reducible refine At.add a.lit1.nilS b.1.2 b.1.1 ?_|with_reducible refine At.add a.lit2.nilS b.1.2 b.1.1 ?_|with_reducible refine At.add a.lit1.swap b.1.2 b.1.1 ?_|with_reducible refine At.add a.lit2.swap b.1.2 b.1.1 ?_|with_reducible refine At.add a.swap b.1.2 b.1.1 ?_|with_reducible refine At.add a b.1.2 b.1.1 ?_|with_reducible refine At.add a.nilS b.1.2 b.1.1 ?_|with_reducible refine At.add a.nilI.nilS b.1.2 b.1.1 ?_);clear a c;intro f a;have c:=a.cs)
  |(go_ret;exact⟨rfl,a.bd,a.bel⟩)
  |(with_reducible refine At.run a lG ?_;clear a c;intro f a;have c:=a.cs))
def asK{C:Cd}{T:Int}{c ag l w ak m:Cr}{L r i:List Nd}{z o u:Int}{q e:Nat}{ks f:List Int}(bs:1<=d/\d<=1000)(bD:¬T-Q L<8)(bb:z=4\/z=5\/z=6)(bc:Rc C 29 [Y X 17] c (Y X z) ag)(bf:Rc C 29 [Y X 2] ag (Y X o) l)(bE:IntKind.i64.wrap (1+o)=(q:Int))(b6:q<=3)(B:Xsc C T 174 d q l L ks w r)(bg:Rc C 29 [Y X 2] w (Y X u) ak)(b0:IntKind.i64.wrap (1+u)=(e:Int))(b7:e<=3)(bh:Rr C T 170 [Y X e,Y X d] ak r 3 e (f.map (Value.int X)) m i)(am:Q ks=q)(br:Q f=e)(an:(Q i<=25000/\ -100000<=T/\T<=100000)/\m.p<=20000000):Rb C T 107 [Y X d] c L (Y X (Q i:Nat)) m (i++[dN 5 0 q ⟨#[]⟩ [] (ks++f)]):=by
 intro G K H a8;have b:=a8.at
 have al:=b.cs;have bt:¬d<=0:=O;rcases bb with rfl|rfl|rfl;all_goals
  go_in;go_wp2_with fail;refine b.runC bc λw1 ad _=>?_;have al:=ad.cs;go_wp2_with fail;refine ad.runC bf λb8 a4 _=>?_;go_wp2;go_loopw [11,13] (λE iv wr=>∃(a:Nat) (k:Nat) (g A:List Int) (x:Cr) (s:List Nd),iv= Y X a/\a+k=q/\Q g=a/\At C T G K wr x s (rI E g::H)/\Xsc C T 174 d k x s A w r/\g++A=ks) (λ_ iv _=>q-(intOf iv).toNat)
  case atStart=>exact⟨0,q,[],ks,l,L,rfl,I,rfl,a4.nilI,B,rfl⟩
  case round=>
   obtain⟨a,k,g,A,x,s,rfl,a9,ba,b,ar,n⟩:=hrel;have h:=jB a9 ba n;have bA:a<=q:=O;cases ar with
   |@cons k _ a5 _ _ a3 _ bl bj a1 aL=>
    have y:(a:Int)<(q:Int):=O;go_wp2_with fail;refine b.run a1 λbk v=>?_;have B:=aj v;go_wp2_with (at_builtin;refine B.out.app h.2.1 O rfl _ _ rfl rfl rfl ?_;intro t a7 ap j);go_roundw
    case rel=>exact⟨a+1,k,g++[bl],bj,a5,a3,by go_num,by have:=h.1;omega,by simp[h.2.1],j,aL,by rw[eB];exact h.2.2⟩
    case measure=>simp[intOf];omega
   |nil=>
    have y:¬(a:Int)<(q:Int):=O;have n:=h.2.2;rw[dD]at n;subst n;have al:=b.cs;go_wp2_with fail;refine b.runC bg λbk v _=>?_;go_wp2_with fail;refine v.runR bh λap t a6 j=>?_;have B:=aj j.swap;go_wp2;go_loopw [11,118] (λE iv wr=>∃(a:Nat),iv= Y X a/\a<=e/\At C T G K wr m i (rI E (g++f.take a)::rI (S t e a6) f::H)) (λ_ iv _=>e-(intOf iv).toNat)
    case atStart=>exact⟨0,rfl,nH,by simpa using B.out⟩
    case round=>
     obtain⟨a,rfl,bx,b⟩:=hrel;by_cases bv:a<e
     .obtain⟨F,ao⟩:∃F,f[a]?=Ax F:=⟨_,bi O⟩;obtain⟨bp,rfl,bo⟩:=b.intAt ao;have bw:(0:Int)<=(a:Int):=O;have y:(a:Int)<(e:Int):=O;have B:=fD b (show(g++f.take a).length=q+a by rw[aB,oq,am];omega);have a0:=aj (show g++f.take (a+1)=g++f.take a++[F] by rw[il,ao,eB];rfl);go_wp2_with (at_builtin;refine B.1.app B.2 O rfl _ _ rfl rfl rfl ?_;intro t a7 ap j);go_roundw
      case rel=>exact⟨a+1,by go_num,O,by rw[a0.out];exact j⟩
      case measure=>simp[intOf];omega
     .obtain⟨bn,l,rfl⟩:=b.form;have y:¬(a:Int)<(e:Int):=O;rw[dr,show(g++f.take a).length=q+a by rw[aB,oq,am];omega]at b⊢;rw[dH O]at b;have B:=aj (b.swap.drop.nilS);go_wp2_with fail;refine B.out.add an.1.2 an.1.1 λb9 af=>?_;go_wp2;go_ret;exact⟨rfl,af.bd,af.bel⟩
def asL{mm C':Int}(bx:1<=d/\d<=1000)(b0:1<=mm/\mm+2<=m)(bw:4<=C'/\C'<=3700)(K:FB 172 d mm 1 C' 0)(bh:FB 173 d mm 12 C' 0)(bj:FB 174 d mm 4 (C'-3) 0)(a8:FB 167 d mm 12 C' 0)(bg:FB 167 1 mm 5 C' 0)
  (bf:FB 175 d mm 12 C' 100) (af:FB 176 (d-1) mm 1 C' 100):FB 107 d m 6 (C'+5) 0:=by
 intro e ap cb a9 b;have cf:=w1 (d:=d) O;have bE:=b.lo;have b1:=b.m0;have cd:¬d<=0:=O;by_cases bD:ap-Q a9<8
 case' pos=>
  obtain⟨E,bp,b8,r,bv,l,bk⟩:=b.mv.sub b e bg;have g:=l.len b;refine⟨_,_,_,l.fin b (k:=6) (op:=0) (n:=0) (t:=⟨#[]⟩) (jp lC li (pl1 r)),?_⟩;clear l bv
 case' neg=>
  obtain⟨n,bp,b2,l,bk⟩:=b.mv.pick b e 17;rcases((O:(n=0\/n=1)\/n=2\/n=3\/(n=4\/n=5\/n=6)\/n=7\/(n=8\/n=9)\/n=10\/n=11\/n=12\/n=13\/n=14\/n=15\/n=16)) with hn2|rfl|rfl|hn'|rfl|hn2|rfl|rfl|rfl|rfl|rfl|rfl|rfl
  case' inl=>
   obtain⟨j,s,C,f,A⟩:=l.pick b e 3;obtain⟨i,x⟩:∃i:Nat,1+j=(i:Int):=⟨(1+j).toNat,O⟩;have aL:=wq x O;obtain⟨nm,u,z,o,h,w⟩:=f.names b e i;obtain⟨G,am,ad,q,an⟩:=h.pick b e 3;obtain⟨G,rfl⟩:=eJ ad.1;obtain⟨ks,ar,bo,h3,H,bb,p,al⟩:=q.exprs b e K G;have g:=p.len b;refine⟨_,_,_,p.fin b (k:=2) (op:=0) (n:=0) (t:=⟨#[]⟩) (nm:=nm) (ks:=ks) (jp lC o H),?_⟩;clear f h q p bb C ad z o h3 H x
  case' inr.inl=>
   obtain⟨E,s,B,r,y,f,A⟩:=l.sub b e K;obtain⟨nm,u,z,o,h,w⟩:=f.names b e 1;replace w:Rr e ap 169 [Y X 1] s B 9 1 (nm.map A2) u B:=w;have g:=h.len b;refine⟨_,_,_,h.fin b (k:=3) (op:=0) (n:=0) (t:=⟨#[]⟩) (nm:=nm) (jp lC o (pl1 r)),?_⟩;clear f h y z o
  case' inr.inr.inl=>
   obtain⟨E,s,B,r,y,f,A⟩:=l.sub b e bh;obtain⟨nm,u,z,o,h,w⟩:=f.names b e 1;replace w:Rr e ap 169 [Y X 1] s B 9 1 (nm.map A2) u B:=w;have g:=h.len b;refine⟨_,_,_,h.fin b (k:=4) (op:=0) (n:=0) (t:=⟨#[]⟩) (nm:=nm) (jp lC o (pl1 r)),?_⟩;clear f h y z o
  case inr.inr.inr.inl=>
   obtain⟨j,s,C,f,A⟩:=l.pick b e 2;obtain⟨i,x⟩:∃i:Nat,1+j=(i:Int):=⟨(1+j).toNat,O⟩;have aL:=wq x O;obtain⟨ks,u,L,z,o,F,h,bn⟩:=xsc b e bj O O i s a9 f O O O;obtain⟨G,am,ad,q,an⟩:=h.pick b e 2;obtain⟨b6,bt⟩:∃i:Nat,1+G=(i:Int):=⟨(1+G).toNat,O⟩;have b3:=wq bt O;have ce:12-C'-4*i<=ap-Q L:=by have:=F.2.2.2 O O;omega
   obtain⟨b5,ar,bo,h3,H,bb,p,al⟩:=q.exprs b e K b6;have g:=p.len b;exact⟨_,_,_,p.fin b (k:=5) (op:=0) (n:=i) (t:=⟨#[]⟩) (nm:=[]) (ks:=ks++b5) (jp lC li (λbl b4=>(List.mem_append.1 b4).elim (o bl) (H bl)) (h3:=by rw[aB];omega)),asK bx bD hn' bk A aL O bn an b3 O al z h3 g⟩
  case' inr.inr.inr.inr.inl=>
   obtain⟨E,s,B,r,y,f,A⟩:=l.sub b e a8;have g:=f.len b;refine⟨_,_,_,f.fin b (k:=6) (op:=0) (n:=0) (t:=⟨#[]⟩) (jp lC li (pl1 r)),?_⟩;clear f y
  case' inr.inr.inr.inr.inr.inl=>
   obtain⟨E,s,B,a,A⟩:=l.tail b e bf;have g:=l.len b;refine⟨E,s,B,⟨a.nx,a.n,a.z,a.p,a.p0,by have:=a.lf;omega⟩,?_⟩;clear a
  case' inr.inr.inr.inr.inr.inr.inl=>
   obtain⟨E,s,B,r,y,f,A⟩:=l.sub b e K;obtain⟨a0,u,L,ak,F,h,w⟩:=f.sub b e af;have g:=h.len b;refine⟨_,_,_,h.fin b (k:=8) (op:=0) (n:=0) (t:=⟨#[]⟩) (jp lC li (pl2 r ak)),?_⟩;clear f h y F
  case' inr.inr.inr.inr.inr.inr.inr.inl=>
   obtain⟨j,s,C,f,A⟩:=l.pick b e 2;obtain⟨i,x⟩:∃i:Nat,2+j=(i:Int):=⟨(2+j).toNat,O⟩;have aL:=wq x O;obtain⟨ks,u,L,h3,H,F,h,w⟩:=f.exprs b e K i;obtain⟨a0,am,a6,ak,a7,q,an⟩:=h.sub b e af;obtain⟨nm,ar,z,o,p,al⟩:=q.names b e 1;replace al:Rr e ap 169 [Y X 1] am a6 9 1 (nm.map A2) ar a6:=al;have g:=p.len b;refine⟨_,_,_,p.fin b (k:=9) (op:=0) (n:=0) (t:=⟨#[]⟩) (nm:=nm) (ks:=ks++[a0]) (jp lC o (H.add ak)),?_⟩;have bA:i<=1000:=O;clear f h q p F a7 C z o H x
  case' inr.inr.inr.inr.inr.inr.inr.inr.inl=>
   obtain⟨E,s,B,r,y,f,A⟩:=l.sub b e K;obtain⟨a0,u,L,ak,F,h,w⟩:=f.sub b e af;obtain⟨j,am,C,q,an⟩:=h.pick b e 2;obtain⟨i,x⟩:∃i:Nat,1+j=(i:Int):=⟨(1+j).toNat,O⟩;have aL:=wq x O;obtain⟨nm,ar,z,o,p,al⟩:=q.names b e i;have g:=p.len b;refine⟨_,_,_,p.fin b (k:=10) (op:=0) (n:=0) (t:=⟨#[]⟩) (nm:=nm) (jp lC o (pl2 r ak)),?_⟩;clear f h q p y F C z o x
  case' inr.inr.inr.inr.inr.inr.inr.inr.inr.inl=>
   obtain⟨j,s,C,f,A⟩:=l.pick b e 2;by_cases ag:j=0
   case' pos=>
    subst ag;obtain⟨G,u,ad,h,w⟩:=f.pick b e 2;have cg:=wi (a:=11+G) O;have g:=h.len b;refine⟨_,_,_,h.fin b (k:=11+G) (op:=0) (n:=0) (t:=⟨#[]⟩) (jp lC li pl0),?_⟩;clear h ad
   case' neg=>
    have bs:(j==0)=false:=by simpa using ag
    obtain⟨G,u,ad,h,w⟩:=f.pick b e 3;obtain⟨G,rfl⟩:=eJ ad.1;obtain⟨ks,am,a6,h3,H,a7,q,an⟩:=h.exprs b e K G;have g:=q.len b;refine⟨_,_,_,q.fin b (k:=13) (op:=0) (n:=0) (t:=⟨#[]⟩) (ks:=ks) (jp lC li H),?_⟩;clear h q a7 ad h3 H ag
   all_goals clear f C
  case' inr.inr.inr.inr.inr.inr.inr.inr.inr.inr.inl=>
   obtain⟨E,s,B,r,y,f,A⟩:=l.sub b e af;obtain⟨a0,u,L,ak,F,h,w⟩:=f.sub b e af;obtain⟨j,am,C,q,an⟩:=h.pick b e 2;obtain⟨i,x⟩:∃i:Nat,1+j=(i:Int):=⟨(1+j).toNat,O⟩;have aL:=wq x O;obtain⟨nm,ar,z,o,p,al⟩:=q.names b e i;have g:=p.len b;refine⟨_,_,_,p.fin b (k:=14) (op:=0) (n:=0) (t:=⟨#[]⟩) (nm:=nm) (jp lC o (pl2 r ak)),?_⟩;clear f h q p y F C z o x
  case' inr.inr.inr.inr.inr.inr.inr.inr.inr.inr.inr.inl=>
   obtain⟨j,s,C,f,A⟩:=l.pick b e 2;by_cases ag:j=0
   case' pos=>
    subst ag;obtain⟨E,u,L,a,w⟩:=f.tail b e af;have g:=f.len b;refine⟨E,u,L,⟨a.nx,a.n,a.z,a.p,a.p0,by have:=a.lf;omega⟩,?_⟩;clear a
   case' neg=>
    have bs:(j==0)=false:=by simpa using ag
    obtain⟨E,u,L,r,F,h,w⟩:=f.sub b e K;have g:=h.len b;refine⟨_,_,_,h.fin b (k:=15) (op:=0) (n:=0) (t:=⟨#[]⟩) (jp lC li (pl1 r)),?_⟩;clear h F ag
   all_goals clear f C
  case' inr.inr.inr.inr.inr.inr.inr.inr.inr.inr.inr.inr=>
   obtain⟨E,s,B,r,y,f,A⟩:=l.sub b e a8;have g:=f.len b;refine⟨_,_,_,f.fin b (k:=16) (op:=0) (n:=0) (t:=⟨#[]⟩) (jp lC li (pl1 r)),?_⟩;clear f y
  all_goals clear l b2
  all_goals (try rcases hn2 with rfl|rfl)
 all_goals
  clear b bE bw b0 b1 K bh bj a8 bg bf af;intro b7 ca b9 bc;have c:=bc.at
  have v:=c.cs;clear bc;go_in
  repeat' (go_wp2_with (at_builtin;with_reducible refine At.app c h3 bA rfl _ _ rfl rfl rfl ?_;clear c v;intro ba cc ao c;have v:=c.cs);first
   |(go_at_call 29;(first|with_reducible refine At.runC c lG ?_|with_reducible refine At.runC c.lit2 lG ?_|with_reducible refine At.runC c.lit1 lG ?_);clear c v;intro ao c _;have v:=c.cs)
   |(go_at_call 169;with_reducible refine At.runR c lG ?_;clear c v;intro ao ba br c;have v:=c.cs)
   |(go_at_call 170;with_reducible refine At.runR c lG ?_;clear c v;intro ao ba br c;have v:=c.cs)
   |(go_at_call 168;(first|with_reducible refine At.kids c.lit1 g.1.2 g.1.1 ?_|with_reducible refine At.kids c.lit2 g.1.2 g.1.1 ?_|with_reducible refine At.kids c.nilI g.1.2 g.1.1 ?_);clear c v;intro ao c;have v:=c.cs)
   |(go_at_call 171;(first|with_reducible refine At.add c.lit1.nilS g.1.2 g.1.1 ?_|with_reducible refine At.add c.lit2.nilS g.1.2 g.1.1 ?_|with_reducible refine At.add c.lit1.swap g.1.2 g.1.1 ?_|with_reducible refine At.add c.lit2.swap g.1.2 g.1.1 ?_|with_reducible refine At.add c.swap g.1.2 g.1.1 ?_|with_reducible refine At.add c g.1.2 g.1.1 ?_|with_reducible refine At.add c.nilS g.1.2 g.1.1 ?_|with_reducible refine At.add c.nilI.nilS g.1.2 g.1.1 ?_);clear c v;intro ao c;have v:=c.cs)
   |(go_ret;exact⟨rfl,c.bd,c.bel⟩)
   |(with_reducible refine At.run c lG ?_;clear c v;intro ao c;have v:=c.cs))
def aoj:FB 167 1 10 5 5 100:=an4 (mb:=3) (me:=2) (cb:=2) (ce:=1) Z Z Z (an1 (me:=2) (ce:=1) Z Z (EF Z)) (EF Z)
def adh(a:d<=0):FB 176 d 16 1 7 100:=ajo (ms:=15) (cs:=6) Z Z (aqH (C':=5) a Z Z aoj.up)
def anf:∀(b:Nat)(d:Int),b<=1000->d<=0-> -1000+(b:Int)<=d->FBl 175 d (17+b) 4 (10+((b / 2:Nat):Int)) b:=by
 intro b
 induction b using Nat.strongRecOn with
 |_ b e=>
  intro d f a g;rcases aH b 2 with hb2|hb2
  .refine Km (me:=2) (mk:=16) (mr:=15) (ce:=1) (ck:=7) (cr:=0) O O O (EF a) (adh O).up (λc=>O)
  refine Km (me:=2) (mk:=16) (mr:=15+b) (ce:=1) (ck:=7) (cr:=9+((b / 2:Nat):Int)) O O O (EF a) (adh O).up (λc=>?_);have:=e (b-2) O (d-1) O O O;rw[(O:((b-2:Nat):Int)=(b:Int)-2),(O:(17:Int)+((b:Int)-2)=15+b),(O:(10:Int)+(((b-2) / 2:Nat):Int)=9+((b / 2:Nat):Int))]at this;exact this
structure Lv (d m Ce Ck Cr:Int):Prop where
 e:FB 172 d m 1 Ce 0
 k:FB 176 d m 1 Ck 100
 r:FB 175 d m 4 Cr 100
def lv0:Lv 0 160 1 7 80:=⟨(EF Z).up,(adh Z).up,(FBl.all (anf 140 0 Z Z Z)).up⟩
def lvS{a b Cr cc cb:Int}(h:Lv d m a b Cr)(y:0<=d/\d<=10)(z:20<=m/\m<=1200)(v:1<=a/\1<=b/\1<=Cr:=by decide)(x:a+10<=cc/\b+1<=cc:=by decide)(w:cc+4<=cb/\b+3<=cb/\Cr+1<=cb/\cb<=3000:=by decide):FB 107 (d+1) (m+9) 6 (cb+5) 0/\Lv (d+1) (m+10) (cc+1) (cb+6) cb:=by
 have f:d+1-1=d:=O;have c:FB 172 (d+1-1) m 1 a 0:=by rw[f];exact h.e
 have j:FB 176 (d+1-1) m 1 b 100:=by rw[f];exact h.k
 have q:FB 175 (d+1-1) m 4 Cr 100:=by rw[f];exact h.r
 have g:FB 211 (d+1-1) (m+1) 2 (a+1) 0:=an1 O O c;have n:FB 167 (d+1) (m+3) 5 (a+1+3) 100:=an4 O O O g c;have t:FB 214 (d+1) (m+1) 10 (a+10) 100:=aqh O O O c;have o:FB 173 (d+1) (m+1) 2 (b+1) 100:=fnB (mk:=m) (ck:=b) O O O j.up;have i:FB 172 (d+1) (m+5) 1 (cc+1) 0:=apl (mc:=m+4) (cc:=cc) O O O c g n.up t.up o.up;have s:FB 174 (d+1) (m+2) 4 (a+1+3) 0:=amg O O O g c;have l:FB 175 (d+1) (m+6) 4 cb 100:=FBl.all (Km (me:=m+5) (mk:=m) (ce:=cc+1) (ck:=b) (mr:=m) (cr:=Cr) O O O i j.up (λ_=>λ_ _ _ _ u _=>q u));have hS:FB 107 (d+1) (m+9) 6 (cb+5) 0:=asL (mm:=m+7) O O O i.up o.up s.up n.up aoj.up l.up j.up;have p:FB 176 (d+1) (m+10) 1 (cb+5+1) 100:=ajo (ms:=m+9) (cs:=cb+5) O O hS;exact⟨hS,i.up,p.up,l.up⟩
def aks(g:1<=d/\d<=5):FB 107 d 220 6 130 0:=by
 have a:=lvS (cc:=11) (cb:=81) lv0 Z Z Z Z Z;have b:=lvS (cc:=88) (cb:=92) a.2 Z Z Z Z Z;have c:=lvS (cc:=99) (cb:=103) b.2 Z Z Z Z Z;have e:=lvS (cc:=110) (cb:=114) c.2 Z Z Z Z Z;have f:=lvS (cc:=121) (cb:=125) e.2 Z Z Z Z Z;rcases(O:d=1\/d=2\/d=3\/d=4\/d=5) with rfl|rfl|rfl|rfl|rfl
 .exact a.1.up
 .exact b.1.up
 .exact c.1.up
 .exact e.1.up
 .exact f.1.up
structure Tw (w:World) (lo:Nat) (v:Value) (M:List Mb):Prop where
 lw:Lw w lo v M
 sep:(bL M).Nodup
def TrP(C:Cd)(E:Bs)(W:World)(L:List Nd)(d:Cr)(e:Ending)(a:World):Prop:=∃(c b:Nat) (M:List Mb),e= .returned (.agg #[S (Ax ⟨c,0,V⟩) (Q L) b])/\M.map Mb.N=L/\Tw a E.base (S (Ax ⟨c,0,V⟩) (Q L) b) M/\Cu C E a d/\Below E.base W a
def Rt(C:Cd)(f:FuncId)(c:Cr)(L:List Nd)(a:Cr):Prop:=∀ ⦃E:Bs⦄ ⦃W:World⦄,Cu C E W c->Calls Tryz.prog f #[cV E] W (TrP C E W L a)
abbrev trR(q:Nat):Rwx:=⟨26,S (Ax ⟨q,0,V⟩) 1 1,[S V 0 0]⟩
section
variable {C : Cd} {T : Int} {E F : Bs} {W W' : World} {c : Cr} {M : List Mb}
def Cu.start{w1:World}(h:Cu C E w1 c)(T:Int){q:Nat}(g:w1.heap[q]?=Ax (A0 #[S V 0 0] 26 (0,0)))(e:E.base<=q):Bd C T ⟨E.base,E.cb,w1.heap.size,E.a0,E.cap⟩ (w1.alloc (A0 #[cV E,S V 0 0,Y X T] 184)) c [] [trR q]:=by
 have d:=de w1 (A0 #[cV E,S V 0 0,Y X T] 184);have a:=h.below d;have f:w1.ownsRow E.base 26 1 (S (Ax ⟨q,0,V⟩) 1 1) 1 [S V 0 0]:=⟨rfl,.inr ⟨q,1,#[S V 0 0],rfl,e,g,cJ,py,rfl,rfl⟩⟩;refine⟨⟨a.lo,a.code,a.cur⟩,h.lo.2,⟨S V 0 0,?_,dA _ _ _ _⟩,λi b=>(by cases b),λi b=>?_,?_⟩
 .simpa using ay w1 (A0 #[cV E,S V 0 0,Y X T] 184)
 .rw[List.mem_singleton.1 b];exact⟨by show TO 26;decide,bz f d⟩
 .simp[bR,bL,A3]
def Bd.ans{q:Nat}(h:Bd C T F W c M [trR q]):W.heap[q]?=Ax (A0 #[S V 0 0] 26 (0,0))/\q≠F.bb:=by
 have j:=(h.rows _ bH).2;have b:W.heap[q]?=Ax (A0 #[S V 0 0] 26 (0,0)):=by
  rcases j.2 with⟨a,_⟩|⟨m,l,d,a,_,i,n,o,e,f⟩
  .cases a
  .cases a;have:d.toList=[S V 0 0]:=by
    have g:d.toList.take (1*1)=[S V 0 0]:=f;rw[<-g,dH];rw[mJ,e];exact ix _
   rw[i,Array.toList_inj.1 (this.trans rfl:d.toList=(#[S V 0 0]:Array Value).toList)]
 have⟨p,k,_⟩:=h.row;refine⟨b,λa=>?_⟩;rw[a,k]at b;simp only[iL,tH]at b;exact absurd b.2.1 Z
def Bd.done{q:Nat}{v:Value}(h:Bd C T F W c M [trR q])(e:W.cell? ⟨F.bb,1,V⟩=Ax v):Tw (W.setCell ⟨q,0,V⟩ v) F.base v M/\Cu C F (W.setCell ⟨q,0,V⟩ v) c/\Below F.base W (W.setCell ⟨q,0,V⟩ v)/\(W.setCell ⟨q,0,V⟩ v).heap[q]?=Ax (A0 #[v] 26 (0,0)):=by
 have⟨k,j⟩:=h.ans;have⟨d,f,p2⟩:=h.row;obtain rfl:d=v:=by
  rw[au _ _ _ _ _ _ f]at e;exact cC e
 obtain⟨a,g⟩:=h.hot (r':=⟨26,S V 0 0,[]⟩) (AC (rq W q) 0 d) (by show TO 26;decide) (dA _ _ _ _) (λn i=>by cases i);have⟨m,b,l⟩:=a.row;obtain rfl:m=d:=by
  rw[az _ _ _ _ j.symm,f]at b;simp at b;exact b.symm
 exact⟨⟨⟨l,a.each⟩,by simpa [bR,A3] using a.sep⟩,a.cu,g,aI _ q 0 _ _ _ k⟩
def Bd.root{wr e:World}{q f j:Nat}{b i:Option Addr}{ks:List Int}{s:Value}(o:Bd C T F wr c M (rS (S V 0 0) []::rI (S b (Q ks) f) ks::[trR q]))
  (n:wr.heap[F.bb]?=Ax (A0 #[cV F,S i (Q M) j,Y X (T-Q M)] 184 (0,0)))
  (l:e.ownsRow F.base 100 9 s (Q M+1) (oa M++(xF (dN 1 0 0 ⟨#[]⟩ [] ks) (S V 0 0) (S b (Q ks) f)).toList))
  (H:(wr.alloc (A0 (xF (dN 1 0 0 ⟨#[]⟩ [] ks) (S V 0 0) (S b (Q ks) f)) 100)).grownBy e (Value.slice i (Q M) j).ownBlock):
  ∃d a,s= S (Ax ⟨d,0,V⟩) (Q M+1) a/\(e.cell? ⟨F.bb,1,V⟩=Ax (S i (Q M) j)/\e.frozen? ⟨F.bb,1,V⟩=false)/\(e.cell? ⟨q,0,V⟩=Ax (S V 0 0)/\e.frozen? ⟨q,0,V⟩=false)/\q≠F.bb/\F.bb≠q/\
   Hid (∀g,g=(e.setCell ⟨F.bb,1,V⟩ (S (Ax ⟨d,0,V⟩) (Q M+1) a)).setCell ⟨q,0,V⟩ (S (Ax ⟨d,0,V⟩) (Q M+1) a)->Tw g F.base (S (Ax ⟨d,0,V⟩) (Q M+1) a) (M++[⟨dN 1 0 0 ⟨#[]⟩ [] ks,S V 0 0,S b (Q ks) f⟩])/\Cu C F g c/\Below F.base wr g/\g.heap[q]?=Ax (A0 #[S (Ax ⟨d,0,V⟩) (Q M+1) a] 26 (0,0))):=by
 have k:=de wr (A0 (xF (dN 1 0 0 ⟨#[]⟩ [] ks) (S V 0 0) (S b (Q ks) f)) 100);have G:=o.below k;have K:=(k.block _ (ah n)).trans n;rcases bm l with⟨L,_⟩|⟨d,a,rfl⟩
 .omega
 have E:oa M++(xF (dN 1 0 0 ⟨#[]⟩ [] ks) (S V 0 0) (S b (Q ks) f)).toList=oa (M++[⟨dN 1 0 0 ⟨#[]⟩ [] ks,S V 0 0,S b (Q ks) f⟩]):=by rw[vG];show _=oa M++(cMb _++[]);rw[dD];rfl
 rw[E]at l;have A:T+1-1=T:=O;have B:T+1-(Q M:Int)-1=T-Q M:=O;obtain⟨r,u,m⟩:=Bd.push (T:=T+1) (N:=dN 1 0 0 ⟨#[]⟩ [] ks) (by rw[A];exact G) (by rw[B];exact K) rfl l H;have⟨t,h⟩:=r.ans;have p:e.heap[q]?=Ax (A0 #[S V 0 0] 26 (0,0)):=(az _ _ _ _ h).symm.trans t;refine⟨d,a,rfl,⟨by rw[au _ _ _ _ _ _ m];rfl,cD _ _ _ _ _ m⟩,⟨by rw[au _ _ _ _ _ _ p];rfl,cD _ _ _ _ _ p⟩,h,h.symm,?_⟩;rintro g rfl;obtain⟨w,x,y,z⟩:=r.done (v:= S (Ax ⟨d,0,V⟩) (Q M+1) a) (by rw[au _ _ _ _ _ _ (aI _ F.bb 1 _ _ _ m)];rfl);exact⟨w,x,((k.mono o.lt.2.2.1).trans u).trans y,z⟩
end
structure Td (c:Cr) (L:List Nd) (c':Cr):Prop where
 nd:∀N∈L,Do N
 n:L≠[]/\Q L<=265
 p:0<=c'.p/\c'.p<=20000000
 r:0<=c'.r/\c.r+bigs L<=c'.r/\(c.r<=3->c'.r<=3)
def aqI(C:Cd)(c:Cr)(bp:0<=c.p/\c.p<=100)(cx:0<=c.r):∃L a6,Td c L a6/\Rt C 60 c L a6:=by
 obtain⟨k,cc,bx,cg,cI⟩:=gi C c 120 Z Z bp.1 O;obtain⟨am,cd,bk,ch,c0⟩:=gi C cc 5;obtain⟨H,ak,bn,ck,c7⟩:=gi C cd 8;obtain⟨H,rfl⟩:=eJ bn.1;have p:Pd (20+k) ak [] 221:=⟨O,byT,byT,Z,O⟩;obtain⟨v,a7,ad,d6,bs,bd,A,w⟩:=bkc p C (aks (d:=1+am) O) Z Z Z H ak [] p.mv;simp only[fx]at bd;have ct:Q ad<=264:=O;have br:=A.p;simp only[fx]at br;have bf:Do (dN 1 0 0 ⟨#[]⟩ [] v):=jp lC li bs;obtain⟨dn,E,bA,c9,dc⟩:=A.nx.add bf (by rw[ael (show(dN 1 0 0 ⟨#[]⟩ [] v).x.size<=19 from iz _)];exact Int.le_of_eq (Int.add_zero _)) id;rw[dI]at E;have cl:=A.p0;refine⟨ad++[dN 1 0 0 ⟨#[]⟩ [] v],a7,⟨by rw[E];exact bA,⟨I,byT⟩,O,by rw[E];omega⟩,λb j n=>?_⟩;have ef:=wi (a:=20+k) O;have ee:=wi (a:=1+am) O;have ea:H<=7:=O;have d2:=bk.1;have eg:=bx.1;clear bA c9 dc E A p bd br bf bs cg ch ck bk bx bn cl bp cx;have a:=n.cw;go_in;go_wp2_with fail;refine a.al.run cI λw1 q m=>?_;have G:=(m.block j.heap.size I (λl=>by have:=n.lt;have:=cC l;omega)).trans (ay j _);have cr:=q.cu.lt;have cm:b.base<=j.heap.size:=n.lo.2;have o:=q.cu.start (20+k) G cm;have bg:Below b.base j w1:=vz q.gr n.lo.1 n.lo.2;have bh:=bg.trans ((de w1 (A0 #[cV b,S V 0 0,Y X (20+k)] 184)).mono q.cu.lo.2);have y:=aj bh;clear a G m bg bh n q;go_wp2_with fail;obtain⟨g,hF⟩:=aw (⟨b.base,b.cb,w1.heap.size,b.a0,b.cap⟩:Bs);have u:g.base=b.base/\g.cb=b.cb/\w1.heap.size=g.bb/\g.a0=b.a0/\g.cap=b.cap:=by rw[<-hF];exact⟨rfl,rfl,rfl,rfl,rfl⟩
 rw[hF]at o;have bc:cV b=cV g:=by show Value.pointer _=Value.pointer _;rw[u.2.1]
 have f:=In.at (R:=[trR j.heap.size]) ⟨[],rfl,o⟩;rw[<-u.1]at y;generalize (w1.alloc _)=b9 at f y⊢;rw[u.2.2.1,bc];have b5:=aj u;clear o hF bc u cr;have cq:=y.out;refine f.runC c0 λdg s _=>?_;clear f;go_wp2_with fail;refine s.runC c7 λdk B _=>?_;have a3:=aj B.nilI;clear s B cq;go_wp2;go_loopw [5,6] (λbE ar wr=>∃(e:Nat) (i ap:List Int) (t:Cr) (af:List Nd),ar= Y X e/\Q i+e<=7/\At C (20+k) g b9 wr t af (rI bE i::[trR j.heap.size])/\Bkc C (20+k) (1+am) e t af ap a7 ad/\i++ap=v) (λ_ ar _=>(intOf ar).toNat)
 case atStart=>exact⟨H,[],v,ak,[],rfl,byT,a3.out,w,rfl⟩
 case round=>
  clear a3 w;obtain⟨e,i,ap,t,af,rfl,ao,f,o,l⟩:=hrel;have a9:=f.cs;cases o with
  |@cons e _ ce _ _ b8 _ dl c8 d1 b6 b0=>
   have d3:(0:Int)<((e+1:Nat):Int):=O;have ed:IntKind.i64.wrap (((e+1:Nat):Int)-1)=(e:Int):=by rw[bJ];omega
   have K:=fD ao l;have d4:e<=7:=O;clear ao l;go_wp2_with fail;refine f.run b6 λdg s=>?_;have w:=aj s;clear f s a9;go_wp2_with (at_builtin;refine w.out.app rfl (by have:=K.1;omega) rfl _ _ rfl rfl rfl ?_;intro a2 ba dk B);go_roundw
   case rel=>exact⟨e,i++[dl],c8,ce,b8,by go_num,by have:=K.1;simp;omega,B,b0,by rw[eB];exact K.2⟩
   case measure=>simp[intOf]
  |stop bt=>
   rw[dD]at l;subst l;obtain⟨a5,a8,rfl⟩:=f.form;rw[dr]at f⊢;obtain⟨⟨ag,rfl,F⟩,bj⟩:=f.nilS;rw[dr]at ct a9 bt;obtain⟨bE,m,an⟩:=F.row;obtain⟨a2,ba,rfl⟩:=cG an;have dq:wr.cell? ⟨g.bb,1,V⟩=Ax (S a2 (Q ag) ba):=by rw[au _ _ _ _ _ _ m];rfl
   have z:=Dy F m an (y.out.trans bj);have d8:=F.lt;obtain⟨cy,cz,cA,cB,cF⟩:=eC Aa;clear f m an F bj;have G:(0<(e:Int)/\¬5<20+k-Q ag)\/¬0<(e:Int):=O;clear bt ao;rcases G with⟨q1,eh⟩|q1;all_goals
    go_wp2_with (at_builtin;refine wpList_append_own_at _ rfl _ _ 24 rfl g.base 100 cy _ 9 112 Tryz.underlying24 cz cA cB cF rfl Z _ _ _ rfl (bz z.2.2.1 (de wr _)) ⟨wr.heap.size,0,V⟩ 1 1 (xF (dN 1 0 0 ⟨#[]⟩ [] i) (S V 0 0) (S a5 (Q i) a8)).toList rfl rfl (World.news_of_block (ay wr _)) (by intro ei bw;simp at bw;rcases bw with rfl|rfl|rfl|rfl|rfl|rfl|rfl|rfl|rfl<;>rfl) py O byT ?_;intro ek el bo bl _ cn;obtain⟨cf,t,rfl,ds,d0,eb,d9,b1⟩:=z.1.root z.2.1 bo bl;clear bo bl cn);obtain⟨bD,aL,ca,df⟩:=b1.out _ rfl;have h:=b5.out;rw[h.1]at bD;exact aD (fE rfl _ _ j.heap.size _ _ _ _ rfl df Tryz.underlying26 rfl J) rfl ⟨cf,t,ag++[⟨dN 1 0 0 ⟨#[]⟩ [] i,S V 0 0,S a5 (Q i) a8⟩],I,I,by simpa using bD,⟨by rw[<-h.1,<-h.2.1];exact aL.lo,by rw[<-h.1,<-h.2.2.2.1];exact aL.code,by have:=aL.cur;unfold cuO at this;rw[h.2.1,h.2.2.2.1,h.2.2.2.2]at this;exact this⟩,by have:=z.2.2.2.trans ca;rw[h.1]at this;exact this⟩
