import Derived.Test.YtiaechpcebhcdaaGreatDoorHYk02
import Derived.Test.YtiaechpcebhcdaaGreatDoorHYk06
import Derived.WalkSmall
set_option linter.all false
set_option maxRecDepth 100000
set_option maxHeartbeats 25600000
open Go.Proofs.Tryz
open List renaming length->M,set->Fs
open Option renaming some->Ax,none->A3
open Go.Value renaming int->A0,slice->A5,ownBlock->B1,string->B3,string->B7,agg->E0,pointer->E1,int->E2,bool->F1
open Go.IntKind renaming i64->A2
open Go renaming Value->A6,World->A9,Program->Ce,TypeId->C2,Calls->D3,KeepsFrom->F0
open Go.Proofs.Tryz renaming prog->Br
open Go.Ending renaming returned->B0
open Bool renaming true->B2,false->Ck
open Go.World renaming putObj_heap_other->B4,setCell->F2
open Go.RowKit renaming Hid->B5,Below->D4
open Go.Obj renaming cells->B6
open Go.Fence renaming wide->Ed
namespace Go.Proofs.YtiaechpcebhcdaaGreatDoor
open Go.RowKit
variable{C:Nat->Bool}{K:Act->World->Prop}{Q:Exit->Act->World->Prop}{S S2:World->Prop}{W W' w w':World}{a:Act}{base e g hi i l lo n s:Nat}{md:Region.Mode}{o:Oper}{ops:Array Oper}{p r:Nat×TypeId×Array Value}{u v:Value}{xs:List Value}
structure Nb where
 N:Nd
 g:Nat
 h:Nat
def Nb.vn(x:Nb):A6:= A5 (Ax ⟨x.g,0,A3⟩) (M x.N.nm) (M x.N.nm)
def Nb.vk(x:Nb):A6:= A5 (Ax ⟨x.h,0,A3⟩) (M x.N.ks) (M x.N.ks)
def cNb(x:Nb):List A6:=[A0 A2 x.N.k,A0 A2 x.N.f,A0 A2 x.N.t,A0 A2 x.N.l,A0 A2 x.N.op,A0 A2 x.N.n,B3 x.N.x,x.vn,x.vk]
def ab3(l:List Nb):List A6:=l.flatMap cNb
def zc:List A6:=[A0 A2 0,A0 A2 0,A0 A2 0,A0 A2 0,A0 A2 0,A0 A2 0,B3 ⟨#[]⟩,A5 A3 0 0,A5 A3 0 0]
theorem Lu(l:List Nb):M (ab3 l)=M l*9:=by
 induction l with
 |nil=>rfl
 |cons a b d=>
  have c:ab3 (a::b)=cNb a++ab3 b:=by rfl
  have e:M (cNb a)=9:=rfl;grind
structure D8 (W:A9) (base:Nat) (x:Nb):Prop where
 on:W.ownsRow base 9 1 x.vn (M x.N.nm) (x.N.nm.map B7)
 ok:W.ownsRow base 3 1 x.vk (M x.N.ks) (x.N.ks.map (E2 .i64))
def D8.below{x:Nb}(h:D8 W base x)(a:D4 W.heap.size W W'):D8 W' base x:=⟨bz h.on a,bz h.ok a⟩
theorem D8.set{x:Nb}(h:D8 W base x){a:Addr}(b:x.g≠a.block)(c:x.h≠a.block)(u:A6):D8 (W.setCell a u) base x:=
 ⟨ownsRow_setCell_other h.on (by unfold Nb.vn B1;grind) u,ownsRow_setCell_other h.ok (by unfold Nb.vk B1;grind) u⟩
structure sf (W:A9) (base g n:Nat) (L:List Nb) (rest:List A6):Prop where
 row:W.ownsRow base 100 9 (.slice (Ax ⟨g,0,A3⟩) n n) n (ab3 L++rest)
 each:∀x∈L,D8 W base x
 dn:(L.map Nb.g).Nodup
 dk:(L.map Nb.h).Nodup
def sf.below{L:List Nb}{b:List A6}(h:sf W base g n L b)(a:D4 W.heap.size W W'):sf W' base g n L b:=
 ⟨bz h.row a,λd c=>(h.each d c).below a,h.dn,h.dk⟩
def sf.le{b:Nat}{L:List Nb}{d:List A6}(h:sf W base g n L d)(a:b<=base):sf W b g n L d:=
 ⟨nK h.row a,λe c=>⟨nK (h.each e c).on a,nK (h.each e c).ok a⟩,h.dn,h.dk⟩
theorem aly(ts:List Nb)(i j:Nat)(T:Nb)(d:ts[i]?=Ax T)(e:j<9):(ab3 ts)[i*9+j]?=(cNb T)[j]?:=by
 induction ts generalizing i with
 |nil=>grind
 |cons a b f=>
  have c:ab3 (a::b)=cNb a++ab3 b:=by rfl
  have g:M (cNb a)=9:=rfl;grind
theorem G4(g m:Nat):(⟨g,0,A3⟩:Addr).add m=⟨g,m,A3⟩:=by unfold Addr.add;grind
theorem sf.nd{L:List Nb}(h:sf W base g n L []){x:Nb}(d:L[i]?=Ax x):abz W ⟨g,i*9,A3⟩ x.N x.vn x.vk:=by
 have j:n*9=M L*9:=by have:=h.row.1;rw[dD,Lu]at this;omega
 have f:i<M L:=U;have a:∀b,b<9->W.cell? ⟨g,i*9+b,A3⟩=(cNb x)[b]?:=λb e=>by
  rw[h.row.cellAt (i*9+b) O,dD,aly L i b x d e]
 have c:=da d;exact⟨a 0 O,a 1 O,a 2 O,a 3 O,a 4 O,a 5 O,a 6 O,a 7 O,a 8 O,KJ (h.each x c).on rfl,KL (h.each x c).ok rfl⟩
theorem sf.nds{L:List Nb}(h:sf W base g n L []):fj W (A5 (Ax ⟨g,0,A3⟩) n n) (L.map Nb.N):=by
 have c:n=M (L.map Nb.N):=by have:=h.row.1;rw[dD,Lu]at this;grind
 refine .inr ⟨⟨g,0,A3⟩,n,U,λb N a=>?_⟩;rw[dw]at a;cases hx:L[b]? with
 |none=>grind
 |some d=>
  rw[hx]at a;obtain rfl:=cC a;rw[G4];exact⟨_,_,h.nd hx⟩
structure Mb where
 N:Nd
 vn:A6
 vk:A6
def cMb(x:Mb):List A6:=[A0 A2 x.N.k,A0 A2 x.N.f,A0 A2 x.N.t,A0 A2 x.N.l,A0 A2 x.N.op,A0 A2 x.N.n,B3 x.N.x,x.vn,x.vk]
def oa(l:List Mb):List A6:=l.flatMap cMb
def G5(a:Mb)(r:List Mb):oa (a::r)=cMb a++oa r:=by rfl
def vG(a b:List Mb):oa (a++b)=oa a++oa b:=by simp[oa]
def ahB(l:List Mb):M (oa l)=M l*9:=by
 induction l with
 |nil=>rfl
 |cons a d b=>
  have c:M (cMb a)=9:=rfl;rw[G5,aB,b,c,db];omega
theorem alz(ts:List Mb)(i j:Nat)(T:Mb)(b:ts[i]?=Ax T)(c:j<9):(oa ts)[i*9+j]?=(cMb T)[j]?:=by
 induction ts generalizing i with
 |nil=>grind
 |cons a f d=>
  have e:M (cMb a)=9:=rfl;rw[G5];grind
def ahC(c:List A6):Prop:=∀(i j:Nat)(a b:A6),i≠j->c[i]?=Ax a->c[j]?=Ax b->a.ownBlock=A3\/a.ownBlock≠b.ownBlock
structure G6 (W:A9) (lo hi:Nat) (x:Mb):Prop where
 on:W.ownsRow lo 9 1 x.vn (M x.N.nm) (x.N.nm.map B7)
 ok:W.ownsRow lo 3 1 x.vk (M x.N.ks) (x.N.ks.map (E2 .i64))
 hn:∀g,x.vn.ownBlock=Ax g->g<hi
 hk:∀g,x.vk.ownBlock=Ax g->g<hi
structure qw (W:A9) (lo hi:Nat) (v:A6) (L:List Mb):Prop where
 row:W.ownsRow lo 100 9 v (M L) (oa L)
 hh:∀g,v.ownBlock=Ax g->g<hi
 each:∀x∈L,G6 W lo hi x
 dn:ahC (L.map Mb.vn)
 dk:ahC (L.map Mb.vk)
def G6.below{x:Mb}(h:G6 W lo hi x)(a:D4 W.heap.size W W'):G6 W' lo hi x:=⟨bz h.on a,bz h.ok a,h.hn,h.hk⟩
def qw.below{L:List Mb}(h:qw W lo hi v L)(a:D4 W.heap.size W W'):qw W' lo hi v L:=
 ⟨bz h.row a,h.hh,λc b=>(h.each c b).below a,h.dn,h.dk⟩
structure Mid (lo hi:Nat) (w w':A9):Prop where
 os:w'.os=w.os
 tape:w'.tape=w.tape
 output:w'.output=w.output
 size:w.heap.size<=w'.heap.size
 block:∀k,k<w.heap.size->(k<lo\/hi<=k)->w'.heap[k]?=w.heap[k]?
def Mid.refl(lo a:Nat)(w:A9):Mid lo a w w:=⟨rfl,rfl,rfl,cJ,λ_ _ _=>rfl⟩
def Mid.trans{x c z:A9}(h:Mid lo hi x c)(k:Mid lo hi c z):Mid lo hi x z:=
 ⟨k.os.trans h.os,k.tape.trans h.tape,k.output.trans h.output,aK h.size k.size,λb hi a=>(k.block b (gF hi h.size) a).trans (h.block b hi a)⟩
theorem Mid.kept(h:Mid lo hi w w'){size:Nat}(o:w.ownsRow base e size v n xs)(l:hi<=base):w'.ownsRow base e size v n xs:=by
 obtain⟨g,b⟩:=o;refine⟨g,?_⟩;rcases b with b|⟨a,d,f,j,i,c,k⟩
 .grind
 .exact .inr ⟨a,d,f,j,i,(h.block a (ah c) (.inr O)).trans c,k⟩
def Mid.bel{c:A9}(h:Mid lo hi w w')(a:D4 base c w)(e:base<=lo)(f:base<=w.heap.size):D4 base c w':=
 ⟨h.os.trans a.os,h.tape.trans a.tape,h.output.trans a.output,aK a.size h.size,λb d=>(h.block b O (.inl O)).trans (a.block b d)⟩
def AI{l:List Bz}(h:W.ownsRow base 9 1 v (M l) (l.map B7)):dv W v l:=by
 rcases bm h with⟨a,rfl⟩|⟨c,b,rfl⟩
 .exact .inl ⟨tG a,_,_,rfl⟩
 .exact KJ h rfl
def sL{l:List Int}(h:W.ownsRow base 3 1 v (M l) (l.map (E2 A2))):dz W v l:=by
 rcases bm h with⟨a,rfl⟩|⟨c,b,rfl⟩
 .exact .inl ⟨tG a,_,_,rfl⟩
 .exact KL h rfl
theorem td{cap:Nat}{L:List Mb}(h:W.ownsRow lo 100 9 (A5 (Ax ⟨g,0,A3⟩) n cap) n (oa L)){x:Mb}(d:L[i]?=Ax x):
  W.cell? ⟨g,i*9,A3⟩=Ax (A0 A2 x.N.k)/\W.cell? ⟨g,i*9+1,A3⟩=Ax (A0 A2 x.N.f)/\W.cell? ⟨g,i*9+2,A3⟩=Ax (A0 A2 x.N.t)/\W.cell? ⟨g,i*9+3,A3⟩=Ax (A0 A2 x.N.l)/\W.cell? ⟨g,i*9+4,A3⟩=Ax (A0 A2 x.N.op)/\W.cell? ⟨g,i*9+5,A3⟩=Ax (A0 A2 x.N.n)/\W.cell? ⟨g,i*9+6,A3⟩=Ax (B3 x.N.x)/\W.cell? ⟨g,i*9+7,A3⟩=Ax x.vn/\W.cell? ⟨g,i*9+8,A3⟩=Ax x.vk:=by
 have j:n*9=M L*9:=by have:=h.1;rw[ahB]at this;omega
 have e:i<M L:=U;have a:∀b,b<9->W.cell? ⟨g,i*9+b,A3⟩=(cMb x)[b]?:=λb c=>by
  rw[h.cellAt (i*9+b) O,alz L i b x d c]
 exact⟨a 0 O,a 1 O,a 2 O,a 3 O,a 4 O,a 5 O,a 6 O,a 7 O,a 8 O⟩
theorem qw.nds{L:List Mb}(h:qw W lo hi v L):fj W v (L.map Mb.N):=by
 rcases bm h.row with⟨q,rfl⟩|⟨o,n,rfl⟩
 .exact .inl ⟨U,_,_,rfl⟩
 .refine .inr ⟨⟨o,0,A3⟩,n,U,λp N a=>?_⟩;rw[dw]at a;cases hx:L[p]? with
  |none=>grind
  |some b=>
   rw[hx]at a;obtain rfl:=cC a;rw[G4];have⟨d,e,f,g,i,j,k,l,m⟩:=td h.row hx;have c:=h.each b (da hx);exact⟨b.vn,b.vk,d,e,f,g,i,j,k,l,m,AI c.on,sL c.ok⟩
def nxt(K:Nat)(N:Nd):Nat:=K+7+M N.nm+M N.ks
def cnt:Nat->List Nd->Nat
 |K,[]=>K
 |K,N::r=>cnt (nxt K N) r
def ahD(a B:List Nd):∀K,cnt K (a++B)=cnt (cnt K a) B:=by
 induction a with
 |nil=>intro K;rfl
 |cons d c b=>intro K;simp[cnt,b]
def ahE(B:Nat)(W:A9)(Z1 X:A9->Prop):Exit->Act->A9->Prop
 | .normal,_,W'=>F0 B W W'/\Z1 W'
 | .ret,_,W'=>F0 B W W'/\X W'
 |_,_,_=>False
theorem xn{P:Ce}{g:Operand}{ps:Array Tmp}{assign body:Go.Code}{gf:Nat}{lb:Array A6}
  (a2:a.eval g= .func (.func gf) #[] lb) (am:∀args w,(callFunc gf args).run P w= .ok (.enter gf args) w) (enc:Nat->Array A6) (bk:∀x,(enc x).size=ps.size) (s:Nat)
  (Z1:Nat->A9->Prop) (u:Nat->Act->A9->Prop) (X:A9->Prop)
  (al:∀m W r o,Z1 m W->W.heap[w.heap.size+1]?=Ax (.loop r)->Z1 m (W.putObj (w.heap.size+1) o))
  (a8:∀m c W r o,u m c W->W.heap[w.heap.size+1]?=Ax (.loop r)->u m c (W.putObj (w.heap.size+1) o)) (ak:∀W r o,X W->W.heap[w.heap.size+1]?=Ax (.loop r)->X (W.putObj (w.heap.size+1) o))
  (an:∀b,D4 w.heap.size w b->b.heap.size=w.heap.size+2->Z1 s b)
  (ar:∀(l m:Nat) W (K:Act->A9->Prop),m<s->Z1 (m+1) W->(∀c W',u m c W'->F0 w.heap.size W W'->K c W')->
   assign.wpIn (Fence.wide.inRound l) (n-1-1) P (Exit.then K (λ_ _ _=>False)) {tmps:=(ps.zip (enc m)).foldl (λt (p,v)=>t.setIfInBounds p v) a.tmps,defers:=[]} W)
  (av:∀(l m:Nat) c W,m<s->u m c W->body.wpIn (Fence.wide.inRound l) (n-1-1) P (ahE w.heap.size W (Z1 m) X) c W)
  (a7:∀(l:Nat)(h:Nat->A9->Prop)(G:A9->Prop),(∀m W,h m W->Z1 m W)->
   (∀m W,m<s->h (m+1) W->YieldAt Ed (n-1-1) P l (enc m) W λe W'=>(e= B0 (F1 B2)/\h m W')\/(e= B0 (F1 Ck)/\G W'))->
   ∀W,h s W->CallsIn Ed (n-1) P gf (#[.func (.yield l) #[] #[]]++lb) W λe W'=>(∃v,e= B0 v)/\(h 0 W'\/G W'))
  (a0:∀W,Z1 0 W->W.heap[w.heap.size]?=Ax (.deferred (Ax []))->Q .normal {a with defers:={target:= .collected w.heap.size,args:=#[]}::a.defers} W)
  (a6:∀W,X W->W.heap[w.heap.size]?=Ax (.deferred (Ax []))->Q .ret {a with defers:={target:= .collected w.heap.size,args:=#[]}::a.defers} W):
  (Go.Code.rangeFunc g ps assign body).wpIn Ed n P Q a w:=by
 apply wpIn_rangeFunc;intro fn a1;show ∃l bl bn bf bo bg args bp,(Instr.enterLoop fn a.tmps ps assign body A3).run P w=_/\_;obtain⟨rc,q⟩:∃rc:LoopState->Option Go.Code->Loop,rc=λba a9=>{state:=ba,pending:=a9,fn,tmps:=a.tmps,params:=ps,assign,body,defers:=w.heap.size}:=⟨_,rfl⟩;have A:=run_enterLoop_outer (P:=P) (w:=w) fn a.tmps ps assign body;rw[show({state:= .ready,pending:=A3,fn,tmps:=a.tmps,params:=ps,assign,body,defers:=w.heap.size}:Loop)=rc .ready A3 by rw[q]]at A;have⟨b,i⟩:=aw ((w.alloc (.deferred (Ax []))).alloc (.loop (rc .ready A3)));rw[i]at A;have a4:b.heap[w.heap.size+1]?=Ax (.loop (rc .ready A3)):=by
  rw[<-i];have:=World.alloc_heap_new (w.alloc (.deferred (Ax []))) (.loop (rc .ready A3));simp_all
 have aL:b.heap[w.heap.size]?=Ax (.deferred (Ax [])):=by
  rw[<-i];exact(dG _ _ _ I).trans (World.alloc_heap_new w _)
 refine⟨w.heap.size+1,[{target:= .collected w.heap.size,args:=#[]}],b,{target:= .fn (.func gf) lb,args:=#[.func (.yield (w.heap.size+1)) #[] #[]]},b,gf,
  #[.func (.yield (w.heap.size+1)) #[] #[]]++lb,b,A,?_,?_,?_,λy=>by simp[Ed]at y,?_⟩
 .simp only[resolve,a2];simp[go_sem]
 .intro bh bj;trivial
 .simp[invoke,go_sem,am]
 .refine(a7 (w.heap.size+1) (λm W=>Z1 m W/\W.heap[w.heap.size+1]?=Ax (.loop (rc .ready A3))/\W.heap[w.heap.size]?=Ax (.deferred (Ax [])))
   (λW=>X W/\W.heap[w.heap.size+1]?=Ax (.loop (rc .done (Ax .ret)))/\W.heap[w.heap.size]?=Ax (.deferred (Ax []))) (λ_ _ y=>y.1) ?_ b ⟨an b (by rw[<-i];exact((ai _ w).alloc cJ _).alloc I _) (by rw[<-i];simp),a4,aL⟩).mono ?_
  .rintro m W af ⟨z,d,j⟩;have ag:=run_yield (P:=P) (args:=enc m) d U;rw[q]at ag;refine⟨fn,_,assign,body,ag,roundIn_of_wpIn a1 (ar _ m W _ af z λc W' ao L=>?_)⟩;have B:=L.same _ _ O d rfl;have a5:w.heap.size+1<W'.heap.size:=(Array.getElem?_eq_some_iff.1 B).1;refine⟨_,run_beginRound B (by rw[q]),?_⟩;have ad:(W'.putObj (w.heap.size+1) (.loop {rc .ready A3 with state:= .busy})).heap[w.heap.size+1]?=Ax (.loop {rc .ready A3 with state:= .busy}):=World.putObj_heap_same a5;have H:(W'.putObj (w.heap.size+1) (.loop {rc .ready A3 with state:= .busy})).heap[w.heap.size]?=Ax (.deferred (Ax [])):=(B4 O).trans (L.same _ _ cJ j rfl);apply wpIn_mono (av _ m c _ af (a8 _ _ _ _ _ ao B));rintro e bd bc E;cases e with
   |normal=>
    obtain⟨k,F⟩:=E;have f:=k.same _ _ O ad rfl;have C:=(Array.getElem?_eq_some_iff.1 f).1;refine⟨_,_,run_endRound (P:=P) A3 f,.inl ⟨rfl,al _ _ _ _ F f,?_,(B4 O).trans (k.same _ _ cJ H rfl)⟩⟩;rw[World.putObj_heap_same C];grind
   |ret=>
    obtain⟨k,F⟩:=E;have f:=k.same _ _ O ad rfl;have C:=(Array.getElem?_eq_some_iff.1 f).1;refine⟨_,_,run_endRound (P:=P) (Ax .ret) f,.inr ⟨rfl,ak _ _ _ F f,?_,(B4 O).trans (k.same _ _ cJ H rfl)⟩⟩;rw[World.putObj_heap_same C];grind
   |_=>exact E.elim
  .rintro e bb ⟨⟨v,rfl⟩,⟨z,d,j⟩|⟨ap,d,j⟩⟩
   .refine⟨A3,_,by have:=run_endLoop (P:=P) d U;rw[q]at this;omega,?_⟩;exact a0 _ (al _ _ _ _ z d) ((B4 O).trans j)
   .refine⟨Ax .ret,_,by have:=run_endLoop (P:=P) d U;rw[q]at this;omega,?_⟩;exact wpIn_ret (a6 _ (ak _ _ _ ap d) ((B4 O).trans j))
def ab4{P:Ce}(r:Result Next)(h:o.upon P a K Q r):o.uponIn (Fence.wide.inRound l) n P a K Q r:=by
 have d:(Fence.wide.inRound l).depth.isSome=B2->1<=n:=λh=>by simp[Ed,Fence.inRound]at h
 cases r with
 |ok c i=>
  cases c with
  |value b=>exact h
  |skip=>exact h
  |defer k=>exact h
  |enter m args=>exact⟨d,CallsIn.inRound l (callsIn_wide.2 h)⟩
  |row row args=>exact⟨d,λe f _=>let ⟨b,j,r,g⟩:=h e f;⟨b,j,r,stepsIn_wide.2 g⟩⟩
  |_=>exact h.elim
 |halt c i=>
  cases c with
  |panic b=>exact h
  |_=>exact h.elim
def Lx(o:Oper):Bool:=match o.op with| .defer _=>Ck|_=>B2
theorem ahF(h:Lx o=B2):∀c,o.op≠ .defer c:=by
 intro c a;unfold Lx at h;grind
theorem ab5{P:Ce}(d:∀(j:Nat) (o:Oper),ops[j]?=Ax o->Lx o=B2)(e:¬LetsOut Q)(h:wpOp P ops Q i K a w):wpOpIn (Fence.wide.inRound l) n P ops Q i K a w:=by
 unfold wpOp at h;unfold wpOpIn;cases ho:ops[i]? with
 |none=>simpa [ho] using h
 |some o=>
  simp only[ho]at h⊢;split
  .rename_i b;simp only[b,nA]at h;rcases h with h|h
   .refine⟨λc _=>trivial,?_⟩;show o.uponIn _ _ _ _ _ _ ((o.semAt (Ax l) a.eval).run P w);rw[mK l a.eval o (ahF (d i o ho))];exact ab4 _ h
   .exact absurd h.2 e
  .rename_i b;simp only[b]at h;exact⟨λc _=>trivial,U⟩
def ye{P:Ce}(b:∀(j:Nat) (o:Oper),ops[j]?=Ax o->Lx o=B2)(c:¬LetsOut Q):
  ∀(fuel:Nat)(d:Array Bool)(a:Act)(w:A9),wpAny P md ops Q fuel d a w->wpAnyIn (Fence.wide.inRound l) n P md ops Q fuel d a w
 |0,_,_,_,h=>h
 |fuel+1,_,_,_,h=>⟨h.1,λi hi=>ab5 b c (wpOp_mono (λe w' f=>ye b c fuel _ e w' f) (h.2 i hi))⟩
theorem uo{P:Ce}{id:Nat}(b:P.follows .mixedOrders=B2)(d:ops.all Lx=B2)(c:¬LetsOut Q)(hS:S w.drew)
  (h:S w.drew->wpAnyH P .any ops Q S ops.size (Array.replicate ops.size Ck) a w.drew):(Go.Code.region id ops B2).wpIn (Fence.wide.inRound l) n P Q a w:=
 wpIn_region_any b (ye (λf g e=>by
  grind) c _ _ _ _ (wpAny_of_held _ _ _ _ (h hS)))
theorem I3{P:Ce}(i:Nat)(d:Tmp)(v:A6){e:Oper}{fuel:Nat}{b:Array Bool}(j:ops[i]?=Ax e)(f:e.dst=Ax d)
  (l:Region.noSelect ops=B2) (g:Region.free md ops b i=B2) (k:(Region.ready md ops b).contains i=B2)
  (o:∀c a w,Q (.panic c) (a.put (Ax d) v) w->Q (.panic c) a w) (m:Region.wanted e (yielded ops a.tmps)=B2) (hS:S w) (n:∀w,S w->(execOp a.eval e).run P w= .ok (.value v) w)
  (h:wpAnyH P md ops Q S fuel (b.setIfInBounds i B2) (a.put (Ax d) v) w):wpAnyH P md ops Q S (fuel+1) b a w:=
 wpAnyH_take j l g k U (Or.inl ⟨m,n⟩) hS (by rw[f];exact h)
def ary(b:Region.Mode)(a:Array Oper)(m:List Bool)(i:Nat)(l:List A6):Bool:=Region.noSelect a&&Region.free b a m.toArray i&&(Region.ready b a m.toArray).contains i&&(match a[i]? with|some o=>Region.wanted o (yielded a l.toArray)|none=>Ck)
def bB{P:Ce}(i:Nat)(v:A6){d:Tmp}{f:Oper}{fuel:Nat}{m:List Bool}{l:List A6}{e:List Deferred}(g:ops[i]?=Ax f)(k:f.dst=Ax d)
  (hS:S w) (n:∀w,S w->(execOp (Act.mk l.toArray e).eval f).run P w= .ok (.value v) w)
  (h:wpAnyH P md ops Q S fuel (m.set i B2).toArray ⟨(l.set d v).toArray,e⟩ w) (b:ary md ops m i l=B2:=by kernel_rfl) (j:∀c a w,Q (.panic c) (a.put (Ax d) v) w->Q (.panic c) a w:=by exact λ_ _ _=>id):wpAnyH P md ops Q S (fuel+1) m.toArray ⟨l.toArray,e⟩ w:=by
 rw[ary,g]at b;simp only[cH]at b;apply I3 i d v g k b.1.1.1 b.1.1.2 b.1.2 j b.2 hS n;simp only[Act.put,bF];exact h
structure Tk where
 k:Int
 f:Int
 t:Int
 l:Int
 n:Int
 x:Bz
def vTk(T:Tk):A6:= E0 #[A0 A2 T.k,A0 A2 T.f,A0 A2 T.t,A0 A2 T.l,A0 A2 T.n,B3 T.x]
def cTk(T:Tk):List A6:=[A0 A2 T.k,A0 A2 T.f,A0 A2 T.t,A0 A2 T.l,A0 A2 T.n,B3 T.x]
def AJ(ts:List Tk):List A6:=ts.flatMap cTk
def vH(a:List Tk)(T:Tk):AJ (a++[T])=AJ a++cTk T:=by simp[AJ]
inductive Fo where
 |nil:Fo
 |cons:Nd->Fo->Fo->Fo
def Fo.sz:Fo->Nat
 | .nil=>0
 | .cons _ k r=>k.sz+1+r.sz
def Fo.len:Fo->Nat
 | .nil=>0
 | .cons _ _ r=>r.len+1
def Fo.tops:Fo->Nat->List Int
 | .nil,_=>[]
 | .cons _ k r,b=>((b+k.sz:Nat):Int)::r.tops (b+k.sz+1)
def Fo.flat:Fo->Nat->List Nd
 | .nil,_=>[]
 | .cons N k r,b=>k.flat b++({N with ks:=k.tops b}::r.flat (b+k.sz+1))
def Fo.app:Fo->Fo->Fo
 | .nil,c=>c
 | .cons N k r,c=> .cons N k (r.app c)
def one(N:Nd)(k:Fo):Fo:= .cons N k .nil
def Fo.app_nil:∀(a:Fo),a.app .nil=a
 | .nil=>rfl
 | .cons N k r=>by rw[Fo.app,r.app_nil]
def Fo.app_app:∀(a b c:Fo),(a.app b).app c=a.app (b.app c)
 | .nil,_,_=>rfl
 | .cons N k r,b,c=>by simp only[Fo.app];rw[r.app_app b c]
def Fo.sz_app:∀(a c:Fo),(a.app c).sz=a.sz+c.sz
 | .nil,c=>by simp[Fo.app,Fo.sz]
 | .cons N k r,c=>by simp only[Fo.app,Fo.sz,r.sz_app c];omega
def Fo.len_app:∀(a c:Fo),(a.app c).len=a.len+c.len
 | .nil,c=>by simp[Fo.app,Fo.len]
 | .cons N k r,c=>by simp only[Fo.app,Fo.len,r.len_app c];omega
theorem Fo.tops_app:∀(a c:Fo)(b:Nat),(a.app c).tops b=a.tops b++c.tops (b+a.sz)
 | .nil,c,b=>by rfl
 | .cons N k r,c,b=>by simp only[Fo.app,Fo.tops,Fo.sz,r.tops_app c,dt];grind
theorem Fo.flat_app:∀(a c:Fo)(b:Nat),(a.app c).flat b=a.flat b++c.flat (b+a.sz)
 | .nil,c,b=>by rfl
 | .cons N k r,c,b=>by simp only[Fo.app,Fo.flat,Fo.sz,r.flat_app c,dt,eB];grind
def Fo.flat_len:∀(a:Fo)(b:Nat),M (a.flat b)=a.sz
 | .nil,_=>rfl
 | .cons N k r,b=>by simp only[Fo.flat,Fo.sz,aB,db,k.flat_len,r.flat_len];omega
def Fo.tops_len:∀(a:Fo)(b:Nat),M (a.tops b)=a.len
 | .nil,_=>rfl
 | .cons N k r,b=>by simp only[Fo.tops,Fo.len,db,r.tops_len]
def dj(N:Nd)(k:Fo):(one N k).sz=k.sz+1:=rfl
def ahG(N:Nd)(k:Fo)(b:Nat):(one N k).tops b=[((b+k.sz:Nat):Int)]:=rfl
def D9(N:Nd)(k:Fo)(b:Nat):(one N k).flat b=k.flat b++[{N with ks:=k.tops b}]:=rfl
def Fo.len_le:∀(a:Fo),a.len<=a.sz
 | .nil=>ix _
 | .cons N k r=>by have:=r.len_le;simp only[Fo.len,Fo.sz];omega
def z0:Bz:=⟨#[]⟩
def nd(k:Int)(s:Tk)(e op n:Int)(x:Bz)(nm:List Bz):Nd:=⟨k,s.f,e,s.l,op,n,x,nm,[]⟩
def lj(k:Int)(s:Tk)(e:Int):Nd:=nd k s e 0 0 z0 []
def AK(k:Int)(s:Tk)(e:Int):Nd:=if k=10 then lj 28 s e else if k=26 then lj 29 s e else nd 31 s e (k-60) 0 z0 []
def alA(k:Int):Int:=if k=25 then 21 else if k=50 then 22 else if k=69 then 20 else 19
def lpw(k:Int):Int:=if k=26 then 1 else if k=10 then 2 else if 73<=k then 3 else if k=72 then 4 else if k=68 then 5 else if k=69 then 6 else if k=67 then 7 else if k=70\/k=71 then 8 else if k=61\/k=62 then 9 else 10
def rpw(k:Int):Int:=if k=72 then 4 else lpw k+1
def ab6(k:Int):Bool:=decide (k=48\/k=44\/k=40)
def oI(N:Nd)(ks:Fo)(s:Tk)(e:Int):Fo:=if N.k=34\/N.k=27 then one (lj 37 s e) (one N ks) else one N ks
inductive Ku (tk:Nat->Tk) (n:Nat):Nat->List Bz->Nat->Prop where
 |stop {k:Nat}:(tk k).k≠46->k<n->Ku tk n k [] k
 |go {k j:Nat}{ns:List Bz}:(tk k).k=46->k+1<n->(tk (k+1)).k=1->Ku tk n (k+2) ns j->Ku tk n k ((tk (k+1)).x::ns) j
inductive Prm (tk:Nat->Tk) (n:Nat):Nat->List Bz->Bool->Nat->Prop where
 |close {k:Nat}:(tk k).k=41->k+1<n->Prm tk n k [] false (k+1)
 |rest {k:Nat}:(tk k).k=49->(tk (k+1)).k=41->k+2<n->Prm tk n k [] true (k+2)
 |last {k:Nat}:(tk k).k=1->(tk (k+1)).k=41->k+2<n->Prm tk n k [(tk k).x] false (k+2)
 |go {k j:Nat}{ns:List Bz}{r:Bool}:(tk k).k=1->(tk (k+1)).k=46->k+2<n->Prm tk n (k+2) ns r j->Prm tk n k ((tk k).x::ns) r j
inductive Ay where
 |unit:Ay
 |expr:Int->Ay
 |more:Int->Tk->Fo->Ay
 |base:Ay
 |post:Tk->Fo->Ay
 |exprs:Ay
 |moreE:Ay
 |moreB:Ay
 |stat:Ay
 |stats:Ay
 |block:Ay
 |body:Tk->Ay
 |entry:Ay
 |entries:Ay
 |branch:Ay
inductive P (tk:Nat->Tk) (n:Nat):Ay->Nat->Fo->Nat->Prop where
 |upre {i j:Nat}{x:Fo}:nD (tk i).k=true->i<n->P tk n .unit (i+1) x j->P tk n .unit i (one (nd 30 (tk i) (tk (j-1)).t (alA (tk i).k) 0 z0 []) x) j
 |uint {i:Nat}:(tk i).k=2->i+1<n->P tk n .unit i (one (nd 23 (tk i) (tk i).t 0 (tk i).n z0 []) .nil) (i+1)
 |uflt {i:Nat}:(tk i).k=3->i+1<n->P tk n .unit i (one (nd 24 (tk i) (tk i).t 0 0 (tk i).x []) .nil) (i+1)
 |ustr {i:Nat}:(tk i).k=4->i+1<n->P tk n .unit i (one (nd 25 (tk i) (tk i).t 0 0 (tk i).x []) .nil) (i+1)
 |unil {i:Nat}:(tk i).k=24->i+1<n->P tk n .unit i (one (lj 20 (tk i) (tk i).t) .nil) (i+1)
 |utru {i:Nat}:(tk i).k=29->i+1<n->P tk n .unit i (one (lj 21 (tk i) (tk i).t) .nil) (i+1)
 |ufls {i:Nat}:(tk i).k=17->i+1<n->P tk n .unit i (one (lj 22 (tk i) (tk i).t) .nil) (i+1)
 |urst {i:Nat}:(tk i).k=49->i+1<n->P tk n .unit i (one (lj 27 (tk i) (tk i).t) .nil) (i+1)
 |ufn {i j:Nat}{R:Fo}:(tk i).k=18->i<n->P tk n (.body (tk i)) (i+1) R j->P tk n .unit i R j
 |utab {i j:Nat}{E:Fo}:(tk i).k=42->i<n->P tk n .entries (i+1) E j->(tk j).k=43->j+1<n->P tk n .unit i (one (lj 35 (tk i) (tk j).t) E) (j+1)
 |ubas {i j:Nat}{R:Fo}:(tk i).k=1\/(tk i).k=40->i<n->P tk n .base i R j->P tk n .unit i R j
 |ex {p:Int}{i k j:Nat}{x R:Fo}:(tk i).k≠6->i<n->P tk n .unit i x k->P tk n (.more p (tk i) x) k R j->P tk n (.expr p) i R j
 |mstop {p:Int}{s:Tk}{x:Fo}{k:Nat}:k<n->(jm (tk k).k=true->lpw (tk k).k<p)->P tk n (.more p s x) k x k
 |mgo {p:Int}{s:Tk}{x y R:Fo}{k k1 j:Nat}:k<n->jm (tk k).k=true->p<=lpw (tk k).k->P tk n (.expr (rpw (tk k).k)) (k+1) y k1->P tk n (.more p s (one (AK (tk k).k s (tk (k1-1)).t) (x.app y))) k1 R j->P tk n (.more p s x) k R j
 |bname {i j:Nat}{R:Fo}:(tk i).k=1->i<n->P tk n (.post (tk i) (one (nd 26 (tk i) (tk i).t 0 0 (tk i).x []) .nil)) (i+1) R j->P tk n .base i R j
 |bopen {i k j:Nat}{N:Nd}{ks R:Fo}:(tk i).k=40->i<n->P tk n (.expr 0) (i+1) (one N ks) k->(tk k).k=41->k<n->P tk n (.post (tk i) (oI N ks (tk i) (tk k).t)) (k+1) R j->P tk n .base i R j
 |pstop {s:Tk}{B:Fo}{k:Nat}:k<n->ab6 (tk k).k=false->P tk n (.post s B) k B k
 |pdot {s:Tk}{B R:Fo}{k j:Nat}:(tk k).k=48->(tk (k+1)).k=1->k+1<n->P tk n (.post s (one (nd 33 s (tk (k+1)).t 0 0 (tk (k+1)).x []) B)) (k+2) R j->P tk n (.post s B) k R j
 |psq {s:Tk}{B Y R:Fo}{k k1 j:Nat}:(tk k).k=44->k<n->P tk n (.expr 0) (k+1) Y k1->(tk k1).k=45->k1<n->P tk n (.post s (one (lj 32 s (tk k1).t) (B.app Y))) (k1+1) R j->P tk n (.post s B) k R j
 |pcall0 {s:Tk}{B R:Fo}{k j:Nat}:(tk k).k=40->(tk (k+1)).k=41->k+1<n->P tk n (.post s (one (lj 34 s (tk (k+1)).t) B)) (k+2) R j->P tk n (.post s B) k R j
 |pcall {s:Tk}{B Y R:Fo}{k k1 j:Nat}:(tk k).k=40->k+1<n->(tk (k+1)).k≠41->P tk n .exprs (k+1) Y k1->(tk k1).k=41->k1<n->P tk n (.post s (one (lj 34 s (tk k1).t) (B.app Y))) (k1+1) R j->P tk n (.post s B) k R j
 |es {i k j:Nat}{x R:Fo}:P tk n (.expr 0) i x k->P tk n .moreE k R j->P tk n .exprs i (x.app R) j
 |estop {k:Nat}:(tk k).k≠46->k<n->P tk n .moreE k .nil k
 |ego {k k1 j:Nat}{x R:Fo}:(tk k).k=46->k<n->P tk n (.expr 0) (k+1) x k1->P tk n .moreE k1 R j->P tk n .moreE k (x.app R) j
 |bstop {k:Nat}:(tk k).k≠46->k<n->P tk n .moreB k .nil k
 |bgo {k k1 j:Nat}{x R:Fo}:(tk k).k=46->k<n->P tk n .base (k+1) x k1->P tk n .moreB k1 R j->P tk n .moreB k (x.app R) j
 |body {i k j:Nat}{s:Tk}{nm:List Bz}{r:Bool}{B:Fo}:(tk i).k=40->i<n->Prm tk n (i+1) nm r k->P tk n .block k B j->P tk n (.body s) i (one (nd 36 s (tk (j-1)).t (if r=true then 1 else 0) 0 z0 nm) B) j
 |block {i k:Nat}{S:Fo}:(tk i).k=42->i<n->P tk n .stats (i+1) S k->(tk k).k=43->k+1<n->P tk n .block i (one (lj 1 (tk i) (tk k).t) S) (k+1)
 |sstop {k:Nat}:(tk k).k=43\/(tk k).k=6->k<n->P tk n .stats k .nil k
 |ssep {k j:Nat}{R:Fo}:(tk k).k=5->k<n->P tk n .stats (k+1) R j->P tk n .stats k R j
 |sgo {k k1 j:Nat}{x R:Fo}:(tk k).k≠5->(tk k).k≠6->(tk k).k≠43->k<n->P tk n .stat k x k1->P tk n .stats k1 R j->P tk n .stats k (x.app R) j
 |nstop {k:Nat}:(tk k).k=43->k<n->P tk n .entries k .nil k
 |ncom {k k1 j:Nat}{x R:Fo}:(tk k).k≠43->k<n->P tk n .entry k x k1->(tk k1).k=46->k1<n->P tk n .entries (k1+1) R j->P tk n .entries k (x.app R) j
 |nlast {k k1 j:Nat}{x R:Fo}:(tk k).k≠43->k<n->P tk n .entry k x k1->(tk k1).k≠46->k1<n->P tk n .entries k1 R j->P tk n .entries k (x.app R) j
 |item {i j:Nat}{x:Fo}:(tk i).k≠48->(tk i).k≠44->(tk i).k≠6->i<n->P tk n (.expr 0) i x j->P tk n .entry i (one (lj 40 (tk i) (tk (j-1)).t) x) j
 |pair {i k j:Nat}{x y:Fo}:(tk i).k=44->i<n->P tk n (.expr 0) (i+1) x k->(tk k).k=45->(tk (k+1)).k=47->k+1<n->P tk n (.expr 0) (k+2) y j->P tk n .entry i (one (lj 41 (tk i) (tk (j-1)).t) (x.app y)) j
 |named {i j:Nat}{y:Fo}:(tk i).k=48->(tk (i+1)).k=1->(tk (i+2)).k=47->i+2<n->P tk n (.expr 0) (i+3) y j->P tk n .entry i (one (nd 42 (tk i) (tk (j-1)).t 0 0 (tk (i+1)).x []) y) j
 |belif {i k k1 j:Nat}{x b z:Fo}:(tk i).k=20\/(tk i).k=15->i<n->P tk n (.expr 0) (i+1) x k->P tk n .block k b k1->(tk k1).k=15->k1<n->P tk n .branch k1 z j->P tk n .branch i (one (lj 7 (tk i) (tk (j-1)).t) ((x.app b).app z)) j
 |belse {i k k1 j:Nat}{x b z:Fo}:(tk i).k=20\/(tk i).k=15->i<n->P tk n (.expr 0) (i+1) x k->P tk n .block k b k1->(tk k1).k=16->k1<n->P tk n .block (k1+1) z j->P tk n .branch i (one (lj 7 (tk i) (tk (j-1)).t) ((x.app b).app z)) j
 |bno {i k k1:Nat}{x b:Fo}:(tk i).k=20\/(tk i).k=15->i<n->P tk n (.expr 0) (i+1) x k->P tk n .block k b k1->(tk k1).k≠15->(tk k1).k≠16->k1<n->P tk n .branch i (one (lj 7 (tk i) (tk (k1-1)).t) (x.app b)) k1
 |tlet0 {i k:Nat}{ns:List Bz}:(tk i).k=22->i+1<n->(tk (i+1)).k=1->Ku tk n (i+2) ns k->(tk k).k≠47->P tk n .stat i (one (nd 2 (tk i) (tk (k-1)).t 0 0 z0 ((tk (i+1)).x::ns)) .nil) k
 |tlet {i k j:Nat}{ns:List Bz}{E:Fo}:(tk i).k=22->i+1<n->(tk (i+1)).k=1->Ku tk n (i+2) ns k->(tk k).k=47->P tk n .exprs (k+1) E j->P tk n .stat i (one (nd 2 (tk i) (tk (j-1)).t 0 0 z0 ((tk (i+1)).x::ns)) E) j
 |tcon {i j:Nat}{x:Fo}:(tk i).k=13->(tk (i+1)).k=1->(tk (i+2)).k=47->i+2<n->P tk n (.expr 0) (i+3) x j->P tk n .stat i (one (nd 3 (tk i) (tk (j-1)).t 0 0 z0 [(tk (i+1)).x]) x) j
 |tfn {i j:Nat}{B:Fo}:(tk i).k=18->(tk (i+1)).k=1->(tk (i+2)).k=40->i+2<n->P tk n (.body (tk (i+2))) (i+2) B j->P tk n .stat i (one (nd 4 (tk i) (tk (j-1)).t 0 0 z0 [(tk (i+1)).x]) B) j
 |tif {i j:Nat}{R:Fo}:(tk i).k=20->i<n->P tk n .branch i R j->P tk n .stat i R j
 |twhile {i k j:Nat}{x b:Fo}:(tk i).k=31->i<n->P tk n (.expr 0) (i+1) x k->P tk n .block k b j->P tk n .stat i (one (lj 8 (tk i) (tk (j-1)).t) (x.app b)) j
 |tfor {i k k1 j:Nat}{ns:List Bz}{E b:Fo}:(tk i).k=19->i+1<n->(tk (i+1)).k=1->Ku tk n (i+2) ns k->(tk k).k=47->P tk n .exprs (k+1) E k1->P tk n .block k1 b j->P tk n .stat i (one (nd 9 (tk i) (tk (j-1)).t 0 0 z0 ((tk (i+1)).x::ns)) (E.app b)) j
 |teach {i k k1 j:Nat}{ns:List Bz}{x b:Fo}:(tk i).k=19->i+1<n->(tk (i+1)).k=1->Ku tk n (i+2) ns k->(tk k).k=21->P tk n (.expr 0) (k+1) x k1->(tk k1).k=42->k1<n->P tk n .block k1 b j->P tk n .stat i (one (nd 10 (tk i) (tk (j-1)).t 0 0 z0 ((tk (i+1)).x::ns)) (x.app b)) j
 |tbreak {i:Nat}:(tk i).k=11->i+1<n->P tk n .stat i (one (lj 11 (tk i) (tk i).t) .nil) (i+1)
 |tnext {i:Nat}:(tk i).k=23->i+1<n->P tk n .stat i (one (lj 12 (tk i) (tk i).t) .nil) (i+1)
 |tret0 {i:Nat}:(tk i).k=27->i+1<n->(tk (i+1)).k=5\/(tk (i+1)).k=6\/(tk (i+1)).k=43->P tk n .stat i (one (lj 13 (tk i) (tk i).t) .nil) (i+1)
 |tret {i j:Nat}{E:Fo}:(tk i).k=27->i+1<n->fC (tk (i+1)).k=true->P tk n .exprs (i+1) E j->P tk n .stat i (one (lj 13 (tk i) (tk (j-1)).t) E) j
 |ttry {i k k1 j:Nat}{ns:List Bz}{a b:Fo}:(tk i).k=30->i<n->P tk n .block (i+1) a k->(tk k).k=12->k+1<n->(tk (k+1)).k=1->Ku tk n (k+2) ns k1->P tk n .block k1 b j->P tk n .stat i (one (nd 14 (tk i) (tk (j-1)).t 0 0 z0 ((tk (k+1)).x::ns)) (a.app b)) j
 |tthrow {i j:Nat}{x:Fo}:(tk i).k=28->i<n->P tk n (.expr 0) (i+1) x j->P tk n .stat i (one (lj 15 (tk i) (tk (j-1)).t) x) j
 |tdefer {i j:Nat}{x:Fo}:(tk i).k=14->i<n->P tk n .base (i+1) x j->P tk n .stat i (one (lj 16 (tk i) (tk (j-1)).t) x) j
 |tblock {i j:Nat}{R:Fo}:(tk i).k=42->i<n->P tk n .block i R j->P tk n .stat i R j
 |tdo {i j:Nat}{x:Fo}:(tk i).k=1\/(tk i).k=40->i<n->P tk n .base i x j->(tk j).k≠46->(tk j).k≠47->j<n->P tk n .stat i (one (lj 6 (tk i) (tk (j-1)).t) x) j
 |tset {i k k1 j:Nat}{x R E:Fo}:(tk i).k=1\/(tk i).k=40->i<n->P tk n .base i x k->P tk n .moreB k R k1->(tk k1).k=47->k1<n->P tk n .exprs (k1+1) E j->P tk n .stat i (one (nd 5 (tk i) (tk (j-1)).t 0 ((x.app R).len:Nat) z0 []) ((x.app R).app E)) j
theorem qw.put{w d:A9}{lo c g n cap:Nat}{a B:List Mb}{x b:Mb}{k:Nat}(e:M a=k)(h:qw w lo c (A5 (Ax ⟨g,0,A3⟩) n cap) (a++x::B))(i:d.ownsRow lo 100 9 (A5 (Ax ⟨g,0,A3⟩) n cap) n (oa (a++b::B)))
  (hn:n=M (a++x::B)) (m:G6 d lo c b) (l:b.vn=x.vn) (j:b.vk=x.vk) (f:∀z,z∈a\/z∈B->G6 d lo c z):qw d lo c (A5 (Ax ⟨g,0,A3⟩) n cap) (a++b::B):=by
 refine⟨?_,h.hh,?_,?_,?_⟩
 .grind
 .grind
 .have:=h.dn;grind
 .have:=h.dk;grind
def wpU(P:Ce)(d:Region.Mode)(c:Array Oper)(Q:Exit->Act->A9->Prop)(S e:A9->Prop)(C:Nat->Bool):Nat->Array Bool->Act->A9->Prop
 |0,b,a,w=>Region.ready d c b=[]/\Q .normal a w
 |fuel+1,b,a,w=>
  (Region.ready d c b=[]->Q .normal a w)/\
  ∀i∈Region.ready d c b,wpOp P c Q i (λf w'=>(e w'/\(C i=B2->S w'))/\wpU P d c Q S e C fuel (b.setIfInBounds i B2) f w') a w
def Ea{P:Ce}:∀(fuel:Nat)(c:Array Bool)(a:Act)(w:A9),wpU P md ops Q S S2 C fuel c a w->wpAnyH P md ops Q S2 fuel c a w
 |0,_,_,_,h=>h
 |fuel+1,_,_,_,h=>⟨h.1,λi hi=>wpOp_mono (λd w' b=>⟨b.1.1,Ea fuel _ d w' b.2⟩) (h.2 i hi)⟩
theorem tg{P:Ce}{h:Oper}(s:ops[i]?=Ax h)(z:∀(j:Nat) (o:Oper) cs b,ops[j]?=Ax o->o.op≠ .select cs b)
  (F:∀c a w,Q (.panic c) (a.put h.dst v) w->Q (.panic c) a w) (ap:∀(j:Nat) d,ops[j]?=Ax d->C j=Ck->∃e∈d.after,Region.binds md e=B2/\e.on=i):
  ∀(fuel:Nat)(g:Array Bool)(a:Act)(w:A9),
   (∀j d,ops[j]?=Ax d->j≠i->g.getD j B2=Ck->(∀e∈d.after,Region.binds md e=B2->e.on≠i)->h.apart ops d=B2)->
   i∈Region.ready md ops g->YieldsIf P ops S h v a->S2 w->S w->
   wpU P md ops Q S S2 C fuel (g.setIfInBounds i B2) (a.put h.dst v) w->wpAnyH P md ops Q S2 (fuel+1) g a w:=by
 intro fuel
 induction fuel with
 |zero=>
  intro g a w _ u q r hS l;refine⟨λB=>U,λj p=>?_⟩;by_cases f:j=i
  .subst f;exact q.wpOp s hS ⟨r,Ea _ _ _ _ l⟩
  .have:=ready_mono p f;rw[l.1]at this;cases this
 |succ fuel am=>
  intro g a w y u q r hS l;refine⟨λB=>U,λj p=>?_⟩;by_cases f:j=i
  .subst f;exact q.wpOp s hS ⟨r,Ea _ _ _ _ l⟩
  .have x:=l.2 j (ready_mono p f);have⟨ad,d,t,G⟩:=mem_ready.1 p;have al:∀e∈d.after,Region.binds md e=B2->e.on≠i:=λe K H ar=>by
    have x:=G e K H;have ao:=(mem_ready.1 u).1;grind
   have E:C j=B2:=by
    grind
   have L:∀k n,ops[k]?=Ax n->k≠i->(g.setIfInBounds j B2).getD k B2=Ck->
     (∀e∈n.after,Region.binds md e=B2->e.on≠i)->h.apart ops n=B2:=λk n af ag aL ak=>by
    refine y k n af ag ?_ ak;by_cases av:j=k;all_goals simp_all
   refine wpOp_mono (λA an m=>⟨m.2.1.1,am (g.setIfInBounds j B2) A an L (ready_mono u (dy f)) m.1 m.2.1.1 (m.2.1.2 E) ?_⟩) (wpOp_putIf t (y j d t f ad al) (λcs b=>z i h cs b s) (λcs b=>z j d cs b t) F q x);rw[Array.setIfInBounds_comm _ _ f];exact m.2.2
theorem eK{P:Ce}{fuel:Nat}{c:Array Bool}(q:Region.ready md ops c=[i])(p:ops[i]?=Ax o)
  (h:∀d:Act->A9->Prop,Shut (∀a w,S2 w->(C i=B2->S w)->wpU P md ops Q S S2 C fuel (c.setIfInBounds i B2) a w->d a w)->if Region.wanted o (yielded ops a.tmps)=B2 then Oper.wp P o a w d Q else d (a.put o.dst undef) w):wpU P md ops Q S S2 C (fuel+1) c a w:=by
 refine⟨λr=>U,λf n=>?_⟩;rw[q]at n;obtain rfl:f=i:=U;have b:=h (λj g=>(S2 g/\(C f=B2->S g))/\wpU P md ops Q S S2 C fuel (c.setIfInBounds f B2) j g) (λa w k l m=>⟨⟨k,l⟩,m⟩);simp only[wpOp,p];split
 .rename_i e;rw[ab e]at b;exact .inl b
 .rename_i e;rw[aa e]at b;exact b
def vI{P:Ce}{c:Array Bool}(b:Region.ready md ops c=[])(h:Q .normal a w):
  ∀fuel,wpU P md ops Q S S2 C fuel c a w
 |0=>⟨b,h⟩
 |_+1=>⟨λ_=>h,by rw[b];simp⟩
open Go.Maps Go.WideMaps
theorem gy{size:Nat}(o:W.ownsRow base e size v n xs){cs:Array A6}{t:C2}{fr:Nat×Nat}(i:W.heap[g]?=Ax (B6 cs t fr))(ht:t≠e):v.ownBlock≠Ax g:=λa=>by
 rcases o.2 with⟨b,_⟩|⟨c,d,f,b,_,h,_⟩
 .rw[b]at a;simp[B1]at a
 .rw[b]at a;obtain rfl:c=g:=by simpa [B1] using a
  grind
theorem uq{size:Nat}(o:W.ownsRow base e size v n xs)(b:v.ownBlock≠Ax g)(q:Nat)(u:A6):(W.setCell ⟨g,q,A3⟩ u).ownsRow base e size v n xs:=
 o.kept (row:=Ax g) ⟨rfl,rfl,rfl,byS,λd c a=>az _ _ _ _ (λe=>a (by rw[e]))⟩ (by
  grind)
def Aa:(Tryz.prog.info? 100).map (λi=>(i.zero,i.size,i.bytes))=Ax (Ax (E0 #[A0 A2 0,A0 A2 0,A0 A2 0,A0 A2 0,A0 A2 0,A0 A2 0,B3 ⟨#[]⟩,A5 A3 0 0,A5 A3 0 0]),9,112):=J
abbrev xF(N:Nd)(vn vk:A6):Array A6:=#[A0 A2 N.k,A0 A2 N.f,A0 A2 N.t,A0 A2 N.l,A0 A2 N.op,A0 A2 N.n,B3 N.x,vn,vk]
theorem jL{c size:Nat}(o:w.ownsRow lo e size v n xs)(h:∀g,v.ownBlock=Ax g->lo<=g->g<w.heap.size->w'.heap[g]?=w.heap[g]?/\c<=g):w'.ownsRow c e size v n xs:=by
 obtain⟨j,a⟩:=o;refine⟨j,?_⟩;rcases a with a|⟨g,f,i,rfl,k,b,l⟩
 .grind
 .have d:=h g rfl k (ah b);exact .inr ⟨g,f,i,rfl,d.2,d.1.trans b,l⟩
structure Lw (w:A9) (lo:Nat) (lv:A6) (L:List Mb):Prop where
 row:w.ownsRow lo 100 9 lv (M L) (oa L)
 each:∀x∈L,w.ownsRow lo 9 1 x.vn (M x.N.nm) (x.N.nm.map B7)/\w.ownsRow lo 3 1 x.vk (M x.N.ks) (x.N.ks.map (E2 .i64))
def Lw.mono{L:List Mb}(h:Lw w lo v L)(d:∀k,lo<=k->k<w.heap.size->w'.heap[k]?=w.heap[k]?):Lw w' lo v L:=
 ⟨jL h.row λb _ a c=>⟨d b a c,a⟩,λf e=>⟨jL (h.each f e).1 λb _ a c=>⟨d b a c,a⟩,jL (h.each f e).2 λb _ a c=>⟨d b a c,a⟩⟩⟩
theorem Lw.nds{L:List Mb}(h:Lw w lo v L):fj w v (L.map Mb.N):=by
 rcases bm h.row with⟨q,rfl⟩|⟨a,p,rfl⟩
 .exact .inl ⟨U,_,_,rfl⟩
 .refine .inr ⟨⟨a,0,A3⟩,p,U,λc N b=>?_⟩;rw[dw]at b;cases hx:L[c]? with
  |none=>grind
  |some d=>
   rw[hx]at b;obtain rfl:=cC b;rw[show(⟨a,0,A3⟩:Addr).add (c*9)=⟨a,c*9,A3⟩ by unfold Addr.add;grind];have⟨f,g,i,j,k,l,m,n,o⟩:=td h.row hx;have e:=h.each d (da hx);exact⟨d.vn,d.vk,f,g,i,j,k,l,m,n,o,AI e.1,sL e.2⟩
structure TkC (cs:Array A6) (T:Tk) (q:Nat) (l:Int):Prop where
 c0:cs[q*6]?=Ax (.int .i64 T.k)
 c1:cs[q*6+1]?=Ax (.int .i64 T.f)
 c2:cs[q*6+2]?=Ax (.int .i64 T.t)
 c3:cs[q*6+3]?=Ax (.int .i64 l)
 c4:cs[q*6+4]?=Ax (.int .i64 T.n)
 c5:cs[q*6+5]?=Ax (.string T.x)
 hl:T.k≠6->l=T.l
def TkR(cs:Array A6)(tk:Nat->Tk)(n:Nat):Prop:=∀q,q<n->∃l,TkC cs (tk q) q l
structure Pe where
 base:Nat
 pb:Nat
 tb:Nat
 cap:Nat
 n:Nat
 tk:Nat->Tk
abbrev pV(E:Pe):A6:= E1 (Ax ⟨E.pb,0,A3⟩)
abbrev s0:A6:= A5 A3 0 0
abbrev qi(k:Int)(T:Tk):Array A6:=#[A0 A2 k,A0 A2 T.f,A0 A2 T.t,A0 A2 T.l,A0 A2 T.n,B3 T.x]
abbrev Bxs:=List (Nat×C2×Array A6)
abbrev Rws:=List (C2×A6×List A6)
abbrev TOw(t:C2):Prop:=t=9\/t=3
abbrev iv:Int->A6:= A0 A2
def Ac(s:Nat)(L b:List Mb)(R:Fo):Prop:=∃a,b=L++a/\a.map Mb.N=R.flat (M L)/\∀x∈a,∀g,x.vn.ownBlock=Ax g\/x.vk.ownBlock=Ax g->s<=g
def Ac.nil(s:Nat)(L:List Mb):Ac s L L .nil:=⟨[],(dD L).symm,rfl,λb a=>by cases a⟩
theorem Ac.len{L b:List Mb}{R:Fo}(h:Ac s L b R):M b=M L+R.sz:=by
 obtain⟨c,rfl,a,_⟩:=h;have a:=congrArg M a;rw[dr,Fo.flat_len]at a;grind
theorem Ac.app{t:Nat}{L a b:List Mb}{x c:Fo}(h:Ac s L a x)(k:Ac t a b c)(ht:s<=t):Ac s L b (x.app c):=by
 have i:=h.len;obtain⟨d,rfl,f,j⟩:=h;obtain⟨e,rfl,g,l⟩:=k;refine⟨d++e,U,by rw[fy,f,g,Fo.flat_app,i],λp o m n=>?_⟩;grind
theorem Ac.add{L a:List Mb}{R:Fo}(h:Ac s L a R)(N:Nd){vn vk:A6}(d:N.ks=R.tops (M L))(fn:∀g,vn.ownBlock=Ax g\/vk.ownBlock=Ax g->s<=g):Ac s L (a++[⟨N,vn,vk⟩]) (one {N with ks:=[]} R):=by
 obtain⟨b,rfl,c,e⟩:=h;refine⟨b++[⟨N,vn,vk⟩],U,by rw[fy,c,D9,<-d];rfl,λj i g f=>?_⟩;grind
def Ap(a b:C2×A6×List A6):Prop:=∀g,a.2.1.ownBlock=Ax g->b.2.1.ownBlock≠Ax g
def Ng(E:Pe)(w:A9)(g:Nat):Prop:=∃v,w.cell? ⟨E.pb,2,A3⟩=Ax v/\v.ownBlock=Ax g
abbrev pC(E:Pe)(i:Int)(v:A6):Obj:= B6 #[A5 (Ax ⟨E.tb,0,A3⟩) E.n E.cap,A0 A2 i,v] 117 (0,0)
theorem nbI{E:Pe}{i:Int}(h:w.heap[E.pb]?=Ax (pC E i v)):Ng E w g↔v.ownBlock=Ax g:=by
 have a:w.cell? ⟨E.pb,2,A3⟩=Ax v:=by rw[au _ _ _ _ _ _ h];rfl
 exact⟨λ⟨d,b,c⟩=>U,λh=>⟨v,a,h⟩⟩
structure Sq (E:Pe) (W:A9) (G:Option Nat) (L:List Mb) (w:A9) (i:Nat) (L1:List Mb) (D:Fo) (zs:List Int) (B:Bxs) (R:Rws):Prop where
 lo:E.base<=E.pb/\E.pb<W.heap.size/\E.tb<W.heap.size/\E.n<=1048576
 tks:∃cs fr,w.heap[E.tb]?=Ax (.cells cs 48 fr)/\TkR cs E.tk E.n
 row:∃v,w.heap[E.pb]?=Ax (pC E i v)/\w.ownsRow E.base 100 9 v (M L1) (oa L1)
 nb:(∀g,Ng E w g->G=Ax g\/W.heap.size<=g)/\∀p∈B,¬Ng E w p.1
 each:∀x∈L1,w.ownsRow E.base 9 1 x.vn (M x.N.nm) (x.N.nm.map B7)/\w.ownsRow E.base 3 1 x.vk (M x.N.ks) (x.N.ks.map iv)
 ac:Ac W.heap.size L L1 D
 tp:D.tops (M L)=zs
 bl:D4 E.base W w
 fz:∀k,k<W.heap.size->k≠E.pb->G≠Ax k->w.heap[k]?=W.heap[k]?
 bx:∀p∈B,W.heap.size<=p.1/\¬TOw p.2.1/\w.heap[p.1]?=Ax (.cells p.2.2 p.2.1 (0,0))
 bd:(B.map Prod.fst).Nodup
 rw:∀r∈R,TOw r.1/\w.ownsRow W.heap.size r.1 1 r.2.1 (M r.2.2) r.2.2/\∀x∈L1,∀g,r.2.1.ownBlock=Ax g->x.vn.ownBlock≠Ax g/\x.vk.ownBlock≠Ax g
 rs:R.Pairwise Ap
section
variable {E : Pe} {W w w' : World} {G o : Option Nat} {L L1 L2 : List Mb} {i j b : Nat} {D X : Fo} {zs ys : List Int} {B : Bxs} {R R2 : Rws} {t : TypeId} {cs : Array Value} {v : Value} {xs : List Value}
theorem TOw.ne{t u:C2}(h:TOw t)(a:u=100\/u=117\/u=48):u≠t:=by
 grind
theorem Sq.to(S:Sq E W G L w i L1 D zs B R)(ad:D4 E.base w w')(g:∀k,k<w.heap.size->k≠E.pb->Ax k≠o->w'.heap[k]?=w.heap[k]?)(ak:∀v,w.heap[E.pb]?=Ax (pC E i v)->w'.heap[E.pb]?=Ax (pC E j v))
  (d:∀k,o=Ax k->W.heap.size<=k/\¬Ng E w k/\(∀x∈L1,x.vn.ownBlock≠Ax k/\x.vk.ownBlock≠Ax k)/\(∀p∈B,p.1≠k)/\∀r∈R,r.2.1.ownBlock≠Ax k):Sq E W G L w' j L1 D zs B R:=by
 have⟨F,H,al,am⟩:=S.tks;have⟨v,m,p2⟩:=S.row;have t:=S.lo;have an:=S.bl.size;have A:=ak v m;have l:∀{u b size y:Nat}{n:A6}{C:List A6},w.ownsRow u b size n y C->b≠117->(∀k,o=Ax k->n.ownBlock≠Ax k)->w'.ownsRow u b size n y C:=λq af ag=>jL q λc s e f=>⟨g c f (λb=>gy q m (dy af) (b ▸ s)) λb=>ag c b.symm s,e⟩;have z:∀k,k<W.heap.size->Ax k≠o:=λk a b=>U;have b:∀c,Ng E w' c↔Ng E w c:=λc=>(nbI A).trans (nbI m).symm;exact⟨t,⟨F,H,(g _ O (λb=>U) (z _ t.2.2.1)).trans al,am⟩,⟨v,A,l p2 Z λk a=>λb=>(d k a).2.1 ((nbI m).2 b)⟩,⟨λc a=>S.nb.1 c ((b c).1 a),λp a=>λk=>S.nb.2 p a ((b _).1 k)⟩,λx h=>⟨l (S.each x h).1 Z λk a=>((d k a).2.2.1 x h).1,l (S.each x h).2 Z λk a=>((d k a).2.2.1 x h).2⟩,S.ac,S.tp,S.bl.trans ad,λk e f K=>(g k O f (z k e)).trans (S.fz k e f K),λp a=>⟨(S.bx p a).1,(S.bx p a).2.1,(g _ (ah (S.bx p a).2.2) (by have:=(S.bx p a).1;omega) λb=>(d _ b.symm).2.2.2.1 p a rfl).trans (S.bx p a).2.2⟩,S.bd,λr a=>⟨(S.rw r a).1,l (S.rw r a).2.1 ((S.rw r a).1.ne (.inr (.inl rfl))).symm λk b=>(d k b).2.2.2.2 r a,(S.rw r a).2.2⟩,S.rs⟩
def Sq.low(S:Sq E W G L w i L1 D zs B R):E.base<=W.heap.size/\W.heap.size<=w.heap.size:=by have:=S.lo;have:=S.bl.size;omega
def Sq.below(S:B5 (Sq E W G L w i L1 D zs B R))(b:D4 w.heap.size w w'):B5 (Sq E W G L w' i L1 D zs B R):=
 S.to (o:=A3) (b.mono (by have:=S.low;omega)) (λc a _ _=>b.block c a) (λd a=>(b.block _ (ah a)).trans a) λc a=>by cases a
def Sq.sub(S:Sq E W G L w i L1 D zs B R){a:Bxs}(c:∀p∈a,p∈B)(d:(a.map Prod.fst).Nodup):Sq E W G L w i L1 D zs a R:=
 {S with nb:=⟨S.nb.1,λp b=>S.nb.2 p (c p b)⟩,bx:=λp b=>S.bx p (c p b),bd:=d}
def Sq.less(S:B5 (Sq E W G L w i L1 D zs B R)){a:Rws}(h:a.Sublist R):B5 (Sq E W G L w i L1 D zs B a):={S.out with rw:=λc b=>S.rw c (h.subset b),rs:=S.rs.sublist h}
theorem Sq.wth(S:Sq E W G L w i L1 D zs B R)(c:w.heap[b]?=Ax (B6 cs t (0,0)))(a:W.heap.size<=b)(ht:¬TOw t)(hn:¬Ng E w b)(d:∀p∈B,p.1≠b):Sq E W G L w i L1 D zs ((b,t,cs)::B) R:=
 {S with
  nb:=⟨S.nb.1,λp h=>by rcases List.mem_cons.1 h with rfl|h;exact hn;exact S.nb.2 p h⟩
  bx:=λp h=>by rcases List.mem_cons.1 h with rfl|h;exact⟨a,ht,c⟩;exact S.bx p h
  bd:=by rw[wI,List.nodup_cons];exact⟨λh=>U,S.bd⟩}
theorem Sq.nlt(S:Sq E W G L w i L1 D zs B R)(h:Ng E w g):g<w.heap.size/\∃cs fr,w.heap[g]?=Ax (B6 cs 100 fr):=by
 have⟨k,d,p2⟩:=S.row;have a:=(nbI d).1 h;refine⟨(p2.lt g a).2,?_⟩;rcases p2.2 with⟨b,_⟩|⟨c,e,f,b,_,j,_⟩
 .rw[b]at a;simp[B1]at a
 .rw[b]at a;obtain rfl:c=g:=by simpa [B1] using a
  grind
def Sq.box(S:B5 (Sq E W G L w i L1 D zs B R))(ht:¬TOw t:=by decide):B5 (Sq E W G L (w.alloc (B6 cs t)) i L1 D zs ((w.heap.size,t,cs)::B) R):=by
 have⟨d,b,p2⟩:=S.row;exact(Sq.below S (de w (B6 cs t))).wth (ay w _) S.low.2 ht (λa=>by have:=(p2.lt _ ((nbI (((de w (B6 cs t)).block _ (ah b)).trans b)).1 a)).2;omega) λc a=>by have:=ah (S.bx c a).2.2;omega
def Sq.set{q:Nat}(S:B5 (Sq E W G L w i L1 D zs ((b,t,cs)::B) R)):B5 (Sq E W G L (w.setCell ⟨b,q,A3⟩ u) i L1 D zs ((b,t,cs.setIfInBounds q u)::B) R):=by
 obtain⟨h,j,k⟩:=S.bx _ (.head _);have⟨v,x⟩:=List.nodup_cons.1 S.bd;have af:=S.lo;have ad:=S.low;have g:∀d,d≠b->(w.setCell ⟨b,q,A3⟩ u).heap[d]?=w.heap[d]?:=λd a=>az _ _ _ _ a;have l:∀e∈B,e.1≠b:=λe a c=>v (List.mem_map.2 ⟨e,a,c⟩);have f:∀{z c F A:Nat}{u:A6}{K:List A6},w.ownsRow z c F u A K->TOw c->u.ownBlock≠Ax b:=λs y=>gy s k λc=>j (c ▸ y);have C:Sq E W G L (w.setCell ⟨b,q,A3⟩ u) i L1 D zs B R:=(S.sub (λe a=> .tail _ a) x).to (o:=Ax b) ((ai _ w).setCell (O:E.base<=b) _) (λd _ _ a=>g d λc=>a (by rw[c])) (λH a=>(g _ O).trans a) λd a=>by
  cases a;exact⟨h,S.nb.2 _ (.head _),λr m=>⟨f (S.each r m).1 (.inl rfl),f (S.each r m).2 (.inr rfl)⟩,l,λp a=>f (S.rw p a).2.1 (S.rw p a).1⟩
 have⟨H,n,p2⟩:=S.row;exact C.wth (aI _ b q _ _ _ k) h j (λa=>S.nb.2 _ (.head _) ((nbI n).2 ((nbI ((g _ O).trans n)).1 a))) l
def Sq.hd(S:B5 (Sq E W G L w i L1 D zs ((b,t,cs)::B) R)):w.heap[b]?=Ax (B6 cs t (0,0)):=(S.bx _ (.head _)).2.2
def Sq.tail(S:B5 (Sq E W G L w i L1 D zs (p::B) R)):B5 (Sq E W G L w i L1 D zs B R):=S.sub (λp a=> .tail _ a) (List.nodup_cons.1 S.bd).2
theorem Sq.drop1(S:B5 (Sq E W G L w i L1 D zs (p::r::B) R)):B5 (Sq E W G L w i L1 D zs (p::B) R):=S.sub (λb a=>U) (by have:=S.bd;grind)
theorem Sq.swapB(S:B5 (Sq E W G L w i L1 D zs (p::r::B) R)):B5 (Sq E W G L w i L1 D zs (r::p::B) R):=S.sub (λb a=>U) (by
 have a:=S.bd;grind)
def Sq.rowA(S:Sq E W G L w i L1 D zs B R)(ht:TOw t)(o:w.ownsRow W.heap.size t 1 v (M xs) xs)(h:∀x∈L1,∀g,v.ownBlock=Ax g->x.vn.ownBlock≠Ax g/\x.vk.ownBlock≠Ax g)(a:∀r∈R,Ap (t,v,xs) r):Sq E W G L w i L1 D zs B ((t,v,xs)::R):=
 {S with rw:=λr k=>by rcases List.mem_cons.1 k with rfl|k;exact⟨ht,o,h⟩;exact S.rw r k,rs:=List.pairwise_cons.2 ⟨a,S.rs⟩}
def Sq.nil(S:B5 (Sq E W G L w i L1 D zs B R))(ht:TOw t:=by decide):B5 (Sq E W G L w i L1 D zs B ((t,s0,[])::R)):=S.rowA ht (dA _ _ _ _) (λf d b a=>by simp[B1]at a) λe c b a=>by simp[B1]at a
def Sq.elt(S:Sq E W G L w i L1 D zs B R){x:Mb}(b:x∈L1)(h:w.heap.size<=g):x.vn.ownBlock≠Ax g/\x.vk.ownBlock≠Ax g:=
 ⟨λa=>by have:=((S.each x b).1.lt g a).2;omega,λa=>by have:=((S.each x b).2.lt g a).2;omega⟩
def Sq.lit(S:B5 (Sq E W G L w i L1 D zs B R))(ht:TOw t:=by decide)(hn:Nat.ble (M xs) 100=B2:=by rfl):B5 (Sq E W G L (w.alloc (B6 xs.toArray t)) i L1 D zs B ((t,A5 (Ax ⟨w.heap.size,0,A3⟩) (M xs) (M xs),xs)::R)):=by
 have h:=qL (base:=W.heap.size) (e:=t) (size:=1) w xs.toArray (M xs) S.low.2 (by have:=Nat.le_of_ble_eq_true hn;unfold maxLen;omega) I;have e:∀{a},(Value.slice (Ax ⟨w.heap.size,0,A3⟩) (M xs) (M xs)).ownBlock=Ax a->w.heap.size=a:=λb=>by simpa [B1] using b
 exact(Sq.below S (de w (B6 xs.toArray t))).rowA ht O (λj f a c=>S.elt f (Nat.le_of_eq (e c))) λg d a c b=>by have:=e c;have:=((S.rw g d).2.1.lt a b).2;omega
def Sq.lit1{V:A9}{o:Obj}(S:B5 (Sq E W G L (V.alloc o) i L1 D zs B R))(ht:TOw t:=by decide)(hn:Nat.ble (M xs) 100=B2:=by rfl):B5 (Sq E W G L ((V.alloc o).alloc (B6 xs.toArray t)) i L1 D zs B ((t,A5 (Ax ⟨V.heap.size+1,0,A3⟩) (M xs) (M xs),xs)::R)):=fp V o ▸ Sq.lit S ht hn
theorem Sq.lit2{V:A9}{a:Addr}(S:B5 (Sq E W G L (V.setCell a u) i L1 D zs B R))(ht:TOw t:=by decide)(hn:Nat.ble (M xs) 100=B2:=by rfl):B5 (Sq E W G L ((V.setCell a u).alloc (B6 xs.toArray t)) i L1 D zs B ((t,A5 (Ax ⟨V.heap.size,0,A3⟩) (M xs) (M xs),xs)::R)):=((byS:(V.setCell a u).heap.size=V.heap.size)) ▸ Sq.lit S ht hn
def Sq.litm{m:Nat}(S:B5 (Sq E W G L w i L1 D zs B R))(a:w.heap.size=m)(ht:TOw t:=by decide)(hn:Nat.ble (M xs) 100=B2:=by rfl):B5 (Sq E W G L (w.alloc (B6 xs.toArray t)) i L1 D zs B ((t,A5 (Ax ⟨m,0,A3⟩) (M xs) (M xs),xs)::R)):=a ▸ Sq.lit S ht hn
theorem Sq.put{c:A6}{g:List A6}(S:Sq E W G L w i L1 D zs B ((t,v,xs)::R))(h:w.grownBy w' v.ownBlock)(y:w'.ownsRow W.heap.size t 1 c (M g) g)(n:c.ownBlock=v.ownBlock\/c.ownBlock=Ax w.heap.size):Sq E W G L w' i L1 D zs B ((t,c,g)::R):=by
 obtain⟨k,l,A⟩:=S.rw _ (.head _);have ad:=S.lo;have K:=S.low;have C:=λb a=>(l.lt b a).1;have r:=(List.pairwise_cons.1 S.rs).1;refine((Sq.less S (List.sublist_cons_self _ _)).to (o:=v.ownBlock) ((ai _ w).grown h O λb a=>U) (λb a _ u=>h.block b a u) (λaf a=>(h.block _ O λe=>U).trans a) λb a=>⟨C b a,λx=>?_,λs j=>A s j b a,λq p e=>?_,λf d=>r f d b a⟩).rowA k y (λs j m a=>?_) λf d m a=>?_
 .obtain⟨_,F,H,z⟩:=S.nlt x;exact gy l z (k.ne (.inl rfl)) a
 .exact gy l (S.bx q p).2.2 (λe=>(S.bx q p).2.1 (e ▸ k)) (e ▸ a)
 .rcases n with e|e
  .grind
  .rw[e]at a;cases a;exact S.elt j cJ
 .rcases n with e|e
  .exact r f d m (e ▸ a)
  .rw[show(t,c,g).2.1.ownBlock=_ from e]at a;cases a;exact λe=>by have:=((S.rw f (.tail _ d)).2.1.lt _ e).2;omega
theorem Sq.swap{r b:C2×A6×List A6}(S:B5 (Sq E W G L w i L1 D zs B (r::b::R))):B5 (Sq E W G L w i L1 D zs B (b::r::R)):=
 {S.out with
  rw:=λf a=>S.rw f U
  rs:=by
   have a:=S.rs;simp only[List.pairwise_cons,gG,forall_eq_or_imp]at a⊢;exact⟨⟨λe c d=>a.1.1 e d c,a.2.1⟩,a.1.2,a.2.2⟩}
def Sq.here(S:Sq E W G L w i L1 D zs B R):∃c,(∀g,c=Ax g->Ng E w g)/\Sq E w c L1 w i L1 .nil [] [] []:=by
 have⟨f,b,p2⟩:=S.row;have d:=S.lo;have h:=S.low;exact⟨f.ownBlock,λg a=>(nbI b).2 a,⟨d.1,O,O,d.2.2.2⟩,S.tks,⟨f,b,p2⟩,⟨λg a=> .inl ((nbI b).1 a),λe a=>(by cases a)⟩,S.each,Ac.nil _ _,rfl,ai _ _,λ_ _ _ _=>rfl,λe a=>(by cases a),xi,λe a=>(by cases a),.nil⟩
theorem Sq.join{o:Option Nat}(S:Sq E W G L w i L1 D zs B R)(l:∀g,o=Ax g->Ng E w g)(s:Sq E w o L1 w' j L2 X ys [] R2):Sq E W G L w' j L2 (D.app X) (zs++ys) B (R2++R):=by
 have y:=S.lo;have p:=S.low;have ag:=s.bl.size;have q:∀a,W.heap.size<=a->a<w.heap.size->¬Ng E w a->w'.heap[a]?=w.heap[a]?:=λa h f m=>s.fz a f O λe=>m (l a e);have A:∀b∈R,∀g,b.2.1.ownBlock=Ax g->¬Ng E w g:=λb hr g k z=>by
  have⟨_,K,af,C⟩:=S.nlt z;exact gy (S.rw b hr).2.1 C ((S.rw b hr).1.ne (.inl rfl)) k
 refine⟨y,s.tks,s.row,⟨λg k=>?_,λd c k=>?_⟩,s.each,S.ac.app s.ac p.2,by rw[Fo.tops_app,S.tp,<-S.ac.len,s.tp],S.bl.trans s.bl,λa h f m=>(s.fz a O f λe=>?_).trans (S.fz a h f m),λd c=>⟨(S.bx d c).1,(S.bx d c).2.1,(q _ (S.bx d c).1 (ah (S.bx d c).2.2) (S.nb.2 d c)).trans (S.bx d c).2.2⟩,S.bd,λb hr=>?_,List.pairwise_append.2 ⟨s.rs,S.rs,λt v u x g h f=>by have:=((s.rw t v).2.1.lt g h).1;have:=((S.rw u x).2.1.lt g f).2;omega⟩⟩
 .rcases s.nb.1 g k with e|e
  .exact S.nb.1 g (l g e)
  omega
 .rcases s.nb.1 _ k with e|e
  .exact S.nb.2 d c (l _ e)
  .have:=ah (S.bx d c).2.2;omega
 .rcases S.nb.1 a (l a e) with e|e;all_goals grind
 .rcases List.mem_append.1 hr with hr|hr
  .exact⟨(s.rw b hr).1,nK (s.rw b hr).2.1 p.2,(s.rw b hr).2.2⟩
  .obtain⟨F,r,al⟩:=S.rw b hr;refine⟨F,jL r λg n h f=>⟨q g h f (A b hr g n),h⟩,λam ak g n=>?_⟩;obtain⟨H,rfl,_,ad⟩:=s.ac;have:=(r.lt g n).2;grind
end
def CQ(E:Pe)(f:FuncId)(args:Array A6)(i:Nat)(X:Fo)(j:Nat)(Z1:A6->List Int->Rws->Prop):Prop:=
 ∀(W:A9)(G:Option Nat)(L:List Mb),Sq E W G L W i L .nil [] [] []->M L+X.sz<=50000000->D3 Br f args W λe w'=>∃v L2 ys R2,e= B0 v/\Z1 v ys R2/\B5 (Sq E W G L w' j L2 X ys [] R2)
abbrev CI(E:Pe)(f:FuncId)(args:Array A6)(i:Nat)(X:Fo)(j:Nat):Prop:=CQ E f args i X j λv ys R2=>∃a,v= A0 A2 a/\ys=[a]/\R2=[]
abbrev CL(E:Pe)(f:FuncId)(args:Array A6)(i:Nat)(X:Fo)(j:Nat):Prop:=CQ E f args i X j λv ys R2=>∃a b,v= A5 a (M ys) b/\R2=[(3,v,ys.map iv)]
abbrev CM(E:Pe)(i:Nat)(ns:List Bz)(j:Nat):Prop:=CQ E 148 #[pV E] i .nil j λv ys R2=>∃a b,v= A5 a (M ns) b/\ys=[]/\R2=[(9,v,ns.map B7)]
def Sq.cq{E:Pe}{b:Option Nat}{L a:List Mb}{j:Nat}{D X:Fo}{c:List Int}{B:Bxs}{R:Rws}{f:FuncId}{args:Array A6}{Z1:A6->List Int->Rws->Prop}{Q:Ending->A9->Prop}(S:B5 (Sq E W b L w i a D c B R))(C:CQ E f args i X j Z1)(h:M a+X.sz<=50000000)(k:∀w' v L2 ys R2,Z1 v ys R2->B5 (Sq E W b L w' j L2 (D.app X) (c++ys) B (R2++R))->Q (B0 v) w'):D3 Br f args w Q:=by
 have⟨d,e,g⟩:=S.here;apply(C w d a g h).mono;rintro n w' ⟨v,L2,ys,R2,rfl,l,m⟩;exact k w' v L2 ys R2 l (S.join e m)
section
variable {E : Pe} {W w w' : World} {G : Option Nat} {L L1 : List Mb} {i j b q : Nat} {D : Fo} {zs : List Int} {B : Bxs} {R : Rws} {k : Int}
def Sq.cells(S:Sq E W G L w i L1 D zs B R):w.cell? ⟨E.pb,0,A3⟩=Ax (A5 (Ax ⟨E.tb,0,A3⟩) E.n E.cap)/\w.cell? ⟨E.pb,1,A3⟩=Ax (A0 A2 i)/\∀j,w.frozen? ⟨E.pb,j,A3⟩=Ck:=by
 have⟨b,a,_⟩:=S.row;exact⟨by rw[au _ _ _ _ _ _ a];rfl,by rw[au _ _ _ _ _ _ a];rfl,λj=>cD _ _ _ _ _ a⟩
def Sq.tok(S:Sq E W G L w i L1 D zs B R)(d:q<E.n):∃l,((E.tk q).k≠6->l=(E.tk q).l)/\w.cell? ⟨E.tb,q*6,A3⟩=Ax (A0 A2 (E.tk q).k)/\w.cell? ⟨E.tb,q*6+1,A3⟩=Ax (A0 A2 (E.tk q).f)/\w.cell? ⟨E.tb,q*6+2,A3⟩=Ax (A0 A2 (E.tk q).t)/\w.cell? ⟨E.tb,q*6+3,A3⟩=Ax (A0 A2 l)/\w.cell? ⟨E.tb,q*6+4,A3⟩=Ax (A0 A2 (E.tk q).n)/\w.cell? ⟨E.tb,q*6+5,A3⟩=Ax (B3 (E.tk q).x):=by
 have⟨e,g,b,c⟩:=S.tks;have⟨l,a⟩:=c q d;exact⟨l,a.hl,by rw[au _ _ _ _ _ _ b];exact a.c0,by rw[au _ _ _ _ _ _ b];exact a.c1,by rw[au _ _ _ _ _ _ b];exact a.c2,by rw[au _ _ _ _ _ _ b];exact a.c3,by rw[au _ _ _ _ _ _ b];exact a.c4,by rw[au _ _ _ _ _ _ b];exact a.c5⟩
def arz(S:Sq E W G L w i L1 D zs B R)(a:i<E.n):D3 Br 92 #[pV E] w λe w'=>e= B0 (A0 A2 (E.tk i).k)/\D4 w.heap.size w w':=by
 have b:=S.cells;have⟨g,f,h⟩:=S.tok a;have d:(i:Int)<(E.n:Int):=O;have c:(0:Int)<=(i:Int):=O;go_in;go_wp2_with fail;go_quiet (fail)
 go_wp2;go_ret;exact⟨rfl,rfl,rfl,rfl,cJ,λ_ _=>rfl⟩
def Sq.kind(S:B5 (Sq E W G L w i L1 D zs B R))(c:(E.tk i).k=k)(b:i<E.n:=by omega):D3 Br 92 #[pV E] w λe w'=>e= B0 (A0 A2 k)/\B5 (Sq E W G L w' i L1 D zs B R):=c ▸ (arz S b).mono λ_ _ a=>⟨a.1,Sq.below S a.2⟩
def TkW(E:Pe)(q:Nat)(w:A9):Prop:=w.cell? ⟨E.tb,q*6,A3⟩=Ax (A0 A2 (E.tk q).k)/\w.cell? ⟨E.tb,q*6+1,A3⟩=Ax (A0 A2 (E.tk q).f)/\w.cell? ⟨E.tb,q*6+2,A3⟩=Ax (A0 A2 (E.tk q).t)/\w.cell? ⟨E.tb,q*6+3,A3⟩=Ax (A0 A2 (E.tk q).l)/\w.cell? ⟨E.tb,q*6+4,A3⟩=Ax (A0 A2 (E.tk q).n)/\w.cell? ⟨E.tb,q*6+5,A3⟩=Ax (B3 (E.tk q).x)
def Sq.tkw(S:Sq E W G L w i L1 D zs B R)(d:q<E.n)(b:(E.tk q).k≠6):TkW E q w:=by
 have⟨l,c,e,f,g,a,h,j⟩:=S.tok d;rw[c b]at a;exact⟨e,f,g,a,h,j⟩
theorem Sq.next(S:Sq E W G L w i L1 D zs B R):Sq E W G L (w.setCell ⟨E.pb,1,A3⟩ (A0 A2 ((i:Int)+1))) (i+1) L1 D zs B R:=
 S.to (o:=A3) ((ai _ w).setCell S.lo.1 _) (λb _ a _=>az _ _ _ _ a) (λc a=>(aI _ E.pb 1 _ _ _ a).trans U) λb a=>by cases a
theorem Sq.take(S:B5 (Sq E W G L w i L1 D zs B R))(r:(E.tk i).k=k)(p:i<E.n:=by omega)(o:k≠6:=by omega):D3 Br 146 #[pV E] w λe w'=>e= B0 (E0 (qi k (E.tk i)))/\B5 (Sq E W G L w' (i+1) L1 D zs B R):=by
 subst r;have h:=Sq.box (cs:=#[A0 A2 0,A0 A2 0,A0 A2 0,A0 A2 0,A0 A2 0,B3 ⟨#[]⟩]) (t:=48) S;have y:=h.cells;have F:=S.lo;have C:=S.low;have a:=aj h.next
 have g:=a.cells;have t:=a.tkw p o;unfold TkW at t;rw[(O:((i+1:Nat):Int)=(i:Int)+1)]at g;have A:(i:Int)<(E.n:Int):=O;have z:(0:Int)<=(i:Int):=O;have ad:IntKind.i64.wrap ((i:Int)+1-1)=(i:Int):=by rw[bJ];omega
 have af:IntKind.i64.wrap (i:Int)=(i:Int):=U;have ag:IntKind.i64.wrap ((i:Int)+1)=(i:Int)+1:=by rw[bJ];omega
 go_in;go_wp2_with fail;generalize F2 _ _ _=d at a g t⊢;have ak:=iu (Sq.hd a);have al:=qm (Sq.hd a);have H:E.pb≠w.heap.size:=O;have K:E.tb≠w.heap.size:=O;have s:=λk (m:k≠w.heap.size) b=>zH (W:=d) m b;unfold six at s;go_region_held3 (λj=>∀k,k≠w.heap.size->∀b,j.cell? ⟨k,b,A3⟩=d.cell? ⟨k,b,A3⟩) (first|simp_all|simp_all) (fail)
 have c:=Sq.below (Sq.set (q:=5) (u:= B3 (E.tk i).x) (Sq.set (q:=4) (u:= A0 A2 (E.tk i).n) (Sq.set (q:=3) (u:= A0 A2 (E.tk i).l) (Sq.set (q:=2) (u:= A0 A2 (E.tk i).t) (Sq.set (q:=1) (u:= A0 A2 (E.tk i).f) (Sq.set (q:=0) (u:= A0 A2 (E.tk i).k) a)))))) (bu (ai _ _));generalize World.drew _=v at c⊢;go_wp2;exact aD (fE rfl _ _ w.heap.size _ _ _ _ rfl (Sq.hd c) underlying48 rfl byR) rfl ⟨rfl,Sq.tail c⟩
def Dg(k c:Int)(T:Tk)(w:A9):D3 Br 147 #[A0 A2 k,E0 (qi c T)] w λe w'=>e= B0 (E0 #[A0 A2 k,A0 A2 T.f,A0 A2 0,A0 A2 T.l,A0 A2 0,A0 A2 0,B3 ⟨#[]⟩,s0,s0])/\D4 w.heap.size w w':=by
 go_in;go_wp2;exact aD (fE rfl _ _ (w.heap.size+1) _ _ _ _ rfl (Da rfl).2.1 underlying100 rfl J) rfl ⟨rfl,(de w _).alloc I _⟩
def Sq.node(S:B5 (Sq E W G L w i L1 D zs B R)){c:Int}{T:Tk}:D3 Br 147 #[A0 A2 k,E0 (qi c T)] w λe w'=>e= B0 (E0 #[A0 A2 k,A0 A2 T.f,A0 A2 0,A0 A2 T.l,A0 A2 0,A0 A2 0,B3 ⟨#[]⟩,s0,s0])/\B5 (Sq E W G L w' i L1 D zs B R):=(Dg k c T w).mono λ_ _ a=>⟨a.1,Sq.below S a.2⟩
def Sq.isY(S:B5 (Sq E W G L w i L1 D zs B R))(c:(E.tk i).k=k)(b:i<E.n:=by omega):D3 Br 93 #[pV E,A0 A2 k] w λe w'=>e= B0 (F1 B2)/\B5 (Sq E W G L w' (i+1) L1 D zs B R):=by
 have g:(k !=k)=Ck:=I;have j:=S.lo.2.2.2;have d:=Sq.kind S c b;go_in;go_wp2_with fail;refine dm d λw1 a=>?_;have f:=a.cells;have h:=a.lo.1;go_wp2;go_ret;exact⟨rfl,a.next⟩
theorem Sq.isN(S:B5 (Sq E W G L w i L1 D zs B R))(c:(E.tk i).k≠k)(a:i<E.n:=by omega):D3 Br 93 #[pV E,A0 A2 k] w λe w'=>e= B0 (F1 Ck)/\B5 (Sq E W G L w' i L1 D zs B R):=by
 have d:((E.tk i).k !=k)=B2:=U;have b:=Sq.kind S rfl a;go_in;go_wp2_with fail;refine dm b λw1 f=>?_;go_wp2;go_ret
 simp_all
end
def Rin(R:Rws)(t:C2)(v:A6)(xs:List A6):Prop:=(v=s0/\xs=[])\/(t,v,xs)∈R
section
variable {E : Pe} {W w w' : World} {G : Option Nat} {L L1 : List Mb} {i j b q : Nat} {D : Fo} {zs : List Int} {B : Bxs} {R : Rws} {k f t l op n : Int} {x : Bz}
def Rin.own{u:C2}(h:Rin R u v xs)(S:Sq E W G L w i L1 D zs B R):w.ownsRow W.heap.size u 1 v (M xs) xs:=by
 rcases h with⟨rfl,rfl⟩|h
 .exact dA _ _ _ _
 .exact(S.rw _ h).2.1
theorem Sq.push(S:Sq E W G L w i L1 D zs B R)(a5:w.heap[E.pb]?=Ax (pC E i v)){c:A9}{r cap:Nat}(av:M L1+1=r)(x:Mb)(K:c.ownsRow E.base 100 9 (A5 (Ax ⟨g,0,A3⟩) r cap) r (oa (L1++[x])))(l:w.grownBy c v.ownBlock)(z:v.ownBlock=Ax g\/g=w.heap.size)
  (on:Rin R 9 x.vn (x.N.nm.map B7)) (a0:Rin R 3 x.vk (x.N.ks.map iv)) (ar:x.N.ks=zs):
  Sq E W G L (c.setCell ⟨E.pb,2,A3⟩ (A5 (Ax ⟨g,0,A3⟩) r cap)) i (L1++[x]) (one {x.N with ks:=[]} D) [(M L1:Int)] B []/\c.heap[E.pb]?=Ax (pC E i v):=by
 subst av;have⟨a4,m,p2⟩:=S.row;obtain rfl:a4=v:=U;have C:=S.lo;have A:=S.low;have⟨an,n,ag,a3⟩:=S.tks;have y:∀a,a<w.heap.size->¬Ng E w a->c.heap[a]?=w.heap[a]?:=λa h f=>l.block a h λe=>f ((nbI m).2 e.symm);have aL:¬Ng E w E.pb:=λh=>by obtain⟨_,t,n,s⟩:=S.nlt h;grind
 have q:=(y _ O aL).trans m;have o:∀a,a<w.heap.size->a≠E.pb->¬Ng E w a->(c.setCell ⟨E.pb,2,A3⟩ (A5 (Ax ⟨g,0,A3⟩) (M L1+1) cap)).heap[a]?=w.heap[a]?:=λa j d k=>(az _ _ _ _ d).trans (y a j k);have ad:∀{F H e size f:Nat}{ak:A6}{al:List A6},w.ownsRow F e size ak f al->H<=F->e≠100->e≠117->(c.setCell ⟨E.pb,2,A3⟩ (A5 (Ax ⟨g,0,A3⟩) (M L1+1) cap)).ownsRow H e size ak f al:=λp A j d=>jL p λg l k ao=>⟨o g ao (λe=>gy p m (dy d) (e ▸ l)) λf=>(by have⟨_,t,n,s⟩:=S.nlt f;exact gy p s (dy j) l),aK A k⟩;have af:=aI c E.pb 2 _ _ (A5 (Ax ⟨g,0,A3⟩) (M L1+1) cap) q;have a2:=on.own S;have a1:=a0.own S;have u:∀{a},Ng E (c.setCell ⟨E.pb,2,A3⟩ (A5 (Ax ⟨g,0,A3⟩) (M L1+1) cap)) a->g=a:=λh=>by simpa [B1] using(nbI af).1 h
 refine⟨⟨C,⟨an,n,(o _ (ah ag) (λe=>U) λh=>?_).trans ag,a3⟩,⟨_,af,by rw[aB];exact uq K (gy K q Z) 2 _⟩,⟨λa h=>?_,λb h d=>?_⟩,λam hy=>?_,S.ac.add x.N (ar.trans S.tp.symm) λa h=>?_,by rw[ahG,S.ac.len],S.bl.trans (((ai _ w).grown l O λa ap=>(p2.lt a ap).1).setCell C.1 _),λa j d k=>(o a O d λh=>?_).trans (S.fz a j d k),λb h=>⟨(S.bx b h).1,(S.bx b h).2.1,(o _ (ah (S.bx b h).2.2) (by have:=(S.bx b h).1;omega) (S.nb.2 b h)).trans (S.bx b h).2.2⟩,S.bd,λr h=>(by cases h),.nil⟩,q⟩
 .obtain⟨_,t,n,s⟩:=S.nlt h;grind
 .obtain rfl:=u h;rcases z with e|e
  .exact S.nb.1 g ((nbI m).2 e)
  omega
 .obtain rfl:=u d;rcases z with e|e
  .exact S.nb.2 b h ((nbI m).2 e)
  .have:=ah (S.bx b h).2.2;omega
 .rcases List.mem_append.1 hy with hy|hy
  .exact⟨ad (S.each am hy).1 cJ Z Z,ad (S.each am hy).2 cJ Z Z⟩
  grind
 .rcases h with h|h
  .exact(a2.lt a h).1
  .exact(a1.lt a h).1
 .rcases S.nb.1 a h with e|e;all_goals grind
theorem Sq.add(S:B5 (Sq E W G L w i L1 D zs B R)){vn vk:A6}{nm:List Bz}(ba:(vn=s0/\nm=[])\/(9,vn,nm.map B7)∈R)(ag:Rin R 3 vk (zs.map iv))(bl:M L1<=50000000)(b8:1<=i:=by omega)(cb:i<=E.n:=by omega):
  D3 Br 150 #[pV E,E0 #[A0 A2 k,A0 A2 f,A0 A2 t,A0 A2 l,A0 A2 op,A0 A2 n,B3 x,vn,vk]] w λe w'=>∃z,e= B0 (A0 A2 z)/\∃L2,B5 (Sq E W G L w' i L2 (one ⟨k,f,(E.tk (i-1)).t,l,op,n,x,nm,[]⟩ D) [z] B []):=by
 have am:Rin R 9 vn (nm.map B7):=ba.imp (λF=>⟨F.1,U⟩) id;clear ba;obtain⟨q,rfl⟩:∃q,i=q+1:=⟨i-1,O⟩;obtain⟨h,m,rfl⟩:=cG (am.own S);obtain⟨g,j,rfl⟩:=cG (ag.own S);simp only[dr]at am ag⊢;rw[ou];obtain⟨c,al⟩:=aw (M L1);obtain⟨p,bt⟩:=aw (M nm);obtain⟨o,bs⟩:=aw (M zs);rw[al]at bl;rw[bt]at am⊢;rw[bs]at ag⊢;have ce:=S.lo;have br:=S.low;have bk:((q+1:Nat):Int)=(q:Int)+1:=O;have a0:=λr=>(Sq.below S (de w r)).cells;have a5:∀r,(w.alloc r).cell? ⟨E.tb,q*6+2,A3⟩=Ax (A0 A2 (E.tk q).t):=λr=>by
  obtain⟨l,br,cm,cp,a5,cq,cr,ct⟩:=(Sq.below S (de w r)).tok (q:=q) O;exact a5
 rw[bk]at a0;have ca:(q:Int)<(E.n:Int):=O;have b9:(0:Int)<=(q:Int):=O;have cf:IntKind.i64.wrap ((q:Int)+1-1)=(q:Int):=by rw[bJ];omega
 have cg:IntKind.i64.wrap (q:Int)=(q:Int):=U;have b1:=Sq.box (cs:=xF ⟨k,f,(E.tk q).t,l,op,n,x,nm,zs⟩ (A5 h p m) (A5 g o j)) (t:=100) S;go_in;go_wp2_with fail;go_region_held3 (λw'=>w'.cell? ⟨E.pb,0,A3⟩=Ax (A5 (Ax ⟨E.tb,0,A3⟩) E.n E.cap)/\w'.cell? ⟨E.pb,1,A3⟩=Ax (A0 A2 ((q:Int)+1))/\w'.cell? ⟨E.tb,q*6+2,A3⟩=Ax (A0 A2 (E.tk q).t)) (exact⟨(a0 _).1,(a0 _).2.1,a5 _⟩) (fail)
 have K:=Sq.below b1 (bu (ai _ _));have bc:(w.alloc (B6 (xF ⟨k,f,(E.tk q).t,l,op,n,x,nm,zs⟩ (A5 h p m) (A5 g o j)) 100)).drew.heap.size=w.heap.size+1:=fp _ _;generalize World.drew _=d at K bc⊢;obtain⟨v,af,a2⟩:=K.row;obtain⟨y,A,rfl⟩:=cG a2;have a1:d.cell? ⟨E.pb,2,A3⟩=Ax (A5 y (M L1) A):=by rw[au _ _ _ _ _ _ af];rfl
 rw[al]at a1 af a2;go_wp2_with fail;have a3:=Sq.hd K;refine wp_region_held_drew (S:=λar=>ar.heap[w.heap.size]?=Ax (B6 (xF ⟨k,f,(E.tk q).t,l,op,n,x,nm,zs⟩ (A5 h p m) (A5 g o j)) 100 (0,0))) byR a3 (λhS=>?_);simp only[iB,db,fx,Nat.reduceAdd,iA,jb,jc,dI,dt];refine bB 0 (E1 (Ax ⟨E.pb,0,A3⟩)) rfl rfl hS (λw' s=>by go_simp) ?_;simp only[Fs];refine bB 1 (E1 (Ax ⟨E.pb,0,A3⟩)) rfl rfl hS (λw' s=>by go_simp) ?_;simp only[Fs];refine bB 2 (E1 (Ax ⟨E.pb,0,A3⟩)) rfl rfl hS (λw' s=>by go_simp) ?_;simp only[Fs];refine bB 3 (E1 (Ax ⟨E.pb,2,A3⟩)) rfl rfl hS (λw' s=>by go_simp) ?_;simp only[Fs];refine I3 5 23 (E0 (xF ⟨k,f,(E.tk q).t,l,op,n,x,nm,zs⟩ (A5 h p m) (A5 g o j))) rfl rfl J J J (λ_ _ _ F=>F) byR hS (λw' s=>by have z:=co (N:=⟨k,f,(E.tk q).t,l,op,n,x,nm,zs⟩) s;go_simp) ?_;simp only[Act.put,bF,bG,bI];have bn:=a1;refine tg (S:=λar=>ar.cell? ⟨E.pb,2,A3⟩=Ax (A5 y c A)) (C:=λH=>!(H==7||H==8||H==9||H==10)) (i:=4) (v:= A5 y c A) rfl (zn J) (λ_ _ _ F=>F) ?hC _ _ _ _ (zo rfl J) (List.contains_iff_mem.1 J) (Or.inl ⟨byR,λw' s=>by go_simp⟩) hS bn ?_
 case hC=>
  intro H cl a9 b;simp only[Bool.not_eq_false',xc,mL]at b;rcases b with((rfl|rfl)|rfl)|rfl
  .obtain rfl:=cC a9;exact⟨{on:=4,ground:=Ground.data},I,rfl,rfl⟩
  all_goals
   obtain rfl:=cC a9;exact⟨{on:=4,ground:=Ground.phase},I,rfl,rfl⟩
 simp only[Act.put,bF,bG,bI];refine eK (i:=6) J rfl (λu a=>?_);go_simp;have aL:∀r,D4 d.heap.size d (d.drew.alloc r):=λr=>(bu (ai _ _)).alloc I _;refine a _ _ (((aL _).block _ (ah a3)).trans a3) (λ_=>aq (aL _) a1) ?_;clear a u hS aL;try simp only[bF,bG,bI]
 have ad:=bu (de d (B6 (xF ⟨k,f,(E.tk q).t,l,op,n,x,nm,zs⟩ (A5 h p m) (A5 g o j)) 100));have bf:(d.alloc (B6 (xF ⟨k,f,(E.tk q).t,l,op,n,x,nm,zs⟩ (A5 h p m) (A5 g o j)) 100)).drew.heap[d.heap.size]?=_:=ay d _;generalize World.drew (World.alloc _ _)=bh at ad bf⊢;have b2:=Sq.below K ad;have b0:=(ad.block _ (ah af)).trans af;have cc:=K.low;obtain⟨bv,bw,bx,bA,bD⟩:=eC Aa;refine eK (i:=7) J rfl (λu a=>?_);refine step_append_lies _ byR _ _ 24 byR E.base 100 bv _ 9 112 underlying24 bw bx bA bD rfl Z (A5 y c A) c _ byR (bz a2 ad) ⟨d.heap.size,0,A3⟩ 1 1 (xF ⟨k,f,(E.tk q).t,l,op,n,x,nm,zs⟩ (A5 h p m) (A5 g o j)).toList (by rw[bc];rfl) rfl (World.news_of_block bf) (by intro cu bb;simp at bb;rcases bb with rfl|rfl|rfl|rfl|rfl|rfl|rfl|rfl|rfl<;>rfl) Z py O U bh.heap.size rfl ?_;intro a8 a7 a6 bE bp bo cd;obtain⟨bd,a4⟩:=b2.push b0 (by rw[al]) ⟨⟨k,f,(E.tk q).t,l,op,n,x,nm,zs⟩,A5 h p m,A5 g o j⟩ (by rw[vG];exact bE) bp bo am ag rfl;have bg:=Sq.hd bd;have ao:=bg;rw[az _ _ _ _ U]at ao;have b6:a6.cell? ⟨E.pb,2,A3⟩=Ax (A5 y c A):=by rw[au _ _ _ _ _ _ a4];rfl
 have b7:a6.frozen? ⟨E.pb,2,A3⟩=Ck:=cD _ _ _ _ _ a4;have ap:=Sq.tail bd;refine a _ _ ao (λb=>by cases b) ?_;simp only[Act.put,bF,bG,bI];refine eK (i:=8) J rfl (λu a=>?_);go_simp;refine a _ _ ao (λb=>by cases b) ?_;try simp only[bF,bG,bI]
 refine eK (i:=9) J rfl (λu a=>?_);go_simp;refine a _ _ ao (λb=>by cases b) ?_;try simp only[bF,bG,bI]
 refine eK (i:=10) J rfl (λu a=>?_);go_simp;refine a _ _ bg (λb=>by cases b) ?_;refine vI byR ?_ _;have bj:(a6.setCell ⟨E.pb,2,A3⟩ (A5 (Ax ⟨a8,0,A3⟩) (c+1) a7)).cell? ⟨E.pb,2,A3⟩=Ax (A5 (Ax ⟨a8,0,A3⟩) (c+1) a7):=by rw[au _ _ _ _ _ _ (aI _ E.pb 2 _ _ _ a4)];rfl
 rw[al]at ap;generalize F2 _ _ _=b5 at ap bj⊢;have ch:IntKind.i64.wrap ((c:Int)+1-1)=(c:Int):=by rw[bJ];omega
 go_wp2;go_ret;exact⟨c,by go_num,_,ap⟩
end
def Trw(st t:C2):Prop:=∃a b,Tryz.prog.underlying st=Ax (.slice t)/\(Tryz.prog.info? t).map (λi=>(i.zero,i.size,i.bytes))=Ax (Ax a,1,b)/\a.cells.size=1/\b<=100
def tI:Trw 98 3:=⟨A0 A2 0,8,underlying98,J,rfl,Z⟩
def tS:Trw 97 9:=⟨B3 ⟨#[]⟩,16,underlying97,J,rfl,Z⟩
section
variable {E : Pe} {W w w' : World} {G : Option Nat} {L L1 : List Mb} {i j b q : Nat} {D : Fo} {zs : List Int} {B : Bxs} {R : Rws} {k : Int} {t : TypeId} {cs : Array Value}
def Sq.rd(S:B5 (Sq E W G L w i L1 D zs ((b,t,cs)::B) R)):(∀q,w.cell? ⟨b,q,A3⟩=cs[q]?)/\(∀q,w.frozen? ⟨b,q,A3⟩=Ck)/\b<w.heap.size:=by
 have a:=Sq.hd S;exact⟨λq=>by rw[au _ _ _ _ _ _ a],λq=>cD _ _ _ _ _ a,ah a⟩
def Sq.fin(S:B5 (Sq E W G L w i L1 D zs B R)):B5 (Sq E W G L w i L1 D zs [] R):=S.sub (λb a=>by cases a) xi
def Sq.fin0(S:B5 (Sq E W G L w i L1 D zs B R)):B5 (Sq E W G L w i L1 D zs [] []):=Sq.fin (Sq.less S (List.nil_sublist _))
def Sq.ln(S:B5 (Sq E W G L w i L1 D zs B R)):M L1=M L+D.sz:=S.ac.len
def aoL{t:Int}{b:Bool}(h:nD t=b)(w:A9):D3 Br 163 #[A0 A2 t] w λe w'=>e= B0 (F1 b)/\w'=w:=h ▸ ub w t
theorem ao0(k:Int)(w:A9):D3 Br 242 #[A0 A2 k] w λe w'=>e= B0 (A0 A2 (alA k))/\w'=w:=by
 unfold alA;by_cases a:k=25
 .subst a;go_in;go_wp2;go_ret
  simp_all
 by_cases b:k=50
 .subst b;go_in;go_wp2;go_ret
  simp_all
 by_cases c:k=69
 .subst c;go_in;go_wp2;go_ret
  simp_all
 .rw[aa a,aa b,aa c];have d:(k==25)=Ck:=U;have f:(k==50)=Ck:=U;have g:(k==69)=Ck:=U;go_in;go_wp2;go_ret
  simp_all
def ato{t:Int}{b:Bool}(h:fC t=b)(w:A9):D3 Br 104 #[A0 A2 t] w λe w'=>e= B0 (F1 b)/\w'=w:=h ▸ ud w t
def arA(a b c d e f:A6)(w:A9):(Instr.field 48 (E0 #[a,b,c,d,e,f]) 0).run Br w= .ok a w:=J
theorem Sq.rn{a:Option Addr}{b:Nat}(S:B5 (Sq E W G L w i L1 D zs B ((t,A5 a n b,xs)::R))):M xs=n:=by
 obtain⟨c,d,e⟩:=cG (S.rw _ (.head _)).2.1;grind
theorem Sq.at2{r:C2×A6×List A6}{a:Option Addr}{c q:Nat}{e:List Int}{x:Int}(S:B5 (Sq E W G L w i L1 D zs B (r::(3,A5 a n c,e.map iv)::R)))(h:e[q]?=Ax x):∃g,a=Ax ⟨g,0,A3⟩/\w.cell? ⟨g,q,A3⟩=Ax (A0 A2 x):=by
 have d:=(S.rw _ (.tail _ (.head _))).2.1;have l:=(List.getElem?_eq_some_iff.1 h).1;rcases bm d with⟨k,_⟩|⟨g,j,b⟩
 .grind
 .simp only[Value.slice.injEq]at b;obtain⟨rfl,_,_⟩:=b;have f:=d.cells rfl q (A0 A2 x) U;rw[show(⟨g,0,A3⟩:Addr).add q=⟨g,q,A3⟩ by unfold Addr.add;grind]at f;grind
section
variable {ops : Array Oper} {rest : List Oper} {o : Oper} {a : Act} {Q : Exit → Act → World → Prop} {av : Option Addr} {n cv : Nat} {xs : List Value}
theorem Sq.apG{st:C2}{m:Nat}(T:Trw st t)(S:B5 (Sq E W G L w i L1 D zs B ((t,A5 av n cv,xs)::R)))(hn:n<=50000000)(ag:u.oneCell'=B2)(v:o.guard=A3)(s x:Operand)(z:o.op= .call {callee:= .builtin .append,args:=#[s,x],argTypes:=#[st,st]})(A:a.eval s= A5 av n cv)(C:a.eval x= A5 (Ax ⟨m,0,A3⟩) 1 1)(d:w.heap.size=m)
  (h:∀g cap w1,B5 (Sq E W G L w1 i L1 D zs B ((t,A5 (Ax ⟨g,0,A3⟩) (n+1) cap,xs++[u])::R))->wpList Br ops Q rest (a.put o.dst (A5 (Ax ⟨g,0,A3⟩) (n+1) cap)) w1):wpList Br ops Q (o::rest) a (w.alloc (B6 #[u] t)):=by
 subst d;obtain⟨af,c,j,k,l,p⟩:=T;have⟨ad,y,F,H,K⟩:=eC k;have b:=Sq.below S (de w (B6 #[u] t));have f:=(b.rw _ (.head _)).2.1;simp only[Sq.rn S]at f;have d:(n+1)*c<=50000001*100:=Nat.mul_le_mul O p;refine wpList_append_own_at _ v s x st z W.heap.size t ad af 1 c j y F H K l Z _ _ _ A f ⟨w.heap.size,0,A3⟩ 1 1 [u] C rfl (cell_one_new _ _ _) U py O (Sq.low b).2 ?_;intro ak w1 e r _ q;obtain⟨g,cap,rfl⟩:=ownsRow_succ e;exact h g cap w1 (Sq.put b r (by simpa [Sq.rn S] using e) q)
theorem Sq.app{l:List Int}{z:Int}(S:B5 (Sq E W G L w i L1 D (l++[z]) B ((3,A5 av n cv,xs)::R)))(r:M L1<=50000000)(d:o.guard=A3)(s x:Operand)(e:o.op= .call {callee:= .builtin .append,args:=#[s,x],argTypes:=#[98,98]})(f:a.eval s= A5 av n cv)(j:a.eval x= A5 (Ax ⟨w.heap.size,0,A3⟩) 1 1)(k:xs=l.map iv)
  (h:∀g cap w1,B5 (Sq E W G L w1 i L1 D (l++[z]) B ((3,A5 (Ax ⟨g,0,A3⟩) (n+1) cap,(l++[z]).map iv)::R))->wpList Br ops Q rest (a.put o.dst (A5 (Ax ⟨g,0,A3⟩) (n+1) cap)) w1):wpList Br ops Q (o::rest) a (w.alloc (B6 #[A0 A2 z] 3)):=by
 subst k;have b:=Sq.rn S;have c:=congrArg M S.tp;have p:=D.len_le;have q:=S.ac.len;rw[Fo.tops_len,aB]at c;rw[dr]at b;exact Sq.apG tI S O rfl d s x e f j rfl λg cap w1 m=>h g cap w1 U
end
end
abbrev tkV(k:Int)(T:Tk):A6:= E0 (qi k T)
abbrev fnV(T:Tk):A6:= E0 #[A0 A2 36,A0 A2 T.f,A0 A2 0,A0 A2 T.l,A0 A2 0,A0 A2 0,B3 ⟨#[]⟩,s0,s0]
abbrev ndA(k op n:Int)(x:Bz)(T:Tk)(vn vk:A6):Array A6:=#[A0 A2 k,A0 A2 T.f,A0 A2 0,A0 A2 T.l,A0 A2 op,A0 A2 n,B3 x,vn,vk]
section
variable (E : Pe)
abbrev CX(p:Int)(i:Nat)(x:Fo)(j:Nat):Prop:=CI E 151 #[pV E,A0 A2 p] i x j
abbrev CU(i:Nat)(x:Fo)(j:Nat):Prop:=CI E 208 #[pV E] i x j
abbrev CB(i:Nat)(x:Fo)(j:Nat):Prop:=CI E 155 #[pV E] i x j
abbrev CK(i:Nat)(x:Fo)(j:Nat):Prop:=CI E 144 #[pV E] i x j
abbrev CLx(i:Nat)(x:Fo)(j:Nat):Prop:=CL E 149 #[pV E] i x j
abbrev CSs(i:Nat)(x:Fo)(j:Nat):Prop:=CL E 44 #[pV E,A0 A2 43] i x j
abbrev CBd(T:Tk)(i:Nat)(x:Fo)(j:Nat):Prop:=CI E 152 #[pV E,fnV T] i x j
abbrev CBr(k:Int)(i:Nat)(x:Fo)(j:Nat):Prop:=CI E 153 #[pV E,tkV k (E.tk i)] (i+1) x j
inductive Wu (i:Nat):FuncId->Fo->Nat->Prop
 |leaf {k nk:Int}:(k=24/\nk=20)\/(k=29/\nk=21)\/(k=17/\nk=22)\/(k=49/\nk=27)->(E.tk i).k=k->i+1<E.n->Wu i 208 (one (lj nk (E.tk i) (E.tk i).t) .nil) (i+1)
 |intg:(E.tk i).k=2->i+1<E.n->Wu i 208 (one (nd 23 (E.tk i) (E.tk i).t 0 (E.tk i).n z0 []) .nil) (i+1)
 |word {k nk:Int}:(k=3/\nk=24)\/(k=4/\nk=25)->(E.tk i).k=k->i+1<E.n->Wu i 208 (one (nd nk (E.tk i) (E.tk i).t 0 0 (E.tk i).x []) .nil) (i+1)
 |pre {k:Int}{x:Fo}{j:Nat}:k=25\/k=50\/k=62\/k=69->(E.tk i).k=k->i<E.n->CU E (i+1) x j->i+1<=j->j<=E.n->Wu i 208 (one (nd 30 (E.tk i) (E.tk (j-1)).t (alA k) 0 z0 []) x) j
 |fn {x:Fo}{j:Nat}:(E.tk i).k=18->i<E.n->CBd E (E.tk i) (i+1) x j->Wu i 208 x j
 |base {k:Int}{x:Fo}{j:Nat}:k=1\/k=40->(E.tk i).k=k->i<E.n->CB E i x j->Wu i 208 x j
 |block {k:Nat}{x:Fo}:(E.tk i).k=42->i<E.n->CSs E (i+1) x k->(E.tk k).k=43->k+1<E.n->Wu i 144 (one (lj 1 (E.tk i) (E.tk k).t) x) (k+1)
end
def qx{E:Pe}{j:Nat}{f:FuncId}{X:Fo}(h:Wu E i f X j):CI E f #[pV E] i X j:=by
 cases h
 case' leaf h _ _=>rcases h with⟨rfl,rfl⟩|⟨rfl,rfl⟩|⟨rfl,rfl⟩|⟨rfl,rfl⟩
 case' word h _ _=>rcases h with⟨rfl,rfl⟩|⟨rfl,rfl⟩
 case' pre h _ _ _ _ _=>rcases h with rfl|rfl|rfl|rfl
 case' base h _ _ _=>rcases h with rfl|rfl
 all_goals
  intro n l m h g;have a:=aj h;try simp only[dj,Fo.sz_app,Fo.sz]at g
  go_in
  repeat' (go_wp2_with fail;first
   |(go_at_call 92;refine dm (Sq.kind a lG) λc a=>?_)
   |(go_at_call 146;refine dm (Sq.take (by first|exact a|exact Sq.set a) lG) λc a=>?_;(try have e:=Sq.rd a))
   |(go_at_call 163;first|refine eE (aoL (b:=B2) Z _) ?_|refine eE (aoL (b:=Ck) Z _) ?_)
   |(go_at_call 242;refine eE (ao0 _ _) ?_)
   |(go_at_call 147;refine dm (Sq.node (by first|exact a|exact Sq.box a)) λc a=>?_;(try have e:=Sq.rd a))
   |(go_at_call 150;refine(Sq.add (by first|exact a|exact Sq.lit1 (Sq.box a)|exact Sq.box a) (.inl ⟨rfl,rfl⟩) (by first|exact .inl ⟨rfl,rfl⟩|exact .inr (.head _)) (by have:=Sq.ln a;simp only[Fo.sz_app,Fo.sz]at this;omega)).mono ?_;rintro q c ⟨k,rfl,d,a⟩)
   |(refine Sq.cq (by first|exact a|exact Sq.box a) lG (by have:=Sq.ln a;simp only[Fo.sz_app,Fo.sz]at this;omega) ?_;(first|rintro c _ d _ _ ⟨k,rfl,rfl,rfl⟩ a|rintro c _ d r _ ⟨o,p,rfl,rfl⟩ a);(try have e:=Sq.rd a)))
  all_goals
   go_wp2;go_ret;exact⟨_,_,_,_,rfl,⟨_,rfl,rfl,rfl⟩,Sq.fin a⟩
end Go.Proofs.YtiaechpcebhcdaaGreatDoor
namespace Go.Proofs
open Go.Shelf
def Tryz.lays212_ren:Go.Shelf.Ren:=⟨λ|212=>234|263=>255|264=>256|n=>n,λ|46=>190|51=>270|146=>271|53=>36|148=>273|n=>n,λ|n=>n⟩
def Tryz.lays212:Go.Proofs.Lays.n212 Br Tryz.lays212_ren:={
 mixed:=by kernel_rfl
 f212:=Tryz.func234.trans (congrArg Ax (by kernel_rfl))
 f263:=Tryz.func255.trans (congrArg Ax (by kernel_rfl))
 f264:=Tryz.func256.trans (congrArg Ax (by kernel_rfl))
 t46:=underlying190
 a46:=isAgg190
 z46:=sizeOf190
 v46:=zeroValue190
 t51:=underlying270
 a51:=isAgg270
 z51:=sizeOf270
 v51:=zeroValue270
 t53:=underlying36
 a53:=isAgg36
 z53:=sizeOf36
 v53:=zeroValue36
 t146:=underlying271
 a146:=isAgg271
 z146:=sizeOf271
 v146:=zeroValue271
 t148:=underlying273
 a148:=isAgg273
 z148:=sizeOf273
 v148:=zeroValue273}
open Go.RowKit Go.Lib in
def Tryz.bits_Mul(x a:Nat)(b:x<18446744073709551616)(c:a<18446744073709551616)(w:A9):
  D3 Br 234 #[A0 .u64 x,A0 .u64 a] w λe w'=>e= B0 (.tuple #[A0 .u64 ((x*a / 18446744073709551616:Nat):Int),A0 .u64 ((x*a%18446744073709551616:Nat):Int)])/\w'=w:=Any.bits_Mul Tryz.lays212 x a b c w
end Go.Proofs
