import Derived.Test.YtiaechpcebhcdaaGreatDoorHYk07
import Derived.Test.YtiaechpcebhcdaaGreatDoorHYk10
import Derived.Test.YtiaechpcebhcdaaGreatDoorHYk03
import Derived.Test.YtiaechpcebhcdaaGreatDoorHYk13
set_option linter.all false
set_option maxRecDepth 100000
set_option maxHeartbeats 25600000
open Go.Proofs.Tryz
open Go.Value renaming int->V,slice->A5,string->B0,string->B1,pointer->B4,bool->B7,ownBlock->Ce,iface->D3,slice->Ed,agg->E2,tuple->Fs
open Go.IntKind renaming i64->Y
open List renaming length->Ax
open Go.Proofs.Tryz renaming prog->A0
open Option renaming none->A2,some->A3
open Go.Ending renaming returned->A6
open Go.Obj renaming cells->A9
open Go renaming Value->Br,Calls->B2,World->B6,TypeId->D4,wpList_append_own_at->E0,undef->F0
open Go.RowKit renaming Hid->B3,Below->B5,intOf->E1
open Bool renaming true->Ck,false->C2
namespace Go.Proofs.YtiaechpcebhcdaaGreatDoor
variable{E:Pe}{M:List (Value×List Bz)}{Q:Exit->Act->World->Prop}{R:Fo}{T:Bxs}{W W' w:World}{a:Act}{args:Array Value}{b i j k m n:Nat}{f:FuncId}{kn vs:List Value}{kv:Value}{ns:List Bz}{o:Oper}{ops:Array Oper}{r:Bool}{st:TypeId}{t:Tk}{tk:Nat->Tk}
def Ku.pos(h:Ku tk n k ns j):k<=j/\j<n:=by
 induction h with
 |stop _ h=>omega
 |go _ _ _ _ a=>omega
def Prm.pos(h:Prm tk n k ns r j):k+1<=j/\j<n:=by
 induction h with
 |close _ h=>omega
 |rest _ _ h=>omega
 |last _ _ h=>omega
 |go _ _ _ _ a=>omega
def gC:Ay->Nat
 | .more _ _ _=>0
 | .post _ _=>0
 | .moreE=>0
 | .moreB=>0
 | .stats=>0
 | .entries=>0
 |_=>1
def slk:Ay->Nat
 | .more _ _ _=>0
 | .post _ _=>0
 | .moreE=>0
 | .moreB=>0
 | .stats=>0
 | .entries=>0
 | .entry=>1
 | .stat=>1
 | .branch=>1
 |_=>2
def bas:Ay->Nat
 | .more _ _ x=>x.sz
 | .post _ x=>x.sz
 |_=>0
def al4(N:Nd)(ks:Fo)(s:Tk)(e:Int):(oI N ks s e).sz<=(one N ks).sz+1:=by
 unfold oI;split
 .rw[dj];omega
 .omega
def P.pos{t:Ay}(h:P tk n t i R j):i+gC t<=j/\j<n/\R.sz+slk t+3*i<=bas t+3*j:=by
 induction h
 case bopen i k j N ks R h1 h2 h3 h4 h5 h6 ih1 ih2=>
  have:=al4 N ks (tk i) (tk k).t;simp only[gC,slk,bas,dj,Fo.sz_app,Fo.sz]at *;omega
 case body h1 h2 h3 h4 ih=>
  have:=h3.pos;simp only[gC,slk,bas,dj,Fo.sz_app,Fo.sz]at *;omega
 case tlet0 h1 h2 h3 h4 h5=>have:=h4.pos;simp only[gC,slk,bas,dj,Fo.sz_app,Fo.sz]at *;omega
 case tlet h1 h2 h3 h4 h5 h6 ih=>have:=h4.pos;simp only[gC,slk,bas,dj,Fo.sz_app,Fo.sz]at *;omega
 case tfor h1 h2 h3 h4 h5 h6 h7 ih1 ih2=>have:=h4.pos;simp only[gC,slk,bas,dj,Fo.sz_app,Fo.sz]at *;omega
 case teach h1 h2 h3 h4 h5 h6 h7 h8 h9 ih1 ih2=>have:=h4.pos;simp only[gC,slk,bas,dj,Fo.sz_app,Fo.sz]at *;omega
 case ttry h1 h2 h3 h4 h5 h6 h7 h8 ih1 ih2=>have:=h7.pos;simp only[gC,slk,bas,dj,Fo.sz_app,Fo.sz]at *;omega
 all_goals
  simp only[gC,slk,bas,dj,Fo.sz_app,Fo.sz]at *;omega
open Go.RowKit
def cmL(a b:Bz):Nat->Nat->Nat
 |0,n=>n
 |f+1,n=>if n<a.size/\n<b.size/\ae a n=ae b n then cmL a b f (n+1) else n
def cmF(a b:Bz):Nat:=cmL a b (a.size+1) 0
structure ao7 (a b:Bz) (f n R:Nat):Prop where
 out:cmL a b f n=R
def Ev(w:B6)(a b:Bz)(B:a.size<=1100000)(C:b.size<=1100000):
  B2 A0 80 #[B1 a,B1 b] w λe w'=>e= A6 (V Y (cmF a b))/\B5 w.heap.size w w':=by
 unfold cmF;have⟨k,r⟩:=aw (cmL a b (a.size+1) 0);rw[r];have q:ao7 a b (a.size+1) 0 k:=⟨r⟩;go_in;go_wp21
 go_loopw [5] (λo wr=>∃(c f:Nat),c<=a.size/\a.size<c+f/\o= V Y c/\ao7 a b f c k/\B5 w.heap.size w wr) (λo _=>a.size+1-(E1 o).toNat)
 case atStart=>exact⟨0,a.size+1,O,O,rfl,q,ai _ _⟩
 case round=>
  obtain⟨c,f,F,E,rfl,p,s⟩:=hrel;clear q;obtain⟨f,rfl⟩:∃v,f=v+1:=⟨f-1,O⟩;have d:=p.out;rw[cmL]at d;have j:∀n,B5 w.heap.size w (wr.drewN n):=λn=>s.trans (afp _ wr n);clear p s;by_cases l:c<a.size
  .have x:(c:Int)<(a.size:Int):=O;by_cases m:c<b.size
   .have y:(c:Int)<(b.size:Int):=O;have t:=λw=>dx l w;have z:=λw=>dx m w;by_cases g:ae a c=ae b c
    .rw[ab ⟨l,m,g⟩]at d;rw[g]at t;have u:ao7 a b f (c+1) k:=⟨d⟩;clear d g;generalize ae b c=A at t z;go_wp21
     go_quiet (fail)
     go_wp21
     exact⟨⟨c+1,f,O,O,by go_num,u,j _⟩,by simp[E1];omega⟩
    .rw[aa (λi=>g i.2.2)]at d;have h:=aj d;have G:=beq_eq_false_iff_ne.2 g;clear d g;go_wp21
     go_quiet (fail)
     go_wp21
     go_ret;exact⟨by rw[<-h.out];rfl,j _⟩
   .rw[aa (λi=>m i.2.1)]at d;have h:=aj d;have y:¬(c:Int)<(b.size:Int):=O;clear d;go_wp21
    go_quiet (fail)
    go_wp21
    go_ret;exact⟨by rw[<-h.out];rfl,j _⟩
  .rw[aa (λi=>l i.1)]at d;have h:=aj d;have x:¬(c:Int)<(a.size:Int):=O;clear d;go_wp21
   go_quiet (fail)
   go_wp21
   go_ret;exact⟨by rw[<-h.out];rfl,j _⟩
def bnC(k c:Int):Bool:=if k=1 then aJ c else if k=2 then aC c else if k=3 then aC c else decide (c=34)
def bnF(k:Int)(x:Bz):Nat:=if x.size=0 then 0 else if k=1\/k=2\/k=3\/k=4 then(if bnC k (ae x 0)=Ck then x.size else 0) else cmF x (fJ k)
theorem aih(k:Int):(fJ k).size<=6:=by
 by_cases c:0<=k/\k<=78
 .have a:∀b:Fin 79,(fJ (b.val:Int)).size<=6:=by decide+kernel
  have:=a ⟨k.toNat,O⟩;grind
 .rw[fJ,Ga,Ga,Ga,Ga,Ga];decide
theorem Gm(w:B6)(k:Int)(x:Bz)(n:sJ w)(q:x.size<=1100000)(y:1<=k)(z:k<=78):
  B2 A0 82 #[V Y k,B1 x] w λe w'=>e= A6 (V Y (bnF k x))/\B5 w.heap.size w w':=by
 unfold bnF;by_cases d:x.size=0
 .rw[ab d];have e:x=⟨#[]⟩:=by
   obtain⟨m⟩:=x;have:m.size=0:=d;grind
  subst e;go_in;go_wp21
  go_ret;exact⟨rfl,ai _ _⟩
 .rw[aa d];have u:(x.toList==[])=C2:=by
   have:Ax x.toList=x.size:=by rw[fL];simp
   grind
  have f:=λw=>dx (s:=x) (i:=0) O w;rw[show(((0:Nat):Int))=0 from rfl]at f;have p:(k=1\/k=2\/k=3\/k=4)\/¬(k=1\/k=2\/k=3\/k=4):=Classical.em _;rcases p with h|h
  .rw[ab h];generalize ae x 0=a at f⊢;have l:=λw=>nC a w;have c:=λw=>jC a w;rcases h with rfl|rfl|rfl|rfl
   .rw[show bnC 1 a=aJ a from rfl];cases b:aJ a;all_goals
     rw[b]at l;go_in;go_wp2_with (go_at_call 115;apply(l _).mono;rintro e w' ⟨rfl,rfl⟩);go_ret;exact⟨rfl,ai _ _⟩
   .rw[show bnC 2 a=aC a from rfl];cases b:aC a;all_goals
     rw[b]at c;go_in;go_wp2_with (go_at_call 117;apply(c _).mono;rintro e w' ⟨rfl,rfl⟩);go_ret;exact⟨rfl,ai _ _⟩
   .rw[show bnC 3 a=aC a from rfl];cases b:aC a;all_goals
     rw[b]at c;go_in;go_wp2_with (go_at_call 117;apply(c _).mono;rintro e w' ⟨rfl,rfl⟩);go_ret;exact⟨rfl,ai _ _⟩
   .rw[show bnC 4 a=decide (a=34) from rfl];by_cases b:a=34
    .subst b;go_in;go_wp21
     go_ret;exact⟨rfl,ai _ _⟩
    .rw[aG b];go_in;go_wp21
     go_ret;exact⟨rfl,ai _ _⟩
  .rw[aa h];have A:¬k=1:=O;have B:¬k=2:=O;have C:¬k=3:=O;have E:¬k=4:=O;have j:=xL k O O w n;have o:=aih k;have g:=λw=>Ev w x (fJ k) q O;generalize fJ k=r at j g o⊢;go_in;go_wp2_with (first|(go_at_call 123;apply j.mono;rintro e w' ⟨rfl,v⟩;subst w')|(go_at_call 80;apply(g _).mono;rintro e F ⟨rfl,t⟩));go_ret
   simp_all
open Go.Maps Go.WideMaps
theorem Ew{fn:Func}{p q:Tmp}{u:D4}(h:fn.results=#[.cell q u,.tmp p])(tmps:Array Br)(P:Program)(w:B6)(a:Addr)(v b:Br)(f:tmps.getD p F0=v)(g:tmps.getD q F0= B4 (A3 a))
  (c:(loadVar u a).run P w= .ok b w):(results fn tmps).run P w= .ok (Fs #[b,v]) w:=by
 have d:tmps[p]?.getD F0=v:=byS;have e:tmps[q]?.getD F0= B4 (A3 a):=byS;simp only[results,h];simp[Result.andThen,d,e,asAddr,c]
def oL(b:Nat)(W:B6)(x a z:Int):Prop:=W.heap[b]?=A3 (A9 #[V Y x,V Y a,V Y z] 194 (0,0))
def ad8(w:B6)(b:Nat)(x a z:Int)(h:oL b w x a z):(loadVar 194 ⟨b,0,A2⟩).run A0 w= .ok (E2 #[V Y x,V Y a,V Y z]) w:=
 Ij w b 194 194 _ _ _ h underlying194 rfl J
def oL.put{b:Nat}{W:B6}{x e z:Int}(h:oL b W x e z)(a c d:Int):oL b (((W.setCell ⟨b,0,A2⟩ (V Y a)).setCell ⟨b,1,A2⟩ (V Y c)).setCell ⟨b,2,A2⟩ (V Y d)) a c d:=
 aI _ b 2 _ _ _ (aI _ b 1 _ _ _ (aI _ b 0 _ _ _ h))
def oL.cells{x a z:Int}(h:oL b W x a z):W.cell? ⟨b,0,A2⟩=A3 (V Y x)/\W.cell? ⟨b,1,A2⟩=A3 (V Y a)/\W.cell? ⟨b,2,A2⟩=A3 (V Y z)/\∀j,W.frozen? ⟨b,j,A2⟩=C2:=by
 unfold oL at h;exact⟨by rw[au _ _ _ _ _ _ h];rfl,by rw[au _ _ _ _ _ _ h];rfl,by rw[au _ _ _ _ _ _ h];rfl,λj=>cD _ _ _ _ _ h⟩
theorem ack(w:B6)(u:D4)(fr:Nat×Nat)(n:w.heap[1]?=A3 (A9 DI u fr))(j:Nat)(K:j<20)(kind:Int)(h:sI.getD j 0=kind)(y:∀i,i<j->sI.getD i 0≠kind):
  B2 A0 230 #[V Y kind] w λe w'=>e= A6 (Fs #[E2 #[V Y kind,V Y (zI (3*j+1)),V Y (zI (3*j+2))],B7 Ck])/\B5 w.heap.size w w':=by
 have o:∀a,B5 w.heap.size w (w.alloc a):=λa=>(ai _ w).alloc cJ a;have B:B3 (oL w.heap.size (w.alloc (A9 #[V Y 0,V Y 0,V Y 0] 194)) 0 0 0/\B5 w.heap.size w (w.alloc (A9 #[V Y 0,V Y 0,V Y 0] 194))):=⟨ay w _,o _⟩;have v:=aj h;go_in;go_wp2_with (refine wJ rfl 195 _ rfl 1 rfl u _ fr _ (((o _).block _ (ah n)).trans n) underlying195 rfl byR ?_);go_loopw [7] (λk wr=>∃b:Nat,b<=j/\k= V Y b/\B3 (oL w.heap.size wr 0 0 0/\B5 w.heap.size w wr)) (λk _=>20-(E1 k).toNat)
 case atStart=>grind
 case round=>
  obtain⟨b,h,rfl,f⟩:=hrel;have g:=λw=>aoA b O w;have A:=ah f.1;have⟨E,F,G,H⟩:=f.1.cells;have q:∀a,B5 wr.heap.size wr (wr.alloc a):=λa=>(ai _ wr).alloc cJ a;rcases js h with rfl|hlt
  .rw[v.out]at g;have⟨c,r⟩:=aw (zI (3*b+1));have⟨d,s⟩:=aw (zI (3*b+2));rw[r,s]at g;have C:=fD r s;have t:=oL.put f.1 kind c d;have m:B5 w.heap.size w (((wr.setCell ⟨w.heap.size,0,A2⟩ (V Y kind)).setCell ⟨w.heap.size,1,A2⟩ (V Y c)).setCell ⟨w.heap.size,2,A2⟩ (V Y d)):=((f.2.setCell cJ _).setCell cJ _).setCell cJ _;have p:∀a,B5 (((wr.setCell ⟨w.heap.size,0,A2⟩ (V Y kind)).setCell ⟨w.heap.size,1,A2⟩ (V Y c)).setCell ⟨w.heap.size,2,A2⟩ (V Y d)).heap.size (((wr.setCell ⟨w.heap.size,0,A2⟩ (V Y kind)).setCell ⟨w.heap.size,1,A2⟩ (V Y c)).setCell ⟨w.heap.size,2,A2⟩ (V Y d)) ((((wr.setCell ⟨w.heap.size,0,A2⟩ (V Y kind)).setCell ⟨w.heap.size,1,A2⟩ (V Y c)).setCell ⟨w.heap.size,2,A2⟩ (V Y d)).alloc a):=λa=>(ai _ _).alloc cJ a;have l:B3 ((∀a,oL w.heap.size ((((wr.setCell ⟨w.heap.size,0,A2⟩ (V Y kind)).setCell ⟨w.heap.size,1,A2⟩ (V Y c)).setCell ⟨w.heap.size,2,A2⟩ (V Y d)).alloc a) kind c d)/\(∀a,B5 w.heap.size w ((((wr.setCell ⟨w.heap.size,0,A2⟩ (V Y kind)).setCell ⟨w.heap.size,1,A2⟩ (V Y c)).setCell ⟨w.heap.size,2,A2⟩ (V Y d)).alloc a))):=⟨λa=>((p a).block _ (ah t)).trans t,λa=>m.trans ((p a).mono m.size)⟩;go_wp21
   exact aD (Ew rfl _ _ _ ⟨w.heap.size,0,A2⟩ (B7 Ck) _ rfl rfl (ad8 _ _ _ _ _ (l.1 _))) rfl ⟨U,l.2 _⟩
  .have z:=(aj y).out b hlt;generalize zI (3*b+1)=c at g;generalize zI (3*b+2)=d at g;generalize sI.getD b 0=L at g z;have x:B3 (∀a,oL w.heap.size (wr.alloc a) 0 0 0/\B5 w.heap.size w (wr.alloc a)):=λa=>⟨((q a).block _ A).trans f.1,f.2.trans ((q a).mono f.2.size)⟩;go_wp21
   exact⟨⟨b+1,O,by go_num,x _⟩,by simp[E1];omega⟩
def aii:(Tryz.prog.info? 3).map (λi=>(i.zero,i.size,i.bytes))=A3 (A3 (V Y 0),1,8):=J
def aah:(Tryz.prog.info? 9).map (λi=>(i.zero,i.size,i.bytes))=A3 (A3 (B1 ⟨#[]⟩),1,16):=J
structure Pp (E:Pe) (w:B6) (i:Nat):Prop where
 hn:E.n<=1048576
 tks:∃cs fr,w.heap[E.tb]?=A3 (.cells cs 48 fr)/\TkR cs E.tk E.n
 row:w.heap[E.pb]?=A3 (.cells #[.slice (A3 ⟨E.tb,0,A2⟩) E.n E.cap,.int .i64 i] 51 (0,0))
 pg:1<E.pb
 pw:∃tt fr,w.heap[1]?=A3 (.cells DI tt fr)
def Rv(w:B6)(lo:Nat)(b:Option Nat)(t:D4)(v:Br)(xs:List Br):Prop:=w.ownsRow lo t 1 v (Ax xs) xs/\∀a,v.ownBlock=A3 a->b≠A3 a
def uy(w:B6)(lo:Nat)(a:Option Nat):Fo->List Br->List Nat->Prop
 | .nil,vs,c=>vs=[]/\c=[]
 | .cons N k r,vs,c=>∃b g vn vk kv f d e,(vs=ig N.k b::f/\c=vn.ownBlock.toList++(d++e))/\(lo<=b/\a≠A3 b/\ie w b N vn g vk/\pi N (fH N.k)=N)/\Rv w lo a 9 vn (N.nm.map B0)/\Rv w lo a 54 vk kv/\uy w lo a k kv d/\uy w lo a r f e
def Dl(w:B6)(lo:Nat)(b:Option Nat)(R:Fo)(c:List Br):Prop:=∃a,uy w lo b R c a
def mB(a:List (Br×List Bz)):List Nat:=a.flatMap λb=>b.1.ownBlock.toList
theorem nd3{a b c:List Nat}(h:(a++c).Nodup)(l:b.Nodup)(e:∀x∈a++c,x<n)(j:∀x∈b,n<=x):((a++b)++c).Nodup:=by
 rw[rl]at h;obtain⟨k,m,o⟩:=h;have p:∀x∈a,∀d∈b,x≠d:=λx f d g i=>by have:=e x (List.mem_append_left _ f);grind
 have q:∀x∈b,∀d∈c,x≠d:=λx f d g i=>by have:=e d (Ii _ g);grind
 grind
theorem Jl(o:Option Nat):o.toList.Nodup:=U
section
variable {w w' : World} {lo lo' : Nat} {ex ex' : Option Nat}
def Rv.mono{t:D4}{v:Br}{xs:List Br}(o:Rv w lo ex t v xs)(h:∀k,lo<=k->ex≠A3 k->k<w.heap.size->w'.heap[k]?=w.heap[k]?/\lo'<=k/\ex'≠A3 k):Rv w' lo' ex' t v xs:=
 ⟨jL o.1 (λa b c d=>⟨(h a c (o.2 a b) d).1,(h a c (o.2 a b) d).2.1⟩),λa b=>(h a (o.1.lt a b).1 (o.2 a b) (o.1.lt a b).2).2.2⟩
def uy.mono(h:∀k,lo<=k->ex≠A3 k->k<w.heap.size->w'.heap[k]?=w.heap[k]?/\lo'<=k/\ex'≠A3 k):∀(R:Fo)(vs:List Br)(a:List Nat),uy w lo ex R vs a->uy w' lo' ex' R vs a
 | .nil,vs,a,q=>q
 | .cons N k r,vs,a,⟨b,o,vn,vk,kv,i,f,g,e,⟨j,l,d,m⟩,n,k1,p,s⟩=>by
  have c:=h b j l (ah d);exact⟨b,o,vn,vk,kv,i,f,g,e,⟨c.2.1,c.2.2,c.1.trans d,m⟩,n.mono h,k1.mono h,uy.mono h k kv f p,uy.mono h r i g s⟩
theorem uy.app:∀(R:Fo)(vs:List Br)(a:List Nat){S:Fo}{us:List Br}{cs:List Nat},uy w lo ex R vs a->uy w lo ex S us cs->uy w lo ex (R.app S) (vs++us) (a++cs)
 | .nil,vs,a,S,us,cs,q,p=>by obtain⟨rfl,rfl⟩:=q;exact p
 | .cons r u m,vs,a,S,us,cs,⟨d,j,o,n,h,c,f,b,⟨s,t⟩,e,i,g,k,l⟩,p=>⟨d,j,o,n,h,c++us,f,b++cs,⟨U,U⟩,e,i,g,k,uy.app m c b l p⟩
theorem uy.lt:∀(R:Fo)(vs:List Br)(a:List Nat),uy w lo ex R vs a->∀g∈a,lo<=g/\g<w.heap.size
 | .nil,vs,a,q=>by obtain⟨rfl,rfl⟩:=q;grind
 | .cons m e k,vs,a,⟨n,s,u,t,f,l,b,c,⟨p,d⟩,o,h,r,i,j⟩=>by
  intro g hg;rw[d]at hg;rcases List.mem_append.1 hg with hg|hg
  .exact h.1.lt g U
  rcases List.mem_append.1 hg with hg|hg
  .exact uy.lt e f b i g hg
  .exact uy.lt k l c j g hg
def Dl.len:∀(R:Fo)(vs:List Br),Dl w lo ex R vs->Ax vs=R.len
 | .nil,vs,⟨b,q⟩=>by obtain⟨rfl,rfl⟩:=q;rfl
 | .cons g k e,vs,⟨b,h,o,s,r,m,f,j,a,c,i,n,l,p,d⟩=>by rw[c.1,db,Dl.len e f ⟨a,d⟩];rfl
end
abbrev tkB(b:Nat)(t:Tk):Nat×D4×Array Br:=(b,48,qi t.k t)
structure Sw (E:Pe) (W w:B6) (i:Nat) (kv:Br) (kn:List Br) (D:Fo) (vs:List Br) (T:Bxs) (M:List (Br×List Bz)):Prop where
 pp:Pp E w i
 gr:W.grownBy w (A3 E.pb)
 lt:E.pb<W.heap.size
 ro:w.ownsRow W.heap.size 54 1 kv (Ax kn) kn
 nb:∃bs,uy w W.heap.size kv.ownBlock D vs bs/\(bs++mB M).Nodup
 tb:∀p∈T,W.heap.size<=p.1/\(p.2.1≠54/\p.2.1≠9)/\w.heap[p.1]?=A3 (.cells p.2.2 p.2.1 (0,0))
 nm:∀p∈M,w.ownsRow W.heap.size 9 1 p.1 (Ax (p.2.map B0)) (p.2.map B0)
section
variable {E : Pe} {W w w' : World} {i j : Nat} {kv v : Value} {kn vs us ws : List Value} {D R : Fo} {T : Bxs} {M : List (Value × List Bz)}
def Sw.nn(h:Sw E W w i kv kn D vs T M):Dl w W.heap.size kv.ownBlock D vs:=h.nb.elim λa b=>⟨a,b.1⟩
theorem aij(nm:∀p∈M,w.ownsRow W.heap.size 9 1 p.1 (Ax (p.2.map B0)) (p.2.map B0)):∀g∈mB M,g<w.heap.size:=λg a=>by
 have⟨p,b,a⟩:=List.mem_flatMap.1 a;exact((nm p b).lt g U).2
def Pp.lt(h:Pp E w i):E.pb<w.heap.size:=ah h.row
def Pp.keep(h:Pp E w i)(g:w.grownBy w' A2):Pp E w' i:=by
 have⟨c,e,a,f⟩:=h.tks;have⟨j,d,b⟩:=h.pw;exact⟨h.hn,⟨c,e,(g.block _ (ah a) I).trans a,f⟩,(g.block _ h.lt I).trans h.row,h.pg,j,d,(g.block _ (ah b) I).trans b⟩
def Sw.start(h:Pp E w i):B3 (Sw E w w i s0 [] .nil [] [] []):=⟨h,vD _ _,h.lt,dA _ _ _ _,⟨[],⟨rfl,rfl⟩,xi⟩,λb a=>(by cases a),λb a=>(by cases a)⟩
theorem Sw.step(h:Sw E W w i kv kn D vs T M)(g:w.grownBy w' (A3 E.pb))(p:Pp E w' j):Sw E W w' j kv kn D vs T M:=by
 have e:∀b,W.heap.size<=b->b<w.heap.size->w'.heap[b]?=w.heap[b]?:=λb a c=>g.block b c (λe=>by have:=h.lt;grind);have⟨f,l,m⟩:=h.nb;exact⟨p,h.gr.trans g,h.lt,jL h.ro (λg _ a c=>⟨e g a c,a⟩),⟨f,uy.mono (λb a c k=>⟨e b a k,a,c⟩) _ _ _ l,m⟩,λp d=>⟨(h.tb p d).1,(h.tb p d).2.1,(e _ (h.tb p d).1 (ah (h.tb p d).2.2)).trans (h.tb p d).2.2⟩,λp d=>jL (h.nm p d) (λg _ a c=>⟨e g a c,a⟩)⟩
def sn(b:B5 w.heap.size w w')(q:Option Nat):w.grownBy w' q:=⟨b.os,b.tape,b.output,b.size,λc a _=>b.block c a⟩
def sX(h:B3 (Sw E W w i kv kn D vs T M))(q:Pp E w' j/\w.grownBy w' (A3 E.pb)):B3 (Sw E W w' j kv kn D vs T M):=h.step q.2 q.1
def sB(h:B3 (Sw E W w i kv kn D vs T M))(b:B5 w.heap.size w w'):B3 (Sw E W w' i kv kn D vs T M):=h.step (sn b _) (h.pp.keep (sn b _))
theorem Sw.sub(h:Sw E W w i kv kn D vs T M)(s:Sw E w w' j v us R ws [] []):Sw E W w' j kv kn (D.app R) (vs++ws) T M:=by
 have a:=h.step s.gr s.pp;have u:=h.gr.size;have⟨t,x,y⟩:=a.nb;have⟨o,l,q⟩:=h.nb;have⟨p,m,z⟩:=s.nb;obtain⟨c,r,p2⟩:∃c,uy w' W.heap.size kv.ownBlock D vs c/\(c++mB M).Nodup/\∀b∈c,b<w.heap.size:=⟨o,uy.mono (w:=w) (λd f g k=>⟨s.gr.block d k (λe=>by have:=h.lt;grind),f,g⟩) _ _ _ l,q,λb hx=>(l.lt _ _ _ b hx).2⟩;refine⟨a.pp,a.gr,a.lt,a.ro,⟨c++p,uy.app _ _ _ r (uy.mono (λd f g k=>⟨rfl,O,λe=>?_⟩) _ _ _ m),nd3 (n:=w.heap.size) p2.1 U (λb hx=>?_) (λb hx=>(m.lt _ _ _ b hx).1)⟩,a.tb,a.nm⟩
 .have:=(h.ro.lt d e).2;omega
 .rcases List.mem_append.1 hx with hx|hx
  .grind
  .exact aij h.nm b hx
theorem Sw.subL(h:Sw E W w i s0 [] D vs T M)(s:Sw E w w' j v us R ws [] []):Sw E W w' j v us (D.app R) (vs++ws) T M:=by
 have a:=h.step s.gr s.pp;have p:=h.gr.size;have⟨m,k,q⟩:=h.nb;have⟨o,l,r⟩:=s.nb;refine⟨a.pp,a.gr,a.lt,nK s.ro p,⟨m++o,uy.app _ _ _ (uy.mono (w:=w) (λc e f g=>⟨s.gr.block c g (λd=>by have:=h.lt;grind),e,λd=>?_⟩) _ _ _ k) (uy.mono (λc e f g=>⟨rfl,O,f⟩) _ _ _ l),nd3 (n:=w.heap.size) q U (λb hx=>?_) (λb hx=>(l.lt _ _ _ b hx).1)⟩,a.tb,a.nm⟩
 .have:=(s.ro.lt c d).1;omega
 .rcases List.mem_append.1 hx with hx|hx
  .exact(k.lt _ _ _ b hx).2
  .exact aij h.nm b hx
def Sw.box(h:Sw E W w i kv kn D vs T M)(t:Tk):Sw E W (w.alloc (A9 (qi t.k t) 48)) i kv kn D vs (tkB w.heap.size t::T) M:=by
 have a:=sB (w:=w) h (de w (A9 (qi t.k t) 48));refine⟨a.pp,a.gr,a.out.lt,a.ro,a.nb,λb hp=>?_,a.nm⟩;rcases List.mem_cons.1 hp with rfl|hp
 .exact⟨h.gr.size,⟨(Z:48≠54),(Z:48≠9)⟩,ay w _⟩
 .exact a.tb b hp
def Sw.lit(h:Sw E W w i s0 [] D vs T M)(us:List Br)(l:Ax us<=100):Sw E W (w.alloc (A9 us.toArray 54)) i (A5 (A3 ⟨w.heap.size,0,A2⟩) (Ax us) (Ax us)) us D vs T M:=by
 have a:=sB (w:=w) h (de w (A9 us.toArray 54));have m:=qL (base:=W.heap.size) (e:=54) (size:=1) w us.toArray (Ax us) h.gr.size py I;have⟨c,g,j⟩:=h.nb;refine⟨a.pp,a.gr,a.out.lt,O,⟨c,uy.mono (w:=w) (λb d k f=>⟨(de w _).block b f,d,λe=>?_⟩) _ _ _ g,j⟩,a.tb,a.nm⟩;have:w.heap.size=b:=by simpa [Ce] using e
 omega
theorem Sw.put(h:Sw E W w i kv kn D vs T M)(o:w'.ownsRow W.heap.size 54 1 v (Ax us) us)(g:w.grownBy w' kv.ownBlock)(al:v.ownBlock=kv.ownBlock\/v.ownBlock=A3 w.heap.size):Sw E W w' i v us D vs T M:=by
 have b:∀a,a<w.heap.size->kv.ownBlock≠A3 a->w'.heap[a]?=w.heap[a]?:=λa l m=>g.block a l (λb=>m b.symm);have q:∀a,kv.ownBlock=A3 a->W.heap.size<=a:=λa c=>(h.ro.lt a c).1;have j:∀{a:Nat}{f:Array Br}{n:D4}{k:Nat×Nat},w.heap[a]?=A3 (A9 f n k)->n≠54->w'.heap[a]?=A3 (A9 f n k):=λc C=>(b _ (ah c) (gy h.ro c C)).trans c;have⟨f,k,L,ad⟩:=h.pp.tks;have⟨s,G,H⟩:=h.nb;have⟨ag,x,r⟩:=h.pp.pw;refine⟨⟨h.pp.hn,⟨f,k,j L Z,ad⟩,j h.pp.row Z,h.pp.pg,ag,x,(b _ (ah r) (λb=>by have:=q _ b;have:=h.lt;have:=h.pp.pg;omega)).trans r⟩,h.gr.andThen g (λa c=> .inl (q a c)),h.lt,o,⟨s,uy.mono (w:=w) (λa l m z=>⟨b a z m,l,λak=>?_⟩) _ _ _ G,H⟩,λe d=>⟨(h.tb e d).1,(h.tb e d).2.1,j (h.tb e d).2.2 (h.tb e d).2.1.1⟩,λe d=>?_⟩
 .grind
 .have K:=h.nm e d;obtain⟨y,p⟩:=K;refine⟨y,?_⟩;rcases p with p|⟨g,t,u,F,B,A,af⟩
  .grind
  .exact .inr ⟨g,t,u,F,B,j A Z,af⟩
theorem Sw.name(h:Sw E W w i kv kn D vs T M)(q:Pp E w' j/\w.grownBy w' (A3 E.pb)){ns:List Bz}(o:w'.ownsRow w.heap.size 9 1 v (Ax (ns.map B0)) (ns.map B0)):Sw E W w' j kv kn D vs T ((v,ns)::M):=by
 have a:=h.step q.2 q.1;have⟨c,d,l⟩:=h.nb;refine⟨a.pp,a.gr,a.lt,a.ro,⟨c,uy.mono (w:=w) (λk e f g=>⟨q.2.block k g (λp=>by have:=h.lt;grind),e,f⟩) _ _ _ d,?_⟩,a.tb,λm hp=>?_⟩
 .show(c++(v.ownBlock.toList++mB M)).Nodup;rw[<-eB];refine nd3 (n:=w.heap.size) l (Jl _) (λb hx=>?_) (λb hx=>(o.lt b U).1);rcases List.mem_append.1 hx with hx|hx
  .exact(d.lt _ _ _ b hx).2
  .exact aij h.nm b hx
 rcases List.mem_cons.1 hp with rfl|hp
 .exact nK o h.gr.size
 .exact a.nm m hp
def Sw.fin0(h:Sw E W w i kv vs D vs T M)(N:Nd)(vn:Br)(g:pi N (fH N.k)=N)(hn:w.ownsRow W.heap.size 9 1 vn (Ax (N.nm.map B0)) (N.nm.map B0))(cs:Array Br)(j:cs=([V Y N.k,V Y N.f,V Y N.t,V Y N.l,V Y 0,kv]++exT N vn (fH N.k)).toArray)(st:D4)(ht:st=yv (fH N.k)){M':List (Br×List Bz)}(e:∀p∈M',p∈M)(m:∀b,(b++mB M).Nodup->((vn.ownBlock.toList++(b++[]))++mB M').Nodup):Sw E W (w.alloc (A9 cs st)) i s0 [] (one N D) [ig N.k w.heap.size] T M':=by
 subst j ht;have a:=sB (w:=w) h (de w (A9 ([V Y N.k,V Y N.f,V Y N.t,V Y N.l,V Y 0,kv]++exT N vn (fH N.k)).toArray (yv (fH N.k))));have⟨b,o,q⟩:=a.nb;exact⟨a.pp,a.gr,a.out.lt,dA _ _ _ _,⟨_,⟨w.heap.size,0,vn,kv,vs,[],b,[],⟨rfl,rfl⟩,⟨h.gr.size,by simp[Ce],ay w _,g⟩,⟨bz hn (de w (A9 ([V Y N.k,V Y N.f,V Y N.t,V Y N.l,V Y 0,kv]++exT N vn (fH N.k)).toArray (yv (fH N.k)))),λc _=>by simp[Ce]⟩,⟨a.ro,λc _=>by simp[Ce]⟩,uy.mono (λk d r s=>⟨rfl,d,by simp[Ce]⟩) _ _ _ o,rfl,rfl⟩,m b q⟩,a.tb,λp n=>a.nm p (e p n)⟩
theorem Sw.drop(h:Sw E W w i kv kn D vs T M){b:Bxs}{M':List (Br×List Bz)}(d:∀p∈b,p∈T)(f:M'=M\/M'=[]):Sw E W w i kv kn D vs b M':=by
 have⟨c,e,g⟩:=h.nb;rcases f with rfl|rfl
 .exact⟨h.pp,h.gr,h.lt,h.ro,⟨c,e,g⟩,λp a=>h.tb p (d p a),h.nm⟩
 .exact⟨h.pp,h.gr,h.lt,h.ro,⟨c,e,by rw[show mB []=[] from rfl,dD];grind⟩,λp a=>h.tb p (d p a),λp a=>(by cases a)⟩
def Sw.boxg(h:Sw E W w i kv kn D vs T M)(cs:Array Br)(t:D4)(b:t≠54)(c:t≠9):Sw E W (w.alloc (A9 cs t)) i kv kn D vs ((w.heap.size,t,cs)::T) M:=by
 have a:=sB (w:=w) h (de w (A9 cs t));refine⟨a.pp,a.gr,a.out.lt,a.ro,a.nb,λd hp=>?_,a.nm⟩;rcases List.mem_cons.1 hp with rfl|hp
 .exact⟨h.gr.size,⟨b,c⟩,ay w _⟩
 .exact a.tb d hp
end
def CN(E:Pe)(f:FuncId)(args:Array Br)(i:Nat)(R:Fo)(j:Nat):Prop:=
 ∀w,Pp E w i->R.sz<=50000000->B2 A0 f args w λa w'=>∃v,a= A6 v/\B3 (Sw E w w' j s0 [] R [v] [] [])
def CR(E:Pe)(f:FuncId)(args:Array Br)(i:Nat)(R:Fo)(j:Nat):Prop:=
 ∀w,Pp E w i->R.sz<=50000000->B2 A0 f args w λa w'=>∃v vs,a= A6 v/\B3 (Sw E w w' j v vs R vs [] [])
section
variable {E : Pe} {w w' : World} {i : Nat}
def Pp.cells(h:Pp E w i):w.cell? ⟨E.pb,0,A2⟩=A3 (A5 (A3 ⟨E.tb,0,A2⟩) E.n E.cap)/\w.cell? ⟨E.pb,1,A2⟩=A3 (V Y i)/\∀j,w.frozen? ⟨E.pb,j,A2⟩=C2:=
 ⟨by rw[au _ _ _ _ _ _ h.row];rfl,by rw[au _ _ _ _ _ _ h.row];rfl,λj=>cD _ _ _ _ _ h.row⟩
def Pp.tok(h:Pp E w i){q:Nat}(d:q<E.n):∃l,((E.tk q).k≠6->l=(E.tk q).l)/\w.cell? ⟨E.tb,q*6,A2⟩=A3 (V Y (E.tk q).k)/\w.cell? ⟨E.tb,q*6+1,A2⟩=A3 (V Y (E.tk q).f)/\w.cell? ⟨E.tb,q*6+2,A2⟩=A3 (V Y (E.tk q).t)/\w.cell? ⟨E.tb,q*6+3,A2⟩=A3 (V Y l)/\w.cell? ⟨E.tb,q*6+4,A2⟩=A3 (V Y (E.tk q).n)/\w.cell? ⟨E.tb,q*6+5,A2⟩=A3 (B1 (E.tk q).x):=by
 have⟨e,g,b,c⟩:=h.tks;have⟨l,a⟩:=c q d;exact⟨l,a.hl,by rw[au _ _ _ _ _ _ b];exact a.c0,by rw[au _ _ _ _ _ _ b];exact a.c1,by rw[au _ _ _ _ _ _ b];exact a.c2,by rw[au _ _ _ _ _ _ b];exact a.c3,by rw[au _ _ _ _ _ _ b];exact a.c4,by rw[au _ _ _ _ _ _ b];exact a.c5⟩
def Pp.tkw(h:Pp E w i){q:Nat}(d:q<E.n)(b:(E.tk q).k≠6):TkW E q w:=by
 have⟨m,c,e,f,g,a,j,l⟩:=h.tok d;rw[c b]at a;exact⟨e,f,g,a,j,l⟩
def Pp.ne(h:Pp E w i):E.tb≠E.pb:=λb=>by
 have⟨c,d,a,e⟩:=h.tks;rw[b,h.row]at a;cases a
def Pp.move(h:Pp E w i)(j:Nat):Pp E (w.setCell ⟨E.pb,1,A2⟩ (V Y j)) j/\w.grownBy (w.setCell ⟨E.pb,1,A2⟩ (V Y j)) (A3 E.pb):=by
 have⟨a,c,d,e⟩:=h.tks;have⟨g,b,f⟩:=h.pw;exact⟨⟨h.hn,⟨a,c,(az _ _ _ _ h.ne).trans d,e⟩,aI _ E.pb 1 _ _ _ h.row,h.pg,g,b,(az _ _ _ _ (Nat.ne_of_lt h.pg)).trans f⟩,rB (vD w _) 1 _⟩
theorem Pp.other(h:Pp E w i)(k:b≠E.pb)(l:b≠E.tb)(o:E.pb<=b)(g:w.grownBy w' (A3 b)):Pp E w' i:=by
 have⟨e,j,d,m⟩:=h.tks;have⟨n,f,c⟩:=h.pw;exact⟨h.hn,⟨e,j,(g.block _ (ah d) (λa=>l U)).trans d,m⟩,(g.block _ h.lt (λa=>k U)).trans h.row,h.pg,n,f,(g.block _ (ah c) (λa=>by cases a;have:=h.pg;omega)).trans c⟩
def aik(h:Pp E w i)(a:i<E.n):B2 A0 85 #[pV E] w λe w'=>e= A6 (V Y (E.tk i).k)/\B5 w.heap.size w w':=by
 have⟨b,c,d⟩:=h.cells;have⟨j,g,l,m,o,p,q,r⟩:=h.tok a;have f:(i:Int)<(E.n:Int):=O;go_in;go_wp21
 go_quiet (fail)
 go_wp2;go_ret;exact⟨rfl,rfl,rfl,rfl,cJ,λ_ _=>rfl⟩
theorem arH(h:Pp E w i)(ag:i<E.n)(ad:(E.tk i).k≠6):B2 A0 86 #[pV E] w λe w'=>e= A6 (vTk (E.tk i))/\Pp E w' (i+1)/\w.grownBy w' (A3 E.pb):=by
 have a3:=h.lt;have u:=de w (A9 #[V Y 0,V Y 0,V Y 0,V Y 0,V Y 0,B1 ⟨#[]⟩] 48);have s:=h.keep (sn u _);have⟨b,y⟩:=s.move (i+1);have⟨ap,ar,av⟩:=s.cells;have⟨p,q,r⟩:=b.cells;have⟨z,A,B,C,F,G⟩:=b.tkw ag ad;have L:((i+1:Nat):Int)=(i:Int)+1:=O;rw[L]at b y q p r z A B C F G;have a1:=h.hn;have a4:IntKind.i64.wrap (i:Int)=(i:Int):=by rw[bJ];omega
 have⟨a,m⟩:=aw ((w.alloc (A9 #[V Y 0,V Y 0,V Y 0,V Y 0,V Y 0,B1 ⟨#[]⟩] 48)).setCell ⟨E.pb,1,A2⟩ (V Y ((i:Int)+1)));have v:a.heap[w.heap.size]?=A3 (A9 #[V Y 0,V Y 0,V Y 0,V Y 0,V Y 0,B1 ⟨#[]⟩] 48 (0,0)):=by
  rw[<-m,az _ _ _ _ U];exact ay w _
 have af:w.grownBy a (A3 E.pb):=by rw[<-m];exact(sn u _).trans y
 rw[m]at b p q r z A B C F G;go_in;go_wp21
 have j:=jB b af v;have o:=aj h;have⟨z0,a6,a7,a8,a9,ba⟩:=iu j.2.2;have⟨bb,bc,bd,bf,bg,bh⟩:=qm j.2.2;have ak:E.pb≠w.heap.size:=O;have al:E.tb≠w.heap.size:=by
  have⟨aL,a0,a5,_⟩:=o.tks;grind
 have an:=λk (h:k≠w.heap.size) c=>zH (W:=a) h c;unfold six at an;go_region_held3 (λH=>∀k,k≠w.heap.size->∀c,H.cell? ⟨k,c,A2⟩=a.cell? ⟨k,c,A2⟩) (first|simp_all|simp_all) (fail)
 have g:=DC a w.heap.size (V Y (E.tk i).k) (V Y (E.tk i).f) (V Y (E.tk i).t) (V Y (E.tk i).l) (V Y (E.tk i).n) (B1 (E.tk i).x);have d:=IB j.2.2 (V Y (E.tk i).k) (V Y (E.tk i).f) (V Y (E.tk i).t) (V Y (E.tk i).l) (V Y (E.tk i).n) (B1 (E.tk i).x);rw[<-sG]at d;unfold six at g d;generalize World.drew _=ao at g d⊢;go_wp2;have⟨am,K,v⟩:=j.out;exact aD (fE rfl _ _ w.heap.size _ _ _ _ rfl d underlying48 rfl byR) rfl ⟨rfl,am.other ak.symm al.symm (fs o.out.lt) g,K.andThen g (λc a2=> .inl U)⟩
end
section
variable {E : Pe} {w w' : World} {i : Nat}
theorem arI(h:Pp E w i)(d:i<E.n){k:Int}(m:(E.tk i).k=k):B2 A0 191 #[pV E,V Y k] w λe w'=>e= A6 (B7 Ck)/\Pp E w' (i+1)/\w.grownBy w' (A3 E.pb):=by
 have o:((E.tk i).k !=k)=C2:=U;have l:=h.hn;go_in;go_wp21
 apply(aik h d).mono;rintro e w1 ⟨rfl,b⟩;have c:=(aj h).keep (sn b _);have⟨f,g,j⟩:=c.cells;go_wp21
 go_ret;have a:=(aj c).move (i+1);rw[(O:((i+1:Nat):Int)=(i:Int)+1)]at a;exact⟨rfl,a.1,(sn b _).trans a.2⟩
theorem arJ(h:Pp E w i)(a:i<E.n){k:Int}(c:(E.tk i).k≠k):B2 A0 191 #[pV E,V Y k] w λe w'=>e= A6 (B7 C2)/\B5 w.heap.size w w':=by
 have d:((E.tk i).k !=k)=Ck:=U;go_in;go_wp2_with (go_at_call 85;apply(aik h a).mono;rintro e w1 ⟨rfl,b⟩);go_ret
 simp_all
theorem ail(h:Pp E w i)(u:i<E.n):B2 A0 41 #[pV E] w λe w'=>(∃l,((E.tk i).k≠6->l=(E.tk i).l)/\e= A6 (E2 #[V Y (E.tk i).k,V Y (E.tk i).f,V Y (E.tk i).t,V Y l,V Y (E.tk i).n,B1 (E.tk i).x]))/\B5 w.heap.size w w':=by
 have g:=de w (A9 #[V Y 0,V Y 0,V Y 0,V Y 0,V Y 0,B1 ⟨#[]⟩] 48);have m:=h.keep (sn g _);have⟨q,r,s⟩:=m.cells;have⟨l,v,A,B,C,F,G,H⟩:=m.tok u;have⟨c,o⟩:=aw (w.alloc (A9 #[V Y 0,V Y 0,V Y 0,V Y 0,V Y 0,B1 ⟨#[]⟩] 48));have y:c.heap[w.heap.size]?=A3 (A9 #[V Y 0,V Y 0,V Y 0,V Y 0,V Y 0,B1 ⟨#[]⟩] 48 (0,0)):=by rw[<-o];exact ay w _
 rw[o]at m q r s A B C F G H g;have b:=fD y g;have ag:E.pb≠w.heap.size:=by have:=h.lt;omega
 have ak:E.tb≠w.heap.size:=by
  have⟨L,ad,al,_⟩:=h.tks;grind
 go_in;go_wp21
 have⟨z0,am,an,ao,ap,ar⟩:=iu b.1;have⟨av,aL,a0,a1,a2,a3⟩:=qm b.1;have z:=λk (h:k≠w.heap.size) d=>zH (W:=c) h d;unfold six at z;go_region_held3 (λp=>∀k,k≠w.heap.size->∀d,p.cell? ⟨k,d,A2⟩=c.cell? ⟨k,d,A2⟩) (first|simp_all|simp_all) (fail)
 have j:=DC c w.heap.size (V Y (E.tk i).k) (V Y (E.tk i).f) (V Y (E.tk i).t) (V Y l) (V Y (E.tk i).n) (B1 (E.tk i).x);have a:=IB b.1 (V Y (E.tk i).k) (V Y (E.tk i).f) (V Y (E.tk i).t) (V Y l) (V Y (E.tk i).n) (B1 (E.tk i).x);rw[<-sG]at a;unfold six at j a;generalize World.drew _=K at j a⊢;go_wp2;exact aD (fE rfl _ _ w.heap.size _ _ _ _ rfl a underlying48 rfl byR) rfl ⟨⟨l,v,rfl⟩,b.2.grown j U (λk af=>U)⟩
theorem al5(h:Pp E w (i+1))(x:i<E.n)(nk:Int)(T:Tk)(a:Option Addr)(n c:Nat):B2 A0 193 #[pV E,V Y nk,vTk T,A5 a n c] w λe w'=>e= A6 (E2 #[V Y nk,V Y T.f,V Y (E.tk i).t,V Y T.l,V Y 0,A5 a n c])/\B5 w.heap.size w w':=by
 have m:B5 w.heap.size w ((w.alloc (A9 (qi T.k T) 48)).alloc (A9 #[V Y 0,V Y 0,V Y 0,V Y 0,V Y 0,A5 A2 0 0] 104)):=(de w (A9 (qi T.k T) 48)).alloc I _;have p:=h.keep (sn m _);have⟨u,r,v⟩:=p.cells;have⟨l,al,B,C,F,G,H,K⟩:=p.tok x;rw[(O:((i+1:Nat):Int)=(i:Int)+1)]at r;have ag:=h.hn;have ap:IntKind.i64.wrap (i:Int)=(i:Int):=by rw[bJ];omega
 have⟨d,q⟩:=aw ((w.alloc (A9 (qi T.k T) 48)).alloc (A9 #[V Y 0,V Y 0,V Y 0,V Y 0,V Y 0,A5 A2 0 0] 104));have z:d.heap[w.heap.size+1]?=A3 (A9 #[V Y 0,V Y 0,V Y 0,V Y 0,V Y 0,A5 A2 0 0] 104 (0,0)):=by
  have:=ay (w.alloc (A9 (qi T.k T) 48)) (A9 #[V Y 0,V Y 0,V Y 0,V Y 0,V Y 0,A5 A2 0 0] 104)
  simp_all
 have y:d.heap[w.heap.size]?=A3 (A9 (qi T.k T) 48 (0,0)):=by
  rw[<-q];exact((de (w.alloc (A9 (qi T.k T) 48)) _).block _ I).trans (ay w _)
 rw[q]at p u r v B C F G H K m;have j:=fD z m;have⟨av,aL,a0,a1,a2,a3⟩:=iu y;have am:E.pb≠w.heap.size+1:=by have:=h.lt;omega
 have an:E.tb≠w.heap.size+1:=by
  have⟨ad,af,ar,_⟩:=h.tks;grind
 have ao:w.heap.size≠w.heap.size+1:=O;simp only[qi]at q;unfold vTk;go_in;go_wp21
 have⟨z0,a4,a5,a6,a7,a8⟩:=iu j.1;have⟨a9,ba,bb,bc,bd,bf⟩:=qm j.1;have A:=λb (h:b≠w.heap.size+1) k=>zH (W:=d) h k;unfold six at A;go_region_held3 (λs=>∀b,b≠w.heap.size+1->∀k,s.cell? ⟨b,k,A2⟩=d.cell? ⟨b,k,A2⟩) (first|simp_all|simp_all) (fail)
 have o:=DC d (w.heap.size+1) (V Y nk) (V Y T.f) (V Y (E.tk i).t) (V Y T.l) (V Y 0) (A5 a n c);have g:=IB j.1 (V Y nk) (V Y T.f) (V Y (E.tk i).t) (V Y T.l) (V Y 0) (A5 a n c);rw[<-sG]at g;unfold six at o g;generalize World.drew _=L at o g⊢;go_wp2;exact aD (fE rfl _ _ (w.heap.size+1) _ _ _ _ rfl g underlying104 rfl byR) rfl ⟨rfl,j.2.grown o U (λb ak=>U)⟩
end
section
variable {E : Pe} {W w w' : World} {i j q : Nat} {k nk : Int} {kv v : Value} {kn vs us ws : List Value} {D R : Fo} {T : Bxs} {M : List (Value × List Bz)} {f : FuncId} {args : Array Value}
def pa(S:B3 (Sw E W w i kv kn D vs T M))(d:(E.tk i).k=k)(c:i<E.n:=by omega):B2 A0 85 #[pV E] w λe w'=>e= A6 (V Y k)/\B3 (Sw E W w' i kv kn D vs T M):=by
 rw[<-d];apply(aik S.pp c).mono;rintro e w' ⟨b,a⟩;exact⟨b,sB S a⟩
def lB(S:B3 (Sw E W w i kv kn D vs T M))(f:(E.tk i).k=k)(d:i<E.n)(a:k≠6:=by decide):B2 A0 86 #[pV E] w λe w'=>e= A6 (E2 (qi k (E.tk i)))/\B3 (Sw E W w' (i+1) kv kn D vs T M):=by
 rw[<-f]at a⊢;apply(arH S.pp d a).mono;rintro e w' ⟨c,b⟩;exact⟨c,sX S b⟩
def yh(S:B3 (Sw E W w i kv kn D vs T M))(d:(E.tk i).k=k)(c:i<E.n:=by omega):B2 A0 191 #[pV E,V Y k] w λe w'=>e= A6 (B7 Ck)/\B3 (Sw E W w' (i+1) kv kn D vs T M):=by
 apply(arI S.pp c d).mono;rintro e w' ⟨b,a⟩;exact⟨b,sX S a⟩
def Cv(S:B3 (Sw E W w i kv kn D vs T M))(d:(E.tk i).k≠k)(c:i<E.n:=by omega):B2 A0 191 #[pV E,V Y k] w λe w'=>e= A6 (B7 C2)/\B3 (Sw E W w' i kv kn D vs T M):=by
 apply(arJ S.pp c d).mono;rintro e w' ⟨b,a⟩;exact⟨b,sB S a⟩
def Ey(S:B3 (Sw E W w i kv kn D vs T M))(f:(E.tk i).k=k)(d:i<E.n)(b:k≠6):B2 A0 41 #[pV E] w λe w'=>e= A6 (E2 (qi k (E.tk i)))/\B3 (Sw E W w' i kv kn D vs T M):=by
 rw[<-f]at b⊢;apply(ail S.pp d).mono;rintro e w' ⟨⟨h,g,a⟩,c⟩;rw[g b]at a;exact⟨a,sB S c⟩
def Gn(S:B3 (Sw E W w i kv kn D vs T M))(a:t.k=k):∃w',w.alloc (A9 (qi k t) 48)=w'/\B3 (Sw E W w' i kv kn D vs (tkB w.heap.size t::T) M):=by
 rw[<-a];exact⟨_,rfl,S.box t⟩
def Gq(S:B3 (Sw E W w i kv kn D vs (tkB b t::T) M))(a:t.k=k):w.cell? ⟨b,0,A2⟩=A3 (V Y k)/\w.cell? ⟨b,1,A2⟩=A3 (V Y t.f)/\w.cell? ⟨b,2,A2⟩=A3 (V Y t.t)/\w.cell? ⟨b,3,A2⟩=A3 (V Y t.l)/\w.cell? ⟨b,4,A2⟩=A3 (V Y t.n)/\w.cell? ⟨b,5,A2⟩=A3 (B1 t.x):=by
 rw[<-a];exact iu (S.tb _ (bH ..)).2.2
def Dl.form{lo:Nat}{c:Option Nat}(h:Dl w lo c R [v]):∃t p,v= D3 t p:=by
 cases R with
 |nil=>obtain⟨b,a,_⟩:=h;cases a
 |cons d i l=>
  obtain⟨b,e,k,n,m,j,o,f,g,a,_⟩:=h;exact⟨_,_,(rh a.1).1⟩
def yB(S:B3 (Sw E W w i kv kn D vs T M))(C:CN E f args i R j)(c:R.sz<=50000000:=by omega):B2 A0 f args w λe w'=>∃t p,e= A6 (D3 t p)/\B3 (Sw E W w' j kv kn (D.app R) (vs++[D3 t p]) T M):=by
 apply(C w S.pp c).mono;rintro e w' ⟨d,b,a⟩;obtain⟨t,p,rfl⟩:=Dl.form a.nn;exact⟨t,p,b,S.sub a⟩
def ad9(S:B3 (Sw E W w i s0 [] D vs T M))(C:CR E f args i R j)(g:R.sz<=50000000:=by omega):B2 A0 f args w λe w'=>∃a n c us,e= A6 (A5 a n c)/\B3 (Sw E W w' j (A5 a n c) us (D.app R) (vs++us) T M)/\Ax us=n:=by
 apply(C w S.pp g).mono;rintro e w' ⟨h,us,d,b⟩;obtain⟨a,c,rfl⟩:=cG b.ro;exact⟨a,_,c,us,d,S.subL b,rfl⟩
def aai(S:B3 (Sw E W w i s0 [] D vs T M))(us:List Br)(cs:Array Br)(a:cs=us.toArray)(n:Nat)(hn:Ax us=n)(b:n<=100):∃w',w.alloc (A9 cs 54)=w'/\B3 (Sw E W w' i (A5 (A3 ⟨w.heap.size,0,A2⟩) n n) us D vs T M):=by
 subst a hn;exact⟨_,rfl,S.lit us b⟩
def tr(S:B3 (Sw E W w j kv kn D vs T M))(h:t.k=k)(i:1<=j)(m:j<=E.n)(nk:Int)(a:Option Addr)(n c:Nat):B2 A0 193 #[pV E,V Y nk,E2 (qi k t),A5 a n c] w λe w'=>e= A6 (E2 #[V Y nk,V Y t.f,V Y (E.tk (j-1)).t,V Y t.l,V Y 0,A5 a n c])/\B3 (Sw E W w' j kv kn D vs T M):=by
 rw[<-h];obtain⟨b,rfl⟩:∃b,j=b+1:=⟨j-1,O⟩;apply(al5 S.pp O nk t a n c).mono;rintro e w' ⟨g,d⟩;exact⟨g,sB S d⟩
theorem ats{vn:Br}(N:Nd)(S:B3 (Sw E W w i kv vs D vs T ((vn,N.nm)::M)))(d:pi N (fH N.k)=N){cs:Array Br}(e:cs=([V Y N.k,V Y N.f,V Y N.t,V Y N.l,V Y 0,kv]++exT N vn (fH N.k)).toArray)(ht:st=yv (fH N.k)):B3 (Sw E W (w.alloc (A9 cs st)) i s0 [] (one N D) [ig N.k w.heap.size] [] []):=(S.fin0 N vn d (S.nm _ (bH ..)) cs e st ht (M':=[]) (λg a=>by cases a) (λc b=>by
 have b:(c++(vn.ownBlock.toList++mB M)).Nodup:=b;rw[show mB []=[] from rfl,dD,dD];grind)).drop (λg a=>by cases a) (.inr rfl)
def Hh(S:B3 (Sw E W w i kv vs D vs T M))(N:Nd)(a:pi N (fH N.k)=N)(d:N.nm=[]){cs:Array Br}(b:cs=([V Y N.k,V Y N.f,V Y N.t,V Y N.l,V Y 0,kv]++exT N s0 (fH N.k)).toArray)(ht:st=yv (fH N.k)):B3 (Sw E W (w.alloc (A9 cs st)) i s0 [] (one N D) [ig N.k w.heap.size] T M):=S.fin0 N s0 a (by rw[d];exact dA _ _ _ _) cs b st ht (λh e=>e) (λg c=>by rw[show(s0:Br).ownBlock.toList=[] from rfl,dI,dD];exact c)
def aaj(S:B3 (Sw E W w i kv vs D vs T M))(N:Nd)(a:pi N (fH N.k)=N)(c:N.nm=[]){cs:Array Br}(b:cs=([V Y N.k,V Y N.f,V Y N.t,V Y N.l,V Y 0,kv]++exT N s0 (fH N.k)).toArray)(ht:st=yv (fH N.k)):B3 (Sw E W (w.alloc (A9 cs st)) i s0 [] (one N D) [ig N.k w.heap.size] [] []):=(Hh S N a c b ht).out.drop (λe d=>by cases d) (.inr rfl)
theorem Dl.cell:∀(R:Fo)(vs:List Br){lo:Nat}{ex:Option Nat},Dl w lo ex R vs->∀u∈vs,u.oneCell'=Ck
 | .nil,vs,lo,ex,⟨b,h⟩=>by obtain⟨rfl,rfl⟩:=h;grind
 | .cons g l e,vs,lo,ex,⟨b,i,p,s,r,n,f,k,a,c,j,o,m,q,d⟩=>by
  intro u hu;rw[c.1]at hu;rcases List.mem_cons.1 hu with rfl|hu
  .rfl
  .exact Dl.cell e f ⟨a,d⟩ u hu
def af9:(Tryz.prog.info? 54).map (λi=>(i.zero,i.size,i.bytes))=A3 (A3 .nilIface,1,16):=J
theorem uz{m:List Oper}(f:o.guard=A2)(s x:Operand)(i:o.op= .call {callee:= .builtin .append,args:=#[s,x],argTypes:=#[102,102]}){base p:Nat}{n:Br}(j:a.eval s=kv)(e:w.ownsRow base 54 1 kv (Ax kn) kn)(k:a.eval x=n)(K:w.ownsRow p 54 1 n (Ax us) us)(t:∀u∈us,u.oneCell'=Ck)(am:Ax kn+Ax us<=100000000)(y:base<=w.heap.size)
  (h:∀b d c w',w'.ownsRow base 54 1 (A5 b d c) (Ax (kn++us)) (kn++us)->d=Ax kn+Ax us->w.grownBy w' kv.ownBlock->((Ed b d c).ownBlock=kv.ownBlock\/(Ed b d c).ownBlock=A3 w.heap.size)->wpList A0 ops Q m (a.put o.dst (A5 b d c)) w'):wpList A0 ops Q (o::m) a w:=by
 have⟨l,g,E,F,G⟩:=eC af9;rcases K.2 with⟨rfl,B⟩|⟨r,q,L,rfl,al,z,ad,af,ag,ak⟩
 .apply wpList_append_own_none f s x 102 i base 54 l 1 underlying102 g _ _ _ j e k;obtain⟨b,c,rfl⟩:=cG e;obtain rfl:us=[]:=List.length_eq_zero_iff.1 B;exact h _ _ _ w U I (vD _ _) (.inl rfl)
 .apply E0 _ f s x 102 i base 54 l _ 1 16 underlying102 g E F G rfl Z _ _ _ j e ⟨r,0,A2⟩ (Ax us) q us k O (λH u an=>World.news_of_block z H u U) t py O y;intro ao w1 C A _ v;obtain⟨b,c,rfl⟩:=cG C;exact h _ _ _ w1 U rfl A v
end
section
variable {E : Pe} {W w : World} {i j b n : Nat} {kv u : Value} {kn vs : List Value} {D R : Fo} {T : Bxs} {M : List (Value × List Bz)} {t : TypeId} {cs : Array Value}
def sRd(S:B3 (Sw E W w i kv kn D vs ((b,t,cs)::T) M)):(∀q,w.cell? ⟨b,q,A2⟩=cs[q]?)/\(∀q,w.frozen? ⟨b,q,A2⟩=C2)/\b<w.heap.size:=by
 have a:=(S.tb _ (.head _)).2.2;exact⟨λq=>by rw[au _ _ _ _ _ _ a],λq=>cD _ _ _ _ _ a,ah a⟩
def sBx(S:B3 (Sw E W w i kv kn D vs T M))(a:t≠54:=by decide)(b:t≠9:=by decide):B3 (Sw E W (w.alloc (A9 cs t)) i kv kn D vs ((w.heap.size,t,cs)::T) M):=S.boxg cs t a b
def sLt(S:B3 (Sw E W w i s0 [] D vs T M))(hn:Ax cs.toList=n:=by rfl)(a:Nat.ble n 100=Ck:=by rfl):B3 (Sw E W (w.alloc (A9 cs 54)) i (A5 (A3 ⟨w.heap.size,0,A2⟩) n n) cs.toList D vs T M):=by
 subst hn;exact S.lit cs.toList (Nat.le_of_ble_eq_true a)
def sLn(S:B3 (Sw E W w i kv kn D vs T M)):Ax vs<=D.sz:=by
 have:=Dl.len _ _ S.nn;have:=D.len_le;omega
theorem sAp{g:List Oper}(S:B3 (Sw E W w i kv kn D vs T M))(t:u.oneCell'=Ck)(r:Ax kn<=50000000)(l:o.guard=A2)(s x:Operand)(m:o.op= .call {callee:= .builtin .append,args:=#[s,x],argTypes:=#[102,102]})(n:a.eval s=kv)(p:a.eval x= A5 (A3 ⟨w.heap.size,0,A2⟩) 1 1)
  (h:∀b d c w',B3 (Sw E W w' i (A5 b d c) (kn++[u]) D vs T M)->wpList A0 ops Q g (a.put o.dst (A5 b d c)) w'):wpList A0 ops Q (o::g) a (w.alloc (A9 #[u] 54)):=by
 have f:=sB S (de w (A9 #[u] 54));exact uz l s x m n f.ro p (qL (base:=w.heap.size) (e:=54) (size:=1) w #[u] 1 cJ py rfl) (us:=[u]) U U (by rw[fp];have:=S.gr.size;omega) λb d c w' q _ k j=>h b d c w' (f.out.put q k j)
end
inductive Ls (E:Pe) (C:Nat->Fo->Nat->Prop):Nat->Nat->Fo->Nat->Prop where
 |stop {k:Nat}:(E.tk k).k≠46->k<E.n->Ls E C 0 k .nil k
 |go {m k k1 j:Nat}{x R:Fo}:(E.tk k).k=46->k<E.n->C (k+1) x k1->Ls E C m k1 R j->Ls E C (m+1) k (x.app R) j
inductive Ss (E:Pe) (C:Nat->Fo->Nat->Prop):Nat->Nat->Fo->Nat->Prop where
 |stop {k:Nat}:k<E.n->Ss E C 0 k .nil k
 |sep {m k j:Nat}{R:Fo}:(E.tk k).k=5->k<E.n->Ss E C m (k+1) R j->Ss E C (m+1) k R j
 |go {m k k1 j:Nat}{x R:Fo}:(E.tk k).k≠5->(E.tk k).k≠6->(E.tk k).k≠43->k<E.n->C k x k1->Ss E C m k1 R j->Ss E C (m+1) k (x.app R) j
inductive Es (E:Pe) (C:Nat->Fo->Nat->Prop):Nat->Nat->Fo->Nat->Prop where
 |stop {k:Nat}:(E.tk k).k=43->k<E.n->Es E C 0 k .nil k
 |com {m k k1 j:Nat}{x R:Fo}:(E.tk k).k≠43->k<E.n->C k x k1->(E.tk k1).k=46->k1<E.n->Es E C m (k1+1) R j->Es E C (m+1) k (x.app R) j
 |last {m k k1 j:Nat}{x R:Fo}:(E.tk k).k≠43->k<E.n->C k x k1->(E.tk k1).k≠46->k1<E.n->Es E C m k1 R j->Es E C (m+1) k (x.app R) j
def szL{a b c:Fo}(h:a.app b=c)(d:n+c.sz<=m):n+(a.sz+b.sz)<=m:=by rw[<-h,Fo.sz_app]at d;exact d
def Sq.six{a:Option Nat}{L c:List Mb}{D:Fo}{l:List Int}{B:Bxs}{R:Rws}{t:D4}{m n o p q r:Br}(S:B3 (Sq E W a L w i c D l ((b,t,#[m,n,o,p,q,r])::B) R))(d e f g h j:Br):∃k,((((((w.setCell ⟨b,0,A2⟩ d).setCell ⟨b,1,A2⟩ e).setCell ⟨b,2,A2⟩ f).setCell ⟨b,3,A2⟩ g).setCell ⟨b,4,A2⟩ h).setCell ⟨b,5,A2⟩ j)=k/\B3 (Sq E W a L k i c D l ((b,t,#[d,e,f,g,h,j])::B) R):=⟨_,rfl,Sq.set (Sq.set (Sq.set (Sq.set (Sq.set (Sq.set S)))))⟩
section
variable {E : Pe} {i j : Nat}
def al6{x:Fo}(L:CX E 0 i x k)(K:Ls E (CX E 0) m k R j):CLx E i (x.app R) j:=by
 intro z t v F r;have a:=aj F;go_in;go_wp2_with fail;apply Sq.cq a L (by rw[Fo.sz_app]at r;omega);rintro e _ o _ _ ⟨f,rfl,rfl,rfl⟩ a;go_wp2;go_loopg [3,4] m (λgk al ak wr=>∃(k:Nat) (D g:Fo) (s:Int) (b:Option Addr) (d c:Nat) (w:List Mb) (n:List Int),al= V Y s/\ak= A5 b d c/\B3 (Ls E (CX E 0) gk k g j/\Sq E z t v wr k w D n [] [(3,A5 b d c,n.map iv)]/\D.app g=x.app R))
 case atStart=>exact⟨k,_,R,f,_,1,1,_,_,rfl,rfl,aj K,Sq.lit (xs:=[iv f]) a,rfl⟩
 case round=>
  obtain⟨an,D,g,s,b,d,c,o,n,rfl,rfl,u⟩:=hrel;have⟨G,a,p⟩:=u.out;have ad:=szL p r;have q:=aj p;cases G with
  |stop h l=>
   go_wp2_with fail;refine dm (Sq.isN a h l) λe a=>?_;go_wp2;go_ret;rw[<-q.out,Fo.app_nil];exact⟨A5 b d c,_,_,_,rfl,⟨b,c,by rw[<-Sq.rn a,dr],rfl⟩,a⟩
  |@go ag _ af _ ao y h l B C=>
   rw[Fo.sz_app]at ad;go_wp2_with fail;refine dm (Sq.isY a h l) λe a=>?_;go_wp2_with fail;refine Sq.cq a B (by have:=Sq.ln a;omega) ?_;rintro e _ o _ _ ⟨f,rfl,rfl,rfl⟩ a;have H:=Sq.ln a;rw[Fo.sz_app]at H;go_wp2_with (at_builtin;apply Sq.app a O rfl _ _ rfl rfl rfl rfl;intro am A e a);go_roundg ag
   case measure=>omega
   case rel=>exact⟨af,_,y,f,_,d+1,A,_,_,rfl,rfl,aj C,a,by rw[Fo.app_app];exact q⟩
theorem aea{u:Int}(ap:u=43\/u=6)(G:(E.tk j).k=u)(L:Ss E (CI E 94 #[pV E]) m i R j):CL E 44 #[pV E,V Y u] i R j:=by
 intro z t p C H;have a:=aj C;go_in;go_wp2;go_loopg [5,6] m (λgk ak ar wr=>∃(k:Nat) (D h:Fo) (d:Option Addr) (f e:Nat) (w:List Mb) (o:List Int),ak= A5 d f e/\B3 (Ss E (CI E 94 #[pV E]) gk k h j/\Sq E z t p wr k w D o [] [(3,A5 d f e,o.map iv)]/\D.app h=R))
 case atStart=>exact⟨i,.nil,R,A2,0,0,p,[],rfl,aj L,Sq.nil a,rfl⟩
 case round=>
  obtain⟨ag,D,h,d,f,e,x,o,rfl,v⟩:=hrel;have⟨F,a,r⟩:=v.out;have ad:=szL r H;have s:=aj r;cases F with
  |stop b=>
   have q:(u !=u)=C2:=I;go_wp2_with fail;refine dm (Sq.kind a G b) λc a=>?_;go_wp2;go_ret;rw[<-s.out,Fo.app_nil];exact⟨A5 d f e,_,_,_,rfl,⟨d,e,by rw[<-Sq.rn a,dr],rfl⟩,a⟩
  |@sep n _ _ _ g b l=>
   have al:=aj l;have q:((5:Int)!=u)=Ck:=U;go_wp2_with fail;refine dm (Sq.kind a g b) λc a=>?_;go_wp2_with fail;refine dm (Sq.isY a g b) λc a=>?_;go_wp2;go_roundg n
   all_goals grind
  |@go n _ af _ aL y g an ao b B l=>
   rw[Fo.sz_app]at ad;have q:((E.tk ag).k !=u)=Ck:=U;go_wp2_with fail;refine dm (Sq.kind a rfl b) λc a=>?_;go_wp2_with fail;refine dm (Sq.isN a g b) λc a=>?_;go_wp2_with fail;apply Sq.cq a B (by have:=Sq.ln a;omega);rintro c _ x _ _ ⟨a0,rfl,rfl,rfl⟩ a;have K:=Sq.ln a;rw[Fo.sz_app]at K;go_wp2_with (at_builtin;apply Sq.app a O rfl _ _ rfl rfl rfl rfl;intro am A c a);go_roundg n
   case measure=>omega
   case rel=>exact⟨af,_,y,_,f+1,A,_,_,rfl,aj l,a,by rw[Fo.app_app];exact s⟩
theorem xw(G:(E.tk i).k=1)(al:i<E.n)(K:Ku E.tk E.n (i+1) ns j):CM E i ((E.tk i).x::ns) j:=by
 intro w r m B am;have a:=aj B;have v:=aj K;have an:=a.lo.2.2.2;go_in;go_wp2_with fail;refine dm (Sq.take a G) λe a=>?_;have a:=Sq.lit1 (xs:=[B1 (E.tk i).x]) (t:=9) (Sq.box (cs:=qi 1 (E.tk i)) (t:=48) a);go_wp2;go_loopg [4] (Ax ns) (λgk L wr=>∃(k:Nat) (D g:List Bz) (c:Option Addr) (n d q:Nat),L= A5 c n d/\gk=Ax g/\B3 (Ku E.tk E.n k g j/\Sq E w r m wr k m .nil [] [(e.heap.size,48,qi 1 (E.tk q))] [(9,A5 c n d,D.map B0)]/\D++g=(E.tk i).x::ns/\i+2*Ax D=k+1))
 case atStart=>exact⟨i+1,[(E.tk i).x],ns,_,1,1,i,rfl,rfl,v,a,rfl,I⟩
 case round=>
  obtain⟨b,D,g,c,n,d,q,rfl,ak,u⟩:=hrel;have⟨C,a,F,af⟩:=u.out;have ag:=aj F;cases C with
  |stop h o=>
   go_wp2_with fail;refine dm (Sq.isN a h o) λe a=>?_;go_wp2;go_ret;obtain rfl:D=(E.tk i).x::ns:=U;exact⟨A5 c n d,_,_,_,rfl,⟨c,d,by rw[<-Sq.rn a,dr];rfl,rfl,rfl⟩,Sq.fin a⟩
  |@go _ _ p h o z A=>
   have s:=aj A;have H:n<=50000000:=by have:=Sq.rn a;grind
   go_wp2_with fail;refine dm (Sq.isY a h O) λe a=>?_;go_wp2_with fail;refine dm (Sq.take a z) λe a=>?_;have ar:=Sq.rd a;have⟨ap,ao,a⟩:=Sq.six a (iv 1) (iv (E.tk (b+1)).f) (iv (E.tk (b+1)).t) (iv (E.tk (b+1)).l) (iv (E.tk (b+1)).n) (B1 (E.tk (b+1)).x);have aL:=Sq.rd a;go_wp2_with (at_builtin;refine Sq.apG tS a H rfl rfl _ _ rfl rfl rfl rfl ?_;intro ad y e a);go_roundg (Ax p)
   case measure=>grind
   case rel=>exact⟨b+2,D++[(E.tk (b+1)).x],p,_,n+1,y,b+1,rfl,rfl,s,by rw[fy];exact a,U,U⟩
theorem aim{Ex:Fo}(h:(E.tk i).k=42)(a1:i<E.n)(ak:Es E (CI E 243 #[pV E]) m (i+1) Ex j)(s:(E.tk j).k=43)(a2:j+1<E.n):CU E i (one (lj 35 (E.tk i) (E.tk j).t) Ex) (j+1):=by
 intro B v d L af;have a:=aj L;have y:=aj ak;go_in;go_wp2_with fail;refine dm (Sq.kind a h) λc a=>?_;go_wp2_with fail;refine dm (Sq.kind a h) λc a=>?_;go_wp2_with fail;refine dm (Sq.take a h) λc a=>?_;go_wp2_with fail;refine eE (aoL (b:=C2) Z _) ?_;go_wp2_with fail;refine dm (Sq.node (Sq.box a)) λc a=>?_;go_wp2_with fail;rw[dj]at af;go_loopg [10] m (λgk a4 wr=>∃(k:Nat) (D e:Fo) (f:Option Addr) (n g:Nat) (z:List Mb) (l:List Int),B3 (Es E (CI E 243 #[pV E]) gk k e j/\Sq E B v d wr k z D l [(c.heap.size,100,ndA 35 0 0 ⟨#[]⟩ (E.tk i) s0 (A5 f n g))] [(3,A5 f n g,l.map iv)]/\D.app e=Ex))
 case atStart=>exact⟨i+1,.nil,Ex,A2,0,0,d,[],y,Sq.nil (Sq.drop1 (Sq.box a)),rfl⟩
 case round=>
  obtain⟨am,D,e,f,n,g,o,l,x⟩:=hrel;have⟨ad,a,q⟩:=x.out;have al:=szL q (O:Ax d+Ex.sz<=49999999);have r:=aj q;cases ad
  case stop F G=>
   go_wp2_with fail;refine dm (Sq.kind a s) λc a=>?_;go_wp2_with fail;refine dm (Sq.take a s) λc a=>?_;have u:=Sq.rd a;go_wp2_with fail;refine(Sq.add a (.inl ⟨rfl,rfl⟩) (.inr (.head _)) (by have:=Sq.ln a;omega)).mono ?_;rintro ap c ⟨ao,rfl,o,a⟩;go_wp2;go_ret;obtain rfl:D=Ex:=by rw[<-r.out,Fo.app_nil]
   exact⟨_,_,_,_,rfl,⟨_,rfl,rfl,rfl⟩,Sq.fin a⟩
  all_goals
   rename_i an a3 a5 A p aL _ F G H K;rw[Fo.sz_app]at al;have w:=aj K;have a0:((E.tk am).k !=43)=Ck:=U;go_wp2_with fail;refine dm (Sq.kind a rfl) λc a=>?_;go_wp2_with fail;refine Sq.cq a H (by have:=Sq.ln a;omega) ?_;rintro c _ o _ _ ⟨ao,rfl,rfl,rfl⟩ a;have ag:=Sq.ln a;rw[Fo.sz_app]at ag;have u:=Sq.rd a;go_wp2_with (at_builtin;refine Sq.app a O rfl _ _ rfl rfl rfl rfl ?_;intro ar C c a;have u:=Sq.rd a);first
    |refine dm (Sq.isY (Sq.set a) p) λc a=>?_
    |refine dm (Sq.isN (Sq.set a) p) λc a=>?_
   go_wp2;go_roundg an
   case measure=>omega
   case rel=>exact⟨_,_,A,_,n+1,C,_,_,w,a,by rw[Fo.app_app];exact r⟩
end
def Ez{i:List Oper}(q:o.guard=A2)(s x:Operand)(t:o.op= .call {callee:= .builtin .append,args:=#[s,x],argTypes:=#[97,97]})(base:Nat)(c:Option Addr)(n d:Nat)(l:List Bz)(v:a.eval s= A5 c n d)(hn:Ax l=n)(u:w.ownsRow base 9 1 (A5 c n d) n (l.map B0))(m:base<=w.heap.size)(b:Nat)(z:Bz)(A:a.eval x= A5 (A3 ⟨b,0,A2⟩) 1 1)(k:w.heap[b]?=A3 (A9 #[B1 z] 9 (0,0)))(G:n<=50000000)
  (h:∀g cap w1,w1.ownsRow base 9 1 (A5 (A3 ⟨g,0,A2⟩) (n+1) cap) (n+1) ((l++[z]).map B0)->w.grownBy w1 (Ed c n d).ownBlock->((Ed c n d).ownBlock=A3 g\/g=w.heap.size)->wpList A0 ops Q i (a.put o.dst (A5 (A3 ⟨g,0,A2⟩) (n+1) cap)) w1):wpList A0 ops Q (o::i) a w:=by
 have⟨F,r,B,C,E⟩:=eC aah;apply E0 _ q s x 97 t base 9 F _ 1 16 underlying97 r B C E rfl Z _ _ _ v u ⟨b,0,A2⟩ 1 1 [B1 z] A rfl (World.news_of_block (cs:=#[B1 z]) k) (by intro H y;rw[List.mem_singleton.1 y];rfl) py O m;intro K w1 f p _ j;obtain⟨g,cap,rfl⟩:=ownsRow_succ f;exact h g cap w1 (by rw[fy];exact f) p (by rcases j with e|e;exact .inl e.symm;exact .inr (by simpa [Ce] using e))
def aga(w:B6)(x:Bz):(w.alloc (A9 #[B1 x] 9)).ownsRow w.heap.size 9 1 (A5 (A3 ⟨w.heap.size,0,A2⟩) 1 1) 1 [B1 x]:=by
 simpa using qL (base:=w.heap.size) (e:=9) (size:=1) w #[B1 x] 1 cJ py I
section
variable {E : Pe} {i j k k1 : Nat} {x y R Ex : Fo}
def aeb(aL:∀(args:Array Br) (w:B6),(callFunc f args).run A0 w= .ok (.enter f args) w)(ak:CN E f #[pV E] i x k)(ag:Ls E (CN E f #[pV E]) m k R j):CR E 192 #[pV E,.func (.func f) #[pV E] #[]] i (x.app R) j:=by
 intro w K ad;have af:=ad;rw[Fo.sz_app]at af;go_in;go_wp21
 apply(yB (Sw.start K) ak).mono;rintro l w1 ⟨u,t,rfl,z⟩;have⟨a6,av,a⟩:=aai z [D3 u t] #[D3 u t] rfl 1 rfl Z;go_wp21
 go_loopg [5] m (λgk ao wr=>∃(k:Nat) (D d:Fo) (g:Option Addr) (p h:Nat) (c:List Br),ao= A5 g p h/\B3 (Ls E (CN E f #[pV E]) gk k d j/\Sw E w wr k (A5 g p h) c D c [] []/\D.app d=x.app R))
 case atStart=>exact⟨k,x,R,_,1,1,_,rfl,ag,a,rfl⟩
 case round=>
  obtain⟨a2,D,d,g,p,h,c,rfl,y⟩:=hrel;have⟨L,s,b⟩:=y.out;have a:=s;have a0:=Dl.len _ _ s.nn;cases L with
  |stop n o=>
   rw[Fo.app_nil]at b;go_wp21
   refine dm (Cv a n o) λap e=>?_;go_wp21
   go_ret;exact⟨_,c,rfl,by rw[<-b];exact e⟩
  |@go am _ al _ v r n o G H=>
   have a1:D.sz+(v.sz+r.sz)<=50000000:=by have l:=congrArg Fo.sz b;simp only[Fo.sz_app]at l;omega
   have ar:=D.len_le;have q:=fD b H;go_wp21
   refine dm (yh a n o) λap e=>?_;go_wp21
   refine(yB e G).mono ?_;rintro l a7 ⟨a4,a3,rfl,A⟩;go_wp2_with (at_builtin;apply sAp A rfl O rfl _ _ rfl rfl rfl;intro C an F a8 B);go_roundg am
   case measure=>omega
   case rel=>exact⟨al,D.app v,r,C,an,F,_,rfl,q.2,B,by rw[Fo.app_app];exact q.1⟩
def ain(hj:(E.tk j).k=43\/(E.tk j).k=6)(H:Ss E (CN E 87 #[pV E]) m i R j):CR E 40 #[pV E] i R j:=by
 intro ag F an;go_in;go_wp21
 go_loopg [3] m (λgk af wr=>∃(k:Nat) (D e:Fo) (f:Option Addr) (h g:Nat) (d:List Br),af= A5 f h g/\B3 (Ss E (CN E 87 #[pV E]) gk k e j/\Sw E ag wr k (A5 f h g) d D d [] []/\D.app e=R))
 case atStart=>exact⟨i,.nil,R,A2,0,0,[],rfl,H,Sw.start F,rfl⟩
 case round=>
  obtain⟨L,D,e,f,h,g,d,rfl,x⟩:=hrel;have⟨G,u,c⟩:=x.out;have l:=u;have ao:=Dl.len _ _ u.nn;cases G with
  |stop t=>
   rw[Fo.app_nil]at c;rcases hj with hj|hj;all_goals
    go_wp21
    refine dm (pa l hj) λv b=>?_;go_wp21
    go_ret;exact⟨_,d,rfl,by rw[<-c];exact b⟩
  |@sep q _ _ _ o t p=>
   have a:=fD c p;go_wp21
   refine dm (pa l o) λv b=>?_;go_wp21
   refine dm (lB b o O) λak n=>?_;go_wp21
   go_roundg q
   case measure=>omega
   case rel=>exact⟨L+1,D,e,f,h,g,d,rfl,a.2,n,a.1⟩
  |@go q _ K _ w r o t al B C p=>
   have ap:D.sz+(w.sz+r.sz)<=50000000:=by have s:=congrArg Fo.sz c;simp only[Fo.sz_app]at s;omega
   have am:=D.len_le;have a:=fD c p;go_wp21
   refine dm (pa l rfl B) λv b=>?_;go_wp21
   refine(yB b C).mono ?_;rintro s ak ⟨av,ar,rfl,n⟩;go_wp2_with (at_builtin;apply sAp n rfl O rfl _ _ rfl rfl rfl;intro z ad A aL y);go_roundg q
   case measure=>omega
   case rel=>exact⟨K,D.app w,r,z,ad,A,_,rfl,a.2,y,by rw[Fo.app_app];exact a.1⟩
def al7(b c d e f a:Br)(w:B6):(Instr.field 48 (E2 #[b,c,d,e,f,a]) 5).run A0 w= .ok a w:=J
def CT(E:Pe)(i:Nat)(ns:List Bz)(j:Nat):Prop:=
 ∀w,Pp E w i->B2 A0 190 #[pV E] w λa w'=>∃v,a= A6 v/\(Pp E w' j/\w.grownBy w' (A3 E.pb))/\w'.ownsRow w.heap.size 9 1 v (Ax (ns.map B0)) (ns.map B0)
def Sw.putN{j:B6}{v r:Br}{m:List Bz}(h:Sw E W w i s0 [] .nil [] T [(v,ns)])(o:j.ownsRow W.heap.size 9 1 r (Ax (m.map B0)) (m.map B0))(g:w.grownBy j v.ownBlock):Sw E W j i s0 [] .nil [] T [(r,m)]:=by
 have n:=h.nm (v,ns) (bH ..);have l:∀{f:Nat}{d:Array Br}{p:D4}{e:Nat×Nat},w.heap[f]?=A3 (A9 d p e)->p≠9->j.heap[f]?=A3 (A9 d p e):=λb t=>(g.block _ (ah b) (λk=>gy n b t k.symm)).trans b;have⟨d,e,u,x⟩:=h.pp.tks;have⟨y,s,q⟩:=h.pp.pw;refine⟨⟨h.pp.hn,⟨d,e,l u Z,x⟩,l h.pp.row Z,h.pp.pg,y,s,(g.block _ (ah q) (λk=>by have:=(n.lt _ k.symm).1;have:=h.lt;have:=h.pp.pg;omega)).trans q⟩,h.gr.andThen g (λf b=> .inl (n.lt f b).1),h.lt,dA _ _ _ _,⟨[],⟨rfl,rfl⟩,by simp[mB,Jl]⟩,λc a=>⟨(h.tb c a).1,(h.tb c a).2.1,l (h.tb c a).2.2 (h.tb c a).2.1.2⟩,λc a=>?_⟩;obtain rfl:=List.mem_singleton.1 a;exact o
def arK{D:Fo}(S:B3 (Sw E W w i kv kn D vs T M))(C:CT E i ns j):B2 A0 190 #[pV E] w λe w'=>∃a n c,e= A6 (A5 a n c)/\B3 (Sw E W w' j kv kn D vs T ((A5 a n c,ns)::M)):=by
 apply(C w S.pp).mono;rintro e w' ⟨g,d,f,b⟩;obtain⟨a,c,rfl⟩:=cG b;exact⟨a,_,c,d,S.name f b⟩
def yC(ao:(E.tk i).k=1)(a3:i<E.n)(ar:Ku E.tk E.n (i+1) ns j):CT E i ((E.tk i).x::ns) j:=by
 intro e y;have K:=Sw.start y;have G:=ar;have a4:=y.hn;have a2:=al7;go_in;go_wp21
 refine dm (lB K ao O) λw1 r=>?_;simp only[qi];go_wp21
 have t:=de w1 (A9 #[B1 (E.tk i).x] 9);have C:B3 (Sw E e (w1.alloc (A9 #[B1 (E.tk i).x] 9)) (i+1) s0 [] .nil [] [] [(A5 (A3 ⟨w1.heap.size,0,A2⟩) 1 1,[(E.tk i).x])]):=r.name ⟨r.pp.keep (sn t _),sn t _⟩ (aga w1 (E.tk i).x);go_loopg [3] (Ax ns) (λgk aL wr=>∃(k:Nat) (D l:List Bz) (b:Option Addr) (n c:Nat),aL= A5 b n c/\gk=Ax l/\Ax D=n/\B3 (Ku E.tk E.n k l j/\Sw E e wr k s0 [] .nil [] [] [(A5 b n c,D)]/\D++l=(E.tk i).x::ns/\i+2*Ax D=k+1))
 case atStart=>exact⟨i+1,[(E.tk i).x],ns,_,1,1,rfl,rfl,rfl,G,C,rfl,I⟩
 case round=>
  obtain⟨d,D,l,b,n,c,rfl,an,h,F⟩:=hrel;have⟨ag,ak,g,al⟩:=F.out;have s:=ak;cases ag with
  |stop p v=>
   rw[dD]at g;go_wp21
   refine dm (Cv s p v) λa0 a=>?_;go_wp21
   go_ret;exact⟨_,rfl,⟨a.pp,a.gr⟩,by rw[<-g];exact a.nm _ (bH ..)⟩
  |@go _ _ A p v ad w=>
   have ap:n<=50000000:=O;have m:=jB g w al;clear g w;go_wp21
   refine dm (yh s p) λa0 a=>?_;go_wp21
   refine dm (lB a ad O) λf o=>?_;simp only[qi];have q:=o.nm _ (bH ..);rw[dr,h]at q;have H:B3 (f.ownsRow e.heap.size 9 1 (A5 b n c) n (D.map B0)):=q;clear q;go_wp2_with (at_builtin;refine Ez rfl _ _ rfl e.heap.size b n c D rfl h (bz H (de f _)) (by rw[fp];have:=o.gr.size;omega) f.heap.size (E.tk (d+1)).x rfl (ay f _) ap ?_;intro af u a1 B z am;have L:B3 (Sw E e a1 (d+1+1) s0 [] .nil [] [] [(A5 (A3 ⟨af,0,A2⟩) (n+1) u,D++[(E.tk (d+1)).x])]):=(sB o (de f _)).out.putN (by rw[dr,aB,h];exact B) z;clear B z am);go_roundg (Ax A)
   case measure=>rw[an];simp
   case rel=>exact⟨d+2,D++[(E.tk (d+1)).x],A,_,n+1,u,rfl,rfl,by rw[aB,h];rfl,m.2.1,L,by rw[eB];exact m.1,by have:=m.2.2;rw[aB,Ia];omega⟩
end
inductive Pt (E:Pe):Nat->Nat->List Bz->Bool->Nat->Prop where
 |stop {k:Nat}:(E.tk k).k=41->k<E.n->Pt E 0 k [] false k
 |name {m k j:Nat}{ns:List Bz}{r:Bool}:(E.tk k).k=1->k<E.n->Pt E m (k+1) ns r j->Pt E (m+1) k ((E.tk k).x::ns) r j
 |rest {m k j:Nat}{ns:List Bz}{r:Bool}:(E.tk k).k=49->k<E.n->Pt E m (k+1) ns r j->Pt E (m+1) k ns true j
 |com {m k j:Nat}{ns:List Bz}{r:Bool}:(E.tk k).k=46->k<E.n->Pt E m (k+1) ns r j->Pt E (m+1) k ns r j
def Pt.of(h:Prm E.tk E.n k ns r j):∃m,Pt E m k ns r (j-1)/\(E.tk (j-1)).k=41/\k+1<=j/\j<E.n:=by
 induction h with
 |close b a=>exact⟨0,.stop b O,b,O,a⟩
 |rest b a c=>exact⟨1,.rest b O (.stop a O),a,O,c⟩
 |last b a c=>exact⟨1,.name b O (.stop a O),a,O,c⟩
 |go b a c i d=>
  obtain⟨m,e,f,l,g⟩:=d;exact⟨m+2,.name b O (.com a O e),f,O,g⟩
def opR(b:Bool):Int:=if b=Ck then 1 else 0
section
variable {E : Pe} {i j : Nat}
theorem ao8{T:Tk}{g:List Bz}{x:Fo}(ag:(E.tk i).k=40)(a4:i<E.n)(am:Pt E m (i+1) g r k)(F:(E.tk k).k=41)(a7:k+1<E.n)(ao:CK E (k+1) x j)(a5:k+1<=j)(a6:j<=E.n):CBd E T i (one (nd 36 T (E.tk (j-1)).t (opR r) 0 z0 g) x) j:=by
 intro C G B ad ak;have a:=aj ad;have H:=aj am;have a8:=a.lo.2.2.2;rw[dj]at ak;go_in;go_wp2_with fail;refine dm (Sq.take (Sq.nil (t:=9) (Sq.box a)) ag) λb a=>?_;go_wp2;go_loopg [5] m (λgk a9 wr=>∃(d:Nat) (D q:List Bz) (u:Int) (s:Bool) (h:Option Addr) (n l:Nat),B3 (Pt E gk d q s k/\Sq E C G B wr d B .nil [] [(C.heap.size,100,ndA 36 u 0 ⟨#[]⟩ T (A5 h n l) s0)] [(9,A5 h n l,D.map B0)]/\D++q=g/\(∃rr,u=opR rr/\(rr||s)=r)/\n<=d))
 case atStart=>exact⟨i+1,[],g,0,r,A2,0,0,H,a,rfl,⟨C2,rfl,I⟩,O⟩
 case round=>
  obtain⟨d,D,q,u,s,h,n,l,A⟩:=hrel;obtain⟨af,a,y,v,a2⟩:=A.out;have e:=fD y v;clear y v A;cases af with
  |stop c w=>
   go_wp2_with fail;refine dm (Sq.kind a F) λb a=>?_;go_wp2_with fail;refine dm (Sq.take a F) λb a=>?_;go_wp2_with fail;refine Sq.cq a ao O ?_;rintro b _ K _ _ ⟨av,rfl,rfl,rfl⟩ a;have z:=Sq.rd a;have al:=Sq.ln a;rw[show(Fo.nil.app x)=x from rfl]at al;go_wp2_with fail;refine(Sq.add (Sq.lit2 (Sq.set a)) (.inr (.tail _ (.head _))) (.inr (.head _)) O).mono ?_;rintro aL b ⟨av,rfl,K,a⟩;go_wp2;go_ret;obtain⟨y,rr,v,a3⟩:=e.out;obtain rfl:D=g:=U;obtain rfl:rr=r:=U;subst v;exact⟨_,_,_,_,rfl,⟨_,rfl,rfl,rfl⟩,Sq.fin a⟩
  |@name p _ _ ap _ c w o=>
   have f:=aj o;go_wp2_with fail;refine dm (Sq.kind a c) λb a=>?_;go_wp2_with fail;refine dm (Sq.take a c) λb a=>?_;have z:=Sq.rd a;go_wp2_with (at_builtin;refine Sq.apG tS (Sq.box a) O rfl rfl _ _ rfl rfl rfl I ?_;intro a1 L b a;have a:=Sq.tail a;have z:=Sq.rd a);go_roundg p
   case measure=>omega
   case rel=>exact⟨d+1,D++[(E.tk d).x],ap,u,s,_,n+1,L,f,by rw[fy];exact Sq.set a,by rw[eB];exact e.1,e.2,O⟩
  |@rest p _ _ _ ar c w o=>
   have f:=aj o;go_wp2_with fail;refine dm (Sq.kind a c) λb a=>?_;go_wp2_with fail;refine dm (Sq.take a c) λb a=>?_;have z:=Sq.rd a;go_wp2;go_roundg p
   case measure=>omega
   case rel=>exact⟨d+1,D,q,1,ar,h,n,l,f,Sq.below (Sq.set a) (de _ _),e.1,⟨Ck,rfl,by obtain⟨rr,_,a0⟩:=e.2;grind⟩,O⟩
  |@com p _ _ _ _ c w o=>
   have f:=aj o;go_wp2_with fail;refine dm (Sq.kind a c) λb a=>?_;go_wp2_with fail;refine dm (Sq.take a c) λb a=>?_;go_wp2;go_roundg p
   case measure=>omega
   case rel=>exact⟨d+1,D,q,u,s,h,n,l,f,Sq.below a (de _ _),e.1,e.2,O⟩
end
def cfE(args:Array Br)(w:B6):(callFunc 134 args).run A0 w= .ok (.enter 134 args) w:=J
def cfB(args:Array Br)(w:B6):(callFunc 135 args).run A0 w= .ok (.enter 135 args) w:=J
def arL(f:i<E.n)(d:decide ((E.tk i).k=5\/(E.tk i).k=6\/(E.tk i).k=43)=r){D:Fo}(S:B3 (Sw E W w i kv kn D vs T M)):B2 A0 195 #[pV E] w λe w'=>e= A6 (B7 r)/\B3 (Sw E W w' i kv kn D vs T M):=by
 subst d;by_cases a:(E.tk i).k=5<;>by_cases b:(E.tk i).k=6<;>by_cases c:(E.tk i).k=43;all_goals
  try omega
 all_goals
  try have g:=beq_eq_false_iff_ne.2 a
  try have h:=beq_eq_false_iff_ne.2 b
  try have j:=beq_eq_false_iff_ne.2 c
  go_in
  repeat (go_wp2_with fail;go_at_call 85;first|refine dm (pa S lG) λw S=>?_|refine dm (pa S rfl) λw S=>?_)
  go_wp2;go_ret;simp only[a,b,c];exact⟨rfl,S⟩
section
variable (E : Pe)
abbrev cE(i:Nat)(x:Fo)(j:Nat):=CN E 134 #[pV E] i x j
abbrev cK(i:Nat)(x:Fo)(j:Nat):=CN E 136 #[pV E] i x j
abbrev cL(f:FuncId)(i:Nat)(x:Fo)(j:Nat):=CR E 192 #[pV E,.func (.func f) #[pV E] #[]] i x j
inductive Wi (i:Nat):FuncId->Array Value->Fo->Nat->Prop
 |leaf {k nk:Int}:nk=11\/nk=12\/nk=20\/nk=21\/nk=22\/nk=27->k≠6->(E.tk i).k=k->i+1<E.n->Wi i 130 #[pV E,.int .i64 nk] (one (lj nk (E.tk i) (E.tk i).t) .nil) (i+1)
 |wthE {x:Fo}{j:Nat}:(E.tk i).k=28->i<E.n->cE E (i+1) x j->1<=j->j<=E.n->Wi i 133 #[pV E,.int .i64 15,.func (.func 134) #[pV E] #[]] (one (lj 15 (E.tk i) (E.tk (j-1)).t) x) j
 |wthB {x:Fo}{j:Nat}:(E.tk i).k=14->i<E.n->CN E 135 #[pV E] (i+1) x j->1<=j->j<=E.n->Wi i 133 #[pV E,.int .i64 16,.func (.func 135) #[pV E] #[]] (one (lj 16 (E.tk i) (E.tk (j-1)).t) x) j
 |whl {x y:Fo}{k j:Nat}:(E.tk i).k=31->i<E.n->cE E (i+1) x k->cK E k y j->1<=j->j<=E.n->Wi i 128 #[pV E] (one (lj 8 (E.tk i) (E.tk (j-1)).t) (x.app y)) j
 |blk {x:Fo}{k:Nat}:(E.tk i).k=42->i<E.n->CR E 40 #[pV E] (i+1) x k->(E.tk k).k=43->k+1<E.n->Wi i 136 #[pV E] (one (lj 1 (E.tk i) (E.tk k).t) x) (k+1)
 |let0 {ns:List Bz}{k:Nat}:(E.tk i).k=22->i<E.n->CT E (i+1) ns k->1<=k->k<E.n->(E.tk k).k≠47->Wi i 124 #[pV E] (one (nd 2 (E.tk i) (E.tk (k-1)).t 0 0 z0 ns) .nil) k
 |let1 {ns:List Bz}{k j:Nat}{x:Fo}:(E.tk i).k=22->i<E.n->CT E (i+1) ns k->k<E.n->(E.tk k).k=47->cL E 134 (k+1) x j->1<=j->j<=E.n->Wi i 124 #[pV E] (one (nd 2 (E.tk i) (E.tk (j-1)).t 0 0 z0 ns) x) j
 |con {ns:List Bz}{k j:Nat}{x:Fo}:(E.tk i).k=13->i<E.n->CT E (i+1) ns k->k<E.n->(E.tk k).k=47->cE E (k+1) x j->1<=j->j<=E.n->Wi i 125 #[pV E] (one (nd 3 (E.tk i) (E.tk (j-1)).t 0 0 z0 ns) x) j
 |fn {ns:List Bz}{k j:Nat}{x:Fo}:(E.tk i).k=18->i<E.n->CT E (i+1) ns k->k<E.n->(E.tk k).k=40->CN E 194 #[pV E,.agg (qi 40 (E.tk k))] k x j->1<=j->j<=E.n->Wi i 126 #[pV E] (one (nd 4 (E.tk i) (E.tk (j-1)).t 0 0 z0 ns) x) j
 |ret0:(E.tk i).k=27->i+1<E.n->decide ((E.tk (i+1)).k=5\/(E.tk (i+1)).k=6\/(E.tk (i+1)).k=43)=true->Wi i 131 #[pV E] (one (lj 13 (E.tk i) (E.tk i).t) .nil) (i+1)
 |ret1 {x:Fo}{j:Nat}:(E.tk i).k=27->i+1<E.n->decide ((E.tk (i+1)).k=5\/(E.tk (i+1)).k=6\/(E.tk (i+1)).k=43)=false->cL E 134 (i+1) x j->1<=j->j<=E.n->Wi i 131 #[pV E] (one (lj 13 (E.tk i) (E.tk (j-1)).t) x) j
 |try_ {ns:List Bz}{x y:Fo}{k k1 j:Nat}:(E.tk i).k=30->i<E.n->cK E (i+1) x k->(E.tk k).k=12->k<E.n->CT E (k+1) ns k1->cK E k1 y j->1<=j->j<=E.n->Wi i 132 #[pV E] (one (nd 14 (E.tk i) (E.tk (j-1)).t 0 0 z0 ns) (x.app y)) j
 |for_ {nk q:Int}{ns:List Bz}{x y:Fo}{k k1 j:Nat}:(nk=9/\q=47)\/(nk=10/\q=21)->(E.tk i).k=19->i<E.n->CT E (i+1) ns k->k<E.n->(E.tk k).k=q->cL E 134 (k+1) x k1->cK E k1 y j->1<=j->j<=E.n->Wi i 129 #[pV E] (one (nd nk (E.tk i) (E.tk (j-1)).t 0 0 z0 ns) (x.app y)) j
 |if0 {q:Int}{x y:Fo}{k k1:Nat}:q=20\/q=15->(E.tk i).k=q->i<E.n->cE E (i+1) x k->cK E k y k1->1<=k1->k1<E.n->(E.tk k1).k≠15->(E.tk k1).k≠16->Wi i 127 #[pV E] (one (lj 7 (E.tk i) (E.tk (k1-1)).t) (x.app y)) k1
 |if1 {q:Int}{x y z:Fo}{k k1 j:Nat}:q=20\/q=15->(E.tk i).k=q->i<E.n->cE E (i+1) x k->cK E k y k1->k1<E.n->(E.tk k1).k=15->CN E 127 #[pV E] k1 z j->1<=j->j<=E.n->Wi i 127 #[pV E] (one (lj 7 (E.tk i) (E.tk (j-1)).t) ((x.app y).app z)) j
 |if2 {q:Int}{x y z:Fo}{k k1 j:Nat}:q=20\/q=15->(E.tk i).k=q->i<E.n->cE E (i+1) x k->cK E k y k1->k1<E.n->(E.tk k1).k=16->cK E (k1+1) z j->1<=j->j<=E.n->Wi i 127 #[pV E] (one (lj 7 (E.tk i) (E.tk (j-1)).t) ((x.app y).app z)) j
 |do_ {q:Int}{x:Fo}{j:Nat}:q=1\/q=40->(E.tk i).k=q->i<E.n->cL E 135 i x j->(E.tk j).k≠47->j<E.n->1<=j->Wi i 137 #[pV E] (one (lj 6 (E.tk i) (E.tk (j-1)).t) x) j
 |pre {q op:Int}{x:Fo}{j:Nat}:q≠6->(E.tk i).k=q->i<E.n->CN E 229 #[pV E] (i+1) x j->1<=j->j<=E.n->Wi i 252 #[pV E,.int .i64 op] (one (nd 30 (E.tk i) (E.tk (j-1)).t op 0 z0 []) x) j
 |expr {x:Fo}{j:Nat}:CN E 196 #[pV E,.int .i64 0] i x j->Wi i 134 #[pV E] x j
 |ufn {x:Fo}{j:Nat}:(E.tk i).k=18->i<E.n->CN E 194 #[pV E,.agg (qi 18 (E.tk i))] (i+1) x j->Wi i 229 #[pV E] x j
 |item {q:Int}{x:Fo}{j:Nat}:q≠48->q≠44->q≠6->(E.tk i).k=q->i<E.n->cE E i x j->1<=j->j<=E.n->Wi i 270 #[pV E] (one (lj 40 (E.tk i) (E.tk (j-1)).t) x) j
 |pair {x y:Fo}{k j:Nat}:(E.tk i).k=44->i<E.n->cE E (i+1) x k->(E.tk k).k=45->(E.tk (k+1)).k=47->k+1<E.n->cE E (k+2) y j->1<=j->j<=E.n->Wi i 270 #[pV E] (one (lj 41 (E.tk i) (E.tk (j-1)).t) (x.app y)) j
 |named {x:Fo}{j:Nat}:(E.tk i).k=48->(E.tk (i+1)).k=1->(E.tk (i+2)).k=47->i+2<E.n->cE E (i+3) x j->1<=j->j<=E.n->Wi i 270 #[pV E] (one (nd 42 (E.tk i) (E.tk (j-1)).t 0 0 (E.tk (i+1)).x []) x) j
end
def iE{X:Fo}(h:Wi E i f args X j):CN E f args i X j:=by
 cases h
 case' leaf h _ _ _=>rcases h with rfl|rfl|rfl|rfl|rfl|rfl
 case' for_ h _ _ _ _ _ _ _ _ _=>rcases h with⟨rfl,rfl⟩|⟨rfl,rfl⟩
 case' if0 h _ _ _ _ _ _ _ _=>rcases h with rfl|rfl
 case' if1 h _ _ _ _ _ _ _ _ _=>rcases h with rfl|rfl
 case' if2 h _ _ _ _ _ _ _ _ _=>rcases h with rfl|rfl
 case' do_ h _ _ _ _ _ _=>rcases h with rfl|rfl
 case' item h1 h2 _ _ _ _ _ _=>have u:=beq_eq_false_iff_ne.2 h1;have v:=beq_eq_false_iff_ne.2 h2
 all_goals
  intro b h l;have a:=Sw.start h;have p:=arA;have q:=al7;have n:=cfE;have o:=cfB;try simp only[dj,Fo.sz_app,Fo.sz]at l
  try have t:=beq_eq_false_iff_ne.2 (by assumption:(E.tk _).k≠15)
  go_in
  repeat' (go_wp2_with (at_builtin;refine sAp a rfl (by have:=sLn a;simp only[Fo.sz_app,Fo.sz,aB,db,fx]at this⊢;omega) rfl _ _ rfl rfl rfl ?_;intro c g d b a;have m:=sRd a);(first
   |(go_at_call 85;first|refine dm (pa (by first|exact a|exact sLt a) lG) λb a=>?_|refine dm (pa (by first|exact a|exact sLt a) rfl) λb a=>?_)
   |(go_at_call 86;refine dm (lB (by first|exact a|exact sBx a) lG O (by first|assumption|decide)) λb a=>?_)
   |(go_at_call 41;refine dm (Ey a lG O (by first|assumption|decide)) λb a=>?_)
   |(go_at_call 191;first|refine dm (yh a lG) λb a=>?_|refine dm (Cv a lG) λb a=>?_)
   |(go_at_call 195;refine dm (arL O lG (by first|exact a|exact sBx a)) λb a=>?_)
   |(go_at_call 190;refine(arK (by first|exact a|exact sBx a) lG).mono ?_;rintro e b ⟨c,g,d,rfl,a⟩)
   |(go_at_call 193;refine dm (tr (by first|exact a|exact sLt a) lG O O _ _ _ _) λb a=>?_)
   |((first|go_at_call 192|go_at_call 40);refine(ad9 (by first|exact a|exact sBx a) lG).mono ?_;rintro e b ⟨c,g,d,x,rfl,a,r⟩)
   |(refine(yB (by first|exact a|exact sBx a) lG).mono ?_;rintro e b ⟨w,s,rfl,a⟩));(try have m:=sRd a))
  all_goals
   go_wp2;go_ret;first
    |exact⟨_,rfl,a⟩
    |exact⟨_,rfl,ats _ (by exact a) byR byR byR⟩
    |exact⟨_,rfl,aaj a _ byR byR byR byR⟩
section
variable {E : Pe} {i j k k1 : Nat} {x y R Ex : Fo}
def aio{D:Fo}(S:B3 (Sw E W w i kv kn D vs T M))(C:CR E f args i R j)(g:R.sz<=50000000):B2 A0 f args w λe w'=>∃a n c us,e= A6 (A5 a n c)/\B3 (Sw E W w' j kv kn (D.app R) (vs++us) T M)/\B3 (w'.ownsRow w.heap.size 54 1 (A5 a n c) (Ax us) us/\(∀u∈us,u.oneCell'=Ck)/\Ax us=R.len):=by
 refine(C w S.pp g).mono ?_;rintro e w' ⟨h,us,d,b⟩;obtain⟨a,c,rfl⟩:=cG b.ro;exact⟨a,_,c,us,d,S.sub b,b.ro,Dl.cell _ _ b.nn,Dl.len _ _ b.nn⟩
def setP{q:Int}(F:q=1\/q=40)(d:(E.tk i).k=q)(G:i<E.n)(s:cL E 135 i x k)(g:(E.tk k).k=47)(L:k<E.n)(h:cL E 134 (k+1) Ex j)(H:k+1<=j)(K:j<=E.n):CN E 137 #[pV E] i (one (nd 5 (E.tk i) (E.tk (j-1)).t 0 (x.len:Nat) z0 []) (x.app Ex)) j:=by
 intro b f o;have a:=Sw.start f;simp only[dj,Fo.sz_app]at o;go_in;go_wp21
 refine dm (Ey a d O O) λb a=>?_;go_wp21
 refine(ad9 (sBx a) s).mono ?_;rintro e b ⟨y,ag,B,v,rfl,a,rfl⟩;have p:Ax v=x.len:=Dl.len _ _ a.nn;rw[p]at a⊢;have af:=x.len_le;have ad:=Ex.len_le;go_wp21
 refine dm (yh a g) λb a=>?_;go_wp21
 refine(aio a h O).mono ?_;rintro e b ⟨z,ak,C,al,rfl,a,c⟩;go_wp2_with (at_builtin;refine uz rfl _ _ rfl rfl a.ro rfl c.1 c.2.1 (by have:=c.2.2;omega) (by have:=a.gr.size;omega) ?_;intro w n A b u r m l;clear r;have a:=aj (a.out.put u m l);have am:=sRd a);refine dm (tr a d O O _ _ _ _) λb a=>?_;go_wp21
 go_ret;exact⟨_,rfl,aaj a _ byR byR byR byR⟩
end
inductive Dp (E:Pe):Int->FuncId->FuncId->Array Value->Prop
 |s22:Dp E 22 87 124 #[pV E]
 |s13:Dp E 13 87 125 #[pV E]
 |s18:Dp E 18 87 126 #[pV E]
 |s20:Dp E 20 87 127 #[pV E]
 |s31:Dp E 31 87 128 #[pV E]
 |s19:Dp E 19 87 129 #[pV E]
 |s11:Dp E 11 87 130 #[pV E,.int .i64 11]
 |s23:Dp E 23 87 130 #[pV E,.int .i64 12]
 |s27:Dp E 27 87 131 #[pV E]
 |s30:Dp E 30 87 132 #[pV E]
 |s28:Dp E 28 87 133 #[pV E,.int .i64 15,.func (.func 134) #[pV E] #[]]
 |s14:Dp E 14 87 133 #[pV E,.int .i64 16,.func (.func 135) #[pV E] #[]]
 |s42:Dp E 42 87 136 #[pV E]
 |s1:Dp E 1 87 137 #[pV E]
 |s40:Dp E 40 87 137 #[pV E]
 |u25:Dp E 25 229 252 #[pV E,.int .i64 21]
 |u62:Dp E 62 229 252 #[pV E,.int .i64 19]
 |u50:Dp E 50 229 252 #[pV E,.int .i64 22]
 |u69:Dp E 69 229 252 #[pV E,.int .i64 20]
 |u3:Dp E 3 229 198 #[pV E,.int .i64 24]
 |u4:Dp E 4 229 198 #[pV E,.int .i64 25]
 |u24:Dp E 24 229 130 #[pV E,.int .i64 20]
 |u29:Dp E 29 229 130 #[pV E,.int .i64 21]
 |u17:Dp E 17 229 130 #[pV E,.int .i64 22]
 |u49:Dp E 49 229 130 #[pV E,.int .i64 27]
 |u42:Dp E 42 229 253 #[pV E]
 |u1:Dp E 1 229 135 #[pV E]
 |u40:Dp E 40 229 135 #[pV E]
def xH{q:Int}{g:FuncId}(h:Dp E q g f args)(c:(E.tk i).k=q)(m:i<E.n)(e:CN E f args i R j):CN E g #[pV E] i R j:=by
 cases h;all_goals
  intro b h d;have a:=Sw.start h;go_in;go_wp2_with fail;refine dm (pa a c) λb a=>?_;go_wp2_with fail;refine(yB a e d).mono ?_;rintro l b ⟨p,o,rfl,a⟩;go_wp2;go_ret;exact⟨_,rfl,a⟩
def acl(w:B6)(n:D4)(fr:Nat×Nat)(g:w.heap[1]?=A3 (A9 DI n fr))(kind:Int)(k:∀i,i<20->sI.getD i 0≠kind):
  B2 A0 230 #[V Y kind] w λe w'=>e= A6 (Fs #[E2 #[V Y 0,V Y 0,V Y 0],B7 C2])/\B5 w.heap.size w w':=by
 have h:∀a,B5 w.heap.size w (w.alloc a):=λa=>(ai _ w).alloc cJ a;have o:B3 (oL w.heap.size (w.alloc (A9 #[V Y 0,V Y 0,V Y 0] 194)) 0 0 0/\B5 w.heap.size w (w.alloc (A9 #[V Y 0,V Y 0,V Y 0] 194))):=⟨ay w _,h _⟩;have p:=aj k;clear k;go_in;go_wp2_with (refine wJ rfl 195 _ rfl 1 rfl n _ fr _ (((h _).block _ (ah g)).trans g) underlying195 rfl J ?_);go_loopw [7] (λf wr=>∃b:Nat,b<=20/\f= V Y b/\B3 (oL w.heap.size wr 0 0 0/\B5 w.heap.size w wr)) (λf _=>20-(E1 f).toNat)
 case atStart=>exact⟨0,O,rfl,o⟩
 case round=>
  obtain⟨b,x,rfl,c⟩:=hrel;by_cases l:b<20
  .have d:=λw=>aoA b l w;have j:∀a,B5 wr.heap.size wr (wr.alloc a):=λa=>(ai _ wr).alloc cJ a;have r:=p.out b l;generalize zI (3*b+1)=z at d;generalize zI (3*b+2)=A at d;generalize sI.getD b 0=y at d r;have q:B3 (∀a,oL w.heap.size (wr.alloc a) 0 0 0/\B5 w.heap.size w (wr.alloc a)):=λa=>⟨((j a).block _ (ah c.1)).trans c.1,c.2.trans ((j a).mono c.2.size)⟩;go_wp21
   exact⟨⟨b+1,O,by go_num,q _⟩,by simp[E1];omega⟩
  .obtain rfl:b=20:=O;obtain⟨s,t,u,v⟩:=c.1.cells;have m:B3 (oL w.heap.size (((wr.setCell ⟨w.heap.size,0,A2⟩ (V Y 0)).setCell ⟨w.heap.size,1,A2⟩ (V Y 0)).setCell ⟨w.heap.size,2,A2⟩ (V Y 0)) 0 0 0/\B5 w.heap.size w (((wr.setCell ⟨w.heap.size,0,A2⟩ (V Y 0)).setCell ⟨w.heap.size,1,A2⟩ (V Y 0)).setCell ⟨w.heap.size,2,A2⟩ (V Y 0))):=⟨oL.put c.1 0 0 0,((c.2.setCell cJ _).setCell cJ _).setCell cJ _⟩;go_wp21
   exact aD (Ew rfl _ _ _ ⟨w.heap.size,0,A2⟩ (B7 C2) _ rfl rfl (ad8 _ _ _ _ _ m.1)) rfl ⟨rfl,m.2⟩
def aec:∀j,j<20->zI (3*j+1)=lpw (sI.getD j 0)/\zI (3*j+2)=rpw (sI.getD j 0)/\jm (sI.getD j 0)=Ck/\∀i,i<j->sI.getD i 0≠sI.getD j 0:=by decide+kernel
def ao9{k:Int}(b:jm k=Ck)(d:k<=78):∃j,j<20/\sI.getD j 0=k:=by
 have c:=be b;have a:k=10\/k=26\/k=61\/k=62\/k=63\/k=64\/k=65\/k=66\/k=67\/k=68\/k=69\/k=70\/k=71\/k=72\/k=73\/k=74\/k=75\/k=76\/k=77\/k=78:=O;rcases a with rfl|rfl|rfl|rfl|rfl|rfl|rfl|rfl|rfl|rfl|rfl|rfl|rfl|rfl|rfl|rfl|rfl|rfl|rfl|rfl
 .exact⟨1,Z,rfl⟩
 .exact⟨0,Z,rfl⟩
 .exact⟨14,Z,rfl⟩
 .exact⟨15,Z,rfl⟩
 .exact⟨16,Z,rfl⟩
 .exact⟨17,Z,rfl⟩
 .exact⟨18,Z,rfl⟩
 .exact⟨19,Z,rfl⟩
 .exact⟨11,Z,rfl⟩
 .exact⟨9,Z,rfl⟩
 .exact⟨10,Z,rfl⟩
 .exact⟨12,Z,rfl⟩
 .exact⟨13,Z,rfl⟩
 .exact⟨8,Z,rfl⟩
 .exact⟨2,Z,rfl⟩
 .exact⟨3,Z,rfl⟩
 .exact⟨4,Z,rfl⟩
 .exact⟨5,Z,rfl⟩
 .exact⟨6,Z,rfl⟩
 .exact⟨7,Z,rfl⟩
structure Lk (W:B6) (lb mb:Nat) (vs:Br):Prop where
 b:W.heap[lb]?=A3 (.cells #[.map (A3 mb),vs] 172 (0,0))
 m:W.ownsMap A0 9 (plainElem (H:=Unit) A0 3) mb 22 (zG 22)
 e:oH W
def uA{mb:Nat}{D:DataW Unit}(h:W.ownsMap A0 9 (plainElem (H:=Unit) A0 3) mb n D)(c:W'.heap[mb]?=W.heap[mb]?):W'.ownsMap A0 9 (plainElem (H:=Unit) A0 3) mb n D:=by
 obtain⟨b,a,d,e⟩:=h;exact⟨b,a,c.trans d,e⟩
def oH.keep(h:oH W)(a:B5 W.heap.size W W'):oH W':=by
 obtain⟨⟨b,c,f⟩,⟨d,e,g⟩⟩:=h;exact⟨⟨b,c,aq a f⟩,⟨d,e,aq a g⟩⟩
def Lk.below{lb mb:Nat}{c:Br}(h:Lk W lb mb c)(a:B5 W.heap.size W W'):Lk W' lb mb c:=
 ⟨(a.block _ (ah h.b)).trans h.b,uA h.m (a.block _ h.m.lt),h.e.keep a⟩
theorem wj(w:B6)(lb mb:Nat)(f:Br)(s:Bz)(d:s.size<=1100000)(h:Lk w lb mb f):
  B2 A0 232 #[B4 (A3 ⟨lb,0,A2⟩),B1 s] w λe w'=>e= A6 (B7 (qp s))/\w'=w:=by
 have i:w.cell? ⟨lb,0,A2⟩=A3 (.map (A3 mb)):=by rw[au _ _ _ _ _ _ h.b];rfl
 have a:=abI s d mb w h.m;by_cases j:s.size<=40
 .have e:decide (aJ (ae s 0)=Ck/\mh s (s.size+1) 0=s.size/\vE s=C2)=qp s:=by
   unfold qp;grind
  rw[e]at a;generalize qp s=g at a⊢;clear e h;have c:(s.size:Int)<=40:=O;go_in;go_wp2_with (go_at_call 254;refine a.mono ?_;rintro e w' ⟨rfl,rfl⟩);go_ret
  simp_all
 .have e:qp s=C2:=by unfold qp;grind
  rw[e];have c:¬(s.size:Int)<=40:=O;clear a;go_in;go_wp2;go_ret
  simp_all
theorem Af(w:B6)(lb mb:Nat)(p:Br)(vn:Br)(l:List Bz)(h:Lk w lb mb p)(hn:dv w vn l)(u:Ax l<=1048576)(o:∀s∈l,s.size<=1048576):
  B2 A0 202 #[B4 (A3 ⟨lb,0,A2⟩),vn] w λe w'=>e= A6 (B7 (wh l (Ax l) 0))/\w'=w:=by
 have f:=jB hn o h;obtain⟨z,A,rfl⟩:=hn.form;have⟨k,g⟩:=aw (wh l (Ax l) 0);rw[g];have⟨b,m⟩:=aw (Ax l);have r:=aj m;rw[m]at f u g⊢;have y:Hg l b 0 k:=⟨g⟩;clear m hn o h g;go_in;go_wp2;go_loop [9] (λn=>∃(a:Nat),n= V Y a/\a<=b/\Hg l (b-a) a k) (λn=>b-(E1 n).toNat)
 case atStart=>grind
 case round=>
  obtain⟨a,rfl,C,q⟩:=hrel;have c:=q.out;by_cases v:a<b
  .obtain⟨s,i⟩:=dh r.out v;have F:=f.2.1 s (da i);obtain⟨G,rfl,B⟩:=f.1.get i;rw[(O:b-a=(b-(a+1))+1),wh,er,i,jF]at c;have t:(a:Int)<(b:Int):=O;have E:(0:Int)<=(a:Int):=O;have j:=wj w lb mb p s O f.2.2;clear i;cases hx:qp s with
   |true=>
    rw[hx,gK]at c;rw[hx]at j;have d:Hg l (b-(a+1)) (a+1) k:=⟨c⟩;clear c hx;go_wp2_with (go_at_call 232;refine j.mono ?_;rintro e x ⟨rfl,rfl⟩);go_round
    case rel=>grind
    case measure=>simp[E1];omega
   |false=>
    rw[hx,gJ]at c;rw[hx]at j;have d:=aj c;clear c hx;go_wp2_with (go_at_call 232;refine j.mono ?_;rintro e x ⟨rfl,rfl⟩);go_ret;exact⟨by rw[<-d.out];rfl,rfl⟩
  .rw[(O:b-a=0),wh]at c;have d:=aj c;have t:¬(a:Int)<(b:Int):=O;clear c;go_wp2;go_ret;exact⟨by rw[<-d.out];rfl,rfl⟩
def txB(k:Int)(x:Bz):Bool:=if k=24 then fok x else if k=25 then decide ((x.size:Int)<=4000) else qp x
theorem Jm(w:B6)(lb mb:Nat)(i:Br)(k:Int)(s:Bz)(g:s.size<=1100000)(h:Lk w lb mb i):
  B2 A0 203 #[B4 (A3 ⟨lb,0,A2⟩),V Y k,B1 s] w λe w'=>e= A6 (B7 (txB k s))/\B5 w.heap.size w w':=by
 have b:=wj w lb mb i s g h;have a:=Lm s g w h.e;unfold txB;by_cases c:k=24
 .subst c;rw[ab rfl];unfold fok;by_cases f:s.size<=40
  .have l:(s.size:Int)<=40:=O;rw[dB f,gK];generalize se s=j at a⊢;clear b h;go_in;go_wp2_with (go_at_call 233;refine a.mono ?_;rintro e w' ⟨rfl,m⟩);go_ret
   simp_all
  .have l:¬(s.size:Int)<=40:=O;rw[aG f,gJ];clear b a h;go_in;go_wp2;go_ret;exact⟨rfl,ai _ _⟩
 by_cases d:k=25
 .subst d;rw[aa Z,ab rfl];clear b a h c;go_in;go_wp2;go_ret;exact⟨rfl,ai _ _⟩
 rw[aa c,aa d];generalize qp s=j at b⊢;clear a h;go_in;go_wp2_with (go_at_call 232;refine b.mono ?_;rintro e w' ⟨rfl,rfl⟩);go_ret;exact⟨rfl,ai _ _⟩
def EA(k:Int):Int:=if k=2\/k=10 then 200 else if k=14 then 2 else 1
theorem Cx(k:Int)(w:B6):B2 A0 201 #[V Y k] w λe w'=>e= A6 (Fs #[V Y 1,V Y (EA k)])/\w'=w:=by
 unfold EA;rcases((O:k=2\/k=10\/k=14\/(¬k=2/\¬k=10/\¬k=14))) with rfl|rfl|rfl|⟨b,c,a⟩
 .rw[ab Z];go_in;go_wp2;go_ret2
  simp_all
 .rw[ab Z];go_in;go_wp2;go_ret2
  simp_all
 .rw[aa Z,ab rfl];go_in;go_wp2;go_ret2
  simp_all
 .rw[aa O,aa a];go_in;go_wp2;go_ret2
  simp_all
def ff0(w:B6)(lb mb:Nat)(m:Br)(h:Lk w lb mb m)(b:Nat)(nk t v u x:Int)(vk:Br)(vn:Br)(l:List Bz)(hn:dv w vn l)(j:Ax l<=1048576)(r:∀s∈l,s.size<=1048576)
  (i:w.heap[b]?=A3 (A9 #[V Y nk,V Y t,V Y v,V Y u,V Y x,vk,vn] 155 (0,0))):
  B2 A0 140 #[B4 (A3 ⟨lb,0,A2⟩),D3 153 (B4 (A3 ⟨b,0,A2⟩))] w λe w'=>e= A6 (B7 (decide (1<=(Ax l:Int)/\(Ax l:Int)<=EA nk)&&wh l (Ax l) 0))/\w'=w:=by
 have A:=λw=>asT b w;have B:=λw=>asF b w;have a:=λw=>Cx nk w;have d:=Af w lb mb m vn l h hn j r;obtain⟨o,q,rfl⟩:=hn.form;have z:w.cell? ⟨b,0,A2⟩=A3 (V Y nk):=by rw[au _ _ _ _ _ _ i];rfl
 have p:w.cell? ⟨b,6,A2⟩=A3 (A5 o (Ax l) q):=by rw[au _ _ _ _ _ _ i];rfl
 generalize wh l (Ax l) 0=y at d⊢;generalize Ax l=k at j d p⊢;generalize EA nk=n at a⊢;by_cases f:1<=(k:Int)
 .by_cases g:(k:Int)<=n
  .rw[dB ⟨f,g⟩,gK];go_in;go_wp2_with (first|(go_at_call 201;refine eE (a _) ?_)|(go_at_call 202;refine d.mono ?_;rintro e w' ⟨rfl,rfl⟩));go_ret;exact rr
  .rw[aG (λc=>g c.2),gJ];go_in;go_wp2_with (go_at_call 201;refine eE (a _) ?_);go_ret;exact rr
 .rw[aG (λc=>f c.1),gJ];go_in;go_wp2_with (go_at_call 201;refine eE (a _) ?_);go_ret;exact rr
def ff1(w:B6)(lb:Nat)(b:Nat)(nk j l k m a:Int)(g:Option Addr)(L ck:Nat)(p:L<=1048576)
  (h:w.heap[b]?=A3 (A9 #[V Y nk,V Y j,V Y l,V Y k,V Y m,A5 g L ck,V Y a] 158 (0,0))):
  B2 A0 140 #[B4 (A3 ⟨lb,0,A2⟩),D3 156 (B4 (A3 ⟨b,0,A2⟩))] w λe w'=>e= A6 (B7 (decide (1<=a/\a<(L:Int))))/\B5 w.heap.size w w':=by
 have q:=λw=>asT b w;have s:=λw=>asF b w;have n:w.cell? ⟨b,5,A2⟩=A3 (A5 g L ck):=by rw[au _ _ _ _ _ _ h];rfl
 have o:w.cell? ⟨b,6,A2⟩=A3 (V Y a):=by rw[au _ _ _ _ _ _ h];rfl
 by_cases d:1<=a
 .by_cases f:a<(L:Int)
  .rw[dB ⟨d,f⟩];go_in;go_wp2_with fail;go_quiet (fail)
   go_wp2;go_ret;exact⟨rfl,mi (ai _ _) _⟩
  .rw[aG (λc=>f c.2)];have i:=aj f;go_in;go_wp2_with fail;go_quiet (fail)
   go_wp2;go_ret;exact⟨by show Ending.returned (B7 (decide (a<(L:Int))))=_;rw[aG (by have:=i.out;omega)],mi (ai _ _) _⟩
 .rw[aG (λc=>d c.1)];have r:decide ((1:Int)<=a)=C2:=aG d;go_in;go_wp2_with fail;go_quiet (fail)
  go_wp2;go_ret;exact⟨rfl,mi (ai _ _) _⟩
def ff2(w:B6)(lb:Nat)(b:Nat):
  B2 A0 140 #[B4 (A3 ⟨lb,0,A2⟩),D3 159 (B4 (A3 ⟨b,0,A2⟩))] w λe w'=>e= A6 (B7 Ck)/\w'=w:=by
 have a:=λw=>asT b w;have c:=λw=>asF b w;go_in;go_wp2;go_ret;exact rr
def ff6(w:B6)(lb:Nat)(b:Nat):
  B2 A0 140 #[B4 (A3 ⟨lb,0,A2⟩),D3 107 (B4 (A3 ⟨b,0,A2⟩))] w λe w'=>e= A6 (B7 Ck)/\w'=w:=by
 have a:=λw=>asT b w;have c:=λw=>asF b w;go_in;go_wp2;go_ret;exact rr
def ff3(w:B6)(lb mb:Nat)(f:Br)(h:Lk w lb mb f)(b:Nat)(nk k m l n:Int)(vk:Br)(x:Bz)(j:x.size<=1100000)
  (c:w.heap[b]?=A3 (A9 #[V Y nk,V Y k,V Y m,V Y l,V Y n,vk,B1 x] 164 (0,0))):
  B2 A0 140 #[B4 (A3 ⟨lb,0,A2⟩),D3 162 (B4 (A3 ⟨b,0,A2⟩))] w λe w'=>e= A6 (B7 (txB nk x))/\B5 w.heap.size w w':=by
 have p:=λw=>asT b w;have q:=λw=>asF b w;have d:=Jm w.drew lb mb f nk x j (h.below (bu (ai _ w)));have g:w.cell? ⟨b,0,A2⟩=A3 (V Y nk):=by rw[au _ _ _ _ _ _ c];rfl
 have i:w.cell? ⟨b,6,A2⟩=A3 (B1 x):=by rw[au _ _ _ _ _ _ c];rfl
 generalize txB nk x=o at d⊢;go_in;go_wp2_with fail;go_region_held3 (λw'=>w'.cell? ⟨b,0,A2⟩=A3 (V Y nk)/\w'.cell? ⟨b,6,A2⟩=A3 (B1 x)) (first|go_keep|exact⟨aq a g,aq a i⟩) ((go_at_call 203;refine d.mono ?_;rintro e r ⟨rfl,a⟩))
 go_wp2;go_ret;exact⟨rfl,(bu (ai _ w)).trans a⟩
def ff4(w:B6)(lb:Nat)(b:Nat)(nk g i h j a:Int)(vk:Br)
  (d:w.heap[b]?=A3 (A9 #[V Y nk,V Y g,V Y i,V Y h,V Y j,vk,V Y a] 167 (0,0))):
  B2 A0 140 #[B4 (A3 ⟨lb,0,A2⟩),D3 165 (B4 (A3 ⟨b,0,A2⟩))] w λe w'=>e= A6 (B7 (if nk=30 then(decide ((19:Int)<=a)&&decide (a<=22)) else(decide ((1:Int)<=a)&&decide (a<=18))))/\w'=w:=by
 have m:=λw=>asT b w;have n:=λw=>asF b w;have k:w.cell? ⟨b,0,A2⟩=A3 (V Y nk):=by rw[au _ _ _ _ _ _ d];rfl
 have l:w.cell? ⟨b,6,A2⟩=A3 (V Y a):=by rw[au _ _ _ _ _ _ d];rfl
 by_cases f:nk=30
 .rw[ab f];by_cases c:(19:Int)<=a
  .rw[dB c,gK];go_in;go_wp2;go_ret;exact rr
  .rw[aG c,gJ];go_in;go_wp2;go_ret;exact rr
 .rw[aa f];by_cases c:(1:Int)<=a
  .rw[dB c,gK];go_in;go_wp2;go_ret;exact rr
  .rw[aG c,gJ];go_in;go_wp2;go_ret;exact rr
def ff5(w:B6)(lb mb:Nat)(d:Br)(h:Lk w lb mb d)(b:Nat)(nk n p o q:Int)(vk:Br)(vn:Br)(g:Bool)(l:List Bz)(hn:dv w vn l)(c:Ax l<=1048576)(m:∀s∈l,s.size<=1048576)
  (k:w.heap[b]?=A3 (A9 #[V Y nk,V Y n,V Y p,V Y o,V Y q,vk,vn,B7 g] 170 (0,0))):
  B2 A0 140 #[B4 (A3 ⟨lb,0,A2⟩),D3 168 (B4 (A3 ⟨b,0,A2⟩))] w λe w'=>e= A6 (B7 (wh l (Ax l) 0))/\w'=w:=by
 have t:=λw=>asT b w;have u:=λw=>asF b w;have a:=Af w lb mb d vn l h hn c m;obtain⟨f,j,rfl⟩:=hn.form;have i:w.cell? ⟨b,6,A2⟩=A3 (A5 f (Ax l) j):=by rw[au _ _ _ _ _ _ k];rfl
 generalize wh l (Ax l) 0=r at a⊢;generalize Ax l=v at c a i⊢;go_in;go_wp2_with (go_at_call 202;refine a.mono ?_;rintro e w' ⟨rfl,rfl⟩);go_ret;exact rr
