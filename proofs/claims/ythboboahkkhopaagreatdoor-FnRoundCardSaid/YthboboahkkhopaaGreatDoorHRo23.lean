import Derived.Test.YthboboahkkhopaaGreatDoorHRo17
set_option linter.all false
set_option maxRecDepth 100000
set_option maxHeartbeats 25600000
open Go.Proofs.Tryz
open Go.Value renaming int->O,slice->A2,string->A5,string->B0,ownBlock->B3,slice->B7,bool->Ck,agg->C2,iface->E1,tuple->Fs
open Go.IntKind renaming i64->U
open Go.Proofs.Tryz renaming prog->V
open Go.Obj renaming cells->Z
open Option renaming none->Ax,some->A0
open Go renaming Value->A9,Calls->B2,TypeId->B4,World->B6,wpList_append_own_at->Ce,maxLen->E0,undef->E2
open Go.Ending renaming returned->Br
open Go.RowKit renaming Hid->B1,intOf->E3
namespace Go.Proofs.YthboboahkkhopaaGreatDoor
open Go.RowKit Go.Maps Go.WideMaps
variable{E:Pe}{M M':List (Value×List ByteArray)}{Q:Exit->Act->World->Prop}{R:Fo}{T:Bxs}{W w:World}{a:Act}{args:Array Value}{b i j m:Nat}{f:FuncId}{k:Int}{kn vs:List Value}{kv:Value}{ns:List ByteArray}{o:Oper}{ops:Array Oper}{t:Tk}
def pc{c:Func}{p b:Tmp}{u:B4}(h:c.results=#[.cell b u,.tmp p])(tmps:Array A9)(P:Program)(w:B6)(a:Addr)(v d:A9)(f:tmps.getD p E2=v)(i:tmps.getD b E2= .pointer (A0 a))
  (e:(loadVar u a).run P w= .ok d w):(results c tmps).run P w= .ok (Fs #[d,v]) w:=by
 have g:tmps[p]?.getD E2=v:=by simpa using f
 have j:tmps[b]?.getD E2= .pointer (A0 a):=by simpa using i
 simp only[results,h];simp[Result.andThen,g,j,asAddr,e]
def gw(b:Nat)(W:B6)(x a z:Int):Prop:=W.heap[b]?=A0 (Z #[O U x,O U a,O U z] 164 (0,0))
def xj(w:B6)(b:Nat)(x a z:Int)(h:gw b w x a z):(loadVar 164 ⟨b,0,Ax⟩).run V w= .ok (C2 #[O U x,O U a,O U z]) w:=
 Hy w b 164 164 _ _ _ h underlying164 rfl (by kernel_rfl)
def gw.put{x e z:Int}(h:gw b W x e z)(a c d:Int):gw b (((W.setCell ⟨b,0,Ax⟩ (O U a)).setCell ⟨b,1,Ax⟩ (O U c)).setCell ⟨b,2,Ax⟩ (O U d)) a c d:=
 bg _ b 2 _ _ _ (bg _ b 1 _ _ _ (bg _ b 0 _ _ _ h))
def gw.cells{x a z:Int}(h:gw b W x a z):W.cell? ⟨b,0,Ax⟩=A0 (O U x)/\W.cell? ⟨b,1,Ax⟩=A0 (O U a)/\W.cell? ⟨b,2,Ax⟩=A0 (O U z)/\∀j,W.frozen? ⟨b,j,Ax⟩=false:=by
 unfold gw at h;exact⟨by rw[aj _ _ _ _ _ _ h];rfl,by rw[aj _ _ _ _ _ _ h];rfl,by rw[aj _ _ _ _ _ _ h];rfl,λj=>cC _ _ _ _ _ h⟩
def uF(w:B6)(tt:B4)(fr:Nat×Nat)(o:w.heap[3]?=A0 (Z BL tt fr))(j:Nat)(L:j<20)(c:Int)(h:qK.getD j 0=c)(C:∀i,i<j->qK.getD i 0≠c):
  B2 V 179 #[O U c] w (gy w (Fs #[C2 #[O U c,O U (sJ (3*j+1)),O U (sJ (3*j+2))],Ck true])):=by
 have B:=ai o;have p:∀a,be w (w.alloc a):=λa=>(ah _ w).alloc (af _) a;have v:gw w.heap.size (w.alloc (Z #[O U 0,O U 0,O U 0] 164)) 0 0 0:=aB w _;have x:B1 (gw w.heap.size (w.alloc (Z #[O U 0,O U 0,O U 0] 164)) 0 0 0/\be w (w.alloc (Z #[O U 0,O U 0,O U 0] 164))):=⟨v,p _⟩;have y:=am C;have z:=am h;go_in;go_wp2_with (refine wD rfl 229 _ rfl 3 rfl tt _ fr _ (((p _).block _ B).trans o) underlying229 rfl (by kernel_rfl) ?_);go_loopw [7] (λk wr=>∃b:Nat,b<=j/\k= O U b/\B1 (gw w.heap.size wr 0 0 0/\be w wr)) (λk _=>20-(E3 k).toNat)
 case atStart=>exact⟨0,by omega,rfl,x⟩
 case round=>
  obtain⟨b,h,rfl,f⟩:=hrel;have E:b<20:=by omega
  have g:=λw=>anu b E w;have G:=ai f.1;have⟨H,I,J,K⟩:=f.1.cells;have r:∀a,be wr (wr.alloc a):=λa=>(ah _ wr).alloc (af _) a;rcases jz h with rfl|hlt
  .rw[z.out]at g;have⟨d,s⟩:=aJ (sJ (3*b+1));have⟨e,t⟩:=aJ (sJ (3*b+2));rw[s,t]at g;have m:=iK s t;have u:=gw.put f.1 c d e;have n:be w (((wr.setCell ⟨w.heap.size,0,Ax⟩ (O U c)).setCell ⟨w.heap.size,1,Ax⟩ (O U d)).setCell ⟨w.heap.size,2,Ax⟩ (O U e)):=((f.2.setCell (af _) _).setCell (af _) _).setCell (af _) _;have q:∀a,Below (((wr.setCell ⟨w.heap.size,0,Ax⟩ (O U c)).setCell ⟨w.heap.size,1,Ax⟩ (O U d)).setCell ⟨w.heap.size,2,Ax⟩ (O U e)).heap.size (((wr.setCell ⟨w.heap.size,0,Ax⟩ (O U c)).setCell ⟨w.heap.size,1,Ax⟩ (O U d)).setCell ⟨w.heap.size,2,Ax⟩ (O U e)) ((((wr.setCell ⟨w.heap.size,0,Ax⟩ (O U c)).setCell ⟨w.heap.size,1,Ax⟩ (O U d)).setCell ⟨w.heap.size,2,Ax⟩ (O U e)).alloc a):=λa=>(ah _ _).alloc (af _) a;have l:B1 ((∀a,gw w.heap.size ((((wr.setCell ⟨w.heap.size,0,Ax⟩ (O U c)).setCell ⟨w.heap.size,1,Ax⟩ (O U d)).setCell ⟨w.heap.size,2,Ax⟩ (O U e)).alloc a) c d e)/\(∀a,be w ((((wr.setCell ⟨w.heap.size,0,Ax⟩ (O U c)).setCell ⟨w.heap.size,1,Ax⟩ (O U d)).setCell ⟨w.heap.size,2,Ax⟩ (O U e)).alloc a))):=⟨λa=>((q a).block _ (ai u)).trans u,λa=>n.trans ((q a).mono n.size)⟩;go_wp21
   exact bH (pc rfl _ _ _ ⟨w.heap.size,0,Ax⟩ (Ck true) _ rfl rfl (xj _ _ _ _ _ (l.1 _))) rfl ⟨by rw[m.out.1,m.out.2],l.2 _⟩
  .have F:=y.out b hlt;generalize sJ (3*b+1)=d at g;generalize sJ (3*b+2)=e at g;generalize qK.getD b 0=ad at g F;have A:B1 (∀a,gw w.heap.size (wr.alloc a) 0 0 0/\be w (wr.alloc a)):=λa=>⟨((r a).block _ G).trans f.1,f.2.trans ((r a).mono f.2.size)⟩;go_wp21
   exact⟨⟨b+1,by omega,by go_num,A _⟩,by simp[E3];omega⟩
def aiK:(Tryz.prog.info? 3).map (λi=>(i.zero,i.size,i.bytes))=A0 (A0 (O U 0),1,8):=by kernel_rfl
def aaE:(Tryz.prog.info? 9).map (λi=>(i.zero,i.size,i.bytes))=A0 (A0 (B0 ⟨#[]⟩),1,16):=by kernel_rfl
structure Pp (E:Pe) (w:B6) (i:Nat):Prop where
 hn:E.n<=1048576
 tks:∃cs fr,w.heap[E.tb]?=A0 (.cells cs 74 fr)/\TkR cs E.tk E.n
 row:w.heap[E.pb]?=A0 (.cells #[.slice (A0 ⟨E.tb,0,Ax⟩) E.n E.cap,.int .i64 i] 77 (0,0))
 pg:3<E.pb
 pw:∃tt fr,w.heap[3]?=A0 (.cells BL tt fr)
def Rv(w:B6)(lo:Nat)(c:Option Nat)(t:B4)(v:A9)(b:List A9):Prop:=w.ownsRow lo t 1 v b.length b/\∀a,v.ownBlock=A0 a->c≠A0 a
def uG(w:B6)(lo:Nat)(a:Option Nat):Fo->List A9->List Nat->Prop
 | .nil,vs,c=>vs=[]/\c=[]
 | .cons N k r,vs,c=>∃b h d f kv g e br,(vs=gB N.k b::g/\c=d.ownBlock.toList++(e++br))/\(lo<=b/\a≠A0 b/\ic w b N d h f/\py N (dF N.k)=N)/\Rv w lo a 9 d (N.nm.map A5)/\Rv w lo a 44 f kv/\uG w lo a k kv e/\uG w lo a r g br
def Dk(w:B6)(lo:Nat)(b:Option Nat)(R:Fo)(c:List A9):Prop:=∃a,uG w lo b R c a
def mB(M:List (A9×List ByteArray)):List Nat:=M.flatMap λa=>a.1.ownBlock.toList
def nd3{a b c:List Nat}{n:Nat}(h:(a++c).Nodup)(k:b.Nodup)(f:∀x∈a++c,x<n)(g:∀x∈b,n<=x):((a++b)++c).Nodup:=by
 rw[rl]at h;obtain⟨j,l,m⟩:=h;have o:∀x∈a,∀d∈b,x≠d:=λx hx d e i=>by have:=f x (List.mem_append_left _ hx);have:=g d e;omega
 have p:∀x∈b,∀d∈c,x≠d:=λx hx d e i=>by have:=f d (Hx _ e);have:=g x hx;omega
 rw[rl,rl];refine⟨⟨j,k,o⟩,l,λx hx d e=>?_⟩;rcases List.mem_append.1 hx with hx|hx
 .exact m x hx d e
 .exact p x hx d e
def JH(o:Option Nat):o.toList.Nodup:=by cases o<;>simp
section
variable {w w' : World} {lo lo' : Nat} {ex ex' : Option Nat}
def Rv.mono{t:B4}{v:A9}{e:List A9}(o:Rv w lo ex t v e)(h:∀k,lo<=k->ex≠A0 k->k<w.heap.size->w'.heap[k]?=w.heap[k]?/\lo'<=k/\ex'≠A0 k):Rv w' lo' ex' t v e:=
 ⟨pu o.1 (λa b c d=>⟨(h a c (o.2 a b) d).1,(h a c (o.2 a b) d).2.1⟩),λa b=>(h a (o.1.lt a b).1 (o.2 a b) (o.1.lt a b).2).2.2⟩
def uG.mono(h:∀k,lo<=k->ex≠A0 k->k<w.heap.size->w'.heap[k]?=w.heap[k]?/\lo'<=k/\ex'≠A0 k):∀(R:Fo)(vs:List A9)(a:List Nat),uG w lo ex R vs a->uG w' lo' ex' R vs a
 | .nil,vs,a,q=>q
 | .cons N k r,vs,a,⟨b,n,t,s,kv,g,f,br,e,⟨i,j,d,l⟩,m,k1,o,p⟩=>by
  have c:=h b i j (ai d);exact⟨b,n,t,s,kv,g,f,br,e,⟨c.2.1,c.2.2,c.1.trans d,l⟩,m.mono h,k1.mono h,uG.mono h k kv f o,uG.mono h r g br p⟩
def uG.app:∀(R:Fo)(vs:List A9)(a:List Nat){S:Fo}{us:List A9}{cs:List Nat},uG w lo ex R vs a->uG w lo ex S us cs->uG w lo ex (R.app S) (vs++us) (a++cs)
 | .nil,vs,a,S,us,cs,q,p=>by obtain⟨rfl,rfl⟩:=q;exact p
 | .cons t u o,vs,a,S,us,cs,⟨d,l,s,r,j,c,f,b,⟨g,h⟩,e,k,i,m,n⟩,p=>⟨d,l,s,r,j,c++us,f,b++cs,⟨by rw[g];rfl,by rw[h];simp only[dj]⟩,e,k,i,m,uG.app o c b n p⟩
def uG.lt:∀(R:Fo)(vs:List A9)(a:List Nat),uG w lo ex R vs a->∀g∈a,lo<=g/\g<w.heap.size
 | .nil,vs,a,q=>by obtain⟨rfl,rfl⟩:=q;intro g hg;cases hg
 | .cons m e k,vs,a,⟨n,s,u,t,f,l,b,c,⟨p,d⟩,o,h,r,i,j⟩=>by
  intro g hg;rw[d]at hg;rcases List.mem_append.1 hg with hg|hg
  .exact h.1.lt g (by simpa using hg)
  rcases List.mem_append.1 hg with hg|hg
  .exact uG.lt e f b i g hg
  .exact uG.lt k l c j g hg
def Dk.len:∀(R:Fo)(vs:List A9),Dk w lo ex R vs->vs.length=R.len
 | .nil,vs,⟨b,q⟩=>by obtain⟨rfl,rfl⟩:=q;rfl
 | .cons g k e,vs,⟨b,h,o,s,r,m,f,j,a,c,i,n,l,p,d⟩=>by rw[c.1,bB,Dk.len e f ⟨a,d⟩];rfl
end
abbrev tkB(b:Nat)(t:Tk):Nat×B4×Array A9:=(b,74,wo t.k t)
structure Sw (E:Pe) (W w:B6) (i:Nat) (kv:A9) (kn:List A9) (D:Fo) (vs:List A9) (T:Bxs) (M:List (A9×List ByteArray)):Prop where
 pp:Pp E w i
 gr:W.grownBy w (A0 E.pb)
 lt:E.pb<W.heap.size
 ro:w.ownsRow W.heap.size 44 1 kv kn.length kn
 nb:∃bs,uG w W.heap.size kv.ownBlock D vs bs/\(bs++mB M).Nodup
 tb:∀p∈T,W.heap.size<=p.1/\(p.2.1≠44/\p.2.1≠9)/\w.heap[p.1]?=A0 (.cells p.2.2 p.2.1 (0,0))
 nm:∀p∈M,w.ownsRow W.heap.size 9 1 p.1 (p.2.map A5).length (p.2.map A5)
section
variable {E : Pe} {W w w' : World} {i j : Nat} {kv v : Value} {kn vs us ws : List Value} {D R : Fo} {T : Bxs} {M : List (Value × List ByteArray)}
def Sw.nn(h:Sw E W w i kv kn D vs T M):Dk w W.heap.size kv.ownBlock D vs:=h.nb.elim λa b=>⟨a,b.1⟩
def aiL(nm:∀p∈M,w.ownsRow W.heap.size 9 1 p.1 (p.2.map A5).length (p.2.map A5)):∀g∈mB M,g<w.heap.size:=λg a=>by
 have⟨p,b,a⟩:=List.mem_flatMap.1 a;exact((nm p b).lt g (by simpa using a)).2
def Pp.lt(h:Pp E w i):E.pb<w.heap.size:=ai h.row
def Pp.keep(h:Pp E w i)(g:w.grownBy w' Ax):Pp E w' i:=by
 have⟨c,e,a,f⟩:=h.tks;have⟨j,d,b⟩:=h.pw;exact⟨h.hn,⟨c,e,(g.block _ (ai a) (by simp)).trans a,f⟩,(g.block _ h.lt (by simp)).trans h.row,h.pg,j,d,(g.block _ (ai b) (by simp)).trans b⟩
def Sw.start(h:Pp E w i):B1 (Sw E w w i s0 [] .nil [] [] []):=⟨h,pq _ _,h.lt,fE _ _ _ _,⟨[],⟨rfl,rfl⟩,H8⟩,λb a=>(by cases a),λb a=>(by cases a)⟩
def Sw.step(h:Sw E W w i kv kn D vs T M)(g:w.grownBy w' (A0 E.pb))(p:Pp E w' j):Sw E W w' j kv kn D vs T M:=by
 have e:∀b,W.heap.size<=b->b<w.heap.size->w'.heap[b]?=w.heap[b]?:=λb a c=>g.block b c (λe=>by have:=h.lt;cases e;omega);have⟨f,l,m⟩:=h.nb;exact⟨p,h.gr.trans g,h.lt,pu h.ro (λg _ a c=>⟨e g a c,a⟩),⟨f,uG.mono (λb a c k=>⟨e b a k,a,c⟩) _ _ _ l,m⟩,λp d=>⟨(h.tb p d).1,(h.tb p d).2.1,(e _ (h.tb p d).1 (ai (h.tb p d).2.2)).trans (h.tb p d).2.2⟩,λp d=>pu (h.nm p d) (λg _ a c=>⟨e g a c,a⟩)⟩
def sC(b:be w w')(d:Option Nat):w.grownBy w' d:=⟨b.os,b.tape,b.output,b.size,λc a _=>b.block c a⟩
def sX(h:B1 (Sw E W w i kv kn D vs T M))(a:Pp E w' j/\w.grownBy w' (A0 E.pb)):B1 (Sw E W w' j kv kn D vs T M):=h.step a.2 a.1
def sB(h:B1 (Sw E W w i kv kn D vs T M))(b:be w w'):B1 (Sw E W w' i kv kn D vs T M):=h.step (sC b _) (h.pp.keep (sC b _))
def Sw.sub(h:Sw E W w i kv kn D vs T M)(s:Sw E w w' j v us R ws [] []):Sw E W w' j kv kn (D.app R) (vs++ws) T M:=by
 have b:=h.step s.gr s.pp;have x:=h.gr.size;have⟨u,y,z⟩:=b.nb;have⟨o,l,q⟩:=h.nb;have⟨p,m,t⟩:=s.nb;obtain⟨c,r,p2⟩:∃c,uG w' W.heap.size kv.ownBlock D vs c/\(c++mB M).Nodup/\∀a∈c,a<w.heap.size:=⟨o,uG.mono (w:=w) (λe f g k=>⟨s.gr.block e k (λd=>by have:=h.lt;cases d;omega),f,g⟩) _ _ _ l,q,λa hx=>(l.lt _ _ _ a hx).2⟩;refine⟨b.pp,b.gr,b.lt,b.ro,⟨c++p,uG.app _ _ _ r (uG.mono (λe f g k=>⟨rfl,by omega,λd=>?_⟩) _ _ _ m),nd3 (n:=w.heap.size) p2.1 (by simpa [mB] using t) (λa hx=>?_) (λa hx=>(m.lt _ _ _ a hx).1)⟩,b.tb,b.nm⟩
 .have:=(h.ro.lt e d).2;omega
 .rcases List.mem_append.1 hx with hx|hx
  .exact p2.2 a hx
  .exact aiL h.nm a hx
def Sw.subL(h:Sw E W w i s0 [] D vs T M)(s:Sw E w w' j v us R ws [] []):Sw E W w' j v us (D.app R) (vs++ws) T M:=by
 have a:=h.step s.gr s.pp;have p:=h.gr.size;have⟨m,k,q⟩:=h.nb;have⟨o,l,r⟩:=s.nb;refine⟨a.pp,a.gr,a.lt,rK s.ro p,⟨m++o,uG.app _ _ _ (uG.mono (w:=w) (λd e f g=>⟨s.gr.block d g (λc=>by have:=h.lt;cases c;omega),e,λc=>?_⟩) _ _ _ k) (uG.mono (λd e f g=>⟨rfl,by omega,f⟩) _ _ _ l),nd3 (n:=w.heap.size) q (by simpa [mB] using r) (λb hx=>?_) (λb hx=>(l.lt _ _ _ b hx).1)⟩,a.tb,a.nm⟩
 .have:=(s.ro.lt d c).1;omega
 .rcases List.mem_append.1 hx with hx|hx
  .exact(k.lt _ _ _ b hx).2
  .exact aiL h.nm b hx
def Sw.box(h:Sw E W w i kv kn D vs T M)(t:Tk):Sw E W (w.alloc (Z (wo t.k t) 74)) i kv kn D vs (tkB w.heap.size t::T) M:=by
 have a:=sB (w:=w) h (gc w (Z (wo t.k t) 74));refine⟨a.pp,a.gr,a.out.lt,a.ro,a.nb,λb hp=>?_,a.nm⟩;rcases List.mem_cons.1 hp with rfl|hp
 .exact⟨h.gr.size,⟨show 74≠44 by decide,show 74≠9 by decide⟩,aB w _⟩
 .exact a.tb b hp
def Sw.lit(h:Sw E W w i s0 [] D vs T M)(us:List A9)(m:us.length<=100):Sw E W (w.alloc (Z us.toArray 44)) i (A2 (A0 ⟨w.heap.size,0,Ax⟩) us.length us.length) us D vs T M:=by
 have a:=sB (w:=w) h (gc w (Z us.toArray 44));have k:=Cv (base:=W.heap.size) (e:=44) (size:=1) w us.toArray us.length h.gr.size (by unfold E0;omega) (by simp);have⟨c,g,j⟩:=h.nb;refine⟨a.pp,a.gr,a.out.lt,by simpa using k,⟨c,uG.mono (w:=w) (λb d l f=>⟨(gc w _).block b f,d,λe=>?_⟩) _ _ _ g,j⟩,a.tb,a.nm⟩;have:w.heap.size=b:=by simpa [B3] using e
 omega
def Sw.put(h:Sw E W w i kv kn D vs T M)(o:w'.ownsRow W.heap.size 44 1 v us.length us)(g:w.grownBy w' kv.ownBlock)(C:v.ownBlock=kv.ownBlock\/v.ownBlock=A0 w.heap.size):Sw E W w' i v us D vs T M:=by
 have b:∀a,a<w.heap.size->kv.ownBlock≠A0 a->w'.heap[a]?=w.heap[a]?:=λa p l=>g.block a p (λb=>l b.symm);have t:∀a,kv.ownBlock=A0 a->W.heap.size<=a:=λa c=>(h.ro.lt a c).1;have j:∀{a:Nat}{f:Array A9}{r:B4}{k:Nat×Nat},w.heap[a]?=A0 (Z f r k)->r≠44->w'.heap[a]?=A0 (Z f r k):=λc H=>(b _ (ai c) (oF h.ro c H)).trans c;have⟨f,k,L,ad⟩:=h.pp.tks;have⟨x,J,K⟩:=h.nb;have⟨an,A,u⟩:=h.pp.pw;have ak:=(b _ (ai u) (λb=>by have:=t _ b;have:=h.lt;have:=h.pp.pg;omega)).trans u;refine⟨⟨h.pp.hn,⟨f,k,j L (by decide),ad⟩,j h.pp.row (by decide),h.pp.pg,an,A,ak⟩,h.gr.andThen g (λa c=> .inl (t a c)),h.lt,o,⟨x,uG.mono (w:=w) (λa p l s=>⟨b a s l,p,λm=>?_⟩) _ _ _ J,K⟩,λe d=>⟨(h.tb e d).1,(h.tb e d).2.1,j (h.tb e d).2.2 (h.tb e d).2.1.1⟩,λe d=>?_⟩
 .rcases C with q|q
  .exact l (q ▸ m)
  .rw[q]at m;cases m;exact Nat.lt_irrefl _ s
 .have q:=h.nm e d;obtain⟨B,n⟩:=q;refine⟨B,?_⟩;rcases n with n|⟨g,y,z,I,G,F,al⟩
  .exact .inl n
  .exact .inr ⟨g,y,z,I,G,j F (by decide),al⟩
def Sw.name(h:Sw E W w i kv kn D vs T M)(c:Pp E w' j/\w.grownBy w' (A0 E.pb))(o:w'.ownsRow w.heap.size 9 1 v (ns.map A5).length (ns.map A5)):Sw E W w' j kv kn D vs T ((v,ns)::M):=by
 have a:=h.step c.2 c.1;have⟨d,e,p⟩:=h.nb;refine⟨a.pp,a.gr,a.lt,a.ro,⟨d,uG.mono (w:=w) (λm g k l=>⟨c.2.block m l (λf=>by have:=h.lt;cases f;omega),g,k⟩) _ _ _ e,?_⟩,a.tb,λq hp=>?_⟩
 .show(d++(v.ownBlock.toList++mB M)).Nodup;rw[<-dj];refine nd3 (n:=w.heap.size) p (JH _) (λb hx=>?_) (λb hx=>(o.lt b (by simpa using hx)).1);rcases List.mem_append.1 hx with hx|hx
  .exact(e.lt _ _ _ b hx).2
  .exact aiL h.nm b hx
 rcases List.mem_cons.1 hp with rfl|hp
 .exact rK o h.gr.size
 .exact a.nm q hp
def Sw.fin0(h:Sw E W w i kv vs D vs T M)(N:Nd)(b:A9)(m:py N (dF N.k)=N)(q:w.ownsRow W.heap.size 9 1 b (N.nm.map A5).length (N.nm.map A5))(cs:Array A9)(n:cs=([O U N.k,O U N.f,O U N.t,O U N.l,O U 0,kv]++exT N b (dF N.k)).toArray)(st:B4)(ht:st=yi (dF N.k))(j:∀p∈M',p∈M)(o:∀c,(c++mB M).Nodup->((b.ownBlock.toList++(c++[]))++mB M').Nodup):Sw E W (w.alloc (Z cs st)) i s0 [] (one N D) [gB N.k w.heap.size] T M':=by
 subst n ht;have a:=sB (w:=w) h (gc w (Z ([O U N.k,O U N.f,O U N.t,O U N.l,O U 0,kv]++exT N b (dF N.k)).toArray (yi (dF N.k))));have d:=gc w (Z ([O U N.k,O U N.f,O U N.t,O U N.l,O U 0,kv]++exT N b (dF N.k)).toArray (yi (dF N.k)));have⟨c,s,u⟩:=a.nb;exact⟨a.pp,a.gr,a.out.lt,fE _ _ _ _,⟨_,⟨w.heap.size,0,b,kv,vs,[],c,[],⟨rfl,rfl⟩,⟨h.gr.size,by simp[B3],aB w _,m⟩,⟨de q d,λe _=>by simp[B3]⟩,⟨a.ro,λe _=>by simp[B3]⟩,uG.mono (λk g v x=>⟨rfl,g,by simp[B3]⟩) _ _ _ s,rfl,rfl⟩,o c u⟩,a.tb,λp r=>a.nm p (j p r)⟩
def Sw.drop(h:Sw E W w i kv kn D vs T M){b:Bxs}(d:∀p∈b,p∈T)(g:M'=M\/M'=[]):Sw E W w i kv kn D vs b M':=by
 have⟨c,e,f⟩:=h.nb;rcases g with rfl|rfl
 .exact⟨h.pp,h.gr,h.lt,h.ro,⟨c,e,f⟩,λp a=>h.tb p (d p a),h.nm⟩
 .exact⟨h.pp,h.gr,h.lt,h.ro,⟨c,e,by rw[show mB []=[] from rfl,dC];exact(List.nodup_append.1 f).1⟩,λp a=>h.tb p (d p a),λp a=>(by cases a)⟩
def Sw.boxg(h:Sw E W w i kv kn D vs T M)(cs:Array A9)(t:B4)(b:t≠44)(c:t≠9):Sw E W (w.alloc (Z cs t)) i kv kn D vs ((w.heap.size,t,cs)::T) M:=by
 have a:=sB (w:=w) h (gc w (Z cs t));refine⟨a.pp,a.gr,a.out.lt,a.ro,a.nb,λd hp=>?_,a.nm⟩;rcases List.mem_cons.1 hp with rfl|hp
 .exact⟨h.gr.size,⟨b,c⟩,aB w _⟩
 .exact a.tb d hp
end
def CN(E:Pe)(f:FuncId)(args:Array A9)(i:Nat)(R:Fo)(j:Nat):Prop:=
 ∀w,Pp E w i->R.sz<=50000000->B2 V f args w λa w'=>∃v,a= Br v/\B1 (Sw E w w' j s0 [] R [v] [] [])
def CR(E:Pe)(f:FuncId)(args:Array A9)(i:Nat)(R:Fo)(j:Nat):Prop:=
 ∀w,Pp E w i->R.sz<=50000000->B2 V f args w λa w'=>∃v vs,a= Br v/\B1 (Sw E w w' j v vs R vs [] [])
section
variable {E : Pe} {w w' : World} {i : Nat}
def Pp.cells(h:Pp E w i):w.cell? ⟨E.pb,0,Ax⟩=A0 (A2 (A0 ⟨E.tb,0,Ax⟩) E.n E.cap)/\w.cell? ⟨E.pb,1,Ax⟩=A0 (O U i)/\∀j,w.frozen? ⟨E.pb,j,Ax⟩=false:=
 ⟨by rw[aj _ _ _ _ _ _ h.row];rfl,by rw[aj _ _ _ _ _ _ h.row];rfl,λj=>cC _ _ _ _ _ h.row⟩
def Pp.tok(h:Pp E w i){a:Nat}(e:a<E.n):∃l,((E.tk a).k≠6->l=(E.tk a).l)/\w.cell? ⟨E.tb,a*6,Ax⟩=A0 (O U (E.tk a).k)/\w.cell? ⟨E.tb,a*6+1,Ax⟩=A0 (O U (E.tk a).f)/\w.cell? ⟨E.tb,a*6+2,Ax⟩=A0 (O U (E.tk a).t)/\w.cell? ⟨E.tb,a*6+3,Ax⟩=A0 (O U l)/\w.cell? ⟨E.tb,a*6+4,Ax⟩=A0 (O U (E.tk a).n)/\w.cell? ⟨E.tb,a*6+5,Ax⟩=A0 (B0 (E.tk a).x):=by
 have⟨g,j,c,d⟩:=h.tks;have⟨l,b⟩:=d a e;exact⟨l,b.hl,by rw[aj _ _ _ _ _ _ c];exact b.c0,by rw[aj _ _ _ _ _ _ c];exact b.c1,by rw[aj _ _ _ _ _ _ c];exact b.c2,by rw[aj _ _ _ _ _ _ c];exact b.c3,by rw[aj _ _ _ _ _ _ c];exact b.c4,by rw[aj _ _ _ _ _ _ c];exact b.c5⟩
def Pp.tkw(h:Pp E w i){a:Nat}(e:a<E.n)(c:(E.tk a).k≠6):TkW E a w:=by
 have⟨o,d,f,g,j,b,l,m⟩:=h.tok e;rw[d c]at b;exact⟨f,g,j,b,l,m⟩
def Pp.ne(h:Pp E w i):E.tb≠E.pb:=λb=>by
 have⟨c,d,a,e⟩:=h.tks;rw[b,h.row]at a;cases a
def Pp.move(h:Pp E w i)(j:Nat):Pp E (w.setCell ⟨E.pb,1,Ax⟩ (O U j)) j/\w.grownBy (w.setCell ⟨E.pb,1,Ax⟩ (O U j)) (A0 E.pb):=by
 have⟨a,c,d,e⟩:=h.tks;have⟨g,b,f⟩:=h.pw;exact⟨⟨h.hn,⟨a,c,(aC _ _ _ _ h.ne).trans d,e⟩,bg _ E.pb 1 _ _ _ h.row,h.pg,g,b,(aC _ _ _ _ (Nat.ne_of_lt h.pg)).trans f⟩,jL (pq w _) 1 _⟩
def Pp.other(h:Pp E w i)(k:b≠E.pb)(l:b≠E.tb)(o:E.pb<=b)(g:w.grownBy w' (A0 b)):Pp E w' i:=by
 have⟨e,j,d,m⟩:=h.tks;have⟨n,f,c⟩:=h.pw;exact⟨h.hn,⟨e,j,(g.block _ (ai d) (λa=>l (by cases a;rfl))).trans d,m⟩,(g.block _ h.lt (λa=>k (by cases a;rfl))).trans h.row,h.pg,n,f,(g.block _ (ai c) (λa=>by cases a;have:=h.pg;omega)).trans c⟩
def ai0(h:Pp E w i)(a:i<E.n):B2 V 159 #[pV E] w (gy w (O U (E.tk i).k)):=by
 have⟨b,c,d⟩:=h.cells;have⟨g,f,j,l,m,o,p,q⟩:=h.tok a;have e:(i:Int)<(E.n:Int):=by omega
 go_in;go_wp21
 go_quiet (fail)
 go_wp2;go_ret;exact⟨rfl,rfl,rfl,rfl,af _,λ_ _=>rfl⟩
def aq4(h:Pp E w i)(ak:i<E.n)(L:(E.tk i).k≠6):B2 V 160 #[pV E] w λe w'=>e= Br (vTk (E.tk i))/\Pp E w' (i+1)/\w.grownBy w' (A0 E.pb):=by
 have a4:=h.lt;have u:=gc w (Z #[O U 0,O U 0,O U 0,O U 0,O U 0,B0 ⟨#[]⟩] 74);have s:=h.keep (sC u _);have⟨c,y⟩:=s.move (i+1);have⟨av,ax,a0⟩:=s.cells;have⟨p,q,r⟩:=c.cells;have⟨A,B,C,F,G,H⟩:=c.tkw ak L;have K:((i+1:Nat):Int)=(i:Int)+1:=by omega
 rw[K]at c y q p r A B C F G H;have a3:=h.hn;have a5:IntKind.i64.wrap (i:Int)=(i:Int):=by rw[fh];omega
 have⟨b,m⟩:=aJ ((w.alloc (Z #[O U 0,O U 0,O U 0,O U 0,O U 0,B0 ⟨#[]⟩] 74)).setCell ⟨E.pb,1,Ax⟩ (O U ((i:Int)+1)));have v:b.heap[w.heap.size]?=A0 (Z #[O U 0,O U 0,O U 0,O U 0,O U 0,B0 ⟨#[]⟩] 74 (0,0)):=by
  rw[<-m,aC _ _ _ _ (by show w.heap.size≠E.pb;omega)];exact aB w _
 have ad:w.grownBy b (A0 E.pb):=by rw[<-m];exact(sC u _).trans y
 rw[m]at c p q r A B C F G H;go_in;go_wp21
 have j:=mo c ad v;have o:=am h;have⟨z0,a6,a7,a8,a9,ba⟩:=jk j.2.2;have⟨bb,bc,bd,bf,bh,bj⟩:=sF j.2.2;have an:E.pb≠w.heap.size:=by omega
 have ao:E.tb≠w.heap.size:=by
  have⟨a1,a2,ap,_⟩:=o.tks;have:=ai ap;omega
 have z:=λk (h:k≠w.heap.size) a=>Dr (W:=b) h a;unfold Ko at z;go_region_held3 (λI=>∀k,k≠w.heap.size->∀a,I.cell? ⟨k,a,Ax⟩=b.cell? ⟨k,a,Ax⟩) (first|with_reducible exact λk h a=>z k h a _ _ _ _ _ _|exact λ_ _ _=>rfl) (fail)
 have g:=Ds b w.heap.size (O U (E.tk i).k) (O U (E.tk i).f) (O U (E.tk i).t) (O U (E.tk i).l) (O U (E.tk i).n) (B0 (E.tk i).x);have d:=Ii j.2.2 (O U (E.tk i).k) (O U (E.tk i).f) (O U (E.tk i).t) (O U (E.tk i).l) (O U (E.tk i).n) (B0 (E.tk i).x);rw[<-sG]at d;unfold Ko at g d;generalize World.drew _=au at g d⊢;go_wp2;have⟨ar,J,v⟩:=j.out;exact bH (iF rfl _ _ w.heap.size _ _ _ _ rfl d underlying74 rfl (by kernel_rfl)) rfl ⟨rfl,ar.other an.symm ao.symm (iA o.out.lt) g,J.andThen g (λa al=> .inl (by cases al;exact af _))⟩
end
section
variable {E : Pe} {w w' : World} {i : Nat}
def aq5(h:Pp E w i)(g:i<E.n)(j:(E.tk i).k=k):B2 V 242 #[pV E,O U k] w λe w'=>e= Br (Ck true)/\Pp E w' (i+1)/\w.grownBy w' (A0 E.pb):=by
 have r:((E.tk i).k !=k)=false:=by simp[j]
 have l:=ai0 h g;have d:=am h;have q:=h.hn;go_in;go_wp21
 refine l.mono ?_;rintro e w1 ⟨rfl,b⟩;have c:=d.keep (sC b _);have⟨m,o,p⟩:=c.cells;have f:=am c;go_wp21
 go_ret;have a:=f.move (i+1);rw[show((i+1:Nat):Int)=(i:Int)+1 by omega]at a;exact⟨rfl,a.1,(sC b _).trans a.2⟩
def aq6(h:Pp E w i)(b:i<E.n)(c:(E.tk i).k≠k):B2 V 242 #[pV E,O U k] w (gy w (Ck false)):=by
 have f:((E.tk i).k !=k)=true:=by simp[c]
 have d:=ai0 h b;go_in;go_wp2_with (go_at_call 159;refine d.mono ?_;rintro e w1 ⟨rfl,a⟩);go_ret;exact⟨rfl,a⟩
def ai1(h:Pp E w i)(v:i<E.n):B2 V 94 #[pV E] w λe w'=>(∃l,((E.tk i).k≠6->l=(E.tk i).l)/\e= Br (C2 #[O U (E.tk i).k,O U (E.tk i).f,O U (E.tk i).t,O U l,O U (E.tk i).n,B0 (E.tk i).x]))/\be w w':=by
 have g:=gc w (Z #[O U 0,O U 0,O U 0,O U 0,O U 0,B0 ⟨#[]⟩] 74);have m:=h.keep (sC g _);have⟨r,s,u⟩:=m.cells;have⟨l,z,C,F,G,H,I,J⟩:=m.tok v;have⟨d,o⟩:=aJ (w.alloc (Z #[O U 0,O U 0,O U 0,O U 0,O U 0,B0 ⟨#[]⟩] 74));have A:d.heap[w.heap.size]?=A0 (Z #[O U 0,O U 0,O U 0,O U 0,O U 0,B0 ⟨#[]⟩] 74 (0,0)):=by rw[<-o];exact aB w _
 rw[o]at m r s u C F G H I J g;have b:=iK A g;have ak:E.pb≠w.heap.size:=by have:=h.lt;omega
 have al:E.tb≠w.heap.size:=by
  have⟨L,ad,B,_⟩:=h.tks;have:=ai B;omega
 go_in;go_wp21
 have⟨z0,an,ao,ap,ar,au⟩:=jk b.1;have⟨av,ax,a0,a1,a2,a3⟩:=sF b.1;have p:=λk (h:k≠w.heap.size) a=>Dr (W:=d) h a;unfold Ko at p;go_region_held3 (λq=>∀k,k≠w.heap.size->∀a,q.cell? ⟨k,a,Ax⟩=d.cell? ⟨k,a,Ax⟩) (first|with_reducible exact λk h a=>p k h a _ _ _ _ _ _|exact λ_ _ _=>rfl) (fail)
 have j:=Ds d w.heap.size (O U (E.tk i).k) (O U (E.tk i).f) (O U (E.tk i).t) (O U l) (O U (E.tk i).n) (B0 (E.tk i).x);have c:=Ii b.1 (O U (E.tk i).k) (O U (E.tk i).f) (O U (E.tk i).t) (O U l) (O U (E.tk i).n) (B0 (E.tk i).x);rw[<-sG]at c;unfold Ko at j c;generalize World.drew _=K at j c⊢;go_wp2;exact bH (iF rfl _ _ w.heap.size _ _ _ _ rfl c underlying74 rfl (by kernel_rfl)) rfl ⟨⟨l,z,rfl⟩,b.2.grown j (by have:=b.2.size;omega) (λk y=>by cases y;omega)⟩
def alz(h:Pp E w (i+1))(y:i<E.n)(nk:Int)(T:Tk)(a:Option Addr)(n c:Nat):B2 V 244 #[pV E,O U nk,vTk T,A2 a n c] w (gy w (C2 #[O U nk,O U T.f,O U (E.tk i).t,O U T.l,O U 0,A2 a n c])):=by
 have u:=gc w (Z (wo T.k T) 74);have m:be w ((w.alloc (Z (wo T.k T) 74)).alloc (Z #[O U 0,O U 0,O U 0,O U 0,O U 0,A2 Ax 0 0] 104)):=u.alloc (by simp) _;have p:=h.keep (sC m _);have⟨v,q,x⟩:=p.cells;have⟨l,an,F,G,H,I,J,K⟩:=p.tok y;rw[show((i+1:Nat):Int)=(i:Int)+1 by omega]at q;have al:=h.hn;have au:IntKind.i64.wrap (i:Int)=(i:Int):=by rw[fh];omega
 have⟨g,k⟩:=aJ ((w.alloc (Z (wo T.k T) 74)).alloc (Z #[O U 0,O U 0,O U 0,O U 0,O U 0,A2 Ax 0 0] 104));have B:g.heap[w.heap.size+1]?=A0 (Z #[O U 0,O U 0,O U 0,O U 0,O U 0,A2 Ax 0 0] 104 (0,0)):=by
  have:=aB (w.alloc (Z (wo T.k T) 74)) (Z #[O U 0,O U 0,O U 0,O U 0,O U 0,A2 Ax 0 0] 104);rw[dm]at this;rw[<-k];exact this
 have A:g.heap[w.heap.size]?=A0 (Z (wo T.k T) 74 (0,0)):=by
  rw[<-k];exact((gc (w.alloc (Z (wo T.k T) 74)) _).block _ (by simp)).trans (aB w _)
 rw[k]at p v q x F G H I J K m;have e:=iK B m;have⟨av,ax,a0,a1,a2,a3⟩:=jk A;have ao:E.pb≠w.heap.size+1:=by have:=h.lt;omega
 have ap:E.tb≠w.heap.size+1:=by
  have⟨ad,ak,C,_⟩:=h.tks;have:=ai C;omega
 have ar:w.heap.size≠w.heap.size+1:=by omega
 simp only[wo]at k;unfold vTk;go_in;go_wp21
 have⟨z0,a4,a5,a6,a7,a8⟩:=jk e.1;have⟨a9,ba,bb,bc,bd,bf⟩:=sF e.1;have r:=λb (h:b≠w.heap.size+1) d=>Dr (W:=g) h d;unfold Ko at r;go_region_held3 (λs=>∀b,b≠w.heap.size+1->∀d,s.cell? ⟨b,d,Ax⟩=g.cell? ⟨b,d,Ax⟩) (first|with_reducible exact λb h d=>r b h d _ _ _ _ _ _|exact λ_ _ _=>rfl) (fail)
 have o:=Ds g (w.heap.size+1) (O U nk) (O U T.f) (O U (E.tk i).t) (O U T.l) (O U 0) (A2 a n c);have j:=Ii e.1 (O U nk) (O U T.f) (O U (E.tk i).t) (O U T.l) (O U 0) (A2 a n c);rw[<-sG]at j;unfold Ko at o j;generalize World.drew _=L at o j⊢;go_wp2;exact bH (iF rfl _ _ (w.heap.size+1) _ _ _ _ rfl j underlying104 rfl (by kernel_rfl)) rfl ⟨rfl,e.2.grown o (by have:=e.2.size;omega) (λb z=>by cases z;omega)⟩
end
section
variable {E : Pe} {W w w' : World} {i j q : Nat} {k nk : Int} {kv v : Value} {kn vs us ws : List Value} {D R : Fo} {T : Bxs} {M : List (Value × List ByteArray)} {f : FuncId} {args : Array Value}
def pE(S:B1 (Sw E W w i kv kn D vs T M))(d:(E.tk i).k=k)(c:i<E.n:=by omega):B2 V 159 #[pV E] w λe w'=>e= Br (O U k)/\B1 (Sw E W w' i kv kn D vs T M):=by
 rw[<-d];refine(ai0 S.pp c).mono ?_;rintro e w' ⟨b,a⟩;exact⟨b,sB S a⟩
def lL(S:B1 (Sw E W w i kv kn D vs T M))(f:(E.tk i).k=k)(d:i<E.n)(a:k≠6:=by decide):B2 V 160 #[pV E] w λe w'=>e= Br (C2 (wo k (E.tk i)))/\B1 (Sw E W w' (i+1) kv kn D vs T M):=by
 rw[<-f]at a⊢;refine(aq4 S.pp d a).mono ?_;rintro e w' ⟨c,b⟩;exact⟨c,sX S b⟩
def xI(S:B1 (Sw E W w i kv kn D vs T M))(d:(E.tk i).k=k)(c:i<E.n:=by omega):B2 V 242 #[pV E,O U k] w λe w'=>e= Br (Ck true)/\B1 (Sw E W w' (i+1) kv kn D vs T M):=by
 refine(aq5 S.pp c d).mono ?_;rintro e w' ⟨b,a⟩;exact⟨b,sX S a⟩
def Cp(S:B1 (Sw E W w i kv kn D vs T M))(d:(E.tk i).k≠k)(c:i<E.n:=by omega):B2 V 242 #[pV E,O U k] w λe w'=>e= Br (Ck false)/\B1 (Sw E W w' i kv kn D vs T M):=by
 refine(aq6 S.pp c d).mono ?_;rintro e w' ⟨b,a⟩;exact⟨b,sB S a⟩
def Fi(S:B1 (Sw E W w i kv kn D vs T M))(f:(E.tk i).k=k)(d:i<E.n)(b:k≠6):B2 V 94 #[pV E] w λe w'=>e= Br (C2 (wo k (E.tk i)))/\B1 (Sw E W w' i kv kn D vs T M):=by
 rw[<-f]at b⊢;refine(ai1 S.pp d).mono ?_;rintro e w' ⟨⟨h,g,a⟩,c⟩;rw[g b]at a;exact⟨a,sB S c⟩
def Gg(S:B1 (Sw E W w i kv kn D vs T M))(a:t.k=k):∃w',w.alloc (Z (wo k t) 74)=w'/\B1 (Sw E W w' i kv kn D vs (tkB w.heap.size t::T) M):=by
 rw[<-a];exact⟨_,rfl,S.box t⟩
def Gh(S:B1 (Sw E W w i kv kn D vs (tkB b t::T) M))(a:t.k=k):w.cell? ⟨b,0,Ax⟩=A0 (O U k)/\w.cell? ⟨b,1,Ax⟩=A0 (O U t.f)/\w.cell? ⟨b,2,Ax⟩=A0 (O U t.t)/\w.cell? ⟨b,3,Ax⟩=A0 (O U t.l)/\w.cell? ⟨b,4,Ax⟩=A0 (O U t.n)/\w.cell? ⟨b,5,Ax⟩=A0 (B0 t.x):=by
 rw[<-a];exact jk (S.tb _ (bq ..)).2.2
def Dk.form{lo:Nat}{c:Option Nat}(h:Dk w lo c R [v]):∃t p,v= E1 t p:=by
 cases R with
 |nil=>obtain⟨b,a,_⟩:=h;cases a
 |cons d i l=>
  obtain⟨b,e,k,n,m,j,o,f,g,a,_⟩:=h;exact⟨_,_,(mK a.1).1⟩
def yp(S:B1 (Sw E W w i kv kn D vs T M))(C:CN E f args i R j)(c:R.sz<=50000000:=by omega):B2 V f args w λe w'=>∃t p,e= Br (E1 t p)/\B1 (Sw E W w' j kv kn (D.app R) (vs++[E1 t p]) T M):=by
 refine(C w S.pp c).mono ?_;rintro e w' ⟨d,b,a⟩;obtain⟨t,p,rfl⟩:=Dk.form a.nn;exact⟨t,p,b,S.sub a⟩
def ael(S:B1 (Sw E W w i s0 [] D vs T M))(C:CR E f args i R j)(g:R.sz<=50000000:=by omega):B2 V f args w λe w'=>∃a n c us,e= Br (A2 a n c)/\B1 (Sw E W w' j (A2 a n c) us (D.app R) (vs++us) T M)/\us.length=n:=by
 refine(C w S.pp g).mono ?_;rintro e w' ⟨h,us,d,b⟩;obtain⟨a,c,rfl⟩:=cg b.ro;exact⟨a,_,c,us,d,S.subL b,rfl⟩
def aaF(S:B1 (Sw E W w i s0 [] D vs T M))(us:List A9)(cs:Array A9)(a:cs=us.toArray)(n:Nat)(b:us.length=n)(c:n<=100):∃w',w.alloc (Z cs 44)=w'/\B1 (Sw E W w' i (A2 (A0 ⟨w.heap.size,0,Ax⟩) n n) us D vs T M):=by
 subst a b;exact⟨_,rfl,S.lit us c⟩
def tG(S:B1 (Sw E W w j kv kn D vs T M))(h:t.k=k)(i:1<=j)(m:j<=E.n)(nk:Int)(a:Option Addr)(n c:Nat):B2 V 244 #[pV E,O U nk,C2 (wo k t),A2 a n c] w λe w'=>e= Br (C2 #[O U nk,O U t.f,O U (E.tk (j-1)).t,O U t.l,O U 0,A2 a n c])/\B1 (Sw E W w' j kv kn D vs T M):=by
 rw[<-h];obtain⟨b,rfl⟩:∃b,j=b+1:=⟨j-1,by omega⟩;refine(alz S.pp (by omega) nk t a n c).mono ?_;rintro e w' ⟨g,d⟩;exact⟨g,sB S d⟩
def as4{b:A9}(N:Nd)(S:B1 (Sw E W w i kv vs D vs T ((b,N.nm)::M)))(e:py N (dF N.k)=N){cs:Array A9}(g:cs=([O U N.k,O U N.f,O U N.t,O U N.l,O U 0,kv]++exT N b (dF N.k)).toArray){st:B4}(ht:st=yi (dF N.k)):B1 (Sw E W (w.alloc (Z cs st)) i s0 [] (one N D) [gB N.k w.heap.size] [] []):=(S.fin0 N b e (S.nm _ (bq ..)) cs g st ht (M':=[]) (λh c=>by cases c) (λd a=>by
 have a:(d++(b.ownBlock.toList++mB M)).Nodup:=a;rw[show mB []=[] from rfl,dC,dC];rw[<-dj]at a;exact(List.perm_append_comm.nodup_iff).1 (List.nodup_append.1 a).1)).drop (λh c=>by cases c) (.inr rfl)
def Hg(S:B1 (Sw E W w i kv vs D vs T M))(N:Nd)(a:py N (dF N.k)=N)(d:N.nm=[]){cs:Array A9}(b:cs=([O U N.k,O U N.f,O U N.t,O U N.l,O U 0,kv]++exT N s0 (dF N.k)).toArray){st:B4}(ht:st=yi (dF N.k)):B1 (Sw E W (w.alloc (Z cs st)) i s0 [] (one N D) [gB N.k w.heap.size] T M):=S.fin0 N s0 a (by rw[d];exact fE _ _ _ _) cs b st ht (λh e=>e) (λg c=>by rw[show(s0:A9).ownBlock.toList=[] from rfl,dI,dC];exact c)
def aaG(S:B1 (Sw E W w i kv vs D vs T M))(N:Nd)(a:py N (dF N.k)=N)(c:N.nm=[]){cs:Array A9}(b:cs=([O U N.k,O U N.f,O U N.t,O U N.l,O U 0,kv]++exT N s0 (dF N.k)).toArray){st:B4}(ht:st=yi (dF N.k)):B1 (Sw E W (w.alloc (Z cs st)) i s0 [] (one N D) [gB N.k w.heap.size] [] []):=(Hg S N a c b ht).out.drop (λe d=>by cases d) (.inr rfl)
def Dk.cell:∀(R:Fo)(vs:List A9){lo:Nat}{ex:Option Nat},Dk w lo ex R vs->∀u∈vs,u.oneCell'=true
 | .nil,vs,lo,ex,⟨b,h⟩=>by obtain⟨rfl,rfl⟩:=h;intro u hu;cases hu
 | .cons g l e,vs,lo,ex,⟨b,i,p,s,r,n,f,k,a,c,j,o,m,q,d⟩=>by
  intro u hu;rw[c.1]at hu;rcases List.mem_cons.1 hu with rfl|hu
  .rfl
  .exact Dk.cell e f ⟨a,d⟩ u hu
def afG:(Tryz.prog.info? 44).map (λi=>(i.zero,i.size,i.bytes))=A0 (A0 .nilIface,1,16):=by kernel_rfl
def uH{q:List Oper}(i:o.guard=Ax)(s x:Operand)(k:o.op= .call {callee:= .builtin .append,args:=#[s,x],argTypes:=#[92,92]}){base t:Nat}{r:A9}(m:a.eval s=kv)(f:w.ownsRow base 44 1 kv kn.length kn)(n:a.eval x=r)(K:w.ownsRow t 44 1 r us.length us)(z:∀u∈us,u.oneCell'=true)(ao:kn.length+us.length<=100000000)(B:base<=w.heap.size)
  (h:∀b d c w',w'.ownsRow base 44 1 (A2 b d c) (kn++us).length (kn++us)->d=kn.length+us.length->w.grownBy w' kv.ownBlock->((B7 b d c).ownBlock=kv.ownBlock\/(B7 b d c).ownBlock=A0 w.heap.size)->wpList V ops Q q (a.put o.dst (A2 b d c)) w'):wpList V ops Q (o::q) a w:=by
 have⟨p,j,G,H,I⟩:=eu afG;rcases K.2 with⟨rfl,F⟩|⟨y,v,L,rfl,an,C,ad,ak,al,g⟩
 .refine wpList_append_own_none i s x 92 k base 44 p 1 underlying92 j _ _ _ m f n ?_;obtain⟨b,c,rfl⟩:=cg f;obtain rfl:us=[]:=List.length_eq_zero_iff.1 F;exact h _ _ _ w (by simpa using f) (by simp) (pq _ _) (.inl rfl)
 .refine Ce _ i s x 92 k base 44 p _ 1 16 underlying92 j G H I rfl (by decide) _ _ _ m f ⟨y,0,Ax⟩ us.length v us n (by omega) (λJ u e=>World.news_of_block C J u (by rw[uf]at g;rw[<-g,lp]at e;split at e;exact e;cases e)) z (by unfold E0;omega) (by omega) B ?_;intro ap w1 l E _ A;obtain⟨b,c,rfl⟩:=cg l;exact h _ _ _ w1 (by rw[bm];exact l) rfl E A
end
section
variable {E : Pe} {W w : World} {i j b n : Nat} {kv u : Value} {kn vs : List Value} {D R : Fo} {T : Bxs} {M : List (Value × List ByteArray)} {t : TypeId} {cs : Array Value}
def sRd(S:B1 (Sw E W w i kv kn D vs ((b,t,cs)::T) M)):(∀q,w.cell? ⟨b,q,Ax⟩=cs[q]?)/\(∀q,w.frozen? ⟨b,q,Ax⟩=false)/\b<w.heap.size:=by
 have a:=(S.tb _ (.head _)).2.2;exact⟨λq=>by rw[aj _ _ _ _ _ _ a],λq=>cC _ _ _ _ _ a,ai a⟩
def sBx(S:B1 (Sw E W w i kv kn D vs T M))(a:t≠44:=by decide)(b:t≠9:=by decide):B1 (Sw E W (w.alloc (Z cs t)) i kv kn D vs ((w.heap.size,t,cs)::T) M):=S.boxg cs t a b
def sLt(S:B1 (Sw E W w i s0 [] D vs T M))(a:cs.toList.length=n:=by rfl)(b:Nat.ble n 100=true:=by rfl):B1 (Sw E W (w.alloc (Z cs 44)) i (A2 (A0 ⟨w.heap.size,0,Ax⟩) n n) cs.toList D vs T M):=by
 subst a;exact S.lit cs.toList (Nat.le_of_ble_eq_true b)
def sLn(S:B1 (Sw E W w i kv kn D vs T M)):vs.length<=D.sz:=by
 have:=Dk.len _ _ S.nn;have:=D.len_le;omega
def sAp{g:List Oper}(S:B1 (Sw E W w i kv kn D vs T M))(p:u.oneCell'=true)(v:kn.length<=50000000)(l:o.guard=Ax)(s x:Operand)(m:o.op= .call {callee:= .builtin .append,args:=#[s,x],argTypes:=#[92,92]})(n:a.eval s=kv)(r:a.eval x= A2 (A0 ⟨w.heap.size,0,Ax⟩) 1 1)
  (h:∀b d c w',B1 (Sw E W w' i (A2 b d c) (kn++[u]) D vs T M)->wpList V ops Q g (a.put o.dst (A2 b d c)) w'):wpList V ops Q (o::g) a (w.alloc (Z #[u] 44)):=by
 have f:=sB S (gc w (Z #[u] 44));exact uH l s x m n f.ro r (Cv (base:=w.heap.size) (e:=44) (size:=1) w #[u] 1 (af _) (by unfold E0;omega) rfl) (us:=[u]) (by intro y q;rw[List.mem_singleton.1 q];exact p) (by simp only[bB,fs];omega) (by rw[dm];have:=S.gr.size;omega) λb d c w' t _ k j=>h b d c w' (f.out.put t k j)
end
def aci{j:List Oper}(r:o.guard=Ax)(s x:Operand)(u:o.op= .call {callee:= .builtin .append,args:=#[s,x],argTypes:=#[58,58]})(base:Nat)(c:Option Addr)(n f:Nat)(l:List ByteArray)(y:a.eval s= A2 c n f)(I:l.length=n)(v:w.ownsRow base 9 1 (A2 c n f) n (l.map A5))(p:base<=w.heap.size)(b:Nat)(z:ByteArray)(B:a.eval x= A2 (A0 ⟨b,0,Ax⟩) 1 1)(m:w.heap[b]?=A0 (Z #[B0 z] 9 (0,0)))(H:n<=50000000)
  (h:∀g d w1,w1.ownsRow base 9 1 (A2 (A0 ⟨g,0,Ax⟩) (n+1) d) (n+1) ((l++[z]).map A5)->w.grownBy w1 (B7 c n f).ownBlock->((B7 c n f).ownBlock=A0 g\/g=w.heap.size)->wpList V ops Q j (a.put o.dst (A2 (A0 ⟨g,0,Ax⟩) (n+1) d)) w1):wpList V ops Q (o::j) a w:=by
 have⟨G,t,C,E,F⟩:=eu aaE;refine Ce _ r s x 58 u base 9 G _ 1 16 underlying58 t C E F rfl (by decide) _ _ _ y v ⟨b,0,Ax⟩ 1 1 [B0 z] B rfl (World.news_of_block (cs:=#[B0 z]) m) (by intro J A;rw[List.mem_singleton.1 A];rfl) (by unfold E0;omega) (by omega) p ?_;intro K w1 i q _ k;obtain⟨g,d,rfl⟩:=ownsRow_succ i;exact h g d w1 (by rw[eK];exact i) q (by rcases k with e|e;exact .inl e.symm;exact .inr (by simpa [B3] using e))
def afH(w:B6)(x:ByteArray):(w.alloc (Z #[B0 x] 9)).ownsRow w.heap.size 9 1 (A2 (A0 ⟨w.heap.size,0,Ax⟩) 1 1) 1 [B0 x]:=by
 have:=Cv (base:=w.heap.size) (e:=9) (size:=1) w #[B0 x] 1 (af _) (by unfold E0;omega) (by simp);simpa using this
section
variable {E : Pe} {i j k k1 : Nat} {x y R Ex : Fo}
def aem(a2:∀(args:Array A9) (w:B6),(callFunc f args).run V w= .ok (.enter f args) w)(ao:CN E f #[pV E] i x k)(an:Ls E (CN E f #[pV E]) m k R j):CR E 243 #[pV E,.func (.func f) #[pV E] #[]] i (x.app R) j:=by
 intro w L ak;have C:=Sw.start L;have B:=an;have al:=ak;rw[Fo.sz_app]at al;go_in;go_wp21
 refine(yp C ao).mono ?_;rintro l w1 ⟨u,t,rfl,F⟩;have⟨a9,a1,a⟩:=aaF F [E1 u t] #[E1 u t] rfl 1 rfl (by decide);have y:=a;go_wp21
 go_loopg [5] m (λgk av wr=>∃(k:Nat) (D d:Fo) (g:Option Addr) (p h:Nat) (c:List A9),av= A2 g p h/\B1 (Ls E (CN E f #[pV E]) gk k d j/\Sw E w wr k (A2 g p h) c D c [] []/\D.app d=x.app R))
 case atStart=>exact⟨k,x,R,_,1,1,_,rfl,B,y,rfl⟩
 case round=>
  obtain⟨a6,D,d,g,p,h,c,rfl,A⟩:=hrel;have⟨ad,s,b⟩:=A.out;have a:=s;have a3:=Dk.len _ _ s.nn;cases ad with
  |stop n o=>
   rw[Fo.app_nil]at b;go_wp21
   refine gL (Cp a n o) λax e=>?_;go_wp21
   go_ret;exact⟨_,c,rfl,by rw[<-b];exact e⟩
  |@go ar _ ap _ v r n o J K=>
   have a4:D.sz+(v.sz+r.sz)<=50000000:=by have l:=congrArg Fo.sz b;simp only[Fo.sz_app]at l;omega
   have a0:=D.len_le;have q:=iK b K;go_wp21
   refine gL (xI a n o) λax e=>?_;go_wp21
   refine(yp e J).mono ?_;rintro l ba ⟨a8,a7,rfl,G⟩;go_wp2_with (at_builtin;refine sAp G rfl (by omega) rfl _ _ rfl rfl rfl ?_;intro I au c5 bb H);have z:=H;go_roundg ar
   case measure=>omega
   case rel=>exact⟨ap,D.app v,r,I,au,c5,_,rfl,q.2,z,by rw[Fo.app_app];exact q.1⟩
def ai2(hj:(E.tk j).k=43\/(E.tk j).k=6)(J:Ss E (CN E 161 #[pV E]) m i R j):CR E 93 #[pV E] i R j:=by
 intro al H ar;have x:=Sw.start H;have A:=J;go_in;go_wp21
 go_loopg [3] m (λgk ak wr=>∃(k:Nat) (D e:Fo) (f:Option Addr) (h g:Nat) (d:List A9),ak= A2 f h g/\B1 (Ss E (CN E 161 #[pV E]) gk k e j/\Sw E al wr k (A2 f h g) d D d [] []/\D.app e=R))
 case atStart=>exact⟨i,.nil,R,Ax,0,0,[],rfl,A,x,rfl⟩
 case round=>
  obtain⟨L,D,e,f,h,g,d,rfl,z⟩:=hrel;have⟨I,u,c⟩:=z.out;have l:=u;have au:=Dk.len _ _ u.nn;cases I with
  |stop t=>
   rw[Fo.app_nil]at c;rcases hj with hj|hj;all_goals
    go_wp21
    refine gL (pE l hj) λv b=>?_;go_wp21
    go_ret;exact⟨_,d,rfl,by rw[<-c];exact b⟩
  |@sep q _ _ _ o t p=>
   have a:=iK c p;go_wp21
   refine gL (pE l o) λv b=>?_;go_wp21
   refine gL (lL b o (by omega)) λan n=>?_;go_wp21
   go_roundg q
   case measure=>omega
   case rel=>exact⟨L+1,D,e,f,h,g,d,rfl,a.2,n,a.1⟩
  |@go q _ K _ w r o t ao F G p=>
   have av:D.sz+(w.sz+r.sz)<=50000000:=by have s:=congrArg Fo.sz c;simp only[Fo.sz_app]at s;omega
   have ap:=D.len_le;have a:=iK c p;go_wp21
   refine gL (pE l rfl F) λv b=>?_;go_wp21
   refine(yp b G).mono ?_;rintro s an ⟨a0,ax,rfl,n⟩;go_wp2_with (at_builtin;refine sAp n rfl (by omega) rfl _ _ rfl rfl rfl ?_;intro C ad c5 a1 B);have y:=B;go_roundg q
   case measure=>omega
   case rel=>exact⟨K,D.app w,r,C,ad,c5,_,rfl,a.2,y,by rw[Fo.app_app];exact a.1⟩
def alA(b c d e f a:A9)(w:B6):(Instr.field 74 (C2 #[b,c,d,e,f,a]) 5).run V w= .ok a w:=by kernel_rfl
def CT(E:Pe)(i:Nat)(ns:List ByteArray)(j:Nat):Prop:=
 ∀w,Pp E w i->B2 V 241 #[pV E] w λa w'=>∃v,a= Br v/\(Pp E w' j/\w.grownBy w' (A0 E.pb))/\w'.ownsRow w.heap.size 9 1 v (ns.map A5).length (ns.map A5)
def Sw.putN{w':B6}{v q:A9}{l:List ByteArray}(h:Sw E W w i s0 [] .nil [] T [(v,ns)])(o:w'.ownsRow W.heap.size 9 1 q (l.map A5).length (l.map A5))(g:w.grownBy w' v.ownBlock):Sw E W w' i s0 [] .nil [] T [(q,l)]:=by
 have m:=h.nm (v,ns) (bq ..);have k:∀{f:Nat}{d:Array A9}{n:B4}{e:Nat×Nat},w.heap[f]?=A0 (Z d n e)->n≠9->w'.heap[f]?=A0 (Z d n e):=λb s=>(g.block _ (ai b) (λj=>oF m b s j.symm)).trans b;have⟨d,e,t,u⟩:=h.pp.tks;have⟨y,r,p⟩:=h.pp.pw;have x:=(g.block _ (ai p) (λj=>by have:=(m.lt _ j.symm).1;have:=h.lt;have:=h.pp.pg;omega)).trans p;refine⟨⟨h.pp.hn,⟨d,e,k t (by decide),u⟩,k h.pp.row (by decide),h.pp.pg,y,r,x⟩,h.gr.andThen g (λf b=> .inl (m.lt f b).1),h.lt,fE _ _ _ _,⟨[],⟨rfl,rfl⟩,by simp[mB,JH]⟩,λc a=>⟨(h.tb c a).1,(h.tb c a).2.1,k (h.tb c a).2.2 (h.tb c a).2.1.2⟩,λc a=>?_⟩;obtain rfl:=List.mem_singleton.1 a;exact o
def aq7{D:Fo}(S:B1 (Sw E W w i kv kn D vs T M))(C:CT E i ns j):B2 V 241 #[pV E] w λe w'=>∃a n c,e= Br (A2 a n c)/\B1 (Sw E W w' j kv kn D vs T ((A2 a n c,ns)::M)):=by
 refine(C w S.pp).mono ?_;rintro e w' ⟨g,d,f,b⟩;obtain⟨a,c,rfl⟩:=cg b;exact⟨a,_,c,d,S.name f b⟩
def yq(ap:(E.tk i).k=1)(a3:i<E.n)(au:KH E.tk E.n (i+1) ns j):CT E i ((E.tk i).x::ns) j:=by
 intro e y;have I:=Sw.start y;have G:=au;have a4:=y.hn;have a2:=alA;go_in;go_wp21
 refine gL (lL I ap (by omega)) λw1 r=>?_;simp only[wo];go_wp21
 have t:=gc w1 (Z #[B0 (E.tk i).x] 9);have C:B1 (Sw E e (w1.alloc (Z #[B0 (E.tk i).x] 9)) (i+1) s0 [] .nil [] [] [(A2 (A0 ⟨w1.heap.size,0,Ax⟩) 1 1,[(E.tk i).x])]):=r.name ⟨r.pp.keep (sC t _),sC t _⟩ (afH w1 (E.tk i).x);go_loopg [3] ns.length (λgk ax wr=>∃(k:Nat) (D l:List ByteArray) (b:Option Addr) (n c:Nat),ax= A2 b n c/\gk=l.length/\D.length=n/\B1 (KH E.tk E.n k l j/\Sw E e wr k s0 [] .nil [] [] [(A2 b n c,D)]/\D++l=(E.tk i).x::ns/\i+2*D.length=k+1))
 case atStart=>exact⟨i+1,[(E.tk i).x],ns,_,1,1,rfl,rfl,rfl,G,C,rfl,by simp⟩
 case round=>
  obtain⟨d,D,l,b,n,c,rfl,ao,h,F⟩:=hrel;have⟨ad,ak,g,al⟩:=F.out;have s:=ak;cases ad with
  |stop p v=>
   rw[dC]at g;go_wp21
   refine gL (Cp s p v) λa0 a=>?_;go_wp21
   go_ret;exact⟨_,rfl,⟨a.pp,a.gr⟩,by rw[<-g];exact a.nm _ (bq ..)⟩
  |@go _ _ A p v K w=>
   have ar:n<=50000000:=by omega
   have m:=mo g w al;clear g w;go_wp21
   refine gL (xI s p) λa0 a=>?_;go_wp21
   refine gL (lL a K (by omega)) λf o=>?_;simp only[wo];have q:=o.nm _ (bq ..);rw[bC,h]at q;have H:B1 (f.ownsRow e.heap.size 9 1 (A2 b n c) n (D.map A5)):=q;clear q;go_wp2_with (at_builtin;refine aci rfl _ _ rfl e.heap.size b n c D rfl h (de H (gc f _)) (by rw[dm];have:=o.gr.size;omega) f.heap.size (E.tk (d+1)).x rfl (aB f _) ar ?_;intro L u a1 B z an;have J:B1 (Sw E e a1 (d+1+1) s0 [] .nil [] [] [(A2 (A0 ⟨L,0,Ax⟩) (n+1) u,D++[(E.tk (d+1)).x])]):=(sB o (gc f _)).out.putN (by rw[bC,bm,h];exact B) z;clear B z an);go_roundg A.length
   case measure=>rw[ao];simp
   case rel=>exact⟨d+2,D++[(E.tk (d+1)).x],A,_,n+1,u,rfl,rfl,by rw[bm,h];rfl,m.2.1,J,by rw[dj];exact m.1,by have:=m.2.2;rw[bm,yx];omega⟩
end
def cfE(args:Array A9)(w:B6):(callFunc 212 args).run V w= .ok (.enter 212 args) w:=by kernel_rfl
def cfB(args:Array A9)(w:B6):(callFunc 213 args).run V w= .ok (.enter 213 args) w:=by kernel_rfl
def aq8{r:Bool}(f:i<E.n)(d:decide ((E.tk i).k=5\/(E.tk i).k=6\/(E.tk i).k=43)=r){D:Fo}(S:B1 (Sw E W w i kv kn D vs T M)):B2 V 246 #[pV E] w λe w'=>e= Br (Ck r)/\B1 (Sw E W w' i kv kn D vs T M):=by
 subst d;by_cases a:(E.tk i).k=5<;>by_cases b:(E.tk i).k=6<;>by_cases c:(E.tk i).k=43;all_goals
  try omega
 all_goals
  try have g:=beq_eq_false_iff_ne.2 a
  try have h:=beq_eq_false_iff_ne.2 b
  try have j:=beq_eq_false_iff_ne.2 c
  go_in
  repeat (go_wp2_with fail;go_at_call 159;first|refine gL (pE S (by assumption)) λw S=>?_|refine gL (pE S rfl) λw S=>?_)
  go_wp2;go_ret;simp only[a,b,c];exact⟨rfl,S⟩
section
variable (E : Pe)
abbrev cE(i:Nat)(x:Fo)(j:Nat):=CN E 212 #[pV E] i x j
abbrev cK(i:Nat)(x:Fo)(j:Nat):=CN E 214 #[pV E] i x j
abbrev cL(f:FuncId)(i:Nat)(x:Fo)(j:Nat):=CR E 243 #[pV E,.func (.func f) #[pV E] #[]] i x j
inductive Wi (i:Nat):FuncId->Array Value->Fo->Nat->Prop
 |leaf {k nk:Int}:nk=11\/nk=12\/nk=20\/nk=21\/nk=22\/nk=27->k≠6->(E.tk i).k=k->i+1<E.n->Wi i 208 #[pV E,.int .i64 nk] (one (mA nk (E.tk i) (E.tk i).t) .nil) (i+1)
 |wthE {x:Fo}{j:Nat}:(E.tk i).k=28->i<E.n->cE E (i+1) x j->1<=j->j<=E.n->Wi i 211 #[pV E,.int .i64 15,.func (.func 212) #[pV E] #[]] (one (mA 15 (E.tk i) (E.tk (j-1)).t) x) j
 |wthB {x:Fo}{j:Nat}:(E.tk i).k=14->i<E.n->CN E 213 #[pV E] (i+1) x j->1<=j->j<=E.n->Wi i 211 #[pV E,.int .i64 16,.func (.func 213) #[pV E] #[]] (one (mA 16 (E.tk i) (E.tk (j-1)).t) x) j
 |whl {x y:Fo}{k j:Nat}:(E.tk i).k=31->i<E.n->cE E (i+1) x k->cK E k y j->1<=j->j<=E.n->Wi i 206 #[pV E] (one (mA 8 (E.tk i) (E.tk (j-1)).t) (x.app y)) j
 |blk {x:Fo}{k:Nat}:(E.tk i).k=42->i<E.n->CR E 93 #[pV E] (i+1) x k->(E.tk k).k=43->k+1<E.n->Wi i 214 #[pV E] (one (mA 1 (E.tk i) (E.tk k).t) x) (k+1)
 |let0 {ns:List ByteArray}{k:Nat}:(E.tk i).k=22->i<E.n->CT E (i+1) ns k->1<=k->k<E.n->(E.tk k).k≠47->Wi i 202 #[pV E] (one (nd 2 (E.tk i) (E.tk (k-1)).t 0 0 z0 ns) .nil) k
 |let1 {ns:List ByteArray}{k j:Nat}{x:Fo}:(E.tk i).k=22->i<E.n->CT E (i+1) ns k->k<E.n->(E.tk k).k=47->cL E 212 (k+1) x j->1<=j->j<=E.n->Wi i 202 #[pV E] (one (nd 2 (E.tk i) (E.tk (j-1)).t 0 0 z0 ns) x) j
 |con {ns:List ByteArray}{k j:Nat}{x:Fo}:(E.tk i).k=13->i<E.n->CT E (i+1) ns k->k<E.n->(E.tk k).k=47->cE E (k+1) x j->1<=j->j<=E.n->Wi i 203 #[pV E] (one (nd 3 (E.tk i) (E.tk (j-1)).t 0 0 z0 ns) x) j
 |fn {ns:List ByteArray}{k j:Nat}{x:Fo}:(E.tk i).k=18->i<E.n->CT E (i+1) ns k->k<E.n->(E.tk k).k=40->CN E 245 #[pV E,.agg (wo 40 (E.tk k))] k x j->1<=j->j<=E.n->Wi i 204 #[pV E] (one (nd 4 (E.tk i) (E.tk (j-1)).t 0 0 z0 ns) x) j
 |ret0:(E.tk i).k=27->i+1<E.n->decide ((E.tk (i+1)).k=5\/(E.tk (i+1)).k=6\/(E.tk (i+1)).k=43)=true->Wi i 209 #[pV E] (one (mA 13 (E.tk i) (E.tk i).t) .nil) (i+1)
 |ret1 {x:Fo}{j:Nat}:(E.tk i).k=27->i+1<E.n->decide ((E.tk (i+1)).k=5\/(E.tk (i+1)).k=6\/(E.tk (i+1)).k=43)=false->cL E 212 (i+1) x j->1<=j->j<=E.n->Wi i 209 #[pV E] (one (mA 13 (E.tk i) (E.tk (j-1)).t) x) j
 |try_ {ns:List ByteArray}{x y:Fo}{k k1 j:Nat}:(E.tk i).k=30->i<E.n->cK E (i+1) x k->(E.tk k).k=12->k<E.n->CT E (k+1) ns k1->cK E k1 y j->1<=j->j<=E.n->Wi i 210 #[pV E] (one (nd 14 (E.tk i) (E.tk (j-1)).t 0 0 z0 ns) (x.app y)) j
 |for_ {nk q:Int}{ns:List ByteArray}{x y:Fo}{k k1 j:Nat}:(nk=9/\q=47)\/(nk=10/\q=21)->(E.tk i).k=19->i<E.n->CT E (i+1) ns k->k<E.n->(E.tk k).k=q->cL E 212 (k+1) x k1->cK E k1 y j->1<=j->j<=E.n->Wi i 207 #[pV E] (one (nd nk (E.tk i) (E.tk (j-1)).t 0 0 z0 ns) (x.app y)) j
 |if0 {q:Int}{x y:Fo}{k k1:Nat}:q=20\/q=15->(E.tk i).k=q->i<E.n->cE E (i+1) x k->cK E k y k1->1<=k1->k1<E.n->(E.tk k1).k≠15->(E.tk k1).k≠16->Wi i 205 #[pV E] (one (mA 7 (E.tk i) (E.tk (k1-1)).t) (x.app y)) k1
 |if1 {q:Int}{x y z:Fo}{k k1 j:Nat}:q=20\/q=15->(E.tk i).k=q->i<E.n->cE E (i+1) x k->cK E k y k1->k1<E.n->(E.tk k1).k=15->CN E 205 #[pV E] k1 z j->1<=j->j<=E.n->Wi i 205 #[pV E] (one (mA 7 (E.tk i) (E.tk (j-1)).t) ((x.app y).app z)) j
 |if2 {q:Int}{x y z:Fo}{k k1 j:Nat}:q=20\/q=15->(E.tk i).k=q->i<E.n->cE E (i+1) x k->cK E k y k1->k1<E.n->(E.tk k1).k=16->cK E (k1+1) z j->1<=j->j<=E.n->Wi i 205 #[pV E] (one (mA 7 (E.tk i) (E.tk (j-1)).t) ((x.app y).app z)) j
 |do_ {q:Int}{x:Fo}{j:Nat}:q=1\/q=40->(E.tk i).k=q->i<E.n->cL E 213 i x j->(E.tk j).k≠47->j<E.n->1<=j->Wi i 215 #[pV E] (one (mA 6 (E.tk i) (E.tk (j-1)).t) x) j
 |pre {q op:Int}{x:Fo}{j:Nat}:q≠6->(E.tk i).k=q->i<E.n->CN E 275 #[pV E] (i+1) x j->1<=j->j<=E.n->Wi i 292 #[pV E,.int .i64 op] (one (nd 30 (E.tk i) (E.tk (j-1)).t op 0 z0 []) x) j
 |expr {x:Fo}{j:Nat}:CN E 247 #[pV E,.int .i64 0] i x j->Wi i 212 #[pV E] x j
 |ufn {x:Fo}{j:Nat}:(E.tk i).k=18->i<E.n->CN E 245 #[pV E,.agg (wo 18 (E.tk i))] (i+1) x j->Wi i 275 #[pV E] x j
 |item {q:Int}{x:Fo}{j:Nat}:q≠48->q≠44->q≠6->(E.tk i).k=q->i<E.n->cE E i x j->1<=j->j<=E.n->Wi i 305 #[pV E] (one (mA 40 (E.tk i) (E.tk (j-1)).t) x) j
 |pair {x y:Fo}{k j:Nat}:(E.tk i).k=44->i<E.n->cE E (i+1) x k->(E.tk k).k=45->(E.tk (k+1)).k=47->k+1<E.n->cE E (k+2) y j->1<=j->j<=E.n->Wi i 305 #[pV E] (one (mA 41 (E.tk i) (E.tk (j-1)).t) (x.app y)) j
 |named {x:Fo}{j:Nat}:(E.tk i).k=48->(E.tk (i+1)).k=1->(E.tk (i+2)).k=47->i+2<E.n->cE E (i+3) x j->1<=j->j<=E.n->Wi i 305 #[pV E] (one (nd 42 (E.tk i) (E.tk (j-1)).t 0 0 (E.tk (i+1)).x []) x) j
end
def jm{X:Fo}(h:Wi E i f args X j):CN E f args i X j:=by
 cases h
 case' leaf h _ _ _=>rcases h with rfl|rfl|rfl|rfl|rfl|rfl
 case' for_ h _ _ _ _ _ _ _ _ _=>rcases h with⟨rfl,rfl⟩|⟨rfl,rfl⟩
 case' if0 h _ _ _ _ _ _ _ _=>rcases h with rfl|rfl
 case' if1 h _ _ _ _ _ _ _ _ _=>rcases h with rfl|rfl
 case' if2 h _ _ _ _ _ _ _ _ _=>rcases h with rfl|rfl
 case' do_ h _ _ _ _ _ _=>rcases h with rfl|rfl
 case' item h1 h2 _ _ _ _ _ _=>have u:=beq_eq_false_iff_ne.2 h1;have v:=beq_eq_false_iff_ne.2 h2
 all_goals
  intro b h l;have a:=Sw.start h;have p:=asv;have q:=alA;have n:=cfE;have o:=cfB;try simp only[dL,Fo.sz_app,Fo.sz]at l
  try have t:=beq_eq_false_iff_ne.2 (by assumption:(E.tk _).k≠15)
  go_in
  repeat' (go_wp2_with (at_builtin;refine sAp a rfl (by have:=sLn a;simp only[Fo.sz_app,Fo.sz,bm,bB,fs]at this⊢;omega) rfl _ _ rfl rfl rfl ?_;intro c g d b a;have m:=sRd a);(first
   |(go_at_call 159;first|refine gL (pE (by first|exact a|exact sLt a) (by assumption)) λb a=>?_|refine gL (pE (by first|exact a|exact sLt a) rfl) λb a=>?_)
   |(go_at_call 160;refine gL (lL (by first|exact a|exact sBx a) (by assumption) (by omega) (by first|assumption|decide)) λb a=>?_)
   |(go_at_call 94;refine gL (Fi a (by assumption) (by omega) (by first|assumption|decide)) λb a=>?_)
   |(go_at_call 242;first|refine gL (xI a (by assumption)) λb a=>?_|refine gL (Cp a (by assumption)) λb a=>?_)
   |(go_at_call 246;refine gL (aq8 (by omega) (by assumption) (by first|exact a|exact sBx a)) λb a=>?_)
   |(go_at_call 241;refine(aq7 (by first|exact a|exact sBx a) (by assumption)).mono ?_;rintro e b ⟨c,g,d,rfl,a⟩)
   |(go_at_call 244;refine gL (tG (by first|exact a|exact sLt a) (by assumption) (by omega) (by omega) _ _ _ _) λb a=>?_)
   |((first|go_at_call 243|go_at_call 93);refine(ael (by first|exact a|exact sBx a) (by assumption)).mono ?_;rintro e b ⟨c,g,d,x,rfl,a,r⟩)
   |(refine(yp (by first|exact a|exact sBx a) (by assumption)).mono ?_;rintro e b ⟨w,s,rfl,a⟩));(try have m:=sRd a))
  all_goals
   go_wp2;go_ret;first
    |exact⟨_,rfl,a⟩
    |exact⟨_,rfl,as4 _ (by exact a) (by rfl) (by rfl) (by rfl)⟩
    |exact⟨_,rfl,aaG a _ (by rfl) (by rfl) (by rfl) (by rfl)⟩
section
variable {E : Pe} {i j k k1 : Nat} {x y R Ex : Fo}
def ai3{D:Fo}(S:B1 (Sw E W w i kv kn D vs T M))(C:CR E f args i R j)(g:R.sz<=50000000):B2 V f args w λe w'=>∃a n c us,e= Br (A2 a n c)/\B1 (Sw E W w' j kv kn (D.app R) (vs++us) T M)/\B1 (w'.ownsRow w.heap.size 44 1 (A2 a n c) us.length us/\(∀u∈us,u.oneCell'=true)/\us.length=R.len):=by
 refine(C w S.pp g).mono ?_;rintro e w' ⟨h,us,d,b⟩;obtain⟨a,c,rfl⟩:=cg b.ro;exact⟨a,_,c,us,d,S.sub b,b.ro,Dk.cell _ _ b.nn,Dk.len _ _ b.nn⟩
def setP{d:Int}(C:d=1\/d=40)(e:(E.tk i).k=d)(F:i<E.n)(s:cL E 213 i x k)(h:(E.tk k).k=47)(I:k<E.n)(l:cL E 212 (k+1) Ex j)(G:k+1<=j)(H:j<=E.n):CN E 215 #[pV E] i (one (nd 5 (E.tk i) (E.tk (j-1)).t 0 (x.len:Nat) z0 []) (x.app Ex)) j:=by
 intro b g p;have a:=Sw.start g;simp only[dL,Fo.sz_app]at p;go_in;go_wp21
 refine gL (Fi a e (by omega) (by omega)) λb a=>?_;go_wp21
 refine(ael (sBx a) s).mono ?_;rintro f b ⟨y,L,B,v,rfl,a,rfl⟩;have q:v.length=x.len:=Dk.len _ _ a.nn;rw[q]at a⊢;have K:=x.len_le;have J:=Ex.len_le;go_wp21
 refine gL (xI a h) λb a=>?_;go_wp21
 refine(ai3 a l (by omega)).mono ?_;rintro f b ⟨z,ad,c5,ak,rfl,a,c⟩;go_wp2_with (at_builtin;refine uH rfl _ _ rfl rfl a.ro rfl c.1 c.2.1 (by have:=c.2.2;omega) (by have:=a.gr.size;omega) ?_;intro w n A b u r o m;clear r;have a:=am (a.out.put u o m);have al:=sRd a);refine gL (tG a e (by omega) (by omega) _ _ _ _) λb a=>?_;go_wp21
 go_ret;exact⟨_,rfl,aaG a _ (by rfl) (by rfl) (by rfl) (by rfl)⟩
end
inductive Dp (E:Pe):Int->FuncId->FuncId->Array Value->Prop
 |s22:Dp E 22 161 202 #[pV E]
 |s13:Dp E 13 161 203 #[pV E]
 |s18:Dp E 18 161 204 #[pV E]
 |s20:Dp E 20 161 205 #[pV E]
 |s31:Dp E 31 161 206 #[pV E]
 |s19:Dp E 19 161 207 #[pV E]
 |s11:Dp E 11 161 208 #[pV E,.int .i64 11]
 |s23:Dp E 23 161 208 #[pV E,.int .i64 12]
 |s27:Dp E 27 161 209 #[pV E]
 |s30:Dp E 30 161 210 #[pV E]
 |s28:Dp E 28 161 211 #[pV E,.int .i64 15,.func (.func 212) #[pV E] #[]]
 |s14:Dp E 14 161 211 #[pV E,.int .i64 16,.func (.func 213) #[pV E] #[]]
 |s42:Dp E 42 161 214 #[pV E]
 |s1:Dp E 1 161 215 #[pV E]
 |s40:Dp E 40 161 215 #[pV E]
 |u25:Dp E 25 275 292 #[pV E,.int .i64 21]
 |u62:Dp E 62 275 292 #[pV E,.int .i64 19]
 |u50:Dp E 50 275 292 #[pV E,.int .i64 22]
 |u69:Dp E 69 275 292 #[pV E,.int .i64 20]
 |u3:Dp E 3 275 249 #[pV E,.int .i64 24]
 |u4:Dp E 4 275 249 #[pV E,.int .i64 25]
 |u24:Dp E 24 275 208 #[pV E,.int .i64 20]
 |u29:Dp E 29 275 208 #[pV E,.int .i64 21]
 |u17:Dp E 17 275 208 #[pV E,.int .i64 22]
 |u49:Dp E 49 275 208 #[pV E,.int .i64 27]
 |u42:Dp E 42 275 293 #[pV E]
 |u1:Dp E 1 275 213 #[pV E]
 |u40:Dp E 40 275 213 #[pV E]
def xo{b:Int}{g:FuncId}(h:Dp E b g f args)(d:(E.tk i).k=b)(o:i<E.n)(l:CN E f args i R j):CN E g #[pV E] i R j:=by
 cases h;all_goals
  intro c h e;have a:=Sw.start h;go_in;go_wp2_with fail;refine gL (pE a d) λc a=>?_;go_wp2_with fail;refine(yp a l e).mono ?_;rintro m c ⟨q,p,rfl,a⟩;go_wp2;go_ret;exact⟨_,rfl,a⟩
inductive Ms (E:Pe) (C:Int->Nat->Fo->Nat->Prop) (p:Int) (s:Tk):Nat->Fo->Nat->Fo->Nat->Prop where
 |stop {x:Fo}{k:Nat}:k<E.n->(jx (E.tk k).k=true->C0 (E.tk k).k<p)->Ms E C p s 0 x k x k
 |go {m k k1 j:Nat}{x y R:Fo}:k<E.n->jx (E.tk k).k=true->p<=C0 (E.tk k).k->C (rpw (E.tk k).k) (k+1) y k1->k+1<=k1->k1<=E.n->Ms E C p s m (one (As (E.tk k).k s (E.tk (k1-1)).t) (x.app y)) k1 R j->Ms E C p s (m+1) x k R j
def Ms.le{C:Int->Nat->Fo->Nat->Prop}{p:Int}{s:Tk}{k:Nat}{x:Fo}(h:Ms E C p s m x k R j):x.sz<=R.sz:=by
 induction h with
 |stop=>exact af _
 |go _ _ _ _ _ _ _ a=>rw[dL,Fo.sz_app]at a;omega
section
variable {E : Pe} {i j : Nat}
end
def acj(w:B6)(tt:B4)(fr:Nat×Nat)(f:w.heap[3]?=A0 (Z BL tt fr))(l:Int)(j:∀i,i<20->qK.getD i 0≠l):
  B2 V 179 #[O U l] w (gy w (Fs #[C2 #[O U 0,O U 0,O U 0],Ck false])):=by
 have q:=ai f;have g:∀a,be w (w.alloc a):=λa=>(ah _ w).alloc (af _) a;have n:B1 (gw w.heap.size (w.alloc (Z #[O U 0,O U 0,O U 0] 164)) 0 0 0/\be w (w.alloc (Z #[O U 0,O U 0,O U 0] 164))):=⟨aB w _,g _⟩;have o:=am j;clear j;go_in;go_wp2_with (refine wD rfl 229 _ rfl 3 rfl tt _ fr _ (((g _).block _ q).trans f) underlying229 rfl (by kernel_rfl) ?_);go_loopw [7] (λe wr=>∃b:Nat,b<=20/\e= O U b/\B1 (gw w.heap.size wr 0 0 0/\be w wr)) (λe _=>20-(E3 e).toNat)
 case atStart=>exact⟨0,by omega,rfl,n⟩
 case round=>
  obtain⟨b,y,rfl,c⟩:=hrel;by_cases k:b<20
  .have d:=λw=>anu b k w;have s:=ai c.1;have h:∀a,be wr (wr.alloc a):=λa=>(ah _ wr).alloc (af _) a;have r:=o.out b k;generalize sJ (3*b+1)=A at d;generalize sJ (3*b+2)=B at d;generalize qK.getD b 0=z at d r;have p:B1 (∀a,gw w.heap.size (wr.alloc a) 0 0 0/\be w (wr.alloc a)):=λa=>⟨((h a).block _ s).trans c.1,c.2.trans ((h a).mono c.2.size)⟩;go_wp21
   exact⟨⟨b+1,by omega,by go_num,p _⟩,by simp[E3];omega⟩
  .obtain rfl:b=20:=by omega
   obtain⟨t,u,v,x⟩:=c.1.cells;have m:B1 (gw w.heap.size (((wr.setCell ⟨w.heap.size,0,Ax⟩ (O U 0)).setCell ⟨w.heap.size,1,Ax⟩ (O U 0)).setCell ⟨w.heap.size,2,Ax⟩ (O U 0)) 0 0 0/\be w (((wr.setCell ⟨w.heap.size,0,Ax⟩ (O U 0)).setCell ⟨w.heap.size,1,Ax⟩ (O U 0)).setCell ⟨w.heap.size,2,Ax⟩ (O U 0))):=⟨gw.put c.1 0 0 0,((c.2.setCell (af _) _).setCell (af _) _).setCell (af _) _⟩;go_wp21
   exact bH (pc rfl _ _ _ ⟨w.heap.size,0,Ax⟩ (Ck false) _ rfl rfl (xj _ _ _ _ _ m.1)) rfl ⟨rfl,m.2⟩
def aen:∀j,j<20->sJ (3*j+1)=C0 (qK.getD j 0)/\sJ (3*j+2)=rpw (qK.getD j 0)/\jx (qK.getD j 0)=true/\∀i,i<j->qK.getD i 0≠qK.getD j 0:=by decide+kernel
def ao6(b:jx k=true)(d:k<=78):∃j,j<20/\qK.getD j 0=k:=by
 have c:=aG b;have a:k=10\/k=26\/k=61\/k=62\/k=63\/k=64\/k=65\/k=66\/k=67\/k=68\/k=69\/k=70\/k=71\/k=72\/k=73\/k=74\/k=75\/k=76\/k=77\/k=78:=by omega
 rcases a with rfl|rfl|rfl|rfl|rfl|rfl|rfl|rfl|rfl|rfl|rfl|rfl|rfl|rfl|rfl|rfl|rfl|rfl|rfl|rfl
 .exact⟨1,by decide,rfl⟩
 .exact⟨0,by decide,rfl⟩
 .exact⟨14,by decide,rfl⟩
 .exact⟨15,by decide,rfl⟩
 .exact⟨16,by decide,rfl⟩
 .exact⟨17,by decide,rfl⟩
 .exact⟨18,by decide,rfl⟩
 .exact⟨19,by decide,rfl⟩
 .exact⟨11,by decide,rfl⟩
 .exact⟨9,by decide,rfl⟩
 .exact⟨10,by decide,rfl⟩
 .exact⟨12,by decide,rfl⟩
 .exact⟨13,by decide,rfl⟩
 .exact⟨8,by decide,rfl⟩
 .exact⟨2,by decide,rfl⟩
 .exact⟨3,by decide,rfl⟩
 .exact⟨4,by decide,rfl⟩
 .exact⟨5,by decide,rfl⟩
 .exact⟨6,by decide,rfl⟩
 .exact⟨7,by decide,rfl⟩
inductive Pss (E:Pe) (C D:Nat->Fo->Nat->Prop) (s:Tk):Nat->Fo->Nat->Fo->Nat->Prop where
 |stop {X:Fo}{k:Nat}:k<E.n->yK (E.tk k).k=false->Pss E C D s 0 X k X k
 |dot {m k j:Nat}{X R:Fo}:(E.tk k).k=48->(E.tk (k+1)).k=1->k+2<E.n->Pss E C D s m (one (nd 33 s (E.tk (k+1)).t 0 0 (E.tk (k+1)).x []) X) (k+2) R j->Pss E C D s (m+1) X k R j
 |sq {m k k1 j:Nat}{X Y R:Fo}:(E.tk k).k=44->k<E.n->C (k+1) Y k1->(E.tk k1).k=45->k1+1<E.n->Pss E C D s m (one (mA 32 s (E.tk k1).t) (X.app Y)) (k1+1) R j->Pss E C D s (m+1) X k R j
 |call0 {m k j:Nat}{X R:Fo}:(E.tk k).k=40->(E.tk (k+1)).k=41->k+2<E.n->Pss E C D s m (one (mA 34 s (E.tk (k+1)).t) X) (k+2) R j->Pss E C D s (m+1) X k R j
 |call {m k k1 j:Nat}{X Y R:Fo}:(E.tk k).k=40->k+1<E.n->(E.tk (k+1)).k≠41->D (k+1) Y k1->(E.tk k1).k=41->k1+1<E.n->Pss E C D s m (one (mA 34 s (E.tk k1).t) (X.app Y)) (k1+1) R j->Pss E C D s (m+1) X k R j
def Pss.le{C D:Nat->Fo->Nat->Prop}{s:Tk}{k:Nat}{X:Fo}(h:Pss E C D s m X k R j):X.sz<=R.sz:=by
 induction h with
 |stop=>exact af _
 |dot _ _ _ _ a=>rw[dL]at a;omega
 |sq _ _ _ _ _ _ a=>rw[dL,Fo.sz_app]at a;omega
 |call0 _ _ _ _ a=>rw[dL]at a;omega
 |call _ _ _ _ _ _ _ a=>rw[dL,Fo.sz_app]at a;omega
section
end
