import Derived.Test.YthkcmkmkapijkaaGreatDoorh25
import Derived.Test.YthkcmkmkapijkaaGreatDoorh03
import Derived.Test.YthkcmkmkapijkaaGreatDoorh09
import Derived.Laws.AppendOwnNone
set_option linter.all false
set_option maxRecDepth 100000
set_option maxHeartbeats 12800000
open Go.Proofs.Tryz
open List renaming length->V
open Go.Obj renaming cells->X
open Go.Proofs.Tryz renaming prog->Y
open Option renaming some->Ax,none->B4
open Go.Ending renaming returned->A0
open Go.Value renaming string->A1,slice->A5,ownBlock->A9,string->B3,agg->B5,bool->B6,slice->B7,iface->C2
open Go.RowKit renaming Hid->A2,Below->Br
open Go renaming Calls->A3,World->B0,TypeId->B1,Value->B2,undef->B9
namespace Go.Proofs.YthkcmkmkapijkaaGreatDoor
open Go.RowKit Go.Maps Go.WideMaps
variable{Q:Exit->Act->World->Prop}{b:Nat}{t:Tk}
def auv(k):eG k=0\/eG k=1\/eG k=2\/eG k=3\/eG k=4\/eG k=5\/eG k=6:=by
 unfold eG
 (repeat' split)
 all_goals simp
def Ko(w b N d v x)(r:∃a n c,d=A5 a n c)(h:im w b N d x v):
  A3 Y 53 #[iF N.k b] w λe w'=>e=A0 (jq (xx N<|eG N.k) (yv d<|eG N.k) fe)/\Br w.heap.size w w':=by
 obtain⟨_,_,_,rfl⟩:=r;unfold im at h;unfold iF;have F:=λw=>asE b w;have A:=λw=>asT b w;have B:=λw=>asF b w;have u:=λw=>eD b w;have C:=ai h;have E:b<w.heap.size+1:=O;have q:=λy z=>eC<|((ay _ w).alloc eE y).alloc I z;have c:=λs=>yL w b s _ _ _ h;have g:=c 0;have i:=c 1;have j:=c 2;have m:=c 3;have o:=c 6;have p:=c 7;clear c h;unfold jq;obtain hc|hc|hc|hc|hc|hc|hc:=auv N.k;all_goals
  simp only[hc,exT,nC,xx,yv,fh,ga]at g i j m o p⊢;simp at g i j m o p;go_in;go_wp2_with (go_at_call 404;refine ez (u _) ?_);all_goals
   go_region_held3 (λw'=>w'.cell? (aj b 0)=Ax (zI N.k)/\w'.cell? (aj b 1)=Ax (zI N.f)/\w'.cell? (aj b 2)=Ax (zI N.t)/\w'.cell? (aj b 3)=Ax (zI N.l)) (go_keep) (fail)
   go_wp2_with fail;all_goals exact aA (fD R _ _ w.heap.size _ _ _ _ R ((alO I).trans<|au w _) underlying37 R J) R ⟨by simp[*],q _ _⟩
abbrev pwW(wr w:B0)(a b c:Int):B0:=((wr.setCell (aj w.heap.size 0)<|zI a).setCell ⟨w.heap.size,1,B4⟩<|zI b).setCell ⟨w.heap.size,2,B4⟩<|zI c
theorem lp{fn}{p q:Tmp}{u}(h:fn.results=#[.cell q u,.tmp p])(tmps:zAV)(P w a v b)(f:tmps.getD p B9=v)(g:tmps.getD q B9= .pointer (Ax a))
  (c:(loadVar u a).run P w= .ok b w):(results fn tmps).run P w= .ok (.tuple #[b,v]) w:=by
 have d:tmps[p]?.getD B9=v:=byS;have e:tmps[q]?.getD B9= .pointer (Ax a):=byS;simp only[results,h];simp[d,e,asAddr,c]
def iB(b:Nat)(W:B0)(x a z:Int):Prop:=W.heap[b]?=Ax (X #[zI x,zI a,zI z] 255 (0,0))
def zF(w b x a z)(h:iB b w x a z):(loadVar 255 ⟨b,0,B4⟩).run Y w= .ok (B5 #[zI x,zI a,zI z]) w:=
 FL w b 255 255 _ _ _ h underlying255 R J
def iB.put{W x e z}(h:iB b W x e z)(a c d):iB b (((W.setCell (aj b 0)<|zI a).setCell ⟨b,1,B4⟩<|zI c).setCell ⟨b,2,B4⟩<|zI d) a c d:=
 aD _ b 2 _ _ _ (aD _ b 1 _ _ _<|aD _ b 0 _ _ _ h)
def iB.cells{W x a z}(h:iB b W x a z):W.cell? (aj b 0)=Ax (zI x)/\W.cell? (aj b 1)=Ax (zI a)/\W.cell? (aj b 2)=Ax (zI z)/\∀j,W.frozen? (aj b j)=false:=by
 unfold iB at h;exact⟨crV h,crV h,crV h,λj=>frR h⟩
theorem wH(w u fr)(n:w.heap[3]?=Ax (X Fg u fr))(j)(B:j<20)(kind)(h:td.getD j 0=kind)(x:∀i,i<j->td.getD i 0≠kind):
  A3 Y 272 #[zI kind] w λe w'=>e=A0 (.tuple #[B5 #[zI kind,zI<|uE<|3*j+1,zI<|uE<|3*j+2],B6 true])/\Br w.heap.size w w':=by
 have o:=λa=>(ay _ w).alloc eE a;have z:A2 (iB w.heap.size (w.alloc<|X #[zI 0,zI 0,zI 0] 255) 0 0 0/\Br w.heap.size w (w.alloc<|X #[zI 0,zI 0,zI 0] 255)):=⟨au w _,o _⟩;have v:=ah h;go_in;go_wp2_with (refine zk R 280 _ R 3 R u _ fr _ (((o _).block _<|ai n).trans n) underlying280 R byR ?_);go_loopw [7] (λk wr=>∃b:Nat,b<=j/\k=zI b/\A2 (iB w.heap.size wr 0 0 0/\Br w.heap.size w wr)) (λk _=>20-(intOf k).toNat)
 .grind
 .
  obtain⟨b,h,rfl,f⟩:=hrel;have g:=λw=>atA b O w;have y:=ai f.1;have⟨_,_,_,_⟩:=f.1.cells;have q:=λa=>(ay _ wr).alloc eE a;obtain rfl|hlt:=jx h
  .rw[v.out]at g;have⟨c,r⟩:=aw<|uE<|3*b+1;have⟨d,s⟩:=aw<|uE<|3*b+2;rw[r,s]at g;have A:=fs r s;have t:=iB.put f.1 kind c d;have m:Br w.heap.size w (pwW wr w kind c d):=((f.2.setCell eE _).setCell eE _).setCell eE _;have p:∀a,Br (pwW wr w kind c d).heap.size (pwW wr w kind c d) ((pwW wr w kind c d).alloc a):=λa=>blR.alloc O a;have l:A2 ((∀a,iB w.heap.size ((pwW wr w kind c d).alloc a) kind c d)/\(∀a,Br w.heap.size w<|(pwW wr w kind c d).alloc a)):=⟨λa=>((p a).block _<|ai t).trans t,λa=>m.trans<|(p a).mono m.size⟩;go_wp21
   exact aA (lp R _ _ _ _ (B6 true) _ R R<|zF _ _ _ _ _<|l.1 _) R ⟨U,l.2 _⟩
  .have m:=(ah x).out b hlt;generalize uE (3*b+1)=c at g;generalize uE (3*b+2)=d at g;generalize td.getD b 0=p at g m;have l:A2 (∀a,iB w.heap.size (wr.alloc a) 0 0 0/\Br w.heap.size w (wr.alloc a)):=λa=>⟨((q a).block _ y).trans f.1,f.2.trans<|(q a).mono f.2.size⟩;go_wp21
   exact⟨⟨b+1,O,by go_num,l _⟩,by simp[intOf];omega⟩
attribute [local go_sem] oJ
def amp:(Y.info? 3).map (λi=>(i.zero,i.size,i.bytes))=Ax (Ax<|zI 0,1,8):=J
def adb:(Y.info? 9).map (λi=>(i.zero,i.size,i.bytes))=Ax (Ax nh,1,16):=J
structure Pp (E:Pe) (w:B0) (i:Nat):Prop where
 hn:E.n<=1048576
 tks:∃cs fr,w.heap[E.tb]?=Ax (.cells cs 58 fr)/\TkR cs E.tk E.n
 row:w.heap[E.pb]?=Ax (.cells #[bI E.tb E.n E.cap,zI i] 61 (0,0))
 pg:3<E.pb
 pw:∃tt fr,w.heap[3]?=Ax (.cells Fg tt fr)
def Rv(w:B0)(c:Nat)(b:zON)(t:B1)(v:B2)(xs:zLV):Prop:=w.ownsRow c t 1 v (V xs) xs/\∀a,v.ownBlock=Ax a->b≠Ax a
def wI(w:B0)(c:Nat)(a:zON):Fo->zLV->zLN->Prop| .nil,vs,d=>vs=[]/\d=[]| .cons N k r,vs,d=>∃b j e h kv i f g,(vs=iF N.k b::i/\d=e.ownBlock.toList++(f++g))/\(c<=b/\a≠Ax b/\im w b N e j h/\xx N (eG N.k)=N)/\Rv w c a 9 e (N.nm.map A1)/\Rv w c a 64 h kv/\wI w c a k kv f/\wI w c a r i g
def Gi(w:B0)(c:Nat)(b:zON)(R1:Fo)(d:zLV):Prop:=∃a,wI w c b R1 d a
def mB(a:List (B2×zLB)):zLN:=a.flatMap λb=>b.1.ownBlock.toList
theorem nd3{a b c:zLN}{n}(h:(a++c).Nodup)(k:b.Nodup)(e:∀x∈a++c,x<n)(j:∀x∈b,n<=x):((a++b)++c).Nodup:=by
 rw[oK]at h;obtain⟨_,_,_⟩:=h;have l:∀x∈a,∀d∈b,x≠d:=λx f d g i=>by have:=e x<|List.mem_append_left _ f;grind
 have m:∀x∈b,∀d∈c,x≠d:=λx f d g i=>by have:=e d<|Li _ g;grind
 grind
theorem aav(o:zON):o.toList.Nodup:=U
section
variable {w w' : World} {lo lo' : Nat} {ex ex' : zON}
def Rv.mono{t v xs}(o:Rv w lo ex t v xs)(h:∀k,lo<=k->ex≠Ax k->k<w.heap.size->w'.heap[k]?=w.heap[k]?/\lo'<=k/\ex'≠Ax k):Rv w' lo' ex' t v xs:=
 ⟨lu o.1 (λa b c d=>⟨(h a c (o.2 a b) d).1,(h a c (o.2 a b) d).2.1⟩),λa b=>(h a (o.1.lt a b).1 (o.2 a b) (o.1.lt a b).2).2.2⟩
def wI.mono(h:∀k,lo<=k->ex≠Ax k->k<w.heap.size->w'.heap[k]?=w.heap[k]?/\lo'<=k/\ex'≠Ax k):∀(R1)(vs)(a),wI w lo ex R1 vs a->wI w' lo' ex' R1 vs a
 | .nil,vs,a,q=>q| .cons N k r,vs,a,⟨b,p,v,u,kv,i,f,g,e,⟨j,l,d,m⟩,o,n,s,t⟩=>by
  have c:=h b j l<|ai d;exact⟨b,p,v,u,kv,i,f,g,e,⟨c.2.1,c.2.2,c.1.trans d,m⟩,o.mono h,n.mono h,wI.mono h k kv f s,wI.mono h r i g t⟩
theorem wI.app:∀(R1)(vs)(a){S}{us}{cs},wI w lo ex R1 vs a->wI w lo ex S us cs->wI w lo ex (R1.app S) (vs++us) (a++cs)
 | .nil,vs,a,S,us,cs,q,p=>by obtain⟨rfl,rfl⟩:=q;exact p
 | .cons r u m,vs,a,S,us,cs,⟨d,j,o,n,h,c,f,b,⟨s,t⟩,e,i,g,k,l⟩,p=>⟨d,j,o,n,h,c++us,f,b++cs,⟨U,U⟩,e,i,g,k,wI.app m c b l p⟩
theorem wI.lt:∀(R1)(vs)(a),wI w lo ex R1 vs a->∀g∈a,lo<=g/\g<w.heap.size
 | .nil,vs,a,q=>by obtain⟨rfl,rfl⟩:=q;grind
 | .cons m e k,vs,a,⟨n,s,u,t,f,l,b,c,⟨p,d⟩,o,h,r,i,j⟩=>by
  intro g hg;rw[d]at hg;obtain hg|hg:=dg.1 hg
  .exact h.1.lt g U
  obtain hg|hg:=dg.1 hg
  .exact wI.lt e f b i g hg
  .exact wI.lt k l c j g hg
def Gi.len:∀(R1)(vs),Gi w lo ex R1 vs->V vs=R1.len
 | .nil,vs,⟨b,q⟩=>by obtain⟨rfl,rfl⟩:=q;rfl
 | .cons g k e,vs,⟨b,h,o,s,r,m,f,j,a,c,i,n,l,p,d⟩=>by rw[c.1,dD,Gi.len e f ⟨a,d⟩];rfl
end
abbrev tkB(b:Nat)(t:Tk):Nat×B1×zAV:=(b,58,rE t.k t)
structure Sw (E:Pe) (W w:B0) (i:Nat) (kv:B2) (kn:zLV) (D:Fo) (vs:zLV) (T:Bxs) (M:List (B2×zLB)):Prop where
 pp:Pp E w i
 gr:W.grownBy w (Ax E.pb)
 lt:E.pb<W.heap.size
 ro:w.ownsRow W.heap.size 64 1 kv (V kn) kn
 nb:∃bs,wI w W.heap.size kv.ownBlock D vs bs/\(bs++mB M).Nodup
 tb:∀p∈T,W.heap.size<=p.1/\(p.2.1≠64/\p.2.1≠9)/\w.heap[p.1]?=Ax (.cells p.2.2 p.2.1 (0,0))
 nm:∀p∈M,w.ownsRow W.heap.size 9 1 p.1 (V<|p.2.map A1)<|p.2.map A1
section
variable {E : Pe} {W w w' : World} {i j : Nat} {kv v : Value} {kn vs us ws : zLV} {D R1 : Fo} {T : Bxs} {M : List (Value × zLB)}
def Sw.nn(h:Sw E W w i kv kn D vs T M):Gi w W.heap.size kv.ownBlock D vs:=h.nb.elim λa b=>⟨a,b.1⟩
theorem amq(nm:∀p∈M,w.ownsRow W.heap.size 9 1 p.1 (V<|p.2.map A1)<|p.2.map A1):∀g∈mB M,g<w.heap.size:=λg a=>by
 have⟨p,b,a⟩:=List.mem_flatMap.1 a;exact((nm p b).lt g U).2
def Pp.lt(h:Pp E w i):E.pb<w.heap.size:=ai h.row
def Pp.keep(h:Pp E w i)(g:w.grownBy w' B4):Pp E w' i:=by
 have⟨c,e,a,f⟩:=h.tks;have⟨j,d,b⟩:=h.pw;exact⟨h.hn,⟨c,e,(g.block _ (ai a) I).trans a,f⟩,(g.block _ h.lt I).trans h.row,h.pg,j,d,(g.block _ (ai b) I).trans b⟩
def Sw.start(h:Pp E w i):A2 (Sw E w w i s0 [] .nil [] [] []):=⟨h,si _ _,h.lt,onN,⟨[],⟨R,R⟩,zo⟩,λb a=>(by cases a),λb a=>(by cases a)⟩
theorem Sw.step(h:Sw E W w i kv kn D vs T M)(g:w.grownBy w' (Ax E.pb))(p:Pp E w' j):Sw E W w' j kv kn D vs T M:=by
 have e:∀b,W.heap.size<=b->b<w.heap.size->w'.heap[b]?=w.heap[b]?:=λb a c=>g.block b c (λe=>by have:=h.lt;grind);have⟨f,l,m⟩:=h.nb;exact⟨p,h.gr.trans g,h.lt,lu h.ro (λg _ a c=>⟨e g a c,a⟩),⟨f,wI.mono (λb a c k=>⟨e b a k,a,c⟩) _ _ _ l,m⟩,λp d=>⟨(h.tb p d).1,(h.tb p d).2.1,(e _ (h.tb p d).1<|ai (h.tb p d).2.2).trans (h.tb p d).2.2⟩,λp d=>lu (h.nm p d) (λg _ a c=>⟨e g a c,a⟩)⟩
def ul(b:Br w.heap.size w w')(q:zON):w.grownBy w' q:=⟨b.os,b.tape,b.output,b.size,λc a _=>b.block c a⟩
def sX(h:A2 (Sw E W w i kv kn D vs T M))(q:Pp E w' j/\w.grownBy w' (Ax E.pb)):A2 (Sw E W w' j kv kn D vs T M):=h.step q.2 q.1
def sB(h:A2 (Sw E W w i kv kn D vs T M))(b:Br w.heap.size w w'):A2 (Sw E W w' i kv kn D vs T M):=h.step (ul b _)<|h.pp.keep<|ul b _
theorem Sw.sub(h:Sw E W w i kv kn D vs T M)(s:Sw E w w' j v us R1 ws [] []):Sw E W w' j kv kn (D.app R1) (vs++ws) T M:=by
 have a:=h.step s.gr s.pp;have q:=h.gr.size;have⟨_,_,_⟩:=a.nb;have⟨n,l,o⟩:=h.nb;have⟨_,m,_⟩:=s.nb;obtain⟨c,p,p2⟩:∃c,wI w' _ _ D vs c/\(c++mB M).Nodup/\∀b∈c,b<w.heap.size:=⟨n,wI.mono (λd f g k=>⟨s.gr.block d k (λe=>by have:=h.lt;grind),f,g⟩) _ _ _ l,o,λb hx=>(l.lt _ _ _ b hx).2⟩;refine⟨a.pp,a.gr,a.lt,a.ro,⟨_,wI.app _ _ _ p<|wI.mono (λd f g k=>⟨R,O,λe=>?_⟩) _ _ _ m,nd3 p2.1 U (λb hx=>?_) (λb hx=>(m.lt _ _ _ b hx).1)⟩,a.tb,a.nm⟩
 .have:=(h.ro.lt d e).2;omega
 .rcases dg.1 hx with hx|hx
  .grind
  .exact amq h.nm b hx
theorem Sw.subL(h:Sw E W w i s0 [] D vs T M)(s:Sw E w w' j v us R1 ws [] []):Sw E W w' j v us (D.app R1) (vs++ws) T M:=by
 have a:=h.step s.gr s.pp;have m:=h.gr.size;have⟨_,k,n⟩:=h.nb;have⟨_,l,_⟩:=s.nb;refine⟨a.pp,a.gr,a.lt,pL s.ro m,⟨_,wI.app _ _ _ (wI.mono (λc e f g=>⟨s.gr.block c g (λd=>by have:=h.lt;grind),e,λd=>?_⟩) _ _ _ k)<|wI.mono (λc e f g=>⟨R,O,f⟩) _ _ _ l,nd3 n U (λb hx=>?_) (λb hx=>(l.lt _ _ _ b hx).1)⟩,a.tb,a.nm⟩
 .have:=(s.ro.lt c d).1;omega
 .rcases dg.1 hx with hx|hx
  .exact(k.lt _ _ _ b hx).2
  .exact amq h.nm b hx
def Sw.box(h:Sw E W w i kv kn D vs T M)(t):Sw E W (w.alloc<|X (rE t.k t) 58) i kv kn D vs (tkB w.heap.size t::T) M:=by
 have a:=sB h<|dj w<|X (rE t.k t) 58;refine⟨a.pp,a.gr,a.out.lt,a.ro,a.nb,λb hp=>?_,a.nm⟩;obtain rfl|hp:=dI.1 hp
 .exact⟨h.gr.size,⟨(Z:58≠64),(Z:58≠9)⟩,au w _⟩
 .exact a.tb b hp
def Sw.lit(h:Sw E W w i s0 [] D vs T M)(a:zLV)(l:V a<=100):Sw E W (w.alloc<|X a.toArray 64) i (bI w.heap.size (V a)<|V a) a D vs T M:=by
 have b:=sB h<|dj w<|X a.toArray 64;have m:=zg (e:=64) (size:=1) w a.toArray (V a) h.gr.size byM I;have⟨d,j,k⟩:=h.nb;refine⟨b.pp,b.gr,b.out.lt,O,⟨d,wI.mono (λc f _ g=>⟨(dj w _).block c g,f,λe=>?_⟩) _ _ _ j,k⟩,b.tb,b.nm⟩;have:w.heap.size=c:=by simpa [A9] using e
 omega
theorem Sw.put(h:Sw E W w i kv kn D vs T M)(o:w'.ownsRow W.heap.size 64 1 v (V us) us)(g:w.grownBy w' kv.ownBlock)(al:v.ownBlock=kv.ownBlock\/v.ownBlock=Ax w.heap.size):Sw E W w' i v us D vs T M:=by
 have b:∀a,a<w.heap.size->kv.ownBlock≠Ax a->w'.heap[a]?=w.heap[a]?:=λa l m=>g.block a l (λb=>m b.symm);have q:=λa c=>(h.ro.lt a c).1;have j:∀{a:Nat}{f:zAV}{n:B1}{k:Nat×Nat},w.heap[a]?=Ax (X f n k)->n≠64->w'.heap[a]?=Ax (X f n k):=λc C=>(b _ (ai c)<|gG h.ro c C).trans c;have⟨f,k,L,ad⟩:=h.pp.tks;have⟨s,G,H⟩:=h.nb;have⟨ak,x,r⟩:=h.pp.pw;refine⟨⟨h.pp.hn,⟨f,k,j L Z,ad⟩,j h.pp.row Z,h.pp.pg,ak,x,(b _ (ai r) (λb=>by have:=q _ b;have:=h.lt;have:=h.pp.pg;omega)).trans r⟩,h.gr.andThen g (λa c=> .inl (q a c)),h.lt,o,⟨s,wI.mono (λa l m z=>⟨b a z m,l,λ_=>?_⟩) _ _ _ G,H⟩,λe d=>⟨(h.tb e d).1,(h.tb e d).2.1,j (h.tb e d).2.2 (h.tb e d).2.1.1⟩,λe d=>?_⟩
 .grind
 .have K:=h.nm e d;obtain⟨y,p⟩:=K;refine⟨y,?_⟩;obtain p|⟨g,t,u,F,B,A,af⟩:=p
  .grind
  .exact .inr ⟨g,t,u,F,B,j A Z,af⟩
theorem Sw.name(h:Sw E W w i kv kn D vs T M)(q:Pp E w' j/\w.grownBy w' (Ax E.pb)){c}(o:w'.ownsRow w.heap.size 9 1 v (V<|c.map A1) (c.map A1)):Sw E W w' j kv kn D vs T ((v,c)::M):=by
 have a:=h.step q.2 q.1;have⟨d,e,m⟩:=h.nb;refine⟨a.pp,a.gr,a.lt,a.ro,⟨d,wI.mono (λl f g k=>⟨q.2.block l k (λ_=>by have:=h.lt;grind),f,g⟩) _ _ _ e,?_⟩,a.tb,λn hp=>?_⟩
 .show(d++(v.ownBlock.toList++mB M)).Nodup;rw[<-fL];refine nd3 m (aav _) (λb hx=>?_) (λb hx=>(o.lt b U).1);obtain hx|hx:=dg.1 hx
  .exact(e.lt _ _ _ b hx).2
  .exact amq h.nm b hx
 obtain rfl|hp:=dI.1 hp
 .exact pL o h.gr.size
 .exact a.nm n hp
def Sw.fin0(h:Sw E W w i kv vs D vs T M)(N c)(m:xx N (eG N.k)=N)(q:w.ownsRow W.heap.size 9 1 c (V<|N.nm.map A1) (N.nm.map A1))(cs:zAV)(n:cs=([zI N.k,zI N.f,zI N.t,zI N.l,zI 0,kv]++exT N c (eG N.k)).toArray)(d)(s:d=BB (eG N.k)){M'}(j:∀p∈M',p∈M)(o:∀b,(b++mB M).Nodup->((c.ownBlock.toList++(b++[]))++mB M').Nodup):Sw E W (w.alloc<|X cs d) i s0 [] (one N D) [iF N.k w.heap.size] T M':=by
 subst n s;have a:=sB h<|dj w<|X ([zI N.k,zI N.f,zI N.t,zI N.l,zI 0,kv]++exT N c (eG N.k)).toArray<|BB<|eG N.k;have⟨b,u,v⟩:=a.nb;exact⟨a.pp,a.gr,a.out.lt,onN,⟨_,⟨_,0,c,kv,vs,_,b,_,⟨R,R⟩,⟨h.gr.size,by simp[A9],au w _,m⟩,⟨cj q<|dj w _,λe _=>by simp[A9]⟩,⟨a.ro,λe _=>by simp[A9]⟩,wI.mono (λk g _ _=>⟨R,g,by simp[A9]⟩) _ _ _ u,R,R⟩,o b v⟩,a.tb,λp r=>a.nm p<|j p r⟩
theorem Sw.drop(h:Sw E W w i kv kn D vs T M){b M'}(d:∀p∈b,p∈T)(f:M'=M\/M'=[]):Sw E W w i kv kn D vs b M':=by
 have⟨c,e,g⟩:=h.nb;obtain rfl|rfl:=f
 .exact⟨h.pp,h.gr,h.lt,h.ro,⟨c,e,g⟩,λp a=>h.tb p<|d p a,h.nm⟩
 .exact⟨h.pp,h.gr,h.lt,h.ro,⟨c,e,by rw[show mB []=[] from rfl,fp];grind⟩,λp a=>h.tb p<|d p a,λp a=>(by cases a)⟩
def Sw.boxg(h:Sw E W w i kv kn D vs T M)(cs:zAV)(t)(b:t≠64)(c:t≠9):Sw E W (w.alloc<|X cs t) i kv kn D vs ((w.heap.size,t,cs)::T) M:=by
 have a:=sB h<|dj w<|X cs t;refine⟨a.pp,a.gr,a.out.lt,a.ro,a.nb,λd hp=>?_,a.nm⟩;obtain rfl|hp:=dI.1 hp
 .exact⟨h.gr.size,⟨b,c⟩,au w _⟩
 .exact a.tb d hp
end
def CN(E:Pe)(f:FuncId)(args:zAV)(i:Nat)(R1:Fo)(j:Nat):Prop:=
 ∀w,Pp E w i->R1.sz<=50000000->A3 Y f args w λa w'=>∃v,a=A0 v/\A2 (Sw E w w' j s0 [] R1 [v] [] [])
def CR(E:Pe)(f:FuncId)(args:zAV)(i:Nat)(R1:Fo)(j:Nat):Prop:=
 ∀w,Pp E w i->R1.sz<=50000000->A3 Y f args w λa w'=>∃v vs,a=A0 v/\A2 (Sw E w w' j v vs R1 vs [] [])
section
variable {E : Pe} {w w' : World} {i : Nat}
def Pp.cells(h:Pp E w i):w.cell? (aj E.pb 0)=Ax (bI E.tb E.n E.cap)/\w.cell? (aj E.pb 1)=Ax (zI i)/\∀j,w.frozen? (aj E.pb j)=false:=
 ⟨crV h.row,crV h.row,λj=>frR h.row⟩
def Pp.tok(h:Pp E w i){q}(d:q<E.n):∃l,((E.tk q).k≠6->l=(E.tk q).l)/\w.cell? (aj E.tb<|q*6)=Ax (zI (E.tk q).k)/\w.cell? (aj E.tb<|q*6+1)=Ax (zI (E.tk q).f)/\w.cell? (aj E.tb<|q*6+2)=Ax (zI (E.tk q).t)/\w.cell? (aj E.tb<|q*6+3)=Ax (zI l)/\w.cell? (aj E.tb<|q*6+4)=Ax (zI (E.tk q).n)/\w.cell? (aj E.tb<|q*6+5)=Ax (B3 (E.tk q).x):=by
 have⟨_,_,b,c⟩:=h.tks;have⟨l,a⟩:=c q d;exact⟨l,a.hl,by rw[oe b];exact a.c0,by rw[oe b];exact a.c1,by rw[oe b];exact a.c2,by rw[oe b];exact a.c3,by rw[oe b];exact a.c4,by rw[oe b];exact a.c5⟩
def Pp.tkw(h:Pp E w i){q}(d:q<E.n)(b:(E.tk q).k≠6):TkW E q w:=by
 have⟨_,c,e,f,g,a,j,l⟩:=h.tok d;rw[c b]at a;exact⟨e,f,g,a,j,l⟩
def Pp.ne(h:Pp E w i):E.tb≠E.pb:=λb=>by
 have⟨_,_,a,_⟩:=h.tks;rw[b,h.row]at a;cases a
def Pp.move(h:Pp E w i)(j:Nat):Pp E (w.setCell (aj E.pb 1)<|zI j) j/\w.grownBy (w.setCell (aj E.pb 1)<|zI j) (Ax E.pb):=by
 have⟨a,c,d,e⟩:=h.tks;have⟨g,b,f⟩:=h.pw;exact⟨⟨h.hn,⟨a,c,(jg h.ne).trans d,e⟩,aD _ _ 1 _ _ _ h.row,h.pg,g,b,(jg<|Nat.ne_of_lt h.pg).trans f⟩,qv (si w _) 1 _⟩
theorem Pp.other(h:Pp E w i)(k:b≠E.pb)(l:b≠E.tb)(o:E.pb<=b)(g:w.grownBy w' (Ax b)):Pp E w' i:=by
 have⟨e,j,d,m⟩:=h.tks;have⟨n,f,c⟩:=h.pw;exact⟨h.hn,⟨e,j,(g.block _ (ai d) (λa=>l U)).trans d,m⟩,(g.block _ h.lt (λa=>k U)).trans h.row,h.pg,n,f,(g.block _ (ai c) (λa=>by cases a;have:=h.pg;omega)).trans c⟩
def amr(h:Pp E w i)(a:i<E.n):A3 Y 152 #[pV E] w λe w'=>e=A0 (zI (E.tk i).k)/\Br w.heap.size w w':=by
 have⟨_,_,_⟩:=h.cells;have⟨_,_,_,_,_,_,_,_⟩:=h.tok a;have b:(i:Int)<(E.n:Int):=O;go_in;go_wp21
 go_quiet (fail)
 go_wp2;go_ret;exact⟨R,R,R,R,eE,λ_ _=>rfl⟩
theorem axC(h:Pp E w i)(ak:i<E.n)(ad:(E.tk i).k≠6):A3 Y 153 #[pV E] w λe w'=>e=A0 (vTk<|E.tk i)/\Pp E w' (i+1)/\w.grownBy w' (Ax E.pb):=by
 have av:=h.lt;have s:=dj w<|X #[zI 0,zI 0,zI 0,zI 0,zI 0,nh] 58;have r:=h.keep<|ul s _;have⟨b,v⟩:=r.move<|i+1;have⟨_,_,_⟩:=r.cells;have⟨o,p,q⟩:=b.cells;have⟨y,z,A,B,C,F⟩:=b.tkw ak ad;have L:((i+1:Nat):Int)=(i:Int)+1:=O;rw[L]at b v p o q y z A B C F;have ar:=h.hn;have ax:IntKind.i64.wrap (i:Int)=(i:Int):=by rw[du];omega
 have⟨a,m⟩:=aw<|(w.alloc<|X #[zI 0,zI 0,zI 0,zI 0,zI 0,nh] 58).setCell ⟨E.pb,1,B4⟩<|zI<|i+1;have u:a.heap[w.heap.size]?=Ax (X #[zI 0,zI 0,zI 0,zI 0,zI 0,nh] 58 (0,0)):=by
  rw[<-m,jg U];exact au w _
 have af:w.grownBy a (Ax E.pb):=by rw[<-m];exact(ul s _).trans v
 rw[m]at b o p q y z A B C F;go_in;go_wp21
 have j:=jG b af u;have G:=ah h;have⟨z0,_,_,_,_,_⟩:=jb j.2.2;have⟨_,_,_,_,_,_⟩:=sf j.2.2;have al:E.pb≠w.heap.size:=O;have am:E.tb≠w.heap.size:=by
  have⟨_,_,_,_⟩:=G.tks;grind
 have ao:=λk (h:k≠w.heap.size) c=>Co (W:=a) h c;unfold six at ao;go_region_held3 (λH=>∀k,k≠w.heap.size->∀c,H.cell? (aj k c)=a.cell? (aj k c)) (simp_all) (fail)
 have g:=GL a w.heap.size (zI (E.tk i).k) (zI (E.tk i).f) (zI (E.tk i).t) (zI (E.tk i).l) (zI (E.tk i).n)<|B3 (E.tk i).x;have d:=LB j.2.2 (zI (E.tk i).k) (zI (E.tk i).f) (zI (E.tk i).t) (zI (E.tk i).l) (zI (E.tk i).n)<|B3 (E.tk i).x;rw[<-uA]at d;unfold six at g d;generalize World.drew _=ap at g d⊢;go_wp2;have⟨an,K,u⟩:=j.out;exact aA (fD R _ _ _ _ _ _ _ R d underlying58 R byR) R ⟨R,an.other al.symm am.symm O g,K.andThen g (λc _=> .inl U)⟩
end
section
variable {E : Pe} {w w' : World} {i : Nat}
theorem axD(h:Pp E w i)(d:i<E.n){k}(g:(E.tk i).k=k):A3 Y 302 #[pV E,zI k] w λe w'=>e=A0 (B6 true)/\Pp E w' (i+1)/\w.grownBy w' (Ax E.pb):=by
 have j:((E.tk i).k !=k)=false:=U;have f:=h.hn;go_in;go_wp21
 apply(amr h d).mono;rintro e w1 ⟨rfl,b⟩;have c:=(ah h).keep<|ul b _;have⟨_,_,_⟩:=c.cells;go_wp21
 go_ret;have a:=(ah c).move<|i+1;rw[(O:((i+1:Nat):Int)=(i:Int)+1)]at a;exact⟨R,a.1,(ul b _).trans a.2⟩
theorem axE(h:Pp E w i)(a:i<E.n){k}(b:(E.tk i).k≠k):A3 Y 302 #[pV E,zI k] w λe w'=>e=A0 (B6 false)/\Br w.heap.size w w':=by
 have c:((E.tk i).k !=k)=true:=U;go_in;go_wp2_with (go_at_call 152;apply(amr h a).mono;rintro e w1 ⟨rfl,_⟩);go_ret
 simp_all
theorem ams(h:Pp E w i)(u:i<E.n):A3 Y 55 #[pV E] w λe w'=>(∃l,((E.tk i).k≠6->l=(E.tk i).l)/\e=A0 (B5 #[zI (E.tk i).k,zI (E.tk i).f,zI (E.tk i).t,zI l,zI (E.tk i).n,B3 (E.tk i).x]))/\Br w.heap.size w w':=by
 have g:=dj w<|X #[zI 0,zI 0,zI 0,zI 0,zI 0,nh] 58;have m:=h.keep<|ul g _;have⟨q,r,s⟩:=m.cells;have⟨l,v,A,B,C,F,G,H⟩:=m.tok u;have⟨c,o⟩:=aw<|w.alloc<|X #[zI 0,zI 0,zI 0,zI 0,zI 0,nh] 58;have y:c.heap[w.heap.size]?=Ax (X #[zI 0,zI 0,zI 0,zI 0,zI 0,nh] 58 (0,0)):=by rw[<-o];exact au w _
 rw[o]at m q r s A B C F G H g;have b:=fs y g;have L:E.pb≠w.heap.size:=by have:=h.lt;omega
 have ad:E.tb≠w.heap.size:=by
  have⟨_,_,_,_⟩:=h.tks;grind
 go_in;go_wp21
 have⟨z0,_,_,_,_,_⟩:=jb b.1;have⟨_,_,_,_,_,_⟩:=sf b.1;have z:=λk (h:k≠w.heap.size) d=>Co (W:=c) h d;unfold six at z;go_region_held3 (λp=>∀k,k≠w.heap.size->∀d,p.cell? (aj k d)=c.cell? (aj k d)) (simp_all) (fail)
 have j:=GL c w.heap.size (zI (E.tk i).k) (zI (E.tk i).f) (zI (E.tk i).t) (zI l) (zI (E.tk i).n)<|B3 (E.tk i).x;have a:=LB b.1 (zI (E.tk i).k) (zI (E.tk i).f) (zI (E.tk i).t) (zI l) (zI (E.tk i).n)<|B3 (E.tk i).x;rw[<-uA]at a;unfold six at j a;generalize World.drew _=K at j a⊢;go_wp2;exact aA (fD R _ _ _ _ _ _ _ R a underlying58 R byR) R ⟨⟨l,v,R⟩,b.2.grown j U (λk _=>U)⟩
theorem aqB(h:Pp E w (i+1))(y:i<E.n)(nk b)(a:zOA)(n c):A3 Y 304 #[pV E,zI nk,vTk b,A5 a n c] w λe w'=>e=A0 (B5 #[zI nk,zI b.f,zI (E.tk i).t,zI b.l,zI 0,A5 a n c])/\Br w.heap.size w w':=by
 have o:Br w.heap.size w ((w.alloc<|X (rE b.k b) 58).alloc<|X #[zI 0,zI 0,zI 0,zI 0,zI 0,fe] 128):=(dj w _).alloc I _;have q:=h.keep<|ul o _;have⟨v,s,x⟩:=q.cells;have⟨l,_,C,F,G,H,K,L⟩:=q.tok y;rw[(O:((i+1:Nat):Int)=(i:Int)+1)]at s;have af:=h.hn;have an:IntKind.i64.wrap (i:Int)=(i:Int):=by rw[du];omega
 have⟨g,r⟩:=aw<|(w.alloc<|X (rE b.k b) 58).alloc<|X #[zI 0,zI 0,zI 0,zI 0,zI 0,fe] 128;have A:g.heap[w.heap.size+1]?=Ax (X #[zI 0,zI 0,zI 0,zI 0,zI 0,fe] 128 (0,0)):=by
  have:=au (w.alloc<|X (rE b.k b) 58)<|X #[zI 0,zI 0,zI 0,zI 0,zI 0,fe] 128
  simp_all
 have z:g.heap[w.heap.size]?=Ax (X (rE b.k b) 58 (0,0)):=by
  rw[<-r];exact((dj _ _).block _ I).trans<|au w _
 rw[r]at q v s x C F G H K L o;have k:=fs A o;have⟨_,_,_,_,_,_⟩:=jb z;have ak:E.pb≠w.heap.size+1:=by have:=h.lt;omega
 have al:E.tb≠w.heap.size+1:=by
  have⟨_,_,_,_⟩:=h.tks;grind
 have am:w.heap.size≠w.heap.size+1:=O;simp[rE]at r;unfold vTk;go_in;go_wp21
 have⟨z0,_,_,_,_,_⟩:=jb k.1;have⟨_,_,_,_,_,_⟩:=sf k.1;have B:=λd (h:d≠w.heap.size+1) m=>Co (W:=g) h m;unfold six at B;go_region_held3 (λu=>∀d,d≠w.heap.size+1->∀m,u.cell? (aj d m)=g.cell? (aj d m)) (simp_all) (fail)
 have p:=GL g (w.heap.size+1) (zI nk) (zI b.f) (zI (E.tk i).t) (zI b.l) (zI 0)<|A5 a n c;have j:=LB k.1 (zI nk) (zI b.f) (zI (E.tk i).t) (zI b.l) (zI 0)<|A5 a n c;rw[<-uA]at j;unfold six at p j;generalize World.drew _=ad at p j⊢;go_wp2;exact aA (fD R _ _ _ _ _ _ _ R j underlying128 R byR) R ⟨R,k.2.grown p U (λd _=>U)⟩
end
section
variable {E : Pe} {W w w' : World} {i j q : Nat} {k nk : Int} {kv v : Value} {kn vs us ws : zLV} {D R1 : Fo} {T : Bxs} {M : List (Value × zLB)} {f : FuncId} {args : zAV}
def qC(S:A2 (Sw E W w i kv kn D vs T M))(d:(E.tk i).k=k)(c:i<E.n:=by omega):A3 Y 152 #[pV E] w λe w'=>e=A0 (zI k)/\A2 (Sw E W w' i kv kn D vs T M):=by
 rw[<-d];apply(amr S.pp c).mono;rintro e w' ⟨b,a⟩;exact⟨b,sB S a⟩
def mi(S:A2 (Sw E W w i kv kn D vs T M))(f:(E.tk i).k=k)(d:i<E.n)(a:k≠6:=by decide):A3 Y 153 #[pV E] w λe w'=>e=A0 (B5<|rE k<|E.tk i)/\A2 (Sw E W w' (i+1) kv kn D vs T M):=by
 rw[<-f]at a⊢;apply(axC S.pp d a).mono;rintro e w' ⟨c,b⟩;exact⟨c,sX S b⟩
def Au(S:A2 (Sw E W w i kv kn D vs T M))(d:(E.tk i).k=k)(c:i<E.n:=by omega):A3 Y 302 #[pV E,zI k] w λe w'=>e=A0 (B6 true)/\A2 (Sw E W w' (i+1) kv kn D vs T M):=by
 apply(axD S.pp c d).mono;rintro e w' ⟨b,a⟩;exact⟨b,sX S a⟩
def Fp(S:A2 (Sw E W w i kv kn D vs T M))(d:(E.tk i).k≠k)(c:i<E.n:=by omega):A3 Y 302 #[pV E,zI k] w λe w'=>e=A0 (B6 false)/\A2 (Sw E W w' i kv kn D vs T M):=by
 apply(axE S.pp c d).mono;rintro e w' ⟨b,a⟩;exact⟨b,sB S a⟩
def Ia(S:A2 (Sw E W w i kv kn D vs T M))(f:(E.tk i).k=k)(d:i<E.n)(b:k≠6):A3 Y 55 #[pV E] w λe w'=>e=A0 (B5<|rE k<|E.tk i)/\A2 (Sw E W w' i kv kn D vs T M):=by
 rw[<-f]at b⊢;apply(ams S.pp d).mono;rintro e w' ⟨⟨_,g,a⟩,c⟩;rw[g b]at a;exact⟨a,sB S c⟩
def Jw(S:A2 (Sw E W w i kv kn D vs T M))(a:t.k=k):∃w',w.alloc (X (rE k t) 58)=w'/\A2 (Sw E W w' i kv kn D vs (tkB w.heap.size t::T) M):=by
 rw[<-a];exact⟨_,R,S.box t⟩
def Jy(S:A2 (Sw E W w i kv kn D vs (tkB b t::T) M))(a:t.k=k):w.cell? (aj b 0)=Ax (zI k)/\w.cell? (aj b 1)=Ax (zI t.f)/\w.cell? (aj b 2)=Ax (zI t.t)/\w.cell? (aj b 3)=Ax (zI t.l)/\w.cell? (aj b 4)=Ax (zI t.n)/\w.cell? (aj b 5)=Ax (B3 t.x):=by
 rw[<-a];exact jb (S.tb _<|bG ..).2.2
def Gi.form{d c}(h:Gi w d c R1 [v]):∃t p,v=C2 t p:=by
 cases R1 with
 |nil=>obtain⟨b,a,_⟩:=h;cases a
 |cons e f g=>
  obtain⟨b,_,_,_,_,_,_,_,_,a,_⟩:=h;exact⟨_,_,(mD a.1).1⟩
def Ba(S:A2 (Sw E W w i kv kn D vs T M))(C:CN E f args i R1 j)(c:R1.sz<=50000000:=by omega):A3 Y f args w λe w'=>∃t p,e=A0 (C2 t p)/\A2 (Sw E W w' j kv kn (D.app R1) (vs++[C2 t p]) T M):=by
 apply(C w S.pp c).mono;rintro e w' ⟨_,b,a⟩;obtain⟨t,p,rfl⟩:=Gi.form a.nn;exact⟨t,p,b,S.sub a⟩
def ahl(S:A2 (Sw E W w i s0 [] D vs T M))(C:CR E f args i R1 j)(g:R1.sz<=50000000:=by omega):A3 Y f args w λe w'=>∃a n c us,e=A0 (A5 a n c)/\A2 (Sw E W w' j (A5 a n c) us (D.app R1) (vs++us) T M)/\V us=n:=by
 apply(C w S.pp g).mono;rintro e w' ⟨_,us,d,b⟩;obtain⟨a,c,rfl⟩:=aF b.ro;exact⟨a,_,c,us,d,S.subL b,R⟩
def adc(S:A2 (Sw E W w i s0 [] D vs T M))(a:zLV)(cs:zAV)(b:cs=a.toArray)(n)(c:V a=n)(d:n<=100):∃w',w.alloc (X cs 64)=w'/\A2 (Sw E W w' i (bI w.heap.size n n) a D vs T M):=by
 subst b c;exact⟨_,R,S.lit a d⟩
def vh(S:A2 (Sw E W w j kv kn D vs T M))(h:t.k=k)(i:1<=j)(m:j<=E.n)(nk)(a:zOA)(n c):A3 Y 304 #[pV E,zI nk,B5<|rE k t,A5 a n c] w λe w'=>e=A0 (B5 #[zI nk,zI t.f,zI (E.tk<|j-1).t,zI t.l,zI 0,A5 a n c])/\A2 (Sw E W w' j kv kn D vs T M):=by
 rw[<-h];obtain⟨b,rfl⟩:∃b,j=b+1:=⟨j-1,O⟩;apply(aqB S.pp O nk t a n c).mono;rintro e w' ⟨g,d⟩;exact⟨g,sB S d⟩
theorem azA{a}(N)(S:A2 (Sw E W w i kv vs D vs T ((a,N.nm)::M)))(g:xx N (eG N.k)=N){cs:zAV}(h:cs=([zI N.k,zI N.f,zI N.t,zI N.l,zI 0,kv]++exT N a (eG N.k)).toArray){c}(j:c=BB (eG N.k)):A2 (Sw E W (w.alloc<|X cs c) i s0 [] (one N D) [iF N.k w.heap.size] [] []):=(S.fin0 N a g (S.nm _<|bG ..) cs h c j (M':=[]) (λm b=>by cases b) (λe d=>by
 have d:(e++(a.ownBlock.toList++mB M)).Nodup:=d;rw[show mB []=[] from rfl,fp,fp];grind)).drop (λm b=>by cases b)<|.inr R
def Kr(S:A2 (Sw E W w i kv vs D vs T M))(N)(b:xx N (eG N.k)=N)(e:N.nm=[]){cs:zAV}(c:cs=([zI N.k,zI N.f,zI N.t,zI N.l,zI 0,kv]++exT N s0 (eG N.k)).toArray){a}(h:a=BB (eG N.k)):A2 (Sw E W (w.alloc<|X cs a) i s0 [] (one N D) [iF N.k w.heap.size] T M):=S.fin0 N s0 b (by rw[e];exact onN) cs c a h (λ_ g=>g) (λ_ d=>by rw[show(s0:B2).ownBlock.toList=[] from rfl,ga,fp];exact d)
def ade(S:A2 (Sw E W w i kv vs D vs T M))(N)(b:xx N (eG N.k)=N)(d:N.nm=[]){cs:zAV}(c:cs=([zI N.k,zI N.f,zI N.t,zI N.l,zI 0,kv]++exT N s0 (eG N.k)).toArray){a}(g:a=BB (eG N.k)):A2 (Sw E W (w.alloc<|X cs a) i s0 [] (one N D) [iF N.k w.heap.size] [] []):=(Kr S N b d c g).out.drop (λ_ e=>by cases e)<|.inr R
theorem Gi.cell:∀(R1)(vs){lo}{ex},Gi w lo ex R1 vs->∀u∈vs,u.oneCell'=true
 | .nil,vs,lo,ex,⟨b,h⟩=>by obtain⟨rfl,rfl⟩:=h;grind
 | .cons g l e,vs,lo,ex,⟨b,i,p,s,r,n,f,k,a,c,j,o,m,q,d⟩=>by
  intro u hu;rw[c.1]at hu;obtain rfl|hu:=dI.1 hu
  .rfl
  .exact Gi.cell e f ⟨a,d⟩ u hu
def ajs:(Y.info? 64).map (λi=>(i.zero,i.size,i.bytes))=Ax (Ax .nilIface,1,16):=J
theorem wJ{m n o a}(g:o.guard=B4)(s x)(i:o.op= .call {callee:= .builtin .append,args:=#[s,x],argTypes:=#[126,126]}){d q p}(j:a.eval s=kv)(f:w.ownsRow d 64 1 kv (V kn) kn)(k:a.eval x=p)(K:w.ownsRow q 64 1 p (V us) us)(t:∀u∈us,u.oneCell'=true)(L:V kn+V us<=100000000)(y:d<=w.heap.size)
  (h:∀b e c w',w'.ownsRow d 64 1 (A5 b e c) (V<|kn++us) (kn++us)->e=V kn+V us->w.grownBy w' kv.ownBlock->((B7 b e c).ownBlock=kv.ownBlock\/(B7 b e c).ownBlock=Ax w.heap.size)->wpList Y m Q n (a.put o.dst<|A5 b e c) w'):wpList Y m Q (o::n) a w:=by
 have⟨l,e,E,F,G⟩:=dw ajs;obtain⟨rfl,B⟩|⟨_,r,_,rfl,_,z,_,_,_,_⟩:=K.2
 .apply wpList_append_own_none g s x _ i d _ l 1 underlying126 e _ _ _ j f k;obtain⟨b,c,rfl⟩:=aF f;obtain rfl:=List.length_eq_zero_iff.1 B;exact h _ _ _ w U I (si _ _)<|.inl R
 .apply wpList_append_own_at _ g s x _ i d 64 l _ 1 _ underlying126 e E F G R Z _ _ _ j f _ _ r us k O (λH u _=>World.news_of_block z H u U) t byM O y;intro _ w1 C A _ v;obtain⟨b,c,rfl⟩:=aF C;exact h _ _ _ w1 U R A v
end
section
variable {E : Pe} {W w : World} {i j b n : Nat} {kv u : Value} {kn vs : zLV} {D R1 : Fo} {T : Bxs} {M : List (Value × zLB)} {t : TypeId} {cs : zAV}
def sRd(S:A2 (Sw E W w i kv kn D vs ((b,t,cs)::T) M)):(∀q,w.cell? (aj b q)=cs[q]?)/\(∀q,w.frozen? (aj b q)=false)/\b<w.heap.size:=by
 have a:=(S.tb _<|.head _).2.2;exact⟨λq=>by rw[oe a],λq=>frR a,ai a⟩
def sBx(S:A2 (Sw E W w i kv kn D vs T M))(a:t≠64:=by decide)(b:t≠9:=by decide):A2 (Sw E W (w.alloc<|X cs t) i kv kn D vs ((w.heap.size,t,cs)::T) M):=S.boxg cs t a b
def sLt(S:A2 (Sw E W w i s0 [] D vs T M))(a:V cs.toList=n:=by rfl)(b:Nat.ble n 100=true:=by rfl):A2 (Sw E W (w.alloc<|X cs 64) i (bI w.heap.size n n) cs.toList D vs T M):=by
 subst a;exact S.lit _<|Nat.le_of_ble_eq_true b
def sLn(S:A2 (Sw E W w i kv kn D vs T M)):V vs<=D.sz:=by
 have:=Gi.len _ _ S.nn;have:=D.len_le;omega
theorem sAp{f g o a}(S:A2 (Sw E W w i kv kn D vs T M))(t:u.oneCell'=true)(r:V kn<=50000000)(l:o.guard=B4)(s x)(m:o.op= .call {callee:= .builtin .append,args:=#[s,x],argTypes:=#[126,126]})(n:a.eval s=kv)(p:a.eval x=bI w.heap.size 1 1)
  (h:∀b d c w',A2 (Sw E W w' i (A5 b d c) (kn++[u]) D vs T M)->wpList Y f Q g (a.put o.dst<|A5 b d c) w'):wpList Y f Q (o::g) a (w.alloc<|X #[u] 64):=by
 have e:=sB S<|dj w<|X #[u] 64;exact wJ l s x m n e.ro p (zg w _ 1 eE byM R) U U (by rw[dC];have:=S.gr.size;omega) λb d c w' q _ k j=>h b d c w'<|e.out.put q k j
end
