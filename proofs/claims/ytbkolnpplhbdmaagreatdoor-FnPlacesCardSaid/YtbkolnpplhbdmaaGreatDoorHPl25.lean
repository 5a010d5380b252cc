import Derived.Test.YtbkolnpplhbdmaaGreatDoorHPl24
import Derived.Test.YtbkolnpplhbdmaaGreatDoorHPl08
import Derived.Test.YtbkolnpplhbdmaaGreatDoorHPl23
import Derived.Laws.AppendOwnNone
import Derived.Test.YtbkolnpplhbdmaaGreatDoorHPl07
set_option linter.all false
set_option maxRecDepth 100000
set_option maxHeartbeats 25600000
open Go.Proofs.Tryz
open Go.Value renaming int->O,slice->Ax,string->A0,string->A1,pointer->A5,bool->Bk,ownBlock->Bn,iface->B0,slice->B3,agg->B6,tuple->Ck
open Go.IntKind renaming i64->U
open Go.Proofs.Tryz renaming prog->V
open Option renaming none->Y,some->Z
open Go.Obj renaming cells->Ad
open Go renaming Value->Ak,Calls->A2,World->Bc,TypeId->Br,wpList_append_own_at->B4,maxLen->B7,undef->C2
open Go.Ending renaming returned->A3
open Go.RowKit renaming Hid->A9,intOf->Ce
open Bool renaming false->B1,true->B2
namespace Go.Proofs.YtbkolnpplhbdmaaGreatDoor
open Go.RowKit Go.Maps Go.WideMaps
variable{E:Pe}{M M':List (Value×List ByteArray)}{Q:Exit->Act->World->Prop}{T:Bxs}{W W' w:World}{a:Act}{args:Array Value}{b i:Nat}{f:FuncId}{k:Int}{kn vs:List Value}{kv:Value}{ns:List ByteArray}{o:Oper}{ops:Array Oper}{t:Tk}
def E7{b:Func}{p q:Tmp}{u:Br}(h:b.results=#[.cell q u,.tmp p])(tmps:Array Ak)(P:Program)(w:Bc)(a:Addr)(v c:Ak)(e:tmps.getD p C2=v)(g:tmps.getD q C2= A5 (Z a))
  (d:(loadVar u a).run P w= .ok c w):(results b tmps).run P w= .ok (Ck #[c,v]) w:=by
 have f:tmps[p]?.getD C2=v:=by simpa using e
 have i:tmps[q]?.getD C2= A5 (Z a):=by simpa using g
 simp only[results,h];simp[Result.andThen,f,i,asAddr,d]
def nK(b:Nat)(W:Bc)(x a z:Int):Prop:=W.heap[b]?=Z (Ad #[O U x,O U a,O U z] 186 (0,0))
def adD(w:Bc)(b:Nat)(x a z:Int)(h:nK b w x a z):(loadVar 186 ⟨b,0,Y⟩).run V w= .ok (B6 #[O U x,O U a,O U z]) w:=
 Hj w b 186 186 _ _ _ h underlying186 rfl (by kernel_rfl)
def nK.put{x e z:Int}(h:nK b W x e z)(a c d:Int):nK b (((W.setCell ⟨b,0,Y⟩ (O U a)).setCell ⟨b,1,Y⟩ (O U c)).setCell ⟨b,2,Y⟩ (O U d)) a c d:=
 bp _ b 2 _ _ _ (bp _ b 1 _ _ _ (bp _ b 0 _ _ _ h))
def nK.cells{x a z:Int}(h:nK b W x a z):W.cell? ⟨b,0,Y⟩=Z (O U x)/\W.cell? ⟨b,1,Y⟩=Z (O U a)/\W.cell? ⟨b,2,Y⟩=Z (O U z)/\∀j,W.frozen? ⟨b,j,Y⟩=B1:=by
 unfold nK at h;exact⟨by rw[aj _ _ _ _ _ _ h];rfl,by rw[aj _ _ _ _ _ _ h];rfl,by rw[aj _ _ _ _ _ _ h];rfl,λj=>cH _ _ _ _ _ h⟩
def abH(w:Bc)(tt:Br)(fr:Nat×Nat)(o:w.heap[1]?=Z (Ad KA tt fr))(j:Nat)(L:j<20)(c:Int)(h:Ik.getD j 0=c)(C:∀i,i<j->Ik.getD i 0≠c):
  A2 V 221 #[O U c] w (jf w (Ck #[B6 #[O U c,O U (aj8 (3*j+1)),O U (aj8 (3*j+2))],Bk B2])):=by
 have B:=ai o;have p:∀a,cg w (w.alloc a):=λa=>(ah _ w).alloc (ag _) a;have v:nK w.heap.size (w.alloc (Ad #[O U 0,O U 0,O U 0] 186)) 0 0 0:=aA w _;have x:A9 (nK w.heap.size (w.alloc (Ad #[O U 0,O U 0,O U 0] 186)) 0 0 0/\cg w (w.alloc (Ad #[O U 0,O U 0,O U 0] 186))):=⟨v,p _⟩;have y:=am C;have z:=am h;go_in;go_wp2_with (refine vB rfl 187 _ rfl 1 rfl tt _ fr _ (((p _).block _ B).trans o) underlying187 rfl (by kernel_rfl) ?_);go_loopw [7] (λk wr=>∃b:Nat,b<=j/\k= O U b/\A9 (nK w.heap.size wr 0 0 0/\cg w wr)) (λk _=>20-(Ce k).toNat)
 case atStart=>exact⟨0,by omega,rfl,x⟩
 case round=>
  obtain⟨b,h,rfl,f⟩:=hrel;have E:b<20:=by omega
  have g:=λw=>aso b E w;have G:=ai f.1;have⟨H,I,J,K⟩:=f.1.cells;have r:∀a,cg wr (wr.alloc a):=λa=>(ah _ wr).alloc (ag _) a;rcases ie h with rfl|hlt
  .rw[z.out]at g;have⟨d,s⟩:=aC (aj8 (3*b+1));have⟨e,t⟩:=aC (aj8 (3*b+2));rw[s,t]at g;have m:=gF s t;have u:=nK.put f.1 c d e;have n:cg w (((wr.setCell ⟨w.heap.size,0,Y⟩ (O U c)).setCell ⟨w.heap.size,1,Y⟩ (O U d)).setCell ⟨w.heap.size,2,Y⟩ (O U e)):=((f.2.setCell (ag _) _).setCell (ag _) _).setCell (ag _) _;have q:∀a,Below (((wr.setCell ⟨w.heap.size,0,Y⟩ (O U c)).setCell ⟨w.heap.size,1,Y⟩ (O U d)).setCell ⟨w.heap.size,2,Y⟩ (O U e)).heap.size (((wr.setCell ⟨w.heap.size,0,Y⟩ (O U c)).setCell ⟨w.heap.size,1,Y⟩ (O U d)).setCell ⟨w.heap.size,2,Y⟩ (O U e)) ((((wr.setCell ⟨w.heap.size,0,Y⟩ (O U c)).setCell ⟨w.heap.size,1,Y⟩ (O U d)).setCell ⟨w.heap.size,2,Y⟩ (O U e)).alloc a):=λa=>(ah _ _).alloc (ag _) a;have l:A9 ((∀a,nK w.heap.size ((((wr.setCell ⟨w.heap.size,0,Y⟩ (O U c)).setCell ⟨w.heap.size,1,Y⟩ (O U d)).setCell ⟨w.heap.size,2,Y⟩ (O U e)).alloc a) c d e)/\(∀a,cg w ((((wr.setCell ⟨w.heap.size,0,Y⟩ (O U c)).setCell ⟨w.heap.size,1,Y⟩ (O U d)).setCell ⟨w.heap.size,2,Y⟩ (O U e)).alloc a))):=⟨λa=>((q a).block _ (ai u)).trans u,λa=>n.trans ((q a).mono n.size)⟩;go_wp21
   exact aL (E7 rfl _ _ _ ⟨w.heap.size,0,Y⟩ (Bk B2) _ rfl rfl (adD _ _ _ _ _ (l.1 _))) rfl ⟨by rw[m.out.1,m.out.2],l.2 _⟩
  .have F:=y.out b hlt;generalize aj8 (3*b+1)=d at g;generalize aj8 (3*b+2)=e at g;generalize Ik.getD b 0=ad at g F;have A:A9 (∀a,nK w.heap.size (wr.alloc a) 0 0 0/\cg w (wr.alloc a)):=λa=>⟨((r a).block _ G).trans f.1,f.2.trans ((r a).mono f.2.size)⟩;go_wp21
   exact⟨⟨b+1,by omega,by go_num,A _⟩,by simp[Ce];omega⟩
def aix:(Tryz.prog.info? 3).map (λi=>(i.zero,i.size,i.bytes))=Z (Z (O U 0),1,8):=by kernel_rfl
def LK:(Tryz.prog.info? 9).map (λi=>(i.zero,i.size,i.bytes))=Z (Z (A1 ⟨#[]⟩),1,16):=by kernel_rfl
structure Pp (E:Pe) (w:Bc) (i:Nat):Prop where
 hn:E.n<=1048576
 tks:∃cs fr,w.heap[E.tb]?=Z (.cells cs 49 fr)/\TkR cs E.tk E.n
 row:w.heap[E.pb]?=Z (.cells #[.slice (Z ⟨E.tb,0,Y⟩) E.n E.cap,.int .i64 i] 52 (0,0))
 pg:1<E.pb
 pw:∃tt fr,w.heap[1]?=Z (.cells KA tt fr)
def Rv(w:Bc)(lo:Nat)(b:Option Nat)(t:Br)(v:Ak)(xs:List Ak):Prop:=w.ownsRow lo t 1 v xs.length xs/\∀a,v.ownBlock=Z a->b≠Z a
def tH(w:Bc)(lo:Nat)(a:Option Nat):Fo->List Ak->List Nat->Prop
 | .nil,vs,c=>vs=[]/\c=[]
 | .cons N k r,vs,c=>∃b g vn vk kv f d e,(vs=gq N.k b::f/\c=vn.ownBlock.toList++(d++e))/\(lo<=b/\a≠Z b/\il w b N vn g vk/\oJ N (fJ N.k)=N)/\Rv w lo a 9 vn (N.nm.map A0)/\Rv w lo a 55 vk kv/\tH w lo a k kv d/\tH w lo a r f e
def De(w:Bc)(lo:Nat)(b:Option Nat)(R:Fo)(c:List Ak):Prop:=∃a,tH w lo b R c a
def mB(M:List (Ak×List ByteArray)):List Nat:=M.flatMap λa=>a.1.ownBlock.toList
def nd3{a b c:List Nat}{n:Nat}(h:(a++c).Nodup)(k:b.Nodup)(f:∀x∈a++c,x<n)(g:∀x∈b,n<=x):((a++b)++c).Nodup:=by
 rw[qH]at h;obtain⟨j,l,m⟩:=h;have o:∀x∈a,∀d∈b,x≠d:=λx hx d e i=>by have:=f x (List.mem_append_left _ hx);have:=g d e;omega
 have p:∀x∈b,∀d∈c,x≠d:=λx hx d e i=>by have:=f d (yi _ e);have:=g x hx;omega
 rw[qH,qH];refine⟨⟨j,k,o⟩,l,λx hx d e=>?_⟩;rcases List.mem_append.1 hx with hx|hx
 .exact m x hx d e
 .exact p x hx d e
def Jj(o:Option Nat):o.toList.Nodup:=by cases o<;>simp
section
variable {w w' : World} {lo lo' : Nat} {ex ex' : Option Nat}
def Rv.mono{t:Br}{v:Ak}{xs:List Ak}(o:Rv w lo ex t v xs)(h:∀k,lo<=k->ex≠Z k->k<w.heap.size->w'.heap[k]?=w.heap[k]?/\lo'<=k/\ex'≠Z k):Rv w' lo' ex' t v xs:=
 ⟨kH o.1 (λa b c d=>⟨(h a c (o.2 a b) d).1,(h a c (o.2 a b) d).2.1⟩),λa b=>(h a (o.1.lt a b).1 (o.2 a b) (o.1.lt a b).2).2.2⟩
def tH.mono(h:∀k,lo<=k->ex≠Z k->k<w.heap.size->w'.heap[k]?=w.heap[k]?/\lo'<=k/\ex'≠Z k):∀(R:Fo)(vs:List Ak)(a:List Nat),tH w lo ex R vs a->tH w' lo' ex' R vs a
 | .nil,vs,a,q=>q
 | .cons N k r,vs,a,⟨b,o,vn,vk,kv,i,f,g,e,⟨j,l,d,m⟩,n,k1,p,s⟩=>by
  have c:=h b j l (ai d);exact⟨b,o,vn,vk,kv,i,f,g,e,⟨c.2.1,c.2.2,c.1.trans d,m⟩,n.mono h,k1.mono h,tH.mono h k kv f p,tH.mono h r i g s⟩
def tH.app:∀(R:Fo)(vs:List Ak)(a:List Nat){S:Fo}{us:List Ak}{cs:List Nat},tH w lo ex R vs a->tH w lo ex S us cs->tH w lo ex (R.app S) (vs++us) (a++cs)
 | .nil,vs,a,S,us,cs,q,p=>by obtain⟨rfl,rfl⟩:=q;exact p
 | .cons t u o,vs,a,S,us,cs,⟨d,l,s,r,j,c,f,b,⟨g,h⟩,e,k,i,m,n⟩,p=>⟨d,l,s,r,j,c++us,f,b++cs,⟨by rw[g];rfl,by rw[h];simp only[bC]⟩,e,k,i,m,tH.app o c b n p⟩
def tH.lt:∀(R:Fo)(vs:List Ak)(a:List Nat),tH w lo ex R vs a->∀g∈a,lo<=g/\g<w.heap.size
 | .nil,vs,a,q=>by obtain⟨rfl,rfl⟩:=q;intro g hg;cases hg
 | .cons m e k,vs,a,⟨n,s,u,t,f,l,b,c,⟨p,d⟩,o,h,r,i,j⟩=>by
  intro g hg;rw[d]at hg;rcases List.mem_append.1 hg with hg|hg
  .exact h.1.lt g (by simpa using hg)
  rcases List.mem_append.1 hg with hg|hg
  .exact tH.lt e f b i g hg
  .exact tH.lt k l c j g hg
def De.len:∀(R:Fo)(vs:List Ak),De w lo ex R vs->vs.length=R.len
 | .nil,vs,⟨b,q⟩=>by obtain⟨rfl,rfl⟩:=q;rfl
 | .cons g k e,vs,⟨b,h,o,s,r,m,f,j,a,c,i,n,l,p,d⟩=>by rw[c.1,bc,De.len e f ⟨a,d⟩];rfl
end
abbrev tkB(b:Nat)(t:Tk):Nat×Br×Array Ak:=(b,49,qh t.k t)
structure Sw (E:Pe) (W w:Bc) (i:Nat) (kv:Ak) (kn:List Ak) (D:Fo) (vs:List Ak) (T:Bxs) (M:List (Ak×List ByteArray)):Prop where
 pp:Pp E w i
 gr:W.grownBy w (Z E.pb)
 lt:E.pb<W.heap.size
 ro:w.ownsRow W.heap.size 55 1 kv kn.length kn
 nb:∃bs,tH w W.heap.size kv.ownBlock D vs bs/\(bs++mB M).Nodup
 tb:∀p∈T,W.heap.size<=p.1/\(p.2.1≠55/\p.2.1≠9)/\w.heap[p.1]?=Z (.cells p.2.2 p.2.1 (0,0))
 nm:∀p∈M,w.ownsRow W.heap.size 9 1 p.1 (p.2.map A0).length (p.2.map A0)
section
variable {E : Pe} {W w w' : World} {i j : Nat} {kv v : Value} {kn vs us ws : List Value} {D R : Fo} {T : Bxs} {M : List (Value × List ByteArray)}
def Sw.nn(h:Sw E W w i kv kn D vs T M):De w W.heap.size kv.ownBlock D vs:=h.nb.elim λa b=>⟨a,b.1⟩
def aiy(nm:∀p∈M,w.ownsRow W.heap.size 9 1 p.1 (p.2.map A0).length (p.2.map A0)):∀g∈mB M,g<w.heap.size:=λg a=>by
 have⟨p,b,a⟩:=List.mem_flatMap.1 a;exact((nm p b).lt g (by simpa using a)).2
def Pp.lt(h:Pp E w i):E.pb<w.heap.size:=ai h.row
def Pp.keep(h:Pp E w i)(g:w.grownBy w' Y):Pp E w' i:=by
 have⟨c,e,a,f⟩:=h.tks;have⟨j,d,b⟩:=h.pw;exact⟨h.hn,⟨c,e,(g.block _ (ai a) (by simp)).trans a,f⟩,(g.block _ h.lt (by simp)).trans h.row,h.pg,j,d,(g.block _ (ai b) (by simp)).trans b⟩
def Sw.start(h:Pp E w i):A9 (Sw E w w i s0 [] .nil [] [] []):=⟨h,ux _ _,h.lt,fs _ _ _ _,⟨[],⟨rfl,rfl⟩,vF⟩,λb a=>(by cases a),λb a=>(by cases a)⟩
def Sw.step(h:Sw E W w i kv kn D vs T M)(g:w.grownBy w' (Z E.pb))(p:Pp E w' j):Sw E W w' j kv kn D vs T M:=by
 have e:∀b,W.heap.size<=b->b<w.heap.size->w'.heap[b]?=w.heap[b]?:=λb a c=>g.block b c (λe=>by have:=h.lt;cases e;omega);have⟨f,l,m⟩:=h.nb;exact⟨p,h.gr.trans g,h.lt,kH h.ro (λg _ a c=>⟨e g a c,a⟩),⟨f,tH.mono (λb a c k=>⟨e b a k,a,c⟩) _ _ _ l,m⟩,λp d=>⟨(h.tb p d).1,(h.tb p d).2.1,(e _ (h.tb p d).1 (ai (h.tb p d).2.2)).trans (h.tb p d).2.2⟩,λp d=>kH (h.nm p d) (λg _ a c=>⟨e g a c,a⟩)⟩
def rF(b:cg w w')(q:Option Nat):w.grownBy w' q:=⟨b.os,b.tape,b.output,b.size,λc a _=>b.block c a⟩
def sX(h:A9 (Sw E W w i kv kn D vs T M))(q:Pp E w' j/\w.grownBy w' (Z E.pb)):A9 (Sw E W w' j kv kn D vs T M):=h.step q.2 q.1
def sB(h:A9 (Sw E W w i kv kn D vs T M))(b:cg w w'):A9 (Sw E W w' i kv kn D vs T M):=h.step (rF b _) (h.pp.keep (rF b _))
def Sw.sub(h:Sw E W w i kv kn D vs T M)(s:Sw E w w' j v us R ws [] []):Sw E W w' j kv kn (D.app R) (vs++ws) T M:=by
 have b:=h.step s.gr s.pp;have x:=h.gr.size;have⟨u,y,z⟩:=b.nb;have⟨o,l,q⟩:=h.nb;have⟨p,m,t⟩:=s.nb;obtain⟨c,r,p2⟩:∃c,tH w' W.heap.size kv.ownBlock D vs c/\(c++mB M).Nodup/\∀a∈c,a<w.heap.size:=⟨o,tH.mono (w:=w) (λe f g k=>⟨s.gr.block e k (λd=>by have:=h.lt;cases d;omega),f,g⟩) _ _ _ l,q,λa hx=>(l.lt _ _ _ a hx).2⟩;refine⟨b.pp,b.gr,b.lt,b.ro,⟨c++p,tH.app _ _ _ r (tH.mono (λe f g k=>⟨rfl,by omega,λd=>?_⟩) _ _ _ m),nd3 (n:=w.heap.size) p2.1 (by simpa [mB] using t) (λa hx=>?_) (λa hx=>(m.lt _ _ _ a hx).1)⟩,b.tb,b.nm⟩
 .have:=(h.ro.lt e d).2;omega
 .rcases List.mem_append.1 hx with hx|hx
  .exact p2.2 a hx
  .exact aiy h.nm a hx
def Sw.subL(h:Sw E W w i s0 [] D vs T M)(s:Sw E w w' j v us R ws [] []):Sw E W w' j v us (D.app R) (vs++ws) T M:=by
 have a:=h.step s.gr s.pp;have p:=h.gr.size;have⟨m,k,q⟩:=h.nb;have⟨o,l,r⟩:=s.nb;refine⟨a.pp,a.gr,a.lt,zL s.ro p,⟨m++o,tH.app _ _ _ (tH.mono (w:=w) (λd e f g=>⟨s.gr.block d g (λc=>by have:=h.lt;cases c;omega),e,λc=>?_⟩) _ _ _ k) (tH.mono (λd e f g=>⟨rfl,by omega,f⟩) _ _ _ l),nd3 (n:=w.heap.size) q (by simpa [mB] using r) (λb hx=>?_) (λb hx=>(l.lt _ _ _ b hx).1)⟩,a.tb,a.nm⟩
 .have:=(s.ro.lt d c).1;omega
 .rcases List.mem_append.1 hx with hx|hx
  .exact(k.lt _ _ _ b hx).2
  .exact aiy h.nm b hx
def Sw.box(h:Sw E W w i kv kn D vs T M)(t:Tk):Sw E W (w.alloc (Ad (qh t.k t) 49)) i kv kn D vs (tkB w.heap.size t::T) M:=by
 have a:=sB (w:=w) h (dC w (Ad (qh t.k t) 49));refine⟨a.pp,a.gr,a.out.lt,a.ro,a.nb,λb hp=>?_,a.nm⟩;rcases List.mem_cons.1 hp with rfl|hp
 .exact⟨h.gr.size,⟨show 49≠55 by decide,show 49≠9 by decide⟩,aA w _⟩
 .exact a.tb b hp
def Sw.lit(h:Sw E W w i s0 [] D vs T M)(us:List Ak)(m:us.length<=100):Sw E W (w.alloc (Ad us.toArray 55)) i (Ax (Z ⟨w.heap.size,0,Y⟩) us.length us.length) us D vs T M:=by
 have a:=sB (w:=w) h (dC w (Ad us.toArray 55));have k:=vw (base:=W.heap.size) (e:=55) (size:=1) w us.toArray us.length h.gr.size (by unfold B7;omega) (by simp);have⟨c,g,j⟩:=h.nb;refine⟨a.pp,a.gr,a.out.lt,by simpa using k,⟨c,tH.mono (w:=w) (λb d l f=>⟨(dC w _).block b f,d,λe=>?_⟩) _ _ _ g,j⟩,a.tb,a.nm⟩;have:w.heap.size=b:=by simpa [Bn] using e
 omega
def Sw.put(h:Sw E W w i kv kn D vs T M)(o:w'.ownsRow W.heap.size 55 1 v us.length us)(g:w.grownBy w' kv.ownBlock)(C:v.ownBlock=kv.ownBlock\/v.ownBlock=Z w.heap.size):Sw E W w' i v us D vs T M:=by
 have b:∀a,a<w.heap.size->kv.ownBlock≠Z a->w'.heap[a]?=w.heap[a]?:=λa p l=>g.block a p (λb=>l b.symm);have t:∀a,kv.ownBlock=Z a->W.heap.size<=a:=λa c=>(h.ro.lt a c).1;have j:∀{a:Nat}{f:Array Ak}{r:Br}{k:Nat×Nat},w.heap[a]?=Z (Ad f r k)->r≠55->w'.heap[a]?=Z (Ad f r k):=λc H=>(b _ (ai c) (gC h.ro c H)).trans c;have⟨f,k,L,ad⟩:=h.pp.tks;have⟨x,J,K⟩:=h.nb;have⟨al,A,u⟩:=h.pp.pw;have af:=(b _ (ai u) (λb=>by have:=t _ b;have:=h.lt;have:=h.pp.pg;omega)).trans u;refine⟨⟨h.pp.hn,⟨f,k,j L (by decide),ad⟩,j h.pp.row (by decide),h.pp.pg,al,A,af⟩,h.gr.andThen g (λa c=> .inl (t a c)),h.lt,o,⟨x,tH.mono (w:=w) (λa p l s=>⟨b a s l,p,λm=>?_⟩) _ _ _ J,K⟩,λe d=>⟨(h.tb e d).1,(h.tb e d).2.1,j (h.tb e d).2.2 (h.tb e d).2.1.1⟩,λe d=>?_⟩
 .rcases C with q|q
  .exact l (q ▸ m)
  .rw[q]at m;cases m;exact CC _ s
 .have q:=h.nm e d;obtain⟨B,n⟩:=q;refine⟨B,?_⟩;rcases n with n|⟨g,y,z,I,G,F,ak⟩
  .exact .inl n
  .exact .inr ⟨g,y,z,I,G,j F (by decide),ak⟩
def Sw.name(h:Sw E W w i kv kn D vs T M)(q:Pp E w' j/\w.grownBy w' (Z E.pb)){ns:List ByteArray}(o:w'.ownsRow w.heap.size 9 1 v (ns.map A0).length (ns.map A0)):Sw E W w' j kv kn D vs T ((v,ns)::M):=by
 have a:=h.step q.2 q.1;have⟨c,d,m⟩:=h.nb;refine⟨a.pp,a.gr,a.lt,a.ro,⟨c,tH.mono (w:=w) (λl f g k=>⟨q.2.block l k (λe=>by have:=h.lt;cases e;omega),f,g⟩) _ _ _ d,?_⟩,a.tb,λp hp=>?_⟩
 .show(c++(v.ownBlock.toList++mB M)).Nodup;rw[<-bC];refine nd3 (n:=w.heap.size) m (Jj _) (λb hx=>?_) (λb hx=>(o.lt b (by simpa using hx)).1);rcases List.mem_append.1 hx with hx|hx
  .exact(d.lt _ _ _ b hx).2
  .exact aiy h.nm b hx
 rcases List.mem_cons.1 hp with rfl|hp
 .exact zL o h.gr.size
 .exact a.nm p hp
def Sw.fin0(h:Sw E W w i kv vs D vs T M)(N:Nd)(vn:Ak)(j:oJ N (fJ N.k)=N)(o:w.ownsRow W.heap.size 9 1 vn (N.nm.map A0).length (N.nm.map A0))(cs:Array Ak)(m:cs=([O U N.k,O U N.f,O U N.t,O U N.l,O U 0,kv]++exT N vn (fJ N.k)).toArray)(st:Br)(ht:st=xx (fJ N.k))(g:∀p∈M',p∈M)(n:∀b,(b++mB M).Nodup->((vn.ownBlock.toList++(b++[]))++mB M').Nodup):Sw E W (w.alloc (Ad cs st)) i s0 [] (one N D) [gq N.k w.heap.size] T M':=by
 subst m ht;have a:=sB (w:=w) h (dC w (Ad ([O U N.k,O U N.f,O U N.t,O U N.l,O U 0,kv]++exT N vn (fJ N.k)).toArray (xx (fJ N.k))));have c:=dC w (Ad ([O U N.k,O U N.f,O U N.t,O U N.l,O U 0,kv]++exT N vn (fJ N.k)).toArray (xx (fJ N.k)));have⟨b,r,s⟩:=a.nb;exact⟨a.pp,a.gr,a.out.lt,fs _ _ _ _,⟨_,⟨w.heap.size,0,vn,kv,vs,[],b,[],⟨rfl,rfl⟩,⟨h.gr.size,by simp[Bn],aA w _,j⟩,⟨dA o c,λd _=>by simp[Bn]⟩,⟨a.ro,λd _=>by simp[Bn]⟩,tH.mono (λk e u v=>⟨rfl,e,by simp[Bn]⟩) _ _ _ r,rfl,rfl⟩,n b s⟩,a.tb,λp q=>a.nm p (g p q)⟩
def Sw.drop(h:Sw E W w i kv kn D vs T M){b:Bxs}(d:∀p∈b,p∈T)(g:M'=M\/M'=[]):Sw E W w i kv kn D vs b M':=by
 have⟨c,e,f⟩:=h.nb;rcases g with rfl|rfl
 .exact⟨h.pp,h.gr,h.lt,h.ro,⟨c,e,f⟩,λp a=>h.tb p (d p a),h.nm⟩
 .exact⟨h.pp,h.gr,h.lt,h.ro,⟨c,e,by rw[show mB []=[] from rfl,dk];exact(List.nodup_append.1 f).1⟩,λp a=>h.tb p (d p a),λp a=>(by cases a)⟩
def Sw.boxg(h:Sw E W w i kv kn D vs T M)(cs:Array Ak)(t:Br)(b:t≠55)(c:t≠9):Sw E W (w.alloc (Ad cs t)) i kv kn D vs ((w.heap.size,t,cs)::T) M:=by
 have a:=sB (w:=w) h (dC w (Ad cs t));refine⟨a.pp,a.gr,a.out.lt,a.ro,a.nb,λd hp=>?_,a.nm⟩;rcases List.mem_cons.1 hp with rfl|hp
 .exact⟨h.gr.size,⟨b,c⟩,aA w _⟩
 .exact a.tb d hp
end
def CN(E:Pe)(f:FuncId)(args:Array Ak)(i:Nat)(R:Fo)(j:Nat):Prop:=
 ∀w,Pp E w i->R.sz<=50000000->A2 V f args w λa w'=>∃v,a= A3 v/\A9 (Sw E w w' j s0 [] R [v] [] [])
def CR(E:Pe)(f:FuncId)(args:Array Ak)(i:Nat)(R:Fo)(j:Nat):Prop:=
 ∀w,Pp E w i->R.sz<=50000000->A2 V f args w λa w'=>∃v vs,a= A3 v/\A9 (Sw E w w' j v vs R vs [] [])
section
variable {E : Pe} {w w' : World} {i : Nat}
def Pp.cells(h:Pp E w i):w.cell? ⟨E.pb,0,Y⟩=Z (Ax (Z ⟨E.tb,0,Y⟩) E.n E.cap)/\w.cell? ⟨E.pb,1,Y⟩=Z (O U i)/\∀j,w.frozen? ⟨E.pb,j,Y⟩=B1:=
 ⟨by rw[aj _ _ _ _ _ _ h.row];rfl,by rw[aj _ _ _ _ _ _ h.row];rfl,λj=>cH _ _ _ _ _ h.row⟩
def Pp.tok(h:Pp E w i){q:Nat}(d:q<E.n):∃l,((E.tk q).k≠6->l=(E.tk q).l)/\w.cell? ⟨E.tb,q*6,Y⟩=Z (O U (E.tk q).k)/\w.cell? ⟨E.tb,q*6+1,Y⟩=Z (O U (E.tk q).f)/\w.cell? ⟨E.tb,q*6+2,Y⟩=Z (O U (E.tk q).t)/\w.cell? ⟨E.tb,q*6+3,Y⟩=Z (O U l)/\w.cell? ⟨E.tb,q*6+4,Y⟩=Z (O U (E.tk q).n)/\w.cell? ⟨E.tb,q*6+5,Y⟩=Z (A1 (E.tk q).x):=by
 have⟨e,g,b,c⟩:=h.tks;have⟨l,a⟩:=c q d;exact⟨l,a.hl,by rw[aj _ _ _ _ _ _ b];exact a.c0,by rw[aj _ _ _ _ _ _ b];exact a.c1,by rw[aj _ _ _ _ _ _ b];exact a.c2,by rw[aj _ _ _ _ _ _ b];exact a.c3,by rw[aj _ _ _ _ _ _ b];exact a.c4,by rw[aj _ _ _ _ _ _ b];exact a.c5⟩
def Pp.tkw(h:Pp E w i){q:Nat}(d:q<E.n)(b:(E.tk q).k≠6):TkW E q w:=by
 have⟨m,c,e,f,g,a,j,l⟩:=h.tok d;rw[c b]at a;exact⟨e,f,g,a,j,l⟩
def Pp.ne(h:Pp E w i):E.tb≠E.pb:=λb=>by
 have⟨c,d,a,e⟩:=h.tks;rw[b,h.row]at a;cases a
def Pp.move(h:Pp E w i)(j:Nat):Pp E (w.setCell ⟨E.pb,1,Y⟩ (O U j)) j/\w.grownBy (w.setCell ⟨E.pb,1,Y⟩ (O U j)) (Z E.pb):=by
 have⟨a,c,d,e⟩:=h.tks;have⟨g,b,f⟩:=h.pw;exact⟨⟨h.hn,⟨a,c,(ay _ _ _ _ h.ne).trans d,e⟩,bp _ E.pb 1 _ _ _ h.row,h.pg,g,b,(ay _ _ _ _ (Nat.ne_of_lt h.pg)).trans f⟩,re (ux w _) 1 _⟩
def Pp.other(h:Pp E w i)(k:b≠E.pb)(l:b≠E.tb)(o:E.pb<=b)(g:w.grownBy w' (Z b)):Pp E w' i:=by
 have⟨e,j,d,m⟩:=h.tks;have⟨n,f,c⟩:=h.pw;exact⟨h.hn,⟨e,j,(g.block _ (ai d) (λa=>l (by cases a;rfl))).trans d,m⟩,(g.block _ h.lt (λa=>k (by cases a;rfl))).trans h.row,h.pg,n,f,(g.block _ (ai c) (λa=>by cases a;have:=h.pg;omega)).trans c⟩
def aiz(h:Pp E w i)(a:i<E.n):A2 V 61 #[pV E] w (jf w (O U (E.tk i).k)):=by
 have⟨b,c,d⟩:=h.cells;have⟨g,f,j,l,m,o,p,q⟩:=h.tok a;have e:(i:Int)<(E.n:Int):=by omega
 go_in;go_wp21
 go_quiet (fail)
 go_wp2;go_ret;exact⟨rfl,rfl,rfl,rfl,ag _,λ_ _=>rfl⟩
def arr(h:Pp E w i)(af:i<E.n)(L:(E.tk i).k≠6):A2 V 62 #[pV E] w λe w'=>e= A3 (vTk (E.tk i))/\Pp E w' (i+1)/\w.grownBy w' (Z E.pb):=by
 have a4:=h.lt;have u:=dC w (Ad #[O U 0,O U 0,O U 0,O U 0,O U 0,A1 ⟨#[]⟩] 49);have s:=h.keep (rF u _);have⟨c,y⟩:=s.move (i+1);have⟨av,aK,a0⟩:=s.cells;have⟨p,q,r⟩:=c.cells;have⟨A,B,C,F,G,H⟩:=c.tkw af L;have K:((i+1:Nat):Int)=(i:Int)+1:=by omega
 rw[K]at c y q p r A B C F G H;have a3:=h.hn;have a5:IntKind.i64.wrap (i:Int)=(i:Int):=by rw[dr];omega
 have⟨b,m⟩:=aC ((w.alloc (Ad #[O U 0,O U 0,O U 0,O U 0,O U 0,A1 ⟨#[]⟩] 49)).setCell ⟨E.pb,1,Y⟩ (O U ((i:Int)+1)));have v:b.heap[w.heap.size]?=Z (Ad #[O U 0,O U 0,O U 0,O U 0,O U 0,A1 ⟨#[]⟩] 49 (0,0)):=by
  rw[<-m,ay _ _ _ _ (by show w.heap.size≠E.pb;omega)];exact aA w _
 have ad:w.grownBy b (Z E.pb):=by rw[<-m];exact(rF u _).trans y
 rw[m]at c p q r A B C F G H;go_in;go_wp21
 have j:=kK c ad v;have o:=am h;have⟨z0,a6,a7,a8,a9,ba⟩:=iw j.2.2;have⟨bb,bd,bf,bh,bj,bk⟩:=qk j.2.2;have al:E.pb≠w.heap.size:=by omega
 have an:E.tb≠w.heap.size:=by
  have⟨a1,a2,ao,_⟩:=o.tks;have:=ai ao;omega
 have z:=λk (h:k≠w.heap.size) a=>yx (W:=b) h a;unfold six at z;go_region_held3 (λI=>∀k,k≠w.heap.size->∀a,I.cell? ⟨k,a,Y⟩=b.cell? ⟨k,a,Y⟩) (first|with_reducible exact λk h a=>z k h a _ _ _ _ _ _|exact λ_ _ _=>rfl) (fail)
 have g:=Dn b w.heap.size (O U (E.tk i).k) (O U (E.tk i).f) (O U (E.tk i).t) (O U (E.tk i).l) (O U (E.tk i).n) (A1 (E.tk i).x);have d:=Hu j.2.2 (O U (E.tk i).k) (O U (E.tk i).f) (O U (E.tk i).t) (O U (E.tk i).l) (O U (E.tk i).n) (A1 (E.tk i).x);rw[<-rK]at d;unfold six at g d;generalize World.drew _=ar at g d⊢;go_wp2;have⟨ap,J,v⟩:=j.out;exact aL (io rfl _ _ w.heap.size _ _ _ _ rfl d underlying49 rfl (by kernel_rfl)) rfl ⟨rfl,ap.other al.symm an.symm (fG o.out.lt) g,J.andThen g (λa ak=> .inl (by cases ak;exact ag _))⟩
end
section
variable {E : Pe} {w w' : World} {i : Nat}
def ars(h:Pp E w i)(g:i<E.n)(j:(E.tk i).k=k):A2 V 180 #[pV E,O U k] w λe w'=>e= A3 (Bk B2)/\Pp E w' (i+1)/\w.grownBy w' (Z E.pb):=by
 have r:((E.tk i).k !=k)=B1:=by simp[j]
 have l:=aiz h g;have d:=am h;have q:=h.hn;go_in;go_wp21
 refine l.mono ?_;rintro e w1 ⟨rfl,b⟩;have c:=d.keep (rF b _);have⟨m,o,p⟩:=c.cells;have f:=am c;go_wp21
 go_ret;have a:=f.move (i+1);rw[show((i+1:Nat):Int)=(i:Int)+1 by omega]at a;exact⟨rfl,a.1,(rF b _).trans a.2⟩
def art(h:Pp E w i)(b:i<E.n)(c:(E.tk i).k≠k):A2 V 180 #[pV E,O U k] w (jf w (Bk B1)):=by
 have f:((E.tk i).k !=k)=B2:=by simp[c]
 have d:=aiz h b;go_in;go_wp2_with (go_at_call 61;refine d.mono ?_;rintro e w1 ⟨rfl,a⟩);go_ret;exact⟨rfl,a⟩
def aiA(h:Pp E w i)(v:i<E.n):A2 V 32 #[pV E] w λe w'=>(∃l,((E.tk i).k≠6->l=(E.tk i).l)/\e= A3 (B6 #[O U (E.tk i).k,O U (E.tk i).f,O U (E.tk i).t,O U l,O U (E.tk i).n,A1 (E.tk i).x]))/\cg w w':=by
 have g:=dC w (Ad #[O U 0,O U 0,O U 0,O U 0,O U 0,A1 ⟨#[]⟩] 49);have m:=h.keep (rF g _);have⟨r,s,u⟩:=m.cells;have⟨l,z,C,F,G,H,I,J⟩:=m.tok v;have⟨d,o⟩:=aC (w.alloc (Ad #[O U 0,O U 0,O U 0,O U 0,O U 0,A1 ⟨#[]⟩] 49));have A:d.heap[w.heap.size]?=Z (Ad #[O U 0,O U 0,O U 0,O U 0,O U 0,A1 ⟨#[]⟩] 49 (0,0)):=by rw[<-o];exact aA w _
 rw[o]at m r s u C F G H I J g;have b:=gF A g;have af:E.pb≠w.heap.size:=by have:=h.lt;omega
 have ak:E.tb≠w.heap.size:=by
  have⟨L,ad,B,_⟩:=h.tks;have:=ai B;omega
 go_in;go_wp21
 have⟨z0,al,an,ao,ap,ar⟩:=iw b.1;have⟨av,aK,a0,a1,a2,a3⟩:=qk b.1;have p:=λk (h:k≠w.heap.size) a=>yx (W:=d) h a;unfold six at p;go_region_held3 (λq=>∀k,k≠w.heap.size->∀a,q.cell? ⟨k,a,Y⟩=d.cell? ⟨k,a,Y⟩) (first|with_reducible exact λk h a=>p k h a _ _ _ _ _ _|exact λ_ _ _=>rfl) (fail)
 have j:=Dn d w.heap.size (O U (E.tk i).k) (O U (E.tk i).f) (O U (E.tk i).t) (O U l) (O U (E.tk i).n) (A1 (E.tk i).x);have c:=Hu b.1 (O U (E.tk i).k) (O U (E.tk i).f) (O U (E.tk i).t) (O U l) (O U (E.tk i).n) (A1 (E.tk i).x);rw[<-rK]at c;unfold six at j c;generalize World.drew _=K at j c⊢;go_wp2;exact aL (io rfl _ _ w.heap.size _ _ _ _ rfl c underlying49 rfl (by kernel_rfl)) rfl ⟨⟨l,z,rfl⟩,b.2.grown j (by have:=b.2.size;omega) (λk y=>by cases y;omega)⟩
def alD(h:Pp E w (i+1))(y:i<E.n)(nk:Int)(T:Tk)(a:Option Addr)(n c:Nat):A2 V 182 #[pV E,O U nk,vTk T,Ax a n c] w (jf w (B6 #[O U nk,O U T.f,O U (E.tk i).t,O U T.l,O U 0,Ax a n c])):=by
 have u:=dC w (Ad (qh T.k T) 49);have m:cg w ((w.alloc (Ad (qh T.k T) 49)).alloc (Ad #[O U 0,O U 0,O U 0,O U 0,O U 0,Ax Y 0 0] 88)):=u.alloc (by simp) _;have p:=h.keep (rF m _);have⟨v,q,x⟩:=p.cells;have⟨l,al,F,G,H,I,J,K⟩:=p.tok y;rw[show((i+1:Nat):Int)=(i:Int)+1 by omega]at q;have ak:=h.hn;have ar:IntKind.i64.wrap (i:Int)=(i:Int):=by rw[dr];omega
 have⟨g,k⟩:=aC ((w.alloc (Ad (qh T.k T) 49)).alloc (Ad #[O U 0,O U 0,O U 0,O U 0,O U 0,Ax Y 0 0] 88));have B:g.heap[w.heap.size+1]?=Z (Ad #[O U 0,O U 0,O U 0,O U 0,O U 0,Ax Y 0 0] 88 (0,0)):=by
  have:=aA (w.alloc (Ad (qh T.k T) 49)) (Ad #[O U 0,O U 0,O U 0,O U 0,O U 0,Ax Y 0 0] 88);rw[fe]at this;rw[<-k];exact this
 have A:g.heap[w.heap.size]?=Z (Ad (qh T.k T) 49 (0,0)):=by
  rw[<-k];exact((dC (w.alloc (Ad (qh T.k T) 49)) _).block _ (by simp)).trans (aA w _)
 rw[k]at p v q x F G H I J K m;have e:=gF B m;have⟨av,aK,a0,a1,a2,a3⟩:=iw A;have an:E.pb≠w.heap.size+1:=by have:=h.lt;omega
 have ao:E.tb≠w.heap.size+1:=by
  have⟨ad,af,C,_⟩:=h.tks;have:=ai C;omega
 have ap:w.heap.size≠w.heap.size+1:=by omega
 simp only[qh]at k;unfold vTk;go_in;go_wp21
 have⟨z0,a4,a5,a6,a7,a8⟩:=iw e.1;have⟨a9,ba,bb,bd,bf,bh⟩:=qk e.1;have r:=λb (h:b≠w.heap.size+1) d=>yx (W:=g) h d;unfold six at r;go_region_held3 (λs=>∀b,b≠w.heap.size+1->∀d,s.cell? ⟨b,d,Y⟩=g.cell? ⟨b,d,Y⟩) (first|with_reducible exact λb h d=>r b h d _ _ _ _ _ _|exact λ_ _ _=>rfl) (fail)
 have o:=Dn g (w.heap.size+1) (O U nk) (O U T.f) (O U (E.tk i).t) (O U T.l) (O U 0) (Ax a n c);have j:=Hu e.1 (O U nk) (O U T.f) (O U (E.tk i).t) (O U T.l) (O U 0) (Ax a n c);rw[<-rK]at j;unfold six at o j;generalize World.drew _=L at o j⊢;go_wp2;exact aL (io rfl _ _ (w.heap.size+1) _ _ _ _ rfl j underlying88 rfl (by kernel_rfl)) rfl ⟨rfl,e.2.grown o (by have:=e.2.size;omega) (λb z=>by cases z;omega)⟩
end
section
variable {E : Pe} {W w w' : World} {i j q : Nat} {k nk : Int} {kv v : Value} {kn vs us ws : List Value} {D R : Fo} {T : Bxs} {M : List (Value × List ByteArray)} {f : FuncId} {args : Array Value}
def oK(S:A9 (Sw E W w i kv kn D vs T M))(d:(E.tk i).k=k)(c:i<E.n:=by omega):A2 V 61 #[pV E] w λe w'=>e= A3 (O U k)/\A9 (Sw E W w' i kv kn D vs T M):=by
 rw[<-d];refine(aiz S.pp c).mono ?_;rintro e w' ⟨b,a⟩;exact⟨b,sB S a⟩
def lC(S:A9 (Sw E W w i kv kn D vs T M))(f:(E.tk i).k=k)(d:i<E.n)(a:k≠6:=by decide):A2 V 62 #[pV E] w λe w'=>e= A3 (B6 (qh k (E.tk i)))/\A9 (Sw E W w' (i+1) kv kn D vs T M):=by
 rw[<-f]at a⊢;refine(arr S.pp d a).mono ?_;rintro e w' ⟨c,b⟩;exact⟨c,sX S b⟩
def xg(S:A9 (Sw E W w i kv kn D vs T M))(d:(E.tk i).k=k)(c:i<E.n:=by omega):A2 V 180 #[pV E,O U k] w λe w'=>e= A3 (Bk B2)/\A9 (Sw E W w' (i+1) kv kn D vs T M):=by
 refine(ars S.pp c d).mono ?_;rintro e w' ⟨b,a⟩;exact⟨b,sX S a⟩
def Ca(S:A9 (Sw E W w i kv kn D vs T M))(d:(E.tk i).k≠k)(c:i<E.n:=by omega):A2 V 180 #[pV E,O U k] w λe w'=>e= A3 (Bk B1)/\A9 (Sw E W w' i kv kn D vs T M):=by
 refine(art S.pp c d).mono ?_;rintro e w' ⟨b,a⟩;exact⟨b,sB S a⟩
def E8(S:A9 (Sw E W w i kv kn D vs T M))(f:(E.tk i).k=k)(d:i<E.n)(b:k≠6):A2 V 32 #[pV E] w λe w'=>e= A3 (B6 (qh k (E.tk i)))/\A9 (Sw E W w' i kv kn D vs T M):=by
 rw[<-f]at b⊢;refine(aiA S.pp d).mono ?_;rintro e w' ⟨⟨h,g,a⟩,c⟩;rw[g b]at a;exact⟨a,sB S c⟩
def F8(S:A9 (Sw E W w i kv kn D vs T M))(a:t.k=k):∃w',w.alloc (Ad (qh k t) 49)=w'/\A9 (Sw E W w' i kv kn D vs (tkB w.heap.size t::T) M):=by
 rw[<-a];exact⟨_,rfl,S.box t⟩
def F9(S:A9 (Sw E W w i kv kn D vs (tkB b t::T) M))(a:t.k=k):w.cell? ⟨b,0,Y⟩=Z (O U k)/\w.cell? ⟨b,1,Y⟩=Z (O U t.f)/\w.cell? ⟨b,2,Y⟩=Z (O U t.t)/\w.cell? ⟨b,3,Y⟩=Z (O U t.l)/\w.cell? ⟨b,4,Y⟩=Z (O U t.n)/\w.cell? ⟨b,5,Y⟩=Z (A1 t.x):=by
 rw[<-a];exact iw (S.tb _ (aI ..)).2.2
def De.form{lo:Nat}{c:Option Nat}(h:De w lo c R [v]):∃t p,v= B0 t p:=by
 cases R with
 |nil=>obtain⟨b,a,_⟩:=h;cases a
 |cons d i l=>
  obtain⟨b,e,k,n,m,j,o,f,g,a,_⟩:=h;exact⟨_,_,(gL a.1).1⟩
def xH(S:A9 (Sw E W w i kv kn D vs T M))(C:CN E f args i R j)(c:R.sz<=50000000:=by omega):A2 V f args w λe w'=>∃t p,e= A3 (B0 t p)/\A9 (Sw E W w' j kv kn (D.app R) (vs++[B0 t p]) T M):=by
 refine(C w S.pp c).mono ?_;rintro e w' ⟨d,b,a⟩;obtain⟨t,p,rfl⟩:=De.form a.nn;exact⟨t,p,b,S.sub a⟩
def adE(S:A9 (Sw E W w i s0 [] D vs T M))(C:CR E f args i R j)(g:R.sz<=50000000:=by omega):A2 V f args w λe w'=>∃a n c us,e= A3 (Ax a n c)/\A9 (Sw E W w' j (Ax a n c) us (D.app R) (vs++us) T M)/\us.length=n:=by
 refine(C w S.pp g).mono ?_;rintro e w' ⟨h,us,d,b⟩;obtain⟨a,c,rfl⟩:=di b.ro;exact⟨a,_,c,us,d,S.subL b,rfl⟩
def LL(S:A9 (Sw E W w i s0 [] D vs T M))(us:List Ak)(cs:Array Ak)(a:cs=us.toArray)(n:Nat)(b:us.length=n)(c:n<=100):∃w',w.alloc (Ad cs 55)=w'/\A9 (Sw E W w' i (Ax (Z ⟨w.heap.size,0,Y⟩) n n) us D vs T M):=by
 subst a b;exact⟨_,rfl,S.lit us c⟩
def sx(S:A9 (Sw E W w j kv kn D vs T M))(h:t.k=k)(i:1<=j)(m:j<=E.n)(nk:Int)(a:Option Addr)(n c:Nat):A2 V 182 #[pV E,O U nk,B6 (qh k t),Ax a n c] w λe w'=>e= A3 (B6 #[O U nk,O U t.f,O U (E.tk (j-1)).t,O U t.l,O U 0,Ax a n c])/\A9 (Sw E W w' j kv kn D vs T M):=by
 rw[<-h];obtain⟨b,rfl⟩:∃b,j=b+1:=⟨j-1,by omega⟩;refine(alD S.pp (by omega) nk t a n c).mono ?_;rintro e w' ⟨g,d⟩;exact⟨g,sB S d⟩
def asI{vn:Ak}(N:Nd)(S:A9 (Sw E W w i kv vs D vs T ((vn,N.nm)::M)))(d:oJ N (fJ N.k)=N){cs:Array Ak}(e:cs=([O U N.k,O U N.f,O U N.t,O U N.l,O U 0,kv]++exT N vn (fJ N.k)).toArray){st:Br}(ht:st=xx (fJ N.k)):A9 (Sw E W (w.alloc (Ad cs st)) i s0 [] (one N D) [gq N.k w.heap.size] [] []):=(S.fin0 N vn d (S.nm _ (aI ..)) cs e st ht (M':=[]) (λg b=>by cases b) (λc a=>by
 have a:(c++(vn.ownBlock.toList++mB M)).Nodup:=a;rw[show mB []=[] from rfl,dk,dk];rw[<-bC]at a;exact(List.perm_append_comm.nodup_iff).1 (List.nodup_append.1 a).1)).drop (λg b=>by cases b) (.inr rfl)
def G8(S:A9 (Sw E W w i kv vs D vs T M))(N:Nd)(a:oJ N (fJ N.k)=N)(d:N.nm=[]){cs:Array Ak}(b:cs=([O U N.k,O U N.f,O U N.t,O U N.l,O U 0,kv]++exT N s0 (fJ N.k)).toArray){st:Br}(ht:st=xx (fJ N.k)):A9 (Sw E W (w.alloc (Ad cs st)) i s0 [] (one N D) [gq N.k w.heap.size] T M):=S.fin0 N s0 a (by rw[d];exact fs _ _ _ _) cs b st ht (λh e=>e) (λg c=>by rw[show(s0:Ak).ownBlock.toList=[] from rfl,dI,dk];exact c)
def L8(S:A9 (Sw E W w i kv vs D vs T M))(N:Nd)(a:oJ N (fJ N.k)=N)(c:N.nm=[]){cs:Array Ak}(b:cs=([O U N.k,O U N.f,O U N.t,O U N.l,O U 0,kv]++exT N s0 (fJ N.k)).toArray){st:Br}(ht:st=xx (fJ N.k)):A9 (Sw E W (w.alloc (Ad cs st)) i s0 [] (one N D) [gq N.k w.heap.size] [] []):=(G8 S N a c b ht).out.drop (λe d=>by cases d) (.inr rfl)
def De.cell:∀(R:Fo)(vs:List Ak){lo:Nat}{ex:Option Nat},De w lo ex R vs->∀u∈vs,u.oneCell'=B2
 | .nil,vs,lo,ex,⟨b,h⟩=>by obtain⟨rfl,rfl⟩:=h;intro u hu;cases hu
 | .cons g l e,vs,lo,ex,⟨b,i,p,s,r,n,f,k,a,c,j,o,m,q,d⟩=>by
  intro u hu;rw[c.1]at hu;rcases List.mem_cons.1 hu with rfl|hu
  .rfl
  .exact De.cell e f ⟨a,d⟩ u hu
def afn:(Tryz.prog.info? 55).map (λi=>(i.zero,i.size,i.bytes))=Z (Z .nilIface,1,16):=by kernel_rfl
def tJ{q:List Oper}(i:o.guard=Y)(s x:Operand)(k:o.op= .call {callee:= .builtin .append,args:=#[s,x],argTypes:=#[86,86]}){base t:Nat}{r:Ak}(m:a.eval s=kv)(f:w.ownsRow base 55 1 kv kn.length kn)(n:a.eval x=r)(K:w.ownsRow t 55 1 r us.length us)(z:∀u∈us,u.oneCell'=B2)(an:kn.length+us.length<=100000000)(B:base<=w.heap.size)
  (h:∀b d c w',w'.ownsRow base 55 1 (Ax b d c) (kn++us).length (kn++us)->d=kn.length+us.length->w.grownBy w' kv.ownBlock->((B3 b d c).ownBlock=kv.ownBlock\/(B3 b d c).ownBlock=Z w.heap.size)->wpList V ops Q q (a.put o.dst (Ax b d c)) w'):wpList V ops Q (o::q) a w:=by
 have⟨p,j,G,H,I⟩:=fh afn;rcases K.2 with⟨rfl,F⟩|⟨y,v,L,rfl,al,C,ad,af,ak,g⟩
 .refine wpList_append_own_none i s x 86 k base 55 p 1 underlying86 j _ _ _ m f n ?_;obtain⟨b,c,rfl⟩:=di f;obtain rfl:us=[]:=List.length_eq_zero_iff.1 F;exact h _ _ _ w (by simpa using f) (by simp) (ux _ _) (.inl rfl)
 .refine B4 _ i s x 86 k base 55 p _ 1 16 underlying86 j G H I rfl (by decide) _ _ _ m f ⟨y,0,Y⟩ us.length v us n (by omega) (λJ u e=>World.news_of_block C J u (by rw[sH]at g;rw[<-g,nh]at e;split at e;exact e;cases e)) z (by unfold B7;omega) (by omega) B ?_;intro ao w1 l E _ A;obtain⟨b,c,rfl⟩:=di l;exact h _ _ _ w1 (by rw[aG];exact l) rfl E A
end
section
variable {E : Pe} {W w : World} {i j b n : Nat} {kv u : Value} {kn vs : List Value} {D R : Fo} {T : Bxs} {M : List (Value × List ByteArray)} {t : TypeId} {cs : Array Value}
def sRd(S:A9 (Sw E W w i kv kn D vs ((b,t,cs)::T) M)):(∀q,w.cell? ⟨b,q,Y⟩=cs[q]?)/\(∀q,w.frozen? ⟨b,q,Y⟩=B1)/\b<w.heap.size:=by
 have a:=(S.tb _ (.head _)).2.2;exact⟨λq=>by rw[aj _ _ _ _ _ _ a],λq=>cH _ _ _ _ _ a,ai a⟩
def sBx(S:A9 (Sw E W w i kv kn D vs T M))(a:t≠55:=by decide)(b:t≠9:=by decide):A9 (Sw E W (w.alloc (Ad cs t)) i kv kn D vs ((w.heap.size,t,cs)::T) M):=S.boxg cs t a b
def sLt(S:A9 (Sw E W w i s0 [] D vs T M))(a:cs.toList.length=n:=by rfl)(b:Nat.ble n 100=B2:=by rfl):A9 (Sw E W (w.alloc (Ad cs 55)) i (Ax (Z ⟨w.heap.size,0,Y⟩) n n) cs.toList D vs T M):=by
 subst a;exact S.lit cs.toList (Nat.le_of_ble_eq_true b)
def sLn(S:A9 (Sw E W w i kv kn D vs T M)):vs.length<=D.sz:=by
 have:=De.len _ _ S.nn;have:=D.len_le;omega
def sAp{g:List Oper}(S:A9 (Sw E W w i kv kn D vs T M))(p:u.oneCell'=B2)(v:kn.length<=50000000)(l:o.guard=Y)(s x:Operand)(m:o.op= .call {callee:= .builtin .append,args:=#[s,x],argTypes:=#[86,86]})(n:a.eval s=kv)(r:a.eval x= Ax (Z ⟨w.heap.size,0,Y⟩) 1 1)
  (h:∀b d c w',A9 (Sw E W w' i (Ax b d c) (kn++[u]) D vs T M)->wpList V ops Q g (a.put o.dst (Ax b d c)) w'):wpList V ops Q (o::g) a (w.alloc (Ad #[u] 55)):=by
 have f:=sB S (dC w (Ad #[u] 55));exact tJ l s x m n f.ro r (vw (base:=w.heap.size) (e:=55) (size:=1) w #[u] 1 (ag _) (by unfold B7;omega) rfl) (us:=[u]) (by intro y q;rw[List.mem_singleton.1 q];exact p) (by simp only[bc,dE];omega) (by rw[fe];have:=S.gr.size;omega) λb d c w' t _ k j=>h b d c w' (f.out.put t k j)
end
def abI{j:List Oper}(r:o.guard=Y)(s x:Operand)(u:o.op= .call {callee:= .builtin .append,args:=#[s,x],argTypes:=#[31,31]})(base:Nat)(c:Option Addr)(n f:Nat)(l:List ByteArray)(y:a.eval s= Ax c n f)(I:l.length=n)(v:w.ownsRow base 9 1 (Ax c n f) n (l.map A0))(p:base<=w.heap.size)(b:Nat)(z:ByteArray)(B:a.eval x= Ax (Z ⟨b,0,Y⟩) 1 1)(m:w.heap[b]?=Z (Ad #[A1 z] 9 (0,0)))(H:n<=50000000)
  (h:∀g d w1,w1.ownsRow base 9 1 (Ax (Z ⟨g,0,Y⟩) (n+1) d) (n+1) ((l++[z]).map A0)->w.grownBy w1 (B3 c n f).ownBlock->((B3 c n f).ownBlock=Z g\/g=w.heap.size)->wpList V ops Q j (a.put o.dst (Ax (Z ⟨g,0,Y⟩) (n+1) d)) w1):wpList V ops Q (o::j) a w:=by
 have⟨G,t,C,E,F⟩:=fh LK;refine B4 _ r s x 31 u base 9 G _ 1 16 underlying31 t C E F rfl (by decide) _ _ _ y v ⟨b,0,Y⟩ 1 1 [A1 z] B rfl (World.news_of_block (cs:=#[A1 z]) m) (by intro J A;rw[List.mem_singleton.1 A];rfl) (by unfold B7;omega) (by omega) p ?_;intro K w1 i q _ k;obtain⟨g,d,rfl⟩:=ownsRow_succ i;exact h g d w1 (by rw[eJ];exact i) q (by rcases k with e|e;exact .inl e.symm;exact .inr (by simpa [Bn] using e))
def afo(w:Bc)(x:ByteArray):(w.alloc (Ad #[A1 x] 9)).ownsRow w.heap.size 9 1 (Ax (Z ⟨w.heap.size,0,Y⟩) 1 1) 1 [A1 x]:=by
 have:=vw (base:=w.heap.size) (e:=9) (size:=1) w #[A1 x] 1 (ag _) (by unfold B7;omega) (by simp);simpa using this
section
variable {E : Pe} {i j k k1 : Nat} {x y R Ex : Fo}
def adF{m:Nat}(a2:∀(args:Array Ak) (w:Bc),(callFunc f args).run V w= .ok (.enter f args) w)(an:CN E f #[pV E] i x k)(al:Ls E (CN E f #[pV E]) m k R j):CR E 181 #[pV E,.func (.func f) #[pV E] #[]] i (x.app R) j:=by
 intro w L af;have C:=Sw.start L;have B:=al;have ak:=af;rw[Fo.sz_app]at ak;go_in;go_wp21
 refine(xH C an).mono ?_;rintro l w1 ⟨u,t,rfl,F⟩;have⟨a9,a1,a⟩:=LL F [B0 u t] #[B0 u t] rfl 1 rfl (by decide);have y:=a;go_wp21
 go_loopg [5] m (λgk av wr=>∃(k:Nat) (D d:Fo) (g:Option Addr) (p h:Nat) (c:List Ak),av= Ax g p h/\A9 (Ls E (CN E f #[pV E]) gk k d j/\Sw E w wr k (Ax g p h) c D c [] []/\D.app d=x.app R))
 case atStart=>exact⟨k,x,R,_,1,1,_,rfl,B,y,rfl⟩
 case round=>
  obtain⟨a6,D,d,g,p,h,c,rfl,A⟩:=hrel;have⟨ad,s,b⟩:=A.out;have a:=s;have a3:=De.len _ _ s.nn;cases ad with
  |stop n o=>
   rw[Fo.app_nil]at b;go_wp21
   refine dt (Ca a n o) λaK e=>?_;go_wp21
   go_ret;exact⟨_,c,rfl,by rw[<-b];exact e⟩
  |@go ap _ ao _ v r n o J K=>
   have a4:D.sz+(v.sz+r.sz)<=50000000:=by have l:=congrArg Fo.sz b;simp only[Fo.sz_app]at l;omega
   have a0:=D.len_le;have q:=gF b K;go_wp21
   refine dt (xg a n o) λaK e=>?_;go_wp21
   refine(xH e J).mono ?_;rintro l ba ⟨a8,a7,rfl,G⟩;go_wp2_with (at_builtin;refine sAp G rfl (by omega) rfl _ _ rfl rfl rfl ?_;intro I ar c5 w5 H);have z:=H;go_roundg ap
   case measure=>omega
   case rel=>exact⟨ao,D.app v,r,I,ar,c5,_,rfl,q.2,z,by rw[Fo.app_app];exact q.1⟩
def aiB{m:Nat}(hj:(E.tk j).k=43\/(E.tk j).k=6)(J:Ss E (CN E 63 #[pV E]) m i R j):CR E 31 #[pV E] i R j:=by
 intro ak H ap;have x:=Sw.start H;have A:=J;go_in;go_wp21
 go_loopg [3] m (λgk af wr=>∃(k:Nat) (D e:Fo) (f:Option Addr) (h g:Nat) (d:List Ak),af= Ax f h g/\A9 (Ss E (CN E 63 #[pV E]) gk k e j/\Sw E ak wr k (Ax f h g) d D d [] []/\D.app e=R))
 case atStart=>exact⟨i,.nil,R,Y,0,0,[],rfl,A,x,rfl⟩
 case round=>
  obtain⟨L,D,e,f,h,g,d,rfl,z⟩:=hrel;have⟨I,u,c⟩:=z.out;have l:=u;have ar:=De.len _ _ u.nn;cases I with
  |stop t=>
   rw[Fo.app_nil]at c;rcases hj with hj|hj;all_goals
    go_wp21
    refine dt (oK l hj) λv b=>?_;go_wp21
    go_ret;exact⟨_,d,rfl,by rw[<-c];exact b⟩
  |@sep q _ _ _ o t p=>
   have a:=gF c p;go_wp21
   refine dt (oK l o) λv b=>?_;go_wp21
   refine dt (lC b o (by omega)) λal n=>?_;go_wp21
   go_roundg q
   case measure=>omega
   case rel=>exact⟨L+1,D,e,f,h,g,d,rfl,a.2,n,a.1⟩
  |@go q _ K _ w r o t an F G p=>
   have av:D.sz+(w.sz+r.sz)<=50000000:=by have s:=congrArg Fo.sz c;simp only[Fo.sz_app]at s;omega
   have ao:=D.len_le;have a:=gF c p;go_wp21
   refine dt (oK l rfl F) λv b=>?_;go_wp21
   refine(xH b G).mono ?_;rintro s al ⟨a0,aK,rfl,n⟩;go_wp2_with (at_builtin;refine sAp n rfl (by omega) rfl _ _ rfl rfl rfl ?_;intro C ad c5 w5 B);have y:=B;go_roundg q
   case measure=>omega
   case rel=>exact⟨K,D.app w,r,C,ad,c5,_,rfl,a.2,y,by rw[Fo.app_app];exact a.1⟩
def alE(b c d e f a:Ak)(w:Bc):(Instr.field 49 (B6 #[b,c,d,e,f,a]) 5).run V w= .ok a w:=by kernel_rfl
def CT(E:Pe)(i:Nat)(ns:List ByteArray)(j:Nat):Prop:=
 ∀w,Pp E w i->A2 V 179 #[pV E] w λa w'=>∃v,a= A3 v/\(Pp E w' j/\w.grownBy w' (Z E.pb))/\w'.ownsRow w.heap.size 9 1 v (ns.map A0).length (ns.map A0)
def Sw.putN{j:Bc}{v r:Ak}{m:List ByteArray}(h:Sw E W w i s0 [] .nil [] T [(v,ns)])(o:j.ownsRow W.heap.size 9 1 r (m.map A0).length (m.map A0))(g:w.grownBy j v.ownBlock):Sw E W j i s0 [] .nil [] T [(r,m)]:=by
 have n:=h.nm (v,ns) (aI ..);have l:∀{f:Nat}{d:Array Ak}{p:Br}{e:Nat×Nat},w.heap[f]?=Z (Ad d p e)->p≠9->j.heap[f]?=Z (Ad d p e):=λb t=>(g.block _ (ai b) (λk=>gC n b t k.symm)).trans b;have⟨d,e,u,x⟩:=h.pp.tks;have⟨z,s,q⟩:=h.pp.pw;have y:=(g.block _ (ai q) (λk=>by have:=(n.lt _ k.symm).1;have:=h.lt;have:=h.pp.pg;omega)).trans q;refine⟨⟨h.pp.hn,⟨d,e,l u (by decide),x⟩,l h.pp.row (by decide),h.pp.pg,z,s,y⟩,h.gr.andThen g (λf b=> .inl (n.lt f b).1),h.lt,fs _ _ _ _,⟨[],⟨rfl,rfl⟩,by simp[mB,Jj]⟩,λc a=>⟨(h.tb c a).1,(h.tb c a).2.1,l (h.tb c a).2.2 (h.tb c a).2.1.2⟩,λc a=>?_⟩;obtain rfl:=List.mem_singleton.1 a;exact o
def aru{D:Fo}(S:A9 (Sw E W w i kv kn D vs T M))(C:CT E i ns j):A2 V 179 #[pV E] w λe w'=>∃a n c,e= A3 (Ax a n c)/\A9 (Sw E W w' j kv kn D vs T ((Ax a n c,ns)::M)):=by
 refine(C w S.pp).mono ?_;rintro e w' ⟨g,d,f,b⟩;obtain⟨a,c,rfl⟩:=di b;exact⟨a,_,c,d,S.name f b⟩
def xI(ao:(E.tk i).k=1)(a2:i<E.n)(ar:FE E.tk E.n (i+1) ns j):CT E i ((E.tk i).x::ns) j:=by
 intro e y;have I:=Sw.start y;have G:=ar;have a3:=y.hn;have a1:=alE;go_in;go_wp21
 refine dt (lC I ao (by omega)) λw1 r=>?_;simp only[qh];go_wp21
 have t:=dC w1 (Ad #[A1 (E.tk i).x] 9);have C:A9 (Sw E e (w1.alloc (Ad #[A1 (E.tk i).x] 9)) (i+1) s0 [] .nil [] [] [(Ax (Z ⟨w1.heap.size,0,Y⟩) 1 1,[(E.tk i).x])]):=r.name ⟨r.pp.keep (rF t _),rF t _⟩ (afo w1 (E.tk i).x);go_loopg [3] ns.length (λgk aK wr=>∃(k:Nat) (D l:List ByteArray) (b:Option Addr) (n c:Nat),aK= Ax b n c/\gk=l.length/\D.length=n/\A9 (FE E.tk E.n k l j/\Sw E e wr k s0 [] .nil [] [] [(Ax b n c,D)]/\D++l=(E.tk i).x::ns/\i+2*D.length=k+1))
 case atStart=>exact⟨i+1,[(E.tk i).x],ns,_,1,1,rfl,rfl,rfl,G,C,rfl,by simp⟩
 case round=>
  obtain⟨d,D,l,b,n,c,rfl,an,h,F⟩:=hrel;have⟨ad,af,g,ak⟩:=F.out;have s:=af;cases ad with
  |stop p v=>
   rw[dk]at g;go_wp21
   refine dt (Ca s p v) λa0 a=>?_;go_wp21
   go_ret;exact⟨_,rfl,⟨a.pp,a.gr⟩,by rw[<-g];exact a.nm _ (aI ..)⟩
  |@go _ _ A p v K w=>
   have ap:n<=50000000:=by omega
   have m:=kK g w ak;clear g w;go_wp21
   refine dt (xg s p) λa0 a=>?_;go_wp21
   refine dt (lC a K (by omega)) λf o=>?_;simp only[qh];have q:=o.nm _ (aI ..);rw[bq,h]at q;have H:A9 (f.ownsRow e.heap.size 9 1 (Ax b n c) n (D.map A0)):=q;clear q;go_wp2_with (at_builtin;refine abI rfl _ _ rfl e.heap.size b n c D rfl h (dA H (dC f _)) (by rw[fe];have:=o.gr.size;omega) f.heap.size (E.tk (d+1)).x rfl (aA f _) ap ?_;intro L u w5 B z al;have J:A9 (Sw E e w5 (d+1+1) s0 [] .nil [] [] [(Ax (Z ⟨L,0,Y⟩) (n+1) u,D++[(E.tk (d+1)).x])]):=(sB o (dC f _)).out.putN (by rw[bq,aG,h];exact B) z;clear B z al);go_roundg A.length
   case measure=>rw[an];simp
   case rel=>exact⟨d+2,D++[(E.tk (d+1)).x],A,_,n+1,u,rfl,rfl,by rw[aG,h];rfl,m.2.1,J,by rw[bC];exact m.1,by have:=m.2.2;rw[aG,Ch];omega⟩
end
def cfE(args:Array Ak)(w:Bc):(callFunc 118 args).run V w= .ok (.enter 118 args) w:=by kernel_rfl
def cfB(args:Array Ak)(w:Bc):(callFunc 119 args).run V w= .ok (.enter 119 args) w:=by kernel_rfl
def arv{r:Bool}(f:i<E.n)(d:decide ((E.tk i).k=5\/(E.tk i).k=6\/(E.tk i).k=43)=r){D:Fo}(S:A9 (Sw E W w i kv kn D vs T M)):A2 V 184 #[pV E] w λe w'=>e= A3 (Bk r)/\A9 (Sw E W w' i kv kn D vs T M):=by
 subst d;by_cases a:(E.tk i).k=5<;>by_cases b:(E.tk i).k=6<;>by_cases c:(E.tk i).k=43;all_goals
  try omega
 all_goals
  try have g:=beq_eq_false_iff_ne.2 a
  try have h:=beq_eq_false_iff_ne.2 b
  try have j:=beq_eq_false_iff_ne.2 c
  go_in
  repeat (go_wp2_with fail;go_at_call 61;first|refine dt (oK S (by assumption)) λw S=>?_|refine dt (oK S rfl) λw S=>?_)
  go_wp2;go_ret;simp only[a,b,c];exact⟨rfl,S⟩
section
variable (E : Pe)
abbrev cE(i:Nat)(x:Fo)(j:Nat):=CN E 118 #[pV E] i x j
abbrev cK(i:Nat)(x:Fo)(j:Nat):=CN E 120 #[pV E] i x j
abbrev cL(f:FuncId)(i:Nat)(x:Fo)(j:Nat):=CR E 181 #[pV E,.func (.func f) #[pV E] #[]] i x j
inductive Wi (i:Nat):FuncId->Array Value->Fo->Nat->Prop
 |leaf {k nk:Int}:nk=11\/nk=12\/nk=20\/nk=21\/nk=22\/nk=27->k≠6->(E.tk i).k=k->i+1<E.n->Wi i 114 #[pV E,.int .i64 nk] (one (jx nk (E.tk i) (E.tk i).t) .nil) (i+1)
 |wthE {x:Fo}{j:Nat}:(E.tk i).k=28->i<E.n->cE E (i+1) x j->1<=j->j<=E.n->Wi i 117 #[pV E,.int .i64 15,.func (.func 118) #[pV E] #[]] (one (jx 15 (E.tk i) (E.tk (j-1)).t) x) j
 |wthB {x:Fo}{j:Nat}:(E.tk i).k=14->i<E.n->CN E 119 #[pV E] (i+1) x j->1<=j->j<=E.n->Wi i 117 #[pV E,.int .i64 16,.func (.func 119) #[pV E] #[]] (one (jx 16 (E.tk i) (E.tk (j-1)).t) x) j
 |whl {x y:Fo}{k j:Nat}:(E.tk i).k=31->i<E.n->cE E (i+1) x k->cK E k y j->1<=j->j<=E.n->Wi i 112 #[pV E] (one (jx 8 (E.tk i) (E.tk (j-1)).t) (x.app y)) j
 |blk {x:Fo}{k:Nat}:(E.tk i).k=42->i<E.n->CR E 31 #[pV E] (i+1) x k->(E.tk k).k=43->k+1<E.n->Wi i 120 #[pV E] (one (jx 1 (E.tk i) (E.tk k).t) x) (k+1)
 |let0 {ns:List ByteArray}{k:Nat}:(E.tk i).k=22->i<E.n->CT E (i+1) ns k->1<=k->k<E.n->(E.tk k).k≠47->Wi i 108 #[pV E] (one (nd 2 (E.tk i) (E.tk (k-1)).t 0 0 z0 ns) .nil) k
 |let1 {ns:List ByteArray}{k j:Nat}{x:Fo}:(E.tk i).k=22->i<E.n->CT E (i+1) ns k->k<E.n->(E.tk k).k=47->cL E 118 (k+1) x j->1<=j->j<=E.n->Wi i 108 #[pV E] (one (nd 2 (E.tk i) (E.tk (j-1)).t 0 0 z0 ns) x) j
 |con {ns:List ByteArray}{k j:Nat}{x:Fo}:(E.tk i).k=13->i<E.n->CT E (i+1) ns k->k<E.n->(E.tk k).k=47->cE E (k+1) x j->1<=j->j<=E.n->Wi i 109 #[pV E] (one (nd 3 (E.tk i) (E.tk (j-1)).t 0 0 z0 ns) x) j
 |fn {ns:List ByteArray}{k j:Nat}{x:Fo}:(E.tk i).k=18->i<E.n->CT E (i+1) ns k->k<E.n->(E.tk k).k=40->CN E 183 #[pV E,.agg (qh 40 (E.tk k))] k x j->1<=j->j<=E.n->Wi i 110 #[pV E] (one (nd 4 (E.tk i) (E.tk (j-1)).t 0 0 z0 ns) x) j
 |ret0:(E.tk i).k=27->i+1<E.n->decide ((E.tk (i+1)).k=5\/(E.tk (i+1)).k=6\/(E.tk (i+1)).k=43)=true->Wi i 115 #[pV E] (one (jx 13 (E.tk i) (E.tk i).t) .nil) (i+1)
 |ret1 {x:Fo}{j:Nat}:(E.tk i).k=27->i+1<E.n->decide ((E.tk (i+1)).k=5\/(E.tk (i+1)).k=6\/(E.tk (i+1)).k=43)=false->cL E 118 (i+1) x j->1<=j->j<=E.n->Wi i 115 #[pV E] (one (jx 13 (E.tk i) (E.tk (j-1)).t) x) j
 |try_ {ns:List ByteArray}{x y:Fo}{k k1 j:Nat}:(E.tk i).k=30->i<E.n->cK E (i+1) x k->(E.tk k).k=12->k<E.n->CT E (k+1) ns k1->cK E k1 y j->1<=j->j<=E.n->Wi i 116 #[pV E] (one (nd 14 (E.tk i) (E.tk (j-1)).t 0 0 z0 ns) (x.app y)) j
 |for_ {nk q:Int}{ns:List ByteArray}{x y:Fo}{k k1 j:Nat}:(nk=9/\q=47)\/(nk=10/\q=21)->(E.tk i).k=19->i<E.n->CT E (i+1) ns k->k<E.n->(E.tk k).k=q->cL E 118 (k+1) x k1->cK E k1 y j->1<=j->j<=E.n->Wi i 113 #[pV E] (one (nd nk (E.tk i) (E.tk (j-1)).t 0 0 z0 ns) (x.app y)) j
 |if0 {q:Int}{x y:Fo}{k k1:Nat}:q=20\/q=15->(E.tk i).k=q->i<E.n->cE E (i+1) x k->cK E k y k1->1<=k1->k1<E.n->(E.tk k1).k≠15->(E.tk k1).k≠16->Wi i 111 #[pV E] (one (jx 7 (E.tk i) (E.tk (k1-1)).t) (x.app y)) k1
 |if1 {q:Int}{x y z:Fo}{k k1 j:Nat}:q=20\/q=15->(E.tk i).k=q->i<E.n->cE E (i+1) x k->cK E k y k1->k1<E.n->(E.tk k1).k=15->CN E 111 #[pV E] k1 z j->1<=j->j<=E.n->Wi i 111 #[pV E] (one (jx 7 (E.tk i) (E.tk (j-1)).t) ((x.app y).app z)) j
 |if2 {q:Int}{x y z:Fo}{k k1 j:Nat}:q=20\/q=15->(E.tk i).k=q->i<E.n->cE E (i+1) x k->cK E k y k1->k1<E.n->(E.tk k1).k=16->cK E (k1+1) z j->1<=j->j<=E.n->Wi i 111 #[pV E] (one (jx 7 (E.tk i) (E.tk (j-1)).t) ((x.app y).app z)) j
 |do_ {q:Int}{x:Fo}{j:Nat}:q=1\/q=40->(E.tk i).k=q->i<E.n->cL E 119 i x j->(E.tk j).k≠47->j<E.n->1<=j->Wi i 121 #[pV E] (one (jx 6 (E.tk i) (E.tk (j-1)).t) x) j
 |pre {q op:Int}{x:Fo}{j:Nat}:q≠6->(E.tk i).k=q->i<E.n->CN E 220 #[pV E] (i+1) x j->1<=j->j<=E.n->Wi i 243 #[pV E,.int .i64 op] (one (nd 30 (E.tk i) (E.tk (j-1)).t op 0 z0 []) x) j
 |expr {x:Fo}{j:Nat}:CN E 185 #[pV E,.int .i64 0] i x j->Wi i 118 #[pV E] x j
 |ufn {x:Fo}{j:Nat}:(E.tk i).k=18->i<E.n->CN E 183 #[pV E,.agg (qh 18 (E.tk i))] (i+1) x j->Wi i 220 #[pV E] x j
 |item {q:Int}{x:Fo}{j:Nat}:q≠48->q≠44->q≠6->(E.tk i).k=q->i<E.n->cE E i x j->1<=j->j<=E.n->Wi i 261 #[pV E] (one (jx 40 (E.tk i) (E.tk (j-1)).t) x) j
 |pair {x y:Fo}{k j:Nat}:(E.tk i).k=44->i<E.n->cE E (i+1) x k->(E.tk k).k=45->(E.tk (k+1)).k=47->k+1<E.n->cE E (k+2) y j->1<=j->j<=E.n->Wi i 261 #[pV E] (one (jx 41 (E.tk i) (E.tk (j-1)).t) (x.app y)) j
 |named {x:Fo}{j:Nat}:(E.tk i).k=48->(E.tk (i+1)).k=1->(E.tk (i+2)).k=47->i+2<E.n->cE E (i+3) x j->1<=j->j<=E.n->Wi i 261 #[pV E] (one (nd 42 (E.tk i) (E.tk (j-1)).t 0 0 (E.tk (i+1)).x []) x) j
end
def je{j:Nat}{X:Fo}(h:Wi E i f args X j):CN E f args i X j:=by
 cases h
 case' leaf h _ _ _=>rcases h with rfl|rfl|rfl|rfl|rfl|rfl
 case' for_ h _ _ _ _ _ _ _ _ _=>rcases h with⟨rfl,rfl⟩|⟨rfl,rfl⟩
 case' if0 h _ _ _ _ _ _ _ _=>rcases h with rfl|rfl
 case' if1 h _ _ _ _ _ _ _ _ _=>rcases h with rfl|rfl
 case' if2 h _ _ _ _ _ _ _ _ _=>rcases h with rfl|rfl
 case' do_ h _ _ _ _ _ _=>rcases h with rfl|rfl
 case' item h1 h2 _ _ _ _ _ _=>have u:=beq_eq_false_iff_ne.2 h1;have v:=beq_eq_false_iff_ne.2 h2
 all_goals
  intro b h l;have a:=Sw.start h;have p:=arn;have q:=alE;have n:=cfE;have o:=cfB;try simp only[bz,Fo.sz_app,Fo.sz]at l
  try have t:=beq_eq_false_iff_ne.2 (by assumption:(E.tk _).k≠15)
  go_in
  repeat' (go_wp2_with (at_builtin;refine sAp a rfl (by have:=sLn a;simp only[Fo.sz_app,Fo.sz,aG,bc,dE]at this⊢;omega) rfl _ _ rfl rfl rfl ?_;intro c g d b a;have m:=sRd a);(first
   |(go_at_call 61;first|refine dt (oK (by first|exact a|exact sLt a) (by assumption)) λb a=>?_|refine dt (oK (by first|exact a|exact sLt a) rfl) λb a=>?_)
   |(go_at_call 62;refine dt (lC (by first|exact a|exact sBx a) (by assumption) (by omega) (by first|assumption|decide)) λb a=>?_)
   |(go_at_call 32;refine dt (E8 a (by assumption) (by omega) (by first|assumption|decide)) λb a=>?_)
   |(go_at_call 180;first|refine dt (xg a (by assumption)) λb a=>?_|refine dt (Ca a (by assumption)) λb a=>?_)
   |(go_at_call 184;refine dt (arv (by omega) (by assumption) (by first|exact a|exact sBx a)) λb a=>?_)
   |(go_at_call 179;refine(aru (by first|exact a|exact sBx a) (by assumption)).mono ?_;rintro e b ⟨c,g,d,rfl,a⟩)
   |(go_at_call 182;refine dt (sx (by first|exact a|exact sLt a) (by assumption) (by omega) (by omega) _ _ _ _) λb a=>?_)
   |((first|go_at_call 181|go_at_call 31);refine(adE (by first|exact a|exact sBx a) (by assumption)).mono ?_;rintro e b ⟨c,g,d,x,rfl,a,r⟩)
   |(refine(xH (by first|exact a|exact sBx a) (by assumption)).mono ?_;rintro e b ⟨w,s,rfl,a⟩));(try have m:=sRd a))
  all_goals
   go_wp2;go_ret;first
    |exact⟨_,rfl,a⟩
    |exact⟨_,rfl,asI _ (by exact a) (by rfl) (by rfl) (by rfl)⟩
    |exact⟨_,rfl,L8 a _ (by rfl) (by rfl) (by rfl) (by rfl)⟩
section
variable {E : Pe} {i j k k1 : Nat} {x y R Ex : Fo}
def aiC{D:Fo}(S:A9 (Sw E W w i kv kn D vs T M))(C:CR E f args i R j)(g:R.sz<=50000000):A2 V f args w λe w'=>∃a n c us,e= A3 (Ax a n c)/\A9 (Sw E W w' j kv kn (D.app R) (vs++us) T M)/\A9 (w'.ownsRow w.heap.size 55 1 (Ax a n c) us.length us/\(∀u∈us,u.oneCell'=B2)/\us.length=R.len):=by
 refine(C w S.pp g).mono ?_;rintro e w' ⟨h,us,d,b⟩;obtain⟨a,c,rfl⟩:=di b.ro;exact⟨a,_,c,us,d,S.sub b,b.ro,De.cell _ _ b.nn,De.len _ _ b.nn⟩
def setP{q:Int}(C:q=1\/q=40)(d:(E.tk i).k=q)(F:i<E.n)(s:cL E 119 i x k)(g:(E.tk k).k=47)(I:k<E.n)(h:cL E 118 (k+1) Ex j)(G:k+1<=j)(H:j<=E.n):CN E 121 #[pV E] i (one (nd 5 (E.tk i) (E.tk (j-1)).t 0 (x.len:Nat) z0 []) (x.app Ex)) j:=by
 intro b f o;have a:=Sw.start f;simp only[bz,Fo.sz_app]at o;go_in;go_wp21
 refine dt (E8 a d (by omega) (by omega)) λb a=>?_;go_wp21
 refine(adE (sBx a) s).mono ?_;rintro e b ⟨y,L,B,v,rfl,a,rfl⟩;have p:v.length=x.len:=De.len _ _ a.nn;rw[p]at a⊢;have K:=x.len_le;have J:=Ex.len_le;go_wp21
 refine dt (xg a g) λb a=>?_;go_wp21
 refine(aiC a h (by omega)).mono ?_;rintro e b ⟨z,ad,c5,af,rfl,a,c⟩;go_wp2_with (at_builtin;refine tJ rfl _ _ rfl rfl a.ro rfl c.1 c.2.1 (by have:=c.2.2;omega) (by have:=a.gr.size;omega) ?_;intro w n A b u r m l;clear r;have a:=am (a.out.put u m l);have ak:=sRd a);refine dt (sx a d (by omega) (by omega) _ _ _ _) λb a=>?_;go_wp21
 go_ret;exact⟨_,rfl,L8 a _ (by rfl) (by rfl) (by rfl) (by rfl)⟩
end
inductive Dp (E:Pe):Int->FuncId->FuncId->Array Value->Prop
 |s22:Dp E 22 63 108 #[pV E]
 |s13:Dp E 13 63 109 #[pV E]
 |s18:Dp E 18 63 110 #[pV E]
 |s20:Dp E 20 63 111 #[pV E]
 |s31:Dp E 31 63 112 #[pV E]
 |s19:Dp E 19 63 113 #[pV E]
 |s11:Dp E 11 63 114 #[pV E,.int .i64 11]
 |s23:Dp E 23 63 114 #[pV E,.int .i64 12]
 |s27:Dp E 27 63 115 #[pV E]
 |s30:Dp E 30 63 116 #[pV E]
 |s28:Dp E 28 63 117 #[pV E,.int .i64 15,.func (.func 118) #[pV E] #[]]
 |s14:Dp E 14 63 117 #[pV E,.int .i64 16,.func (.func 119) #[pV E] #[]]
 |s42:Dp E 42 63 120 #[pV E]
 |s1:Dp E 1 63 121 #[pV E]
 |s40:Dp E 40 63 121 #[pV E]
 |u25:Dp E 25 220 243 #[pV E,.int .i64 21]
 |u62:Dp E 62 220 243 #[pV E,.int .i64 19]
 |u50:Dp E 50 220 243 #[pV E,.int .i64 22]
 |u69:Dp E 69 220 243 #[pV E,.int .i64 20]
 |u3:Dp E 3 220 187 #[pV E,.int .i64 24]
 |u4:Dp E 4 220 187 #[pV E,.int .i64 25]
 |u24:Dp E 24 220 114 #[pV E,.int .i64 20]
 |u29:Dp E 29 220 114 #[pV E,.int .i64 21]
 |u17:Dp E 17 220 114 #[pV E,.int .i64 22]
 |u49:Dp E 49 220 114 #[pV E,.int .i64 27]
 |u42:Dp E 42 220 244 #[pV E]
 |u1:Dp E 1 220 119 #[pV E]
 |u40:Dp E 40 220 119 #[pV E]
def wE{j:Nat}{q:Int}{g:FuncId}{R:Fo}(h:Dp E q g f args)(c:(E.tk i).k=q)(m:i<E.n)(e:CN E f args i R j):CN E g #[pV E] i R j:=by
 cases h;all_goals
  intro b h d;have a:=Sw.start h;go_in;go_wp2_with fail;refine dt (oK a c) λb a=>?_;go_wp2_with fail;refine(xH a e d).mono ?_;rintro l b ⟨p,o,rfl,a⟩;go_wp2;go_ret;exact⟨_,rfl,a⟩
def abJ(w:Bc)(tt:Br)(fr:Nat×Nat)(f:w.heap[1]?=Z (Ad KA tt fr))(l:Int)(j:∀i,i<20->Ik.getD i 0≠l):
  A2 V 221 #[O U l] w (jf w (Ck #[B6 #[O U 0,O U 0,O U 0],Bk B1])):=by
 have q:=ai f;have g:∀a,cg w (w.alloc a):=λa=>(ah _ w).alloc (ag _) a;have n:A9 (nK w.heap.size (w.alloc (Ad #[O U 0,O U 0,O U 0] 186)) 0 0 0/\cg w (w.alloc (Ad #[O U 0,O U 0,O U 0] 186))):=⟨aA w _,g _⟩;have o:=am j;clear j;go_in;go_wp2_with (refine vB rfl 187 _ rfl 1 rfl tt _ fr _ (((g _).block _ q).trans f) underlying187 rfl (by kernel_rfl) ?_);go_loopw [7] (λe wr=>∃b:Nat,b<=20/\e= O U b/\A9 (nK w.heap.size wr 0 0 0/\cg w wr)) (λe _=>20-(Ce e).toNat)
 case atStart=>exact⟨0,by omega,rfl,n⟩
 case round=>
  obtain⟨b,y,rfl,c⟩:=hrel;by_cases k:b<20
  .have d:=λw=>aso b k w;have s:=ai c.1;have h:∀a,cg wr (wr.alloc a):=λa=>(ah _ wr).alloc (ag _) a;have r:=o.out b k;generalize aj8 (3*b+1)=A at d;generalize aj8 (3*b+2)=B at d;generalize Ik.getD b 0=z at d r;have p:A9 (∀a,nK w.heap.size (wr.alloc a) 0 0 0/\cg w (wr.alloc a)):=λa=>⟨((h a).block _ s).trans c.1,c.2.trans ((h a).mono c.2.size)⟩;go_wp21
   exact⟨⟨b+1,by omega,by go_num,p _⟩,by simp[Ce];omega⟩
  .obtain rfl:b=20:=by omega
   obtain⟨t,u,v,x⟩:=c.1.cells;have m:A9 (nK w.heap.size (((wr.setCell ⟨w.heap.size,0,Y⟩ (O U 0)).setCell ⟨w.heap.size,1,Y⟩ (O U 0)).setCell ⟨w.heap.size,2,Y⟩ (O U 0)) 0 0 0/\cg w (((wr.setCell ⟨w.heap.size,0,Y⟩ (O U 0)).setCell ⟨w.heap.size,1,Y⟩ (O U 0)).setCell ⟨w.heap.size,2,Y⟩ (O U 0))):=⟨nK.put c.1 0 0 0,((c.2.setCell (ag _) _).setCell (ag _) _).setCell (ag _) _⟩;go_wp21
   exact aL (E7 rfl _ _ _ ⟨w.heap.size,0,Y⟩ (Bk B1) _ rfl rfl (adD _ _ _ _ _ m.1)) rfl ⟨rfl,m.2⟩
def adG:∀j,j<20->aj8 (3*j+1)=Bj (Ik.getD j 0)/\aj8 (3*j+2)=Ky (Ik.getD j 0)/\gG (Ik.getD j 0)=B2/\∀i,i<j->Ik.getD i 0≠Ik.getD j 0:=by decide+kernel
def apj(b:gG k=B2)(d:k<=78):∃j,j<20/\Ik.getD j 0=k:=by
 have c:=aB b;have a:k=10\/k=26\/k=61\/k=62\/k=63\/k=64\/k=65\/k=66\/k=67\/k=68\/k=69\/k=70\/k=71\/k=72\/k=73\/k=74\/k=75\/k=76\/k=77\/k=78:=by omega
 rcases a with rfl|rfl|rfl|rfl|rfl|rfl|rfl|rfl|rfl|rfl|rfl|rfl|rfl|rfl|rfl|rfl|rfl|rfl|rfl|rfl
 .exact⟨1,by decide,rfl⟩
 .exact⟨0,by decide,rfl⟩
 .exact⟨14,by decide,rfl⟩
 .exact⟨15,by decide,rfl⟩
 .exact⟨16,by decide,rfl⟩
 .exact⟨17,by decide,rfl⟩
 .exact⟨18,by decide,rfl⟩
 .exact⟨19,by decide,rfl⟩
 .exact⟨11,by decide,rfl⟩
 .exact⟨9,by decide,rfl⟩
 .exact⟨10,by decide,rfl⟩
 .exact⟨12,by decide,rfl⟩
 .exact⟨13,by decide,rfl⟩
 .exact⟨8,by decide,rfl⟩
 .exact⟨2,by decide,rfl⟩
 .exact⟨3,by decide,rfl⟩
 .exact⟨4,by decide,rfl⟩
 .exact⟨5,by decide,rfl⟩
 .exact⟨6,by decide,rfl⟩
 .exact⟨7,by decide,rfl⟩
def apk(k:Int):fJ k=0\/fJ k=1\/fJ k=2\/fJ k=3\/fJ k=4\/fJ k=5\/fJ k=6:=by
 unfold fJ
 repeat' split
 all_goals simp
def G9(w:Bc)(b:Nat)(N:Nd)(vn x:Ak)(y:Int)(s:∃a n c,vn= Ax a n c)(h:il w b N vn y x):
  A2 V 30 #[gq N.k b] w (jf w (jI (oJ N (fJ N.k)) (uo vn (fJ N.k)) (Ax Y 0 0))):=by
 obtain⟨z,H,A,rfl⟩:=s;unfold il at h;unfold gq;have G:=λw=>am0 b w;have B:=λw=>asT b w;have C:=λw=>asF b w;have v:=λw=>gD b w;have E:=ai h;have F:b<w.heap.size+1:=by omega
 have r:∀e g,cg w ((w.alloc e).alloc g).drew:=λe g=>bF (((ah _ w).alloc (ag _) e).alloc (by simp) g);have c:=λu=>aj w b u _ _ _ h;have i:=c 0;have j:=c 1;have m:=c 2;have o:=c 3;have p:=c 6;have q:=c 7;clear c h;unfold jI;rcases apk N.k with hc|hc|hc|hc|hc|hc|hc;all_goals
  simp only[hc,exT,pI,oJ,uo,dJ,dI]at i j m o p q⊢;simp at i j m o p q;go_in;go_wp2_with (go_at_call 299;refine fC (v _) ?_);all_goals
   go_region_held3 (λd=>d.cell? ⟨b,0,Y⟩=Z (O U N.k)/\d.cell? ⟨b,1,Y⟩=Z (O U N.f)/\d.cell? ⟨b,2,Y⟩=Z (O U N.t)/\d.cell? ⟨b,3,Y⟩=Z (O U N.l)) (go_keep) (fail)
   go_wp2_with fail;all_goals exact aL (io rfl _ _ w.heap.size _ _ _ _ rfl ((eI _ _ _ (by simp)).trans (aA w _)) underlying34 rfl (by kernel_rfl)) rfl ⟨by simp[*],r _ _⟩
structure Lk (W:Bc) (lb mb:Nat) (vs:Ak):Prop where
 b:W.heap[lb]?=Z (.cells #[.map (Z mb),vs] 162 (0,0))
 m:W.ownsMap V 9 (plainElem (H:=Unit) V 3) mb 22 (zI 22)
 e:pf W
def tK{mb n:Nat}{D:DataW Unit}(h:W.ownsMap V 9 (plainElem (H:=Unit) V 3) mb n D)(c:W'.heap[mb]?=W.heap[mb]?):W'.ownsMap V 9 (plainElem (H:=Unit) V 3) mb n D:=by
 obtain⟨b,a,d,e⟩:=h;exact⟨b,a,c.trans d,e⟩
def pf.keep(h:pf W)(a:cg W W'):pf W':=by
 obtain⟨⟨b,c,f⟩,⟨d,e,g⟩⟩:=h;exact⟨⟨b,c,cell_kept a f⟩,⟨d,e,cell_kept a g⟩⟩
def Lk.below{lb mb:Nat}{c:Ak}(h:Lk W lb mb c)(a:cg W W'):Lk W' lb mb c:=
 ⟨(a.block _ (ai h.b)).trans h.b,tK h.m (a.block _ h.m.lt),h.e.keep a⟩
def vq(w:Bc)(lb mb:Nat)(j:Ak)(s:ByteArray)(i:s.size<=1100000)(h:Lk w lb mb j):
  A2 V 223 #[A5 (Z ⟨lb,0,Y⟩),A1 s] w (jt w (Bk (lr s))):=by
 have l:w.cell? ⟨lb,0,Y⟩=Z (.map (Z mb)):=by rw[aj _ _ _ _ _ _ h.b];rfl
 have d:=aat s i mb w h.m;by_cases f:s.size<=40
 .have a:decide (bI (aq s 0)=B2/\qC s (s.size+1) 0=s.size/\sL s=B1)=lr s:=by
   unfold lr;by_cases c:bI (aq s 0)=B2/\qC s (s.size+1) 0=s.size/\sL s=B1
   .rw[be c,be ⟨f,c⟩]
   .rw[az c,az (λe=>c e.2)]
  rw[a]at d;generalize lr s=k at d⊢;clear a h;have g:(s.size:Int)<=40:=by omega
  go_in;go_wp2_with (go_at_call 245;refine d.mono ?_;rintro a n ⟨rfl,rfl⟩);go_ret;exact⟨rfl,rfl⟩
 .have a:lr s=B1:=by unfold lr;rw[az (λe=>f e.1)]
  rw[a];have g:¬(s.size:Int)<=40:=by omega
  clear d;go_in;go_wp2;go_ret;exact⟨rfl,rfl⟩
def zD(w:Bc)(lb mb:Nat)(p:Ak)(vn:Ak)(l:List ByteArray)(h:Lk w lb mb p)(m:dz w vn l)(x:l.length<=1048576)(o:∀s∈l,s.size<=1048576):
  A2 V 191 #[A5 (Z ⟨lb,0,Y⟩),vn] w (jt w (Bk (uA l l.length 0))):=by
 have e:=kK m o h;obtain⟨A,B,rfl⟩:=m.form;have⟨j,f⟩:=aC (uA l l.length 0);rw[f];have⟨b,k⟩:=aC l.length;have r:=am k;rw[k]at e x f⊢;have t:Gw l b 0 j:=⟨f⟩;clear k m o h f;go_in;go_wp2;go_loop [9] (λn=>∃(a:Nat),n= O U a/\a<=b/\Gw l (b-a) a j) (λn=>b-(Ce n).toNat)
 case atStart=>exact⟨0,rfl,by omega,t⟩
 case round=>
  obtain⟨a,rfl,E,q⟩:=hrel;have c:=q.out;by_cases y:a<b
  .obtain⟨s,g⟩:=cJ r.out y;have G:=e.2.1 s (dj g);obtain⟨H,rfl,C⟩:=e.1.get g;rw[show b-a=(b-(a+1))+1 by omega,uA,aF,g,gy]at c;have v:(a:Int)<(b:Int):=by omega
   have F:(0:Int)<=(a:Int):=by omega
   have i:=vq w lb mb p s (by omega) e.2.2;clear g;cases hx:lr s with
   |true=>
    rw[hx,gI]at c;rw[hx]at i;have d:Gw l (b-(a+1)) (a+1) j:=⟨c⟩;clear c hx;go_wp2_with (go_at_call 223;refine i.mono ?_;rintro u z ⟨rfl,rfl⟩);go_round
    case rel=>exact⟨a+1,by go_num,by omega,d⟩
    case measure=>simp[Ce];omega
   |false=>
    rw[hx,fE]at c;rw[hx]at i;have d:=am c;clear c hx;go_wp2_with (go_at_call 223;refine i.mono ?_;rintro u z ⟨rfl,rfl⟩);go_ret;exact⟨by rw[<-d.out];rfl,rfl⟩
  .rw[show b-a=0 by omega,uA]at c;have d:=am c;have v:¬(a:Int)<(b:Int):=by omega
   clear c;go_wp2;go_ret;exact⟨by rw[<-d.out];rfl,rfl⟩
def txB(k:Int)(x:ByteArray):Bool:=if k=24 then fok x else if k=25 then decide ((x.size:Int)<=4000) else lr x
def Jk(w:Bc)(lb mb:Nat)(g:Ak)(k:Int)(s:ByteArray)(f:s.size<=1100000)(h:Lk w lb mb g):
  A2 V 192 #[A5 (Z ⟨lb,0,Y⟩),O U k,A1 s] w (jf w (Bk (txB k s))):=by
 have b:=vq w lb mb g s f h;have a:=Kg s f w h.e;unfold txB;by_cases c:k=24
 .subst c;rw[ab rfl];unfold fok;by_cases e:s.size<=40
  .have m:(s.size:Int)<=40:=by omega
   rw[be e,gI];generalize qm s=i at a⊢;clear b h;go_in;go_wp2_with (go_at_call 224;refine a.mono ?_;rintro j n ⟨rfl,l⟩);go_ret;exact⟨rfl,l⟩
  .have m:¬(s.size:Int)<=40:=by omega
   rw[az e,fE];clear b a h;go_in;go_wp2;go_ret;exact⟨rfl,ah _ _⟩
 by_cases d:k=25
 .subst d;rw[aa (by decide),ab rfl];clear b a h c;go_in;go_wp2;go_ret;exact⟨rfl,ah _ _⟩
 rw[aa c,aa d];generalize lr s=i at b⊢;clear a h;go_in;go_wp2_with (go_at_call 223;refine b.mono ?_;rintro j n ⟨rfl,rfl⟩);go_ret;exact⟨rfl,ah _ _⟩
def E9(k:Int):Int:=if k=2\/k=10 then 200 else if k=14 then 2 else 1
def Cb(k:Int)(w:Bc):A2 V 190 #[O U k] w (jt w (Ck #[O U 1,O U (E9 k)])):=by
 unfold E9;rcases(show k=2\/k=10\/k=14\/(¬k=2/\¬k=10/\¬k=14) by omega) with rfl|rfl|rfl|⟨b,c,a⟩
 .rw[ab (by decide)];go_in;go_wp2;go_ret2;exact⟨rfl,rfl⟩
 .rw[ab (by decide)];go_in;go_wp2;go_ret2;exact⟨rfl,rfl⟩
 .rw[aa (by decide),ab rfl];go_in;go_wp2;go_ret2;exact⟨rfl,rfl⟩
 .rw[aa (by omega),aa a];go_in;go_wp2;go_ret2;exact⟨rfl,rfl⟩
def ff0(w:Bc)(lb mb:Nat)(m:Ak)(h:Lk w lb mb m)(b:Nat)(nk t v u x:Int)(vk:Ak)(vn:Ak)(l:List ByteArray)(j:dz w vn l)(i:l.length<=1048576)(r:∀s∈l,s.size<=1048576)
  (g:w.heap[b]?=Z (Ad #[O U nk,O U t,O U v,O U u,O U x,vk,vn] 144 (0,0))):
  A2 V 124 #[A5 (Z ⟨lb,0,Y⟩),B0 142 (A5 (Z ⟨b,0,Y⟩))] w (jt w (Bk (decide (1<=(l.length:Int)/\(l.length:Int)<=E9 nk)&&uA l l.length 0))):=by
 have B:=λw=>asT b w;have C:=λw=>asF b w;have a:=λw=>Cb nk w;have d:=zD w lb mb m vn l h j i r;obtain⟨o,q,rfl⟩:=j.form;have z:w.cell? ⟨b,0,Y⟩=Z (O U nk):=by rw[aj _ _ _ _ _ _ g];rfl
 have p:w.cell? ⟨b,6,Y⟩=Z (Ax o l.length q):=by rw[aj _ _ _ _ _ _ g];rfl
 generalize uA l l.length 0=y at d⊢;generalize l.length=k at i d p⊢;generalize E9 nk=n at a⊢;by_cases e:1<=(k:Int)
 .by_cases f:(k:Int)<=n
  .rw[be ⟨e,f⟩,gI];go_in;go_wp2_with (first|(go_at_call 190;refine fC (a _) ?_)|(go_at_call 191;refine d.mono ?_;rintro A E ⟨rfl,rfl⟩));go_ret;exact⟨rfl,rfl⟩
  .rw[az (λc=>f c.2),fE];go_in;go_wp2_with (go_at_call 190;refine fC (a _) ?_);go_ret;exact⟨rfl,rfl⟩
 .rw[az (λc=>e c.1),fE];go_in;go_wp2_with (go_at_call 190;refine fC (a _) ?_);go_ret;exact⟨rfl,rfl⟩
def ff1(w:Bc)(lb:Nat)(b:Nat)(nk i k j l a:Int)(f:Option Addr)(L ck:Nat)(n:L<=1048576)
  (g:w.heap[b]?=Z (Ad #[O U nk,O U i,O U k,O U j,O U l,Ax f L ck,O U a] 147 (0,0))):
  A2 V 124 #[A5 (Z ⟨lb,0,Y⟩),B0 145 (A5 (Z ⟨b,0,Y⟩))] w (jf w (Bk (decide (1<=a/\a<(L:Int))))):=by
 have o:=λw=>asT b w;have q:=λw=>asF b w;have c5:w.cell? ⟨b,5,Y⟩=Z (Ax f L ck):=by rw[aj _ _ _ _ _ _ g];rfl
 have m:w.cell? ⟨b,6,Y⟩=Z (O U a):=by rw[aj _ _ _ _ _ _ g];rfl
 by_cases d:1<=a
 .by_cases e:a<(L:Int)
  .rw[be ⟨d,e⟩];go_in;go_wp2_with fail;go_quiet (fail)
   go_wp2;go_ret;exact⟨rfl,mq (ah _ _) _⟩
  .rw[az (λc=>e c.2)];have h:=am e;go_in;go_wp2_with fail;go_quiet (fail)
   go_wp2;go_ret;exact⟨by show Ending.returned (Bk (decide (a<(L:Int))))=_;rw[az (by have:=h.out;omega)],mq (ah _ _) _⟩
 .rw[az (λc=>d c.1)];have p:decide ((1:Int)<=a)=B1:=az d;go_in;go_wp2_with fail;go_quiet (fail)
  go_wp2;go_ret;exact⟨rfl,mq (ah _ _) _⟩
def ff2(w:Bc)(lb:Nat)(b:Nat):
  A2 V 124 #[A5 (Z ⟨lb,0,Y⟩),B0 148 (A5 (Z ⟨b,0,Y⟩))] w (jt w (Bk B2)):=by
 have a:=λw=>asT b w;have c:=λw=>asF b w;go_in;go_wp2;go_ret;exact⟨rfl,rfl⟩
def ff6(w:Bc)(lb:Nat)(b:Nat):
  A2 V 124 #[A5 (Z ⟨lb,0,Y⟩),B0 91 (A5 (Z ⟨b,0,Y⟩))] w (jt w (Bk B2)):=by
 have a:=λw=>asT b w;have c:=λw=>asF b w;go_in;go_wp2;go_ret;exact⟨rfl,rfl⟩
def ff3(w:Bc)(lb mb:Nat)(e:Ak)(h:Lk w lb mb e)(b:Nat)(nk k m l n:Int)(vk:Ak)(x:ByteArray)(j:x.size<=1100000)
  (c:w.heap[b]?=Z (Ad #[O U nk,O U k,O U m,O U l,O U n,vk,A1 x] 153 (0,0))):
  A2 V 124 #[A5 (Z ⟨lb,0,Y⟩),B0 151 (A5 (Z ⟨b,0,Y⟩))] w (jf w (Bk (txB nk x))):=by
 have q:=λw=>asT b w;have r:=λw=>asF b w;have d:=Jk w.drew lb mb e nk x j (h.below (bF (ah _ w)));have g:w.cell? ⟨b,0,Y⟩=Z (O U nk):=by rw[aj _ _ _ _ _ _ c];rfl
 have i:w.cell? ⟨b,6,Y⟩=Z (A1 x):=by rw[aj _ _ _ _ _ _ c];rfl
 generalize txB nk x=o at d⊢;go_in;go_wp2_with fail;go_region_held3 (λf=>f.cell? ⟨b,0,Y⟩=Z (O U nk)/\f.cell? ⟨b,6,Y⟩=Z (A1 x)) (first|go_keep|exact⟨cell_kept a g,cell_kept a i⟩) ((go_at_call 192;refine d.mono ?_;rintro p s ⟨rfl,a⟩))
 go_wp2;go_ret;exact⟨rfl,(bF (ah _ w)).trans a⟩
def ff4(w:Bc)(lb:Nat)(b:Nat)(nk f h g i a:Int)(vk:Ak)
  (d:w.heap[b]?=Z (Ad #[O U nk,O U f,O U h,O U g,O U i,vk,O U a] 156 (0,0))):
  A2 V 124 #[A5 (Z ⟨lb,0,Y⟩),B0 154 (A5 (Z ⟨b,0,Y⟩))] w (jt w (Bk (if nk=30 then(decide ((19:Int)<=a)&&decide (a<=22)) else(decide ((1:Int)<=a)&&decide (a<=18))))):=by
 have l:=λw=>asT b w;have m:=λw=>asF b w;have j:w.cell? ⟨b,0,Y⟩=Z (O U nk):=by rw[aj _ _ _ _ _ _ d];rfl
 have k:w.cell? ⟨b,6,Y⟩=Z (O U a):=by rw[aj _ _ _ _ _ _ d];rfl
 by_cases e:nk=30
 .rw[ab e];by_cases c:(19:Int)<=a
  .rw[be c,gI];go_in;go_wp2;go_ret;exact⟨rfl,rfl⟩
  .rw[az c,fE];go_in;go_wp2;go_ret;exact⟨rfl,rfl⟩
 .rw[aa e];by_cases c:(1:Int)<=a
  .rw[be c,gI];go_in;go_wp2;go_ret;exact⟨rfl,rfl⟩
  .rw[az c,fE];go_in;go_wp2;go_ret;exact⟨rfl,rfl⟩
def ff5(w:Bc)(lb mb:Nat)(e:Ak)(h:Lk w lb mb e)(b:Nat)(nk n p o q:Int)(vk:Ak)(vn:Ak)(g:Bool)(l:List ByteArray)(d:dz w vn l)(c:l.length<=1048576)(m:∀s∈l,s.size<=1048576)
  (k:w.heap[b]?=Z (Ad #[O U nk,O U n,O U p,O U o,O U q,vk,vn,Bk g] 159 (0,0))):
  A2 V 124 #[A5 (Z ⟨lb,0,Y⟩),B0 157 (A5 (Z ⟨b,0,Y⟩))] w (jt w (Bk (uA l l.length 0))):=by
 have u:=λw=>asT b w;have v:=λw=>asF b w;have a:=zD w lb mb e vn l h d c m;obtain⟨f,j,rfl⟩:=d.form;have i:w.cell? ⟨b,6,Y⟩=Z (Ax f l.length j):=by rw[aj _ _ _ _ _ _ k];rfl
 generalize uA l l.length 0=r at a⊢;generalize l.length=x at c a i⊢;go_in;go_wp2_with (go_at_call 191;refine a.mono ?_;rintro t y ⟨rfl,rfl⟩);go_ret;exact⟨rfl,rfl⟩
