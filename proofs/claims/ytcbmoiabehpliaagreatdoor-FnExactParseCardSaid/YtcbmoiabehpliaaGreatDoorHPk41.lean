import Derived.Test.YtcbmoiabehpliaaGreatDoorHPk01
import Derived.Test.YtcbmoiabehpliaaGreatDoorHPk37
import Derived.Test.YtcbmoiabehpliaaGreatDoorHPk27
import Derived.Test.YtcbmoiabehpliaaGreatDoorHPk26
import Derived.Deep.QuietTactic
import Derived.BigQuiet
import Derived.Deep.RegionHeld3
import Derived.Laws.AppendOwnNone
set_option linter.unusedVariables false
set_option maxRecDepth 100000
set_option maxHeartbeats 3200000
namespace Go.Proofs.YtcbmoiabehpliaaGreatDoor
open Go.RowKit Go.Maps Go.WideMaps
def uI:Array Value:=#[.int .i64 26,.int .i64 1,.int .i64 2,.int .i64 10,.int .i64 2,.int .i64 3,.int .i64 73,.int .i64 3,.int .i64 4,.int .i64 74,.int .i64 3,.int .i64 4,.int .i64 75,.int .i64 3,.int .i64 4,.int .i64 76,.int .i64 3,.int .i64 4,.int .i64 77,.int .i64 3,.int .i64 4,.int .i64 78,.int .i64 3,.int .i64 4,
 .int .i64 72,.int .i64 4,.int .i64 4,.int .i64 68,.int .i64 5,.int .i64 6,.int .i64 69,.int .i64 6,.int .i64 7,.int .i64 67,.int .i64 7,.int .i64 8,.int .i64 70,.int .i64 8,.int .i64 9,.int .i64 71,.int .i64 8,.int .i64 9,.int .i64 61,.int .i64 9,.int .i64 10,.int .i64 62,.int .i64 9,.int .i64 10,
 .int .i64 63,.int .i64 10,.int .i64 11,.int .i64 64,.int .i64 10,.int .i64 11,.int .i64 65,.int .i64 10,.int .i64 11,.int .i64 66,.int .i64 10,.int .i64 11]
def gQ:List Int:=[26,10,73,74,75,76,77,78,72,68,69,67,70,71,61,62,63,64,65,66]
def gR(k:Nat):Int:=match uI.getD k (.int .i64 0) with| .int _ a=>a|_=>0
theorem FW(k:Nat)(a:k<20)(w:World):(Instr.index 180 (.agg uI) (.int .i64 (k:Int))).run Tryz.prog w= .ok (.agg #[.int .i64 (gQ.getD k 0),.int .i64 (gR (3*k+1)),.int .i64 (gR (3*k+2))]) w:=by
 rcases(show k=0\/k=1\/k=2\/k=3\/k=4\/k=5\/k=6\/k=7\/k=8\/k=9\/k=10\/k=11\/k=12\/k=13\/k=14\/k=15\/k=16\/k=17\/k=18\/k=19 by omega) with rfl|rfl|rfl|rfl|rfl|rfl|rfl|rfl|rfl|rfl|rfl|rfl|rfl|rfl|rfl|rfl|rfl|rfl|rfl|rfl;all_goals kernel_rfl
theorem oQ{fn:Func}{p q:Tmp}{u:TypeId}(h:fn.results=#[.cell q u,.tmp p])(tmps:Array Value)(P:Program)(w:World)(a:Addr)(v b:Value)(l:tmps.getD p undef=v)(c:tmps.getD q undef= .pointer (some a))
  (e:(loadVar u a).run P w= .ok b w):(results fn tmps).run P w= .ok (.tuple #[b,v]) w:=by
 have d:tmps[p]?.getD undef=v:=by simpa using l
 have g:tmps[q]?.getD undef= .pointer (some a):=by simpa using c
 simp only[results,h];simp[Result.andThen,d,g,asAddr,e]
def dQ(b:Nat)(W:World)(x a z:Int):Prop:=W.heap[b]?=some (.cells #[.int .i64 x,.int .i64 a,.int .i64 z] 179 (0,0))
theorem yv(w:World)(b:Nat)(x a z:Int)(h:dQ b w x a z):(loadVar 179 ⟨b,0,none⟩).run Tryz.prog w= .ok (.agg #[.int .i64 x,.int .i64 a,.int .i64 z]) w:=
 run_loadVar_row w b 179 179 _ _ _ h Tryz.underlying179 rfl (by kernel_rfl)
theorem dQ.put{b:Nat}{W:World}{x e z:Int}(h:dQ b W x e z)(a d c:Int):dQ b (((W.setCell ⟨b,0,none⟩ (.int .i64 a)).setCell ⟨b,1,none⟩ (.int .i64 d)).setCell ⟨b,2,none⟩ (.int .i64 c)) a d c:=
 heap_setCell_same _ b 2 _ _ _ (heap_setCell_same _ b 1 _ _ _ (heap_setCell_same _ b 0 _ _ _ h))
theorem dQ.cells{b:Nat}{W:World}{x a z:Int}(h:dQ b W x a z):W.cell? ⟨b,0,none⟩=some (.int .i64 x)/\W.cell? ⟨b,1,none⟩=some (.int .i64 a)/\W.cell? ⟨b,2,none⟩=some (.int .i64 z)/\∀j,W.frozen? ⟨b,j,none⟩=false:=by
 unfold dQ at h;exact⟨by rw[cell_of_row _ _ _ _ _ _ h];rfl,by rw[cell_of_row _ _ _ _ _ _ h];rfl,by rw[cell_of_row _ _ _ _ _ _ h];rfl,fun j=>frozen_of_row _ _ _ _ _ h⟩
theorem wW(w:World)(u:TypeId)(fr:Nat×Nat)(t:w.heap[1]?=some (.cells uI u fr))(j:Nat)(N:j<20)(kind:Int)(h:gQ.getD j 0=kind)(y:∀i,i<j->gQ.getD i 0≠kind):
  Calls Tryz.prog 191 #[.int .i64 kind] w fun e w'=>e= .returned (.tuple #[.agg #[.int .i64 kind,.int .i64 (gR (3*j+1)),.int .i64 (gR (3*j+2))],.bool true])/\Below w.heap.size w w':=by
 have L:=lt_of_block t;have z:∀a,Below w.heap.size w (w.alloc a):=fun a=>(Below.refl _ w).alloc (Nat.le_refl _) a;have B:dQ w.heap.size (w.alloc (.cells #[.int .i64 0,.int .i64 0,.int .i64 0] 179)) 0 0 0:=heap_alloc_new w _;have H:Hid (dQ w.heap.size (w.alloc (.cells #[.int .i64 0,.int .i64 0,.int .i64 0] 179)) 0 0 0/\Below w.heap.size w (w.alloc (.cells #[.int .i64 0,.int .i64 0,.int .i64 0] 179))):=⟨B,z _⟩;have J:=ab y;have C:=ab h;clear y h B;go_in;go_wp2_with (refine wpList_load_row rfl 180 _ rfl 1 rfl u _ fr _ (((z _).block _ L).trans t) Tryz.underlying180 rfl (by kernel_rfl) ?_);go_loopw [7] (fun v wr=>∃k:Nat,k<=j/\v= .int .i64 k/\Hid (dQ w.heap.size wr 0 0 0/\Below w.heap.size w wr)) (fun v _=>20-(intOf v).toNat)
 case atStart=>exact⟨0,by omega,rfl,H.out⟩
 case round=>
  obtain⟨k,h,rfl,d⟩:=hrel;have V:(k:Int)<20:=by omega
  have I:k<20:=by omega
  have g:=fun w=>FW k I w;have G:=lt_of_block d.out.1;obtain⟨U,X,S,Y⟩:=d.out.1.cells;have x:∀a,Below wr.heap.size wr (wr.alloc a):=fun a=>(Below.refl _ wr).alloc (Nat.le_refl _) a;rcases Nat.eq_or_lt_of_le h with rfl|hlt
  ·rw[C.out]at g;obtain⟨b,o⟩:=ah (gR (3*k+1));obtain⟨c,n⟩:=ah (gR (3*k+2));rw[o,n]at g;have A:=cK o n;clear o n;have l:dQ w.heap.size (((wr.setCell ⟨w.heap.size,0,none⟩ (.int .i64 kind)).setCell ⟨w.heap.size,1,none⟩ (.int .i64 b)).setCell ⟨w.heap.size,2,none⟩ (.int .i64 c)) kind b c:=dQ.put d.out.1 kind b c;have m:Below w.heap.size w (((wr.setCell ⟨w.heap.size,0,none⟩ (.int .i64 kind)).setCell ⟨w.heap.size,1,none⟩ (.int .i64 b)).setCell ⟨w.heap.size,2,none⟩ (.int .i64 c)):=((d.out.2.setCell (Nat.le_refl _) _).setCell (Nat.le_refl _) _).setCell (Nat.le_refl _) _;have p:∀a,Below (((wr.setCell ⟨w.heap.size,0,none⟩ (.int .i64 kind)).setCell ⟨w.heap.size,1,none⟩ (.int .i64 b)).setCell ⟨w.heap.size,2,none⟩ (.int .i64 c)).heap.size (((wr.setCell ⟨w.heap.size,0,none⟩ (.int .i64 kind)).setCell ⟨w.heap.size,1,none⟩ (.int .i64 b)).setCell ⟨w.heap.size,2,none⟩ (.int .i64 c)) ((((wr.setCell ⟨w.heap.size,0,none⟩ (.int .i64 kind)).setCell ⟨w.heap.size,1,none⟩ (.int .i64 b)).setCell ⟨w.heap.size,2,none⟩ (.int .i64 c)).alloc a):=fun a=>(Below.refl _ _).alloc (Nat.le_refl _) a;have r:Hid ((∀a,dQ w.heap.size ((((wr.setCell ⟨w.heap.size,0,none⟩ (.int .i64 kind)).setCell ⟨w.heap.size,1,none⟩ (.int .i64 b)).setCell ⟨w.heap.size,2,none⟩ (.int .i64 c)).alloc a) kind b c)/\(∀a,Below w.heap.size w ((((wr.setCell ⟨w.heap.size,0,none⟩ (.int .i64 kind)).setCell ⟨w.heap.size,1,none⟩ (.int .i64 b)).setCell ⟨w.heap.size,2,none⟩ (.int .i64 c)).alloc a))):=⟨fun a=>((p a).block _ (lt_of_block l)).trans l,fun a=>m.trans ((p a).mono m.size)⟩;have Q:(kind==kind)=true:=by simp
   clear l m p;go_wp2_with fail;exact bodyPost_ret (oQ rfl _ _ _ ⟨w.heap.size,0,none⟩ (.bool true) _ rfl rfl (yv _ _ _ _ _ (r.out.1 _))) rfl ⟨by rw[A.out.1,A.out.2],r.out.2 _⟩
  ·have s:=J.out k hlt;generalize gR (3*k+1)=b at g;generalize gR (3*k+2)=c at g;generalize gQ.getD k 0=F at g s;have O:(F==kind)=false:=by simpa using s
   have K:Hid (∀a,dQ w.heap.size (wr.alloc a) 0 0 0/\Below w.heap.size w (wr.alloc a)):=fun a=>⟨((x a).block _ G).trans d.out.1,d.out.2.trans ((x a).mono d.out.2.size)⟩;go_wp2_with fail;exact⟨⟨k+1,by omega,by go_num,K.out _⟩,by simp[intOf];omega⟩
end Go.Proofs.YtcbmoiabehpliaaGreatDoor
namespace Go.Proofs.YtcbmoiabehpliaaGreatDoor
open Go.RowKit
structure Pp (E:Pe) (w:World) (i:Nat):Prop where
 hn:E.n<=1048576
 tks:∃cs fr,w.heap[E.tb]?=some (.cells cs 45 fr)/\GL cs E.tk E.n
 row:w.heap[E.pb]?=some (.cells #[.slice (some ⟨E.tb,0,none⟩) E.n E.cap,.int .i64 i] 48 (0,0))
 pg:1<E.pb
 pw:∃tt fr,w.heap[1]?=some (.cells uI tt fr)
def Rv(w:World)(lo:Nat)(ex:Option Nat)(t:TypeId)(v:Value)(b:List Value):Prop:=w.ownsRow lo t 1 v b.length b/\∀a,v.ownBlock=some a->ex≠some a
def gK(w:World)(lo:Nat)(ex:Option Nat):Fo->List Value->List Nat->Prop
 | .nil,vs,a=>vs=[]/\a=[]
 | .cons N k r,vs,a=>∃b g vn vk kv d e c,(vs=bi N.k b::d/\a=vn.ownBlock.toList++(e++c))/\(lo<=b/\ex≠some b/\bK w b N vn g vk/\dY N (aY N.k)=N)/\Rv w lo ex 9 vn (N.nm.map Value.string)/\Rv w lo ex 51 vk kv/\gK w lo ex k kv e/\gK w lo ex r d c
def mo(w:World)(lo:Nat)(ex:Option Nat)(R:Fo)(vs:List Value):Prop:=∃a,gK w lo ex R vs a
def mB(M:List (Value×List ByteArray)):List Nat:=M.flatMap fun a=>a.1.ownBlock.toList
theorem I6{a b c:List Nat}{n:Nat}(h:(a++c).Nodup)(s:b.Nodup)(l:∀x∈a++c,x<n)(g:∀x∈b,n<=x):((a++b)++c).Nodup:=by
 rw[List.nodup_append]at h;obtain⟨t,r,p⟩:=h;have q:∀x∈a,∀d∈b,x≠d:=fun x hx d e o=>by have:=l x (List.mem_append_left _ hx);have:=g d e;omega
 have m:∀x∈b,∀d∈c,x≠d:=fun x hx d e o=>by have:=l d (List.mem_append_right _ e);have:=g x hx;omega
 rw[List.nodup_append,List.nodup_append];refine⟨⟨t,s,q⟩,r,fun x hx d e=>?_⟩;rcases List.mem_append.1 hx with hx|hx
 ·exact p x hx d e
 ·exact m x hx d e
theorem sa(o:Option Nat):o.toList.Nodup:=by cases o<;>simp
section
variable {w w' : World} {lo lo' : Nat} {ex ex' : Option Nat}
theorem Rv.mono{t:TypeId}{v:Value}{c:List Value}(o:Rv w lo ex t v c)(h:∀k,lo<=k->ex≠some k->k<w.heap.size->w'.heap[k]?=w.heap[k]?/\lo'<=k/\ex'≠some k):Rv w' lo' ex' t v c:=
 ⟨eB o.1 (fun a b e d=>⟨(h a e (o.2 a b) d).1,(h a e (o.2 a b) d).2.1⟩),fun a b=>(h a (o.1.lt a b).1 (o.2 a b) (o.1.lt a b).2).2.2⟩
theorem gK.mono(h:∀k,lo<=k->ex≠some k->k<w.heap.size->w'.heap[k]?=w.heap[k]?/\lo'<=k/\ex'≠some k):∀(R:Fo)(vs:List Value)(a:List Nat),gK w lo ex R vs a->gK w' lo' ex' R vs a
 | .nil,vs,a,q=>q
 | .cons N k r,vs,a,⟨b,n,vn,vk,kv,m,g,l,e,⟨p,u,d,x⟩,o,y,s,t⟩=>by
  have c:=h b p u (lt_of_block d);exact⟨b,n,vn,vk,kv,m,g,l,e,⟨c.2.1,c.2.2,c.1.trans d,x⟩,o.mono h,y.mono h,gK.mono h k kv g s,gK.mono h r m l t⟩
theorem gK.app:∀(R:Fo)(vs:List Value)(a:List Nat){S:Fo}{us:List Value}{cs:List Nat},gK w lo ex R vs a->gK w lo ex S us cs->gK w lo ex (R.app S) (vs++us) (a++cs)
 | .nil,vs,a,S,us,cs,q,p=>by obtain⟨rfl,rfl⟩:=q;exact p
 | .cons y k e,vs,a,S,us,cs,⟨u,d,g,m,kv,c,l,b,⟨t,o⟩,n,h,x,r,s⟩,p=>⟨u,d,g,m,kv,c++us,l,b++cs,⟨by rw[t];rfl,by rw[o];simp only[List.append_assoc]⟩,n,h,x,r,gK.app e c b s p⟩
theorem gK.lt:∀(R:Fo)(vs:List Value)(a:List Nat),gK w lo ex R vs a->∀g∈a,lo<=g/\g<w.heap.size
 | .nil,vs,a,q=>by obtain⟨rfl,rfl⟩:=q;intro g hg;cases hg
 | .cons o k h,vs,a,⟨r,t,u,x,kv,n,l,m,⟨p,c⟩,y,b,s,d,e⟩=>by
  intro g hg;rw[c]at hg;rcases List.mem_append.1 hg with hg|hg
  ·exact b.1.lt g (by simpa using hg)
  rcases List.mem_append.1 hg with hg|hg
  ·exact gK.lt k kv l d g hg
  ·exact gK.lt h n m e g hg
theorem mo.len:∀(R:Fo)(vs:List Value),mo w lo ex R vs->vs.length=R.len
 | .nil,vs,⟨c,q⟩=>by obtain⟨rfl,rfl⟩:=q;rfl
 | .cons h k d,vs,⟨c,n,p,r,t,kv,g,s,e,b,u,l,o,m,a⟩=>by rw[b.1,List.length_cons,mo.len d g ⟨e,a⟩];rfl
end
abbrev Bxs:=List (Nat×TypeId×Array Value)
abbrev tkB(b:Nat)(t:Tk):Nat×TypeId×Array Value:=(b,45,bg t.k t)
structure Sw (E:Pe) (W w:World) (i:Nat) (kv:Value) (kn:List Value) (D:Fo) (vs:List Value) (T:Bxs) (M:List (Value×List ByteArray)):Prop where
 pp:Pp E w i
 gr:W.grownBy w (some E.pb)
 lt:E.pb<W.heap.size
 ro:w.ownsRow W.heap.size 51 1 kv kn.length kn
 nb:∃bs,gK w W.heap.size kv.ownBlock D vs bs/\(bs++mB M).Nodup
 tb:∀p∈T,W.heap.size<=p.1/\(p.2.1≠51/\p.2.1≠9)/\w.heap[p.1]?=some (.cells p.2.2 p.2.1 (0,0))
 nm:∀p∈M,w.ownsRow W.heap.size 9 1 p.1 (p.2.map Value.string).length (p.2.map Value.string)
section
variable {E : Pe} {W w w' : World} {i j : Nat} {kv v : Value} {kn vs us ws : List Value} {D R : Fo} {T : Bxs} {M : List (Value × List ByteArray)}
theorem Sw.nn(h:Sw E W w i kv kn D vs T M):mo w W.heap.size kv.ownBlock D vs:=h.nb.elim fun a q=>⟨a,q.1⟩
theorem CA(b:∀p∈M,w.ownsRow W.heap.size 9 1 p.1 (p.2.map Value.string).length (p.2.map Value.string)):∀g∈mB M,g<w.heap.size:=fun g a=>by
 obtain⟨p,c,a⟩:=List.mem_flatMap.1 a;exact((b p c).lt g (by simpa using a)).2
theorem Pp.lt(h:Pp E w i):E.pb<w.heap.size:=lt_of_block h.row
theorem Pp.keep(h:Pp E w i)(g:w.grownBy w' none):Pp E w' i:=by
 obtain⟨d,c,b,e⟩:=h.tks;obtain⟨m,l,a⟩:=h.pw;exact⟨h.hn,⟨d,c,(g.block _ (lt_of_block b) (by simp)).trans b,e⟩,(g.block _ h.lt (by simp)).trans h.row,h.pg,m,l,(g.block _ (lt_of_block a) (by simp)).trans a⟩
theorem Sw.start(h:Pp E w i):Hid (Sw E w w i s0 [] .nil [] [] []):=⟨h,dt _ _,h.lt,World.ownsRow_nil _ _ _ _,⟨[],⟨rfl,rfl⟩,List.nodup_nil⟩,fun b a=>(by cases a),fun b a=>(by cases a)⟩
theorem Sw.step(h:Sw E W w i kv kn D vs T M)(g:w.grownBy w' (some E.pb))(p:Pp E w' j):Sw E W w' j kv kn D vs T M:=by
 have d:∀k,W.heap.size<=k->k<w.heap.size->w'.heap[k]?=w.heap[k]?:=fun k a b=>g.block k b (fun d=>by have:=h.lt;cases d;omega);obtain⟨e,l,m⟩:=h.nb;exact⟨p,h.gr.trans g,h.lt,eB h.ro (fun g _ a b=>⟨d g a b,a⟩),⟨e,gK.mono (fun k a b n=>⟨d k a n,a,b⟩) _ _ _ l,m⟩,fun p c=>⟨(h.tb p c).1,(h.tb p c).2.1,(d _ (h.tb p c).1 (lt_of_block (h.tb p c).2.2)).trans (h.tb p c).2.2⟩,fun p c=>eB (h.nm p c) (fun g _ a b=>⟨d g a b,a⟩)⟩
theorem fQ(b:Below w.heap.size w w')(q:Option Nat):w.grownBy w' q:=⟨b.os,b.tape,b.output,b.size,fun k a _=>b.block k a⟩
theorem sX(h:Hid (Sw E W w i kv kn D vs T M))(q:Pp E w' j/\w.grownBy w' (some E.pb)):Hid (Sw E W w' j kv kn D vs T M):=h.out.step q.2 q.1
theorem sB(h:Hid (Sw E W w i kv kn D vs T M))(b:Below w.heap.size w w'):Hid (Sw E W w' i kv kn D vs T M):=h.out.step (fQ b _) (h.out.pp.keep (fQ b _))
theorem Sw.sub(h:Sw E W w i kv kn D vs T M)(s:Sw E w w' j v us R ws [] []):Sw E W w' j kv kn (D.app R) (vs++ws) T M:=by
 have q:=h.step s.gr s.pp;have x:=h.gr.size;obtain⟨z,y,A⟩:=q.nb;obtain⟨o,e,p⟩:=h.nb;obtain⟨r,g,u⟩:=s.nb;obtain⟨b,t,p2⟩:∃b,gK w' W.heap.size kv.ownBlock D vs b/\(b++mB M).Nodup/\∀a∈b,a<w.heap.size:=⟨o,gK.mono (w:=w) (fun k l m d=>⟨s.gr.block k d (fun c=>by have:=h.lt;cases c;omega),l,m⟩) _ _ _ e,p,fun a hx=>(e.lt _ _ _ a hx).2⟩;refine⟨q.pp,q.gr,q.lt,q.ro,⟨b++r,gK.app _ _ _ t (gK.mono (fun k l m d=>⟨rfl,by omega,fun c=>?_⟩) _ _ _ g),I6 (n:=w.heap.size) p2.1 (by simpa [mB] using u) (fun a hx=>?_) (fun a hx=>(g.lt _ _ _ a hx).1)⟩,q.tb,q.nm⟩
 ·have:=(h.ro.lt k c).2;omega
 ·rcases List.mem_append.1 hx with hx|hx
  ·exact p2.2 a hx
  ·exact CA h.nm a hx
theorem Sw.subL(h:Sw E W w i s0 [] D vs T M)(s:Sw E w w' j v us R ws [] []):Sw E W w' j v us (D.app R) (vs++ws) T M:=by
 have q:=h.step s.gr s.pp;have m:=h.gr.size;obtain⟨p,d,o⟩:=h.nb;obtain⟨t,l,r⟩:=s.nb;refine⟨q.pp,q.gr,q.lt,cU s.ro m,⟨p++t,gK.app _ _ _ (gK.mono (w:=w) (fun k e g c=>⟨s.gr.block k c (fun b=>by have:=h.lt;cases b;omega),e,fun b=>?_⟩) _ _ _ d) (gK.mono (fun k e g c=>⟨rfl,by omega,g⟩) _ _ _ l),I6 (n:=w.heap.size) o (by simpa [mB] using r) (fun a hx=>?_) (fun a hx=>(l.lt _ _ _ a hx).1)⟩,q.tb,q.nm⟩
 ·have:=(s.ro.lt k b).1;omega
 ·rcases List.mem_append.1 hx with hx|hx
  ·exact(d.lt _ _ _ a hx).2
  ·exact CA h.nm a hx
theorem Sw.box(h:Sw E W w i kv kn D vs T M)(t:Tk):Sw E W (w.alloc (.cells (bg t.k t) 45)) i kv kn D vs (tkB w.heap.size t::T) M:=by
 have a:=sB (w:=w) h (ax w (.cells (bg t.k t) 45));refine⟨a.out.pp,a.out.gr,a.out.lt,a.out.ro,a.out.nb,fun b hp=>?_,a.out.nm⟩;rcases List.mem_cons.1 hp with rfl|hp
 ·exact⟨h.gr.size,⟨show 45≠51 by decide,show 45≠9 by decide⟩,heap_alloc_new w _⟩
 ·exact a.out.tb b hp
theorem Sw.lit(h:Sw E W w i s0 [] D vs T M)(us:List Value)(n:us.length<=100):Sw E W (w.alloc (.cells us.toArray 51)) i (.slice (some ⟨w.heap.size,0,none⟩) us.length us.length) us D vs T M:=by
 have a:=sB (w:=w) h (ax w (.cells us.toArray 51));have m:=World.ownsRow_lit (base:=W.heap.size) (e:=51) (size:=1) w us.toArray us.length h.gr.size (by unfold maxLen;omega) (by simp);obtain⟨b,d,c⟩:=h.nb;refine⟨a.out.pp,a.out.gr,a.out.lt,by simpa using m,⟨b,gK.mono (w:=w) (fun k l o g=>⟨(ax w _).block k g,l,fun e=>?_⟩) _ _ _ d,c⟩,a.out.tb,a.out.nm⟩;have:w.heap.size=k:=by simpa [Value.ownBlock] using e
 omega
theorem Sw.put(h:Sw E W w i kv kn D vs T M)(o:w'.ownsRow W.heap.size 51 1 v us.length us)(g:w.grownBy w' kv.ownBlock)(S:v.ownBlock=kv.ownBlock\/v.ownBlock=some w.heap.size):Sw E W w' i v us D vs T M:=by
 have a:∀k,k<w.heap.size->kv.ownBlock≠some k->w'.heap[k]?=w.heap[k]?:=fun k t n=>g.block k t (fun a=>n a.symm);have lo:∀k,kv.ownBlock=some k->W.heap.size<=k:=fun k b=>(h.ro.lt k b).1;have l:∀{k:Nat}{e:Array Value}{s:TypeId}{m:Nat×Nat},w.heap[k]?=some (.cells e s m)->s≠51->w'.heap[k]?=some (.cells e s m):=fun b B=>(a _ (lt_of_block b) (bZ h.ro b B)).trans b;obtain⟨e,m,C,F⟩:=h.pp.tks;obtain⟨K,z,U⟩:=h.nb;obtain⟨I,Q,x⟩:=h.pp.pw;have G:=(a _ (lt_of_block x) (fun a=>by have:=lo _ a;have:=h.lt;have:=h.pp.pg;omega)).trans x;refine⟨⟨h.pp.hn,⟨e,m,l C (by decide),F⟩,l h.pp.row (by decide),h.pp.pg,I,Q,G⟩,h.gr.andThen g (fun k b=> .inl (lo k b)),h.lt,o,⟨K,gK.mono (w:=w) (fun k t n u=>⟨a k u n,t,fun r=>?_⟩) _ _ _ z,U⟩,fun c d=>⟨(h.tb c d).1,(h.tb c d).2.1,l (h.tb c d).2.2 (h.tb c d).2.1.1⟩,fun c d=>?_⟩
 ·rcases S with q|q
  ·exact n (q ▸ r)
  ·rw[q]at r;cases r;exact Nat.lt_irrefl _ u
 ·have q:=h.nm c d;obtain⟨y,p⟩:=q;refine⟨y,?_⟩;rcases p with p|⟨g,O,L,H,J,A,N⟩
  ·exact .inl p
  ·exact .inr ⟨g,O,L,H,J,l A (by decide),N⟩
theorem Sw.name(h:Sw E W w i kv kn D vs T M)(q:Pp E w' j/\w.grownBy w' (some E.pb)){ns:List ByteArray}(o:w'.ownsRow w.heap.size 9 1 v (ns.map Value.string).length (ns.map Value.string)):Sw E W w' j kv kn D vs T ((v,ns)::M):=by
 have a:=h.step q.2 q.1;obtain⟨c,d,r⟩:=h.nb;refine⟨a.pp,a.gr,a.lt,a.ro,⟨c,gK.mono (w:=w) (fun k m p l=>⟨q.2.block k l (fun g=>by have:=h.lt;cases g;omega),m,p⟩) _ _ _ d,?_⟩,a.tb,fun e hp=>?_⟩
 ·show(c++(v.ownBlock.toList++mB M)).Nodup;rw[<-List.append_assoc];refine I6 (n:=w.heap.size) r (sa _) (fun b hx=>?_) (fun b hx=>(o.lt b (by simpa using hx)).1);rcases List.mem_append.1 hx with hx|hx
  ·exact(d.lt _ _ _ b hx).2
  ·exact CA h.nm b hx
 rcases List.mem_cons.1 hp with rfl|hp
 ·exact cU o h.gr.size
 ·exact a.nm e hp
theorem Sw.fin0(h:Sw E W w i kv vs D vs T M)(N:Nd)(vn:Value)(u:dY N (aY N.k)=N)(m:w.ownsRow W.heap.size 9 1 vn (N.nm.map Value.string).length (N.nm.map Value.string))(cs:Array Value)(e:cs=([.int .i64 N.k,.int .i64 N.f,.int .i64 N.t,.int .i64 N.l,.int .i64 0,kv]++yp N vn (aY N.k)).toArray)(st:TypeId)(g:st=iU (aY N.k)){M':List (Value×List ByteArray)}(d:∀p∈M',p∈M)(o:∀b,(b++mB M).Nodup->((vn.ownBlock.toList++(b++[]))++mB M').Nodup):Sw E W (w.alloc (.cells cs st)) i s0 [] (one N D) [bi N.k w.heap.size] T M':=by
 subst e g;have a:=sB (w:=w) h (ax w (.cells ([.int .i64 N.k,.int .i64 N.f,.int .i64 N.t,.int .i64 N.l,.int .i64 0,kv]++yp N vn (aY N.k)).toArray (iU (aY N.k))));have r:=ax w (.cells ([.int .i64 N.k,.int .i64 N.f,.int .i64 N.t,.int .i64 N.l,.int .i64 0,kv]++yp N vn (aY N.k)).toArray (iU (aY N.k)));obtain⟨b,c,x⟩:=a.out.nb;exact⟨a.out.pp,a.out.gr,a.out.lt,World.ownsRow_nil _ _ _ _,⟨_,⟨w.heap.size,0,vn,kv,vs,[],b,[],⟨rfl,rfl⟩,⟨h.gr.size,by simp[Value.ownBlock],heap_alloc_new w _,u⟩,⟨ai m r,fun s _=>by simp[Value.ownBlock]⟩,⟨a.out.ro,fun s _=>by simp[Value.ownBlock]⟩,gK.mono (fun k y A z=>⟨rfl,y,by simp[Value.ownBlock]⟩) _ _ _ c,rfl,rfl⟩,o b x⟩,a.out.tb,fun p n=>a.out.nm p (d p n)⟩
theorem Sw.drop(h:Sw E W w i kv kn D vs T M){g:Bxs}{M':List (Value×List ByteArray)}(e:∀p∈g,p∈T)(l:M'=M\/M'=[]):Sw E W w i kv kn D vs g M':=by
 obtain⟨b,d,c⟩:=h.nb;rcases l with rfl|rfl
 ·exact⟨h.pp,h.gr,h.lt,h.ro,⟨b,d,c⟩,fun p a=>h.tb p (e p a),h.nm⟩
 ·exact⟨h.pp,h.gr,h.lt,h.ro,⟨b,d,by rw[show mB []=[] from rfl,List.append_nil];exact(List.nodup_append.1 c).1⟩,fun p a=>h.tb p (e p a),fun p a=>(by cases a)⟩
theorem Sw.boxg(h:Sw E W w i kv kn D vs T M)(cs:Array Value)(t:TypeId)(d:t≠51)(b:t≠9):Sw E W (w.alloc (.cells cs t)) i kv kn D vs ((w.heap.size,t,cs)::T) M:=by
 have a:=sB (w:=w) h (ax w (.cells cs t));refine⟨a.out.pp,a.out.gr,a.out.lt,a.out.ro,a.out.nb,fun c hp=>?_,a.out.nm⟩;rcases List.mem_cons.1 hp with rfl|hp
 ·exact⟨h.gr.size,⟨d,b⟩,heap_alloc_new w _⟩
 ·exact a.out.tb c hp
end
def CN(E:Pe)(f:FuncId)(args:Array Value)(i:Nat)(R:Fo)(j:Nat):Prop:=
 ∀w,Pp E w i->R.sz<=50000000->Calls Tryz.prog f args w fun a w'=>∃v,a= .returned v/\Hid (Sw E w w' j s0 [] R [v] [] [])
def CR(E:Pe)(f:FuncId)(args:Array Value)(i:Nat)(R:Fo)(j:Nat):Prop:=
 ∀w,Pp E w i->R.sz<=50000000->Calls Tryz.prog f args w fun a w'=>∃v vs,a= .returned v/\Hid (Sw E w w' j v vs R vs [] [])
section
variable {E : Pe} {w w' : World} {i : Nat}
theorem Pp.cells(h:Pp E w i):w.cell? ⟨E.pb,0,none⟩=some (.slice (some ⟨E.tb,0,none⟩) E.n E.cap)/\w.cell? ⟨E.pb,1,none⟩=some (.int .i64 i)/\∀j,w.frozen? ⟨E.pb,j,none⟩=false:=
 ⟨by rw[cell_of_row _ _ _ _ _ _ h.row];rfl,by rw[cell_of_row _ _ _ _ _ _ h.row];rfl,fun j=>frozen_of_row _ _ _ _ _ h.row⟩
theorem Pp.tok(h:Pp E w i){q:Nat}(c:q<E.n):∃l,((E.tk q).k≠6->l=(E.tk q).l)/\w.cell? ⟨E.tb,q*6,none⟩=some (.int .i64 (E.tk q).k)/\w.cell? ⟨E.tb,q*6+1,none⟩=some (.int .i64 (E.tk q).f)/\w.cell? ⟨E.tb,q*6+2,none⟩=some (.int .i64 (E.tk q).t)/\w.cell? ⟨E.tb,q*6+3,none⟩=some (.int .i64 l)/\w.cell? ⟨E.tb,q*6+4,none⟩=some (.int .i64 (E.tk q).n)/\w.cell? ⟨E.tb,q*6+5,none⟩=some (.string (E.tk q).x):=by
 obtain⟨g,e,b,d⟩:=h.tks;obtain⟨l,a⟩:=d q c;exact⟨l,a.hl,by rw[cell_of_row _ _ _ _ _ _ b];exact a.c0,by rw[cell_of_row _ _ _ _ _ _ b];exact a.c1,by rw[cell_of_row _ _ _ _ _ _ b];exact a.c2,by rw[cell_of_row _ _ _ _ _ _ b];exact a.c3,by rw[cell_of_row _ _ _ _ _ _ b];exact a.c4,by rw[cell_of_row _ _ _ _ _ _ b];exact a.c5⟩
theorem Pp.tkw(h:Pp E w i){q:Nat}(e:q<E.n)(b:(E.tk q).k≠6):KG w E q:=by
 obtain⟨p,d,m,c,l,a,o,g⟩:=h.tok e;rw[d b]at a;exact⟨m,c,l,a,o,g⟩
theorem Pp.ne(h:Pp E w i):E.tb≠E.pb:=fun b=>by
 obtain⟨e,c,a,d⟩:=h.tks;rw[b,h.row]at a;cases a
theorem Pp.move(h:Pp E w i)(j:Nat):Pp E (w.setCell ⟨E.pb,1,none⟩ (.int .i64 j)) j/\w.grownBy (w.setCell ⟨E.pb,1,none⟩ (.int .i64 j)) (some E.pb):=by
 obtain⟨g,a,l,c⟩:=h.tks;obtain⟨e,d,b⟩:=h.pw;exact⟨⟨h.hn,⟨g,a,(heap_setCell_other _ _ _ _ h.ne).trans l,c⟩,heap_setCell_same _ E.pb 1 _ _ _ h.row,h.pg,e,d,(heap_setCell_other _ _ _ _ (Nat.ne_of_lt h.pg)).trans b⟩,ci (dt w _) 1 _⟩
theorem Pp.other(h:Pp E w i){b:Nat}(r:b≠E.pb)(n:b≠E.tb)(s:E.pb<=b)(g:w.grownBy w' (some b)):Pp E w' i:=by
 obtain⟨p,l,d,m⟩:=h.tks;obtain⟨o,e,c⟩:=h.pw;exact⟨h.hn,⟨p,l,(g.block _ (lt_of_block d) (fun a=>n (by cases a;rfl))).trans d,m⟩,(g.block _ h.lt (fun a=>r (by cases a;rfl))).trans h.row,h.pg,o,e,(g.block _ (lt_of_block c) (fun a=>by cases a;have:=h.pg;omega)).trans c⟩
theorem CC(h:Pp E w i)(a:i<E.n):Calls Tryz.prog 68 #[pV E] w fun e w'=>e= .returned (.int .i64 (E.tk i).k)/\Below w.heap.size w w':=by
 obtain⟨o,t,u⟩:=h.cells;obtain⟨p,s,l,b,g,d,r,c⟩:=h.tok a;have x:(i:Int)<(E.n:Int):=by omega
 have m:(0:Int)<=(i:Int):=by omega
 clear h a;go_in;go_wp2_with fail;go_quiet (fail)
 go_wp2;go_ret;exact⟨rfl,rfl,rfl,rfl,Nat.le_refl _,fun _ _=>rfl⟩
theorem I7(h:Pp E w i)(av:i<E.n)(af:(E.tk i).k≠6):Calls Tryz.prog 69 #[pV E] w fun e w'=>e= .returned (vw (E.tk i))/\Pp E w' (i+1)/\w.grownBy w' (some E.pb):=by
 have a8:=h.lt;have K:=ax w (.cells #[.int .i64 0,.int .i64 0,.int .i64 0,.int .i64 0,.int .i64 0,.string ⟨#[]⟩] 45);have Q:=h.keep (fQ K _);obtain⟨c,H⟩:=Q.move (i+1);obtain⟨am,ap,ar⟩:=Q.cells;obtain⟨d,B,S⟩:=c.cells;obtain⟨o,u,m,g,s,y⟩:=c.tkw av af;have ao:((i+1:Nat):Int)=(i:Int)+1:=by omega
 rw[ao]at c H B d S o u m g s y;have bt:(i:Int)<(E.n:Int):=by omega
 have bd:(0:Int)<=(i:Int):=by omega
 have bw:=h.hn;have bs:IntKind.i64.wrap ((i:Int)+1-1)=(i:Int):=by rw[IntKind.wrap_i64];omega
 have a4:IntKind.i64.wrap (i:Int)=(i:Int):=by rw[IntKind.wrap_i64];omega
 have a5:IntKind.i64.wrap ((i:Int)+1)=(i:Int)+1:=by rw[IntKind.wrap_i64];omega
 obtain⟨a,r⟩:=ah ((w.alloc (.cells #[.int .i64 0,.int .i64 0,.int .i64 0,.int .i64 0,.int .i64 0,.string ⟨#[]⟩] 45)).setCell ⟨E.pb,1,none⟩ (.int .i64 ((i:Int)+1)));have N:a.heap[w.heap.size]?=some (.cells #[.int .i64 0,.int .i64 0,.int .i64 0,.int .i64 0,.int .i64 0,.string ⟨#[]⟩] 45 (0,0)):=by
  rw[<-r,heap_setCell_other _ _ _ _ (by show w.heap.size≠E.pb;omega)];exact heap_alloc_new w _
 have X:w.grownBy a (some E.pb):=by rw[<-r];exact(fQ K _).trans H
 rw[r]at c d B S o u m g s y;go_in;go_wp2_with fail;have A:=cS c X N;have Y:=ab h;clear r Q K c H am ap ar h X N;obtain⟨z0,a6,a3,bn,bb,a0⟩:=bz A.out.2.2;obtain⟨bl,a1,bk,a7,br,a2⟩:=er A.out.2.2;have V:E.pb≠w.heap.size:=by omega
 have U:E.tb≠w.heap.size:=by
  obtain⟨bh,bo,ak,_⟩:=Y.out.tks;have:=lt_of_block ak;omega
 have L:∀j F I O G C J,(ja a w.heap.size F I O G C J).drew.cell? ⟨E.pb,j,none⟩=a.cell? ⟨E.pb,j,none⟩:=fun j=>dI V j;have b:∀j F I O G C J,(ja a w.heap.size F I O G C J).drew.cell? ⟨E.tb,j,none⟩=a.cell? ⟨E.tb,j,none⟩:=fun j=>dI U j;unfold ja at L b;go_region_held3 (fun w'=>w'.cell? ⟨E.pb,0,none⟩=some (.slice (some ⟨E.tb,0,none⟩) E.n E.cap)/\w'.cell? ⟨E.pb,1,none⟩=some (.int .i64 ((i:Int)+1))/\w'.cell? ⟨E.tb,i*6,none⟩=some (.int .i64 (E.tk i).k)/\w'.cell? ⟨E.tb,i*6+1,none⟩=some (.int .i64 (E.tk i).f)/\w'.cell? ⟨E.tb,i*6+2,none⟩=some (.int .i64 (E.tk i).t)/\w'.cell? ⟨E.tb,i*6+3,none⟩=some (.int .i64 (E.tk i).l)/\w'.cell? ⟨E.tb,i*6+4,none⟩=some (.int .i64 (E.tk i).n)/\w'.cell? ⟨E.tb,i*6+5,none⟩=some (.string (E.tk i).x)) (first|with_reducible exact⟨(L 0 _ _ _ _ _ _).trans d,(L 1 _ _ _ _ _ _).trans B,(b (i*6) _ _ _ _ _ _).trans o,(b (i*6+1) _ _ _ _ _ _).trans u,(b (i*6+2) _ _ _ _ _ _).trans m,(b (i*6+3) _ _ _ _ _ _).trans g,(b (i*6+4) _ _ _ _ _ _).trans s,(b (i*6+5) _ _ _ _ _ _).trans y⟩|exact⟨d,B,o,u,m,g,s,y⟩) (fail)
 have p:=jP a w.heap.size (.int .i64 (E.tk i).k) (.int .i64 (E.tk i).f) (.int .i64 (E.tk i).t) (.int .i64 (E.tk i).l) (.int .i64 (E.tk i).n) (.string (E.tk i).x);have z:=kX A.out.2.2 (.int .i64 (E.tk i).k) (.int .i64 (E.tk i).f) (.int .i64 (E.tk i).t) (.int .i64 (E.tk i).l) (.int .i64 (E.tk i).n) (.string (E.tk i).x);rw[<-eP]at z;unfold ja at p z;generalize World.drew _=a9 at p z⊢;go_wp2;obtain⟨an,al,N⟩:=A.out;exact bodyPost_ret (results_cell_row rfl _ _ w.heap.size _ _ _ _ rfl z Tryz.underlying45 rfl (by kernel_rfl)) rfl ⟨rfl,an.other V.symm U.symm (Nat.le_of_lt Y.out.lt) p,al.andThen p (fun j Z=> .inl (by cases Z;exact Nat.le_refl _))⟩
end
section
variable {E : Pe} {w w' : World} {i : Nat}
theorem I8(h:Pp E w i)(o:i<E.n){k:Int}(d:(E.tk i).k=k):Calls Tryz.prog 164 #[pV E,.int .i64 k] w fun e w'=>e= .returned (.bool true)/\Pp E w' (i+1)/\w.grownBy w' (some E.pb):=by
 have u:((E.tk i).k !=k)=false:=by simp[d]
 have c:=CC h o;have l:=ab h;have x:=h.hn;clear h d;go_in;go_wp2_with fail;refine c.mono ?_;rintro e r ⟨rfl,g⟩;have a:=l.out.keep (fQ g _);obtain⟨p,s,t⟩:=a.cells;have m:=ab a;clear a c;go_wp2_with fail;go_ret;have b:=m.out.move (i+1);rw[show((i+1:Nat):Int)=(i:Int)+1 by omega]at b;exact⟨rfl,b.1,(fQ g _).trans b.2⟩
theorem I9(h:Pp E w i)(b:i<E.n){k:Int}(a:(E.tk i).k≠k):Calls Tryz.prog 164 #[pV E,.int .i64 k] w fun e w'=>e= .returned (.bool false)/\Below w.heap.size w w':=by
 have l:((E.tk i).k !=k)=true:=by simp[a]
 have d:=CC h b;clear h a b;go_in;go_wp2_with (go_at_call 68;refine d.mono ?_;rintro e g ⟨rfl,c⟩);go_ret;exact⟨rfl,c⟩
theorem CD(h:Pp E w i)(Y:i<E.n):Calls Tryz.prog 36 #[pV E] w fun e w'=>(∃l,((E.tk i).k≠6->l=(E.tk i).l)/\e= .returned (.agg #[.int .i64 (E.tk i).k,.int .i64 (E.tk i).f,.int .i64 (E.tk i).t,.int .i64 l,.int .i64 (E.tk i).n,.string (E.tk i).x]))/\Below w.heap.size w w':=by
 have d:=ax w (.cells #[.int .i64 0,.int .i64 0,.int .i64 0,.int .i64 0,.int .i64 0,.string ⟨#[]⟩] 45);have m:=h.keep (fQ d _);obtain⟨o,L,O⟩:=m.cells;obtain⟨l,Q,F,G,p,C,z,H⟩:=m.tok Y;have ao:(i:Int)<(E.n:Int):=by omega
 have a4:(0:Int)<=(i:Int):=by omega
 have ap:=h.hn;have af:IntKind.i64.wrap (i:Int)=(i:Int):=by rw[IntKind.wrap_i64];omega
 obtain⟨b,y⟩:=ah (w.alloc (.cells #[.int .i64 0,.int .i64 0,.int .i64 0,.int .i64 0,.int .i64 0,.string ⟨#[]⟩] 45));have N:b.heap[w.heap.size]?=some (.cells #[.int .i64 0,.int .i64 0,.int .i64 0,.int .i64 0,.int .i64 0,.string ⟨#[]⟩] 45 (0,0)):=by rw[<-y];exact heap_alloc_new w _
 rw[y]at m o L O F G p C z H d;have c:=cK N d;have U:E.pb≠w.heap.size:=by have:=h.lt;omega
 have S:E.tb≠w.heap.size:=by
  obtain⟨al,a6,V,_⟩:=h.tks;have:=lt_of_block V;omega
 clear h m N d;go_in;go_wp2_with fail;clear y;obtain⟨z0,a1,a0,an,a3,Z⟩:=bz c.out.1;obtain⟨am,ar,a5,a2,a7,av⟩:=er c.out.1;have K:∀j u I B A s J,(ja b w.heap.size u I B A s J).drew.cell? ⟨E.pb,j,none⟩=b.cell? ⟨E.pb,j,none⟩:=fun j=>dI U j;have a:∀j u I B A s J,(ja b w.heap.size u I B A s J).drew.cell? ⟨E.tb,j,none⟩=b.cell? ⟨E.tb,j,none⟩:=fun j=>dI S j;unfold ja at K a;go_region_held3 (fun w'=>w'.cell? ⟨E.pb,0,none⟩=some (.slice (some ⟨E.tb,0,none⟩) E.n E.cap)/\w'.cell? ⟨E.pb,1,none⟩=some (.int .i64 (i:Int))/\w'.cell? ⟨E.tb,i*6,none⟩=some (.int .i64 (E.tk i).k)/\w'.cell? ⟨E.tb,i*6+1,none⟩=some (.int .i64 (E.tk i).f)/\w'.cell? ⟨E.tb,i*6+2,none⟩=some (.int .i64 (E.tk i).t)/\w'.cell? ⟨E.tb,i*6+3,none⟩=some (.int .i64 l)/\w'.cell? ⟨E.tb,i*6+4,none⟩=some (.int .i64 (E.tk i).n)/\w'.cell? ⟨E.tb,i*6+5,none⟩=some (.string (E.tk i).x)) (first|with_reducible exact⟨(K 0 _ _ _ _ _ _).trans o,(K 1 _ _ _ _ _ _).trans L,(a (i*6) _ _ _ _ _ _).trans F,(a (i*6+1) _ _ _ _ _ _).trans G,(a (i*6+2) _ _ _ _ _ _).trans p,(a (i*6+3) _ _ _ _ _ _).trans C,(a (i*6+4) _ _ _ _ _ _).trans z,(a (i*6+5) _ _ _ _ _ _).trans H⟩|exact⟨o,L,F,G,p,C,z,H⟩) (fail)
 have r:=jP b w.heap.size (.int .i64 (E.tk i).k) (.int .i64 (E.tk i).f) (.int .i64 (E.tk i).t) (.int .i64 l) (.int .i64 (E.tk i).n) (.string (E.tk i).x);have g:=kX c.out.1 (.int .i64 (E.tk i).k) (.int .i64 (E.tk i).f) (.int .i64 (E.tk i).t) (.int .i64 l) (.int .i64 (E.tk i).n) (.string (E.tk i).x);rw[<-eP]at g;unfold ja at r g;generalize World.drew _=ak at r g⊢;go_wp2;exact bodyPost_ret (results_cell_row rfl _ _ w.heap.size _ _ _ _ rfl g Tryz.underlying45 rfl (by kernel_rfl)) rfl ⟨⟨l,Q,rfl⟩,c.out.2.grown r (by have:=c.out.2.size;omega) (fun k X=>by cases X;omega)⟩
theorem Fc(h:Pp E w (i+1))(an:i<E.n)(nk:Int)(T:Tk)(a:Option Addr)(n c:Nat):Calls Tryz.prog 166 #[pV E,.int .i64 nk,vw T,.slice a n c] w fun e w'=>e= .returned (.agg #[.int .i64 nk,.int .i64 T.f,.int .i64 (E.tk i).t,.int .i64 T.l,.int .i64 0,.slice a n c])/\Below w.heap.size w w':=by
 have I:=ax w (.cells (bg T.k T) 45);have x:Below w.heap.size w ((w.alloc (.cells (bg T.k T) 45)).alloc (.cells #[.int .i64 0,.int .i64 0,.int .i64 0,.int .i64 0,.int .i64 0,.slice none 0 0] 94)):=I.alloc (by simp) _;have z:=h.keep (fQ x _);obtain⟨B,A,Q⟩:=z.cells;obtain⟨l,ap,V,ak,C,U,S,al⟩:=z.tok an;rw[show((i+1:Nat):Int)=(i:Int)+1 by omega]at A;have a4:(i:Int)<(E.n:Int):=by omega
 have bn:(0:Int)<=(i:Int):=by omega
 have a5:=h.hn;have a3:IntKind.i64.wrap ((i:Int)+1-1)=(i:Int):=by rw[IntKind.wrap_i64];omega
 have ar:IntKind.i64.wrap (i:Int)=(i:Int):=by rw[IntKind.wrap_i64];omega
 obtain⟨b,m⟩:=ah ((w.alloc (.cells (bg T.k T) 45)).alloc (.cells #[.int .i64 0,.int .i64 0,.int .i64 0,.int .i64 0,.int .i64 0,.slice none 0 0] 94));have N:b.heap[w.heap.size+1]?=some (.cells #[.int .i64 0,.int .i64 0,.int .i64 0,.int .i64 0,.int .i64 0,.slice none 0 0] 94 (0,0)):=by
  have:=heap_alloc_new (w.alloc (.cells (bg T.k T) 45)) (.cells #[.int .i64 0,.int .i64 0,.int .i64 0,.int .i64 0,.int .i64 0,.slice none 0 0] 94);rw[World.size_alloc]at this;rw[<-m];exact this
 have J:b.heap[w.heap.size]?=some (.cells (bg T.k T) 45 (0,0)):=by
  rw[<-m];exact((ax (w.alloc (.cells (bg T.k T) 45)) _).block _ (by simp)).trans (heap_alloc_new w _)
 rw[m]at z B A Q V ak C U S al x;have r:=cK N x;obtain⟨bh,L,a6,K,a9,br⟩:=bz J;have Z:E.pb≠w.heap.size+1:=by have:=h.lt;omega
 have Y:E.tb≠w.heap.size+1:=by
  obtain⟨a0,bs,af,_⟩:=h.tks;have:=lt_of_block af;omega
 have X:w.heap.size≠w.heap.size+1:=by omega
 clear h z N x I J;simp only[bg]at m;unfold vw;go_in;go_wp2_with fail;clear m;obtain⟨z0,bd,bb,a2,bl,ao⟩:=bz r.out.1;obtain⟨a1,a7,bo,bk,bt,a8⟩:=er r.out.1;have H:∀j g s p o d u,(ja b (w.heap.size+1) g s p o d u).drew.cell? ⟨E.pb,j,none⟩=b.cell? ⟨E.pb,j,none⟩:=fun j=>dI Z j;have O:∀j g s p o d u,(ja b (w.heap.size+1) g s p o d u).drew.cell? ⟨E.tb,j,none⟩=b.cell? ⟨E.tb,j,none⟩:=fun j=>dI Y j;have G:∀j g s p o d u,(ja b (w.heap.size+1) g s p o d u).drew.cell? ⟨w.heap.size,j,none⟩=b.cell? ⟨w.heap.size,j,none⟩:=fun j=>dI X j;unfold ja at H O G;go_region_held3 (fun w'=>w'.cell? ⟨E.pb,0,none⟩=some (.slice (some ⟨E.tb,0,none⟩) E.n E.cap)/\w'.cell? ⟨E.pb,1,none⟩=some (.int .i64 ((i:Int)+1))/\w'.cell? ⟨E.tb,i*6+2,none⟩=some (.int .i64 (E.tk i).t)/\w'.cell? ⟨w.heap.size,1,none⟩=some (.int .i64 T.f)/\w'.cell? ⟨w.heap.size,3,none⟩=some (.int .i64 T.l)) (first|with_reducible exact⟨(H 0 _ _ _ _ _ _).trans B,(H 1 _ _ _ _ _ _).trans A,(O (i*6+2) _ _ _ _ _ _).trans C,(G 1 _ _ _ _ _ _).trans L,(G 3 _ _ _ _ _ _).trans K⟩|exact⟨B,A,C,L,K⟩) (fail)
 have F:=jP b (w.heap.size+1) (.int .i64 nk) (.int .i64 T.f) (.int .i64 (E.tk i).t) (.int .i64 T.l) (.int .i64 0) (.slice a n c);have y:=kX r.out.1 (.int .i64 nk) (.int .i64 T.f) (.int .i64 (E.tk i).t) (.int .i64 T.l) (.int .i64 0) (.slice a n c);rw[<-eP]at y;unfold ja at F y;generalize World.drew _=av at F y⊢;go_wp2;exact bodyPost_ret (results_cell_row rfl _ _ (w.heap.size+1) _ _ _ _ rfl y Tryz.underlying94 rfl (by kernel_rfl)) rfl ⟨rfl,r.out.2.grown F (by have:=r.out.2.size;omega) (fun k am=>by cases am;omega)⟩
end
section
variable {E : Pe} {W w w' : World} {i j q : Nat} {k nk : Int} {kv v : Value} {kn vs us ws : List Value} {D R : Fo} {T : Bxs} {M : List (Value × List ByteArray)} {f : FuncId} {args : Array Value}
theorem cE(S:Hid (Sw E W w i kv kn D vs T M))(b:(E.tk i).k=k)(d:i<E.n):Calls Tryz.prog 68 #[pV E] w fun e w'=>e= .returned (.int .i64 k)/\Hid (Sw E W w' i kv kn D vs T M):=by
 rw[<-b];refine(CC S.out.pp d).mono ?_;rintro e w' ⟨a,c⟩;exact⟨a,sB S c⟩
theorem aU(S:Hid (Sw E W w i kv kn D vs T M))(c:(E.tk i).k=k)(g:i<E.n)(a:k≠6):Calls Tryz.prog 69 #[pV E] w fun e w'=>e= .returned (.agg (bg k (E.tk i)))/\Hid (Sw E W w' (i+1) kv kn D vs T M):=by
 rw[<-c]at a⊢;refine(I7 S.out.pp g a).mono ?_;rintro e w' ⟨b,d⟩;exact⟨b,sX S d⟩
theorem iG(S:Hid (Sw E W w i kv kn D vs T M))(b:(E.tk i).k=k)(d:i<E.n):Calls Tryz.prog 164 #[pV E,.int .i64 k] w fun e w'=>e= .returned (.bool true)/\Hid (Sw E W w' (i+1) kv kn D vs T M):=by
 refine(I8 S.out.pp d b).mono ?_;rintro e w' ⟨a,c⟩;exact⟨a,sX S c⟩
theorem iY(S:Hid (Sw E W w i kv kn D vs T M))(b:(E.tk i).k≠k)(d:i<E.n):Calls Tryz.prog 164 #[pV E,.int .i64 k] w fun e w'=>e= .returned (.bool false)/\Hid (Sw E W w' i kv kn D vs T M):=by
 refine(I9 S.out.pp d b).mono ?_;rintro e w' ⟨a,c⟩;exact⟨a,sB S c⟩
theorem gL(S:Hid (Sw E W w i kv kn D vs T M))(d:(E.tk i).k=k)(h:i<E.n)(a:k≠6):Calls Tryz.prog 36 #[pV E] w fun e w'=>e= .returned (.agg (bg k (E.tk i)))/\Hid (Sw E W w' i kv kn D vs T M):=by
 rw[<-d]at a⊢;refine(CD S.out.pp h).mono ?_;rintro e w' ⟨⟨l,c,b⟩,g⟩;rw[c a]at b;exact⟨b,sB S g⟩
theorem dv(S:Hid (Sw E W w i kv kn D vs T M)){t:Tk}(a:t.k=k):∃w',w.alloc (.cells (bg k t) 45)=w'/\Hid (Sw E W w' i kv kn D vs (tkB w.heap.size t::T) M):=by
 rw[<-a];exact⟨_,rfl,S.out.box t⟩
theorem dZ{b:Nat}{t:Tk}(S:Hid (Sw E W w i kv kn D vs (tkB b t::T) M))(a:t.k=k):w.cell? ⟨b,0,none⟩=some (.int .i64 k)/\w.cell? ⟨b,1,none⟩=some (.int .i64 t.f)/\w.cell? ⟨b,2,none⟩=some (.int .i64 t.t)/\w.cell? ⟨b,3,none⟩=some (.int .i64 t.l)/\w.cell? ⟨b,4,none⟩=some (.int .i64 t.n)/\w.cell? ⟨b,5,none⟩=some (.string t.x):=by
 rw[<-a];exact bz (S.out.tb _ (List.mem_cons_self ..)).2.2
theorem mo.form{lo:Nat}{ex:Option Nat}(h:mo w lo ex R [v]):∃t p,v= .iface t p:=by
 cases R with
 |nil=>obtain⟨b,a,_⟩:=h;cases a
 |cons d k e=>
  obtain⟨b,r,c,g,o,kv,m,n,l,a,_⟩:=h;exact⟨_,_,(List.cons.inj a.1).1⟩
theorem cM(S:Hid (Sw E W w i kv kn D vs T M))(C:CN E f args i R j)(b:R.sz<=50000000):Calls Tryz.prog f args w fun e w'=>∃t p,e= .returned (.iface t p)/\Hid (Sw E W w' j kv kn (D.app R) (vs++[.iface t p]) T M):=by
 refine(C w S.out.pp b).mono ?_;rintro e w' ⟨v,c,a⟩;obtain⟨t,p,rfl⟩:=mo.form a.out.nn;exact⟨t,p,c,S.out.sub a.out⟩
theorem kN(S:Hid (Sw E W w i s0 [] D vs T M))(C:CR E f args i R j)(d:R.sz<=50000000):Calls Tryz.prog f args w fun e w'=>∃a n c us,e= .returned (.slice a n c)/\Hid (Sw E W w' j (.slice a n c) us (D.app R) (vs++us) T M)/\us.length=n:=by
 refine(C w S.out.pp d).mono ?_;rintro e w' ⟨v,us,g,b⟩;obtain⟨a,c,rfl⟩:=aB b.out.ro;exact⟨a,_,c,us,g,S.out.subL b.out,rfl⟩
theorem fe(S:Hid (Sw E W w i s0 [] D vs T M))(us:List Value)(cs:Array Value)(a:cs=us.toArray)(n:Nat)(b:us.length=n)(c:n<=100):∃w',w.alloc (.cells cs 51)=w'/\Hid (Sw E W w' i (.slice (some ⟨w.heap.size,0,none⟩) n n) us D vs T M):=by
 subst a b;exact⟨_,rfl,S.out.lit us c⟩
theorem bL(S:Hid (Sw E W w j kv kn D vs T M)){t:Tk}(d:t.k=k)(m:1<=j)(h:j<=E.n)(nk:Int)(a:Option Addr)(n c:Nat):Calls Tryz.prog 166 #[pV E,.int .i64 nk,.agg (bg k t),.slice a n c] w fun e w'=>e= .returned (.agg #[.int .i64 nk,.int .i64 t.f,.int .i64 (E.tk (j-1)).t,.int .i64 t.l,.int .i64 0,.slice a n c])/\Hid (Sw E W w' j kv kn D vs T M):=by
 rw[<-d];obtain⟨i,rfl⟩:∃i,j=i+1:=⟨j-1,by omega⟩;refine(Fc S.out.pp (by omega) nk t a n c).mono ?_;rintro e w' ⟨b,g⟩;exact⟨b,sB S g⟩
theorem wX{vn:Value}(N:Nd)(S:Hid (Sw E W w i kv vs D vs T ((vn,N.nm)::M)))(h:dY N (aY N.k)=N){cs:Array Value}(e:cs=([.int .i64 N.k,.int .i64 N.f,.int .i64 N.t,.int .i64 N.l,.int .i64 0,kv]++yp N vn (aY N.k)).toArray){st:TypeId}(g:st=iU (aY N.k)):Hid (Sw E W (w.alloc (.cells cs st)) i s0 [] (one N D) [bi N.k w.heap.size] [] []):=(S.out.fin0 N vn h (S.out.nm _ (List.mem_cons_self ..)) cs e st g (M':=[]) (fun d b=>by cases b) (fun c a=>by
 have a:(c++(vn.ownBlock.toList++mB M)).Nodup:=a;rw[show mB []=[] from rfl,List.append_nil,List.append_nil];rw[<-List.append_assoc]at a;exact(List.perm_append_comm.nodup_iff).1 (List.nodup_append.1 a).1)).drop (fun d b=>by cases b) (.inr rfl)
theorem mq(S:Hid (Sw E W w i kv vs D vs T M))(N:Nd)(d:dY N (aY N.k)=N)(e:N.nm=[]){cs:Array Value}(b:cs=([.int .i64 N.k,.int .i64 N.f,.int .i64 N.t,.int .i64 N.l,.int .i64 0,kv]++yp N s0 (aY N.k)).toArray){st:TypeId}(c:st=iU (aY N.k)):Hid (Sw E W (w.alloc (.cells cs st)) i s0 [] (one N D) [bi N.k w.heap.size] T M):=S.out.fin0 N s0 d (by rw[e];exact World.ownsRow_nil _ _ _ _) cs b st c (fun m g=>g) (fun h a=>by rw[show(s0:Value).ownBlock.toList=[] from rfl,List.nil_append,List.append_nil];exact a)
theorem fR(S:Hid (Sw E W w i kv vs D vs T M))(N:Nd)(c:dY N (aY N.k)=N)(d:N.nm=[]){cs:Array Value}(a:cs=([.int .i64 N.k,.int .i64 N.f,.int .i64 N.t,.int .i64 N.l,.int .i64 0,kv]++yp N s0 (aY N.k)).toArray){st:TypeId}(b:st=iU (aY N.k)):Hid (Sw E W (w.alloc (.cells cs st)) i s0 [] (one N D) [bi N.k w.heap.size] [] []):=(mq S N c d a b).out.drop (fun g e=>by cases e) (.inr rfl)
theorem mo.cell:∀(R:Fo)(vs:List Value){lo:Nat}{ex:Option Nat},mo w lo ex R vs->∀u∈vs,u.oneCell'=true
 | .nil,vs,lo,ex,⟨c,h⟩=>by obtain⟨rfl,rfl⟩:=h;intro u hu;cases hu
 | .cons l k d,vs,lo,ex,⟨c,o,r,s,x,kv,g,t,e,b,y,m,p,n,a⟩=>by
  intro u hu;rw[b.1]at hu;rcases List.mem_cons.1 hu with rfl|hu
  ·rfl
  ·exact mo.cell d g ⟨e,a⟩ u hu
theorem zQ:(Tryz.prog.info? 51).map (fun i=>(i.zero,i.size,i.bytes))=some (some .nilIface,1,16):=by kernel_rfl
theorem bV{l:Array Oper}{r:List Oper}{o:Oper}{a:Act}{Q:Exit->Act->World->Prop}(p:o.guard=none)(s x:Operand)(z:o.op= .call {callee:= .builtin .append,args:=#[s,x],argTypes:=#[92,92]}){base L:Nat}{t:Value}(n:a.eval s=kv)(e:w.ownsRow base 51 1 kv kn.length kn)(B:a.eval x=t)(N:w.ownsRow L 51 1 t us.length us)(O:∀u∈us,u.oneCell'=true)(af:kn.length+us.length<=100000000)(H:base<=w.heap.size)
  (h:∀b d c w',w'.ownsRow base 51 1 (.slice b d c) (kn++us).length (kn++us)->d=kn.length+us.length->w.grownBy w' kv.ownBlock->((Value.slice b d c).ownBlock=kv.ownBlock\/(Value.slice b d c).ownBlock=some w.heap.size)->wpList Tryz.prog l Q r (a.put o.dst (.slice b d c)) w'):wpList Tryz.prog l Q (o::r) a w:=by
 obtain⟨m,C,Y,X,U⟩:=info_parts zQ;rcases N.2 with⟨rfl,G⟩|⟨J,V,ak,rfl,ao,F,al,an,Z,y⟩
 ·refine wpList_append_own_none p s x 92 z base 51 m 1 Tryz.underlying92 C _ _ _ n e B ?_;obtain⟨b,c,rfl⟩:=aB e;obtain rfl:us=[]:=List.length_eq_zero_iff.1 G;exact h _ _ _ w (by simpa using e) (by simp) (dt _ _) (.inl rfl)
 ·refine wpList_append_own_at _ p s x 92 z base 51 m _ 1 16 Tryz.underlying92 C Y X U rfl (by decide) _ _ _ n e ⟨J,0,none⟩ us.length V us B (by omega) (fun j u g=>World.news_of_block F j u (by rw[Nat.mul_one]at y;rw[<-y,List.getElem?_take]at g;split at g;exact g;cases g)) O (by unfold maxLen;omega) (by omega) H ?_;intro am S A I _ K;obtain⟨b,c,rfl⟩:=aB A;exact h _ _ _ S (by rw[List.length_append];exact A) rfl I K
end
end Go.Proofs.YtcbmoiabehpliaaGreatDoor
