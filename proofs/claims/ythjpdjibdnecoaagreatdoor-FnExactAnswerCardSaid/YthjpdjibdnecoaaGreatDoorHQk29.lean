import Derived.Test.YthjpdjibdnecoaaGreatDoorHQk26
import Derived.Laws.AppendOwnNone
set_option linter.all false
set_option maxRecDepth 100000
open Go renaming World->M,Value->S
open Go.Value renaming string->O,string->U,slice->Z
open Option renaming some->T,none->X
open Go.Proofs.Tryz renaming prog->V
open Bool renaming true->Y
namespace Go.Proofs.YthjpdjibdnecoaaGreatDoor
open Go.RowKit
theorem mE{w f:M}{lo c e size n:Nat}{v:S}{i:List S}(o:w.ownsRow lo e size v n i)(h:∀g,v.ownBlock=T g->lo<=g->g<w.heap.size->f.heap[g]?=w.heap[g]?/\c<=g):f.ownsRow c e size v n i:=by
 obtain⟨l,a⟩:=o;refine⟨l,?_⟩;rcases a with a|⟨g,j,k,rfl,m,b,p⟩
 ·exact .inl a
 ·have d:=h g rfl m (ah b);exact .inr ⟨g,j,k,rfl,d.2,d.1.trans b,p⟩
structure Lw (w:M) (lo:Nat) (lv:S) (L:List Mb):Prop where
 row:w.ownsRow lo 53 9 lv L.length (lH L)
 each:∀x∈L,w.ownsRow lo 9 1 x.vn x.N.nm.length (x.N.nm.map O)/\w.ownsRow lo 3 1 x.vk x.N.ks.length (x.N.ks.map (Value.int .i64))
theorem Lw.mono{w g:M}{lo:Nat}{v:S}{e:List Mb}(h:Lw w lo v e)(d:∀k,lo<=k->k<w.heap.size->g.heap[k]?=w.heap[k]?):Lw g lo v e:=
 ⟨mE h.row fun b _ a c=>⟨d b a c,a⟩,fun i f=>⟨mE (h.each i f).1 fun b _ a c=>⟨d b a c,a⟩,mE (h.each i f).2 fun b _ a c=>⟨d b a c,a⟩⟩⟩
theorem Lw.nds{w:M}{lo:Nat}{v:S}{b:List Mb}(h:Lw w lo v b):fx w v (b.map Mb.N):=by
 rcases bp h.row with⟨r,rfl⟩|⟨c,q,rfl⟩
 ·exact .inl ⟨by rw[jK r];rfl,_,_,rfl⟩
 ·refine .inr ⟨⟨c,0,X⟩,q,by rw[dc],fun d N a=>?_⟩;rw[cA]at a;cases hx:b[d]? with
  |none=>rw[hx]at a;cases a
  |some e=>
   rw[hx]at a;obtain rfl:=bu a;rw[show(⟨c,0,X⟩:Addr).add (d*9)=⟨c,d*9,X⟩ by unfold Addr.add;split<;>simp_all];obtain⟨g,i,j,k,l,m,n,o,p⟩:=um h.row hx;have f:=h.each e (cJ hx);exact⟨e.vn,e.vk,g,i,j,k,l,m,n,o,p,yv f.1,qy f.2⟩
def yG(b:Nat):Deferred:={target:= .collected b,args:=#[]}
structure oG (B:Nat) (c:List Nat) (W:M):Prop where
 nd:c.Nodup
 lo:∀b∈c,B<=b
 at_:∀b∈c,W.heap[b]?=T (.deferred (T []))
structure Fp (c:List Nat) (W W':M):Prop where
 os:W'.os=W.os
 tape:W'.tape=W.tape
 output:W'.output=W.output
 size:W'.heap.size=W.heap.size
 same:∀k,k ∉ c->W'.heap[k]?=W.heap[k]?
theorem nI{i:Fence}{n:Nat}{P:Program}{fn:Func}{tmps:Array S}{R:Ending->M->Prop}(B:Nat):∀(c:List Nat)(W:M),oG B c W->(∀f,Fp c W f->LeavesInM i n P fn tmps R [] .returning f)->LeavesInM i n P fn tmps R (c.map yG) .returning W
 |[],W,_,h=>h W ⟨rfl,rfl,rfl,rfl,fun _ _=>rfl⟩
 |b::c,W,g,h=>by
  have j:=g.at_ b (by simp);have k:=List.nodup_cons.1 g.nd;have l:b<W.heap.size:=(Array.getElem?_eq_some_iff.1 j).1;refine⟨by simp,.inl ⟨b,_,rfl,run_takeDeferred j,?_⟩⟩;refine nI B c _ ⟨k.2,fun e a=>g.lo e (by simp[a]),fun e a=>?_⟩ (fun f d=>?_)
  ·exact(World.putObj_heap_other (by rintro rfl;exact k.1 a)).trans (g.at_ e (by simp[a]))
  ·refine h f ⟨d.os,d.tape,d.output,d.size.trans (by simp),fun e a=>?_⟩;simp at a;exact(d.same e a.2).trans (World.putObj_heap_other a.1)
theorem Fp.below{c:List Nat}{w W e:M}{B:Nat}(h:Fp c W e)(a:Below B w W)(f:∀b∈c,B<=b)(j:B<=w.heap.size):Below B w e:=
 ⟨h.os.trans a.os,h.tape.trans a.tape,h.output.trans a.output,by rw[h.size];exact a.size,fun d g=>(h.same d (fun i=>by have:=f d i;omega)).trans (a.block d g)⟩
theorem oG.below{B:Nat}{c:List Nat}{W b:M}(h:oG B c W)(e:Below W.heap.size W b):oG B c b:=
 ⟨h.nd,h.lo,fun a d=>(e.block a (Array.getElem?_eq_some_iff.1 (h.at_ a d)).1).trans (h.at_ a d)⟩
theorem oG.set{B:Nat}{c:List Nat}{W:M}(h:oG B c W)(a:Addr)(v:S){cs:Array S}{t:TypeId}{fr:Nat×Nat}(f:W.heap[a.block]?=T (.cells cs t fr)):oG B c (W.setCell a v):=
 ⟨h.nd,h.lo,fun b d=>(aD _ _ _ _ (fun e=>by
  have:=h.at_ b d;rw[e,f]at this;cases this)).trans (h.at_ b d)⟩
theorem oG.keeps{B:Nat}{c:List Nat}{W a:M}(h:oG B c W)(d:KeepsOthers W a):oG B c a:=
 ⟨h.nd,h.lo,fun b e=>d.same b _ (h.at_ b e) rfl⟩
attribute [local go_sem] kF
def N23(st:List Int):Prop:=∀a∈st,a≠2/\a≠3
def c23(s t:Int):Bool:=match eD 8 [s] t 0 with|some (b,_,_)=>b.all (fun a=>decide (a≠2/\a≠3))|none=>Y
theorem ahj:((List.range 34).all fun s=>(List.range 78).all fun t=>c23 ((s:Int)+100) ((t:Int)+1))=Y:=by decide+kernel
def e23(s:Int):Bool:=decide (((xE s 2).1=[]/\(xE s 2).2=Y)↔((xE s 3).1=[]/\(xE s 3).2=Y))&&match eD 8 [s] 2 0,eD 8 [s] 3 0 with|some (_,some a,_),some (_,some b,_)=>a==b|_,_=>Y
theorem ahk:((List.range 34).all fun s=>e23 ((s:Int)+100))=Y:=by decide+kernel
theorem Kd{t:Int}(f:1<=t)(g:t<=78):∀(st:List Int),Be st->N23 st->N23 (feedL st t).1
 |[],_,h=>by rw[feedL];exact h
 |s::r,o,h=>by
  have d:N23 r:=fun a hx=>h a (dC _ hx);have j:=o s bK;by_cases i:s<100
  ·rw[il i];exact d
  by_cases c:(xE s t).1=[]/\(xE s t).2=Y
  ·rw[jF (by omega) c];exact Kd f g r (fun a hx=>o a (dC _ hx)) d
  ·obtain⟨l,k,m,e,_⟩:=sF (by omega) j f g c;have b:=List.all_eq_true.1 (List.all_eq_true.1 ahj (s-100).toNat (by rw[iF];omega)) (t-1).toNat (by rw[iF];omega);rw[show(((s-100).toNat:Nat):Int)+100=s by omega,show(((t-1).toNat:Nat):Int)+1=t by omega]at b;unfold c23 at b;rw[jG (by omega) c e];rw[e]at b;intro a hx;rcases List.mem_append.1 hx with hx|hx
   ·exact aC (List.all_eq_true.1 b a hx)
   ·exact d a hx
theorem ah9:∀(st:List Int),Be st->N23 st->(feedL st 2).2=(feedL st 3).2
 |[],_,h=>by rw[feedL,feedL]
 |s::r,o,h=>by
  have k:=o s bK;by_cases j:s<100
  ·have:=h s bK;rw[il j,il j,aB this.1,aB this.2]
  have b:=List.all_eq_true.1 ahk (s-100).toNat (by rw[iF];omega);rw[show(((s-100).toNat:Nat):Int)+100=s by omega]at b;unfold e23 at b;rw[be]at b;have e:=aC b.1;by_cases a:(xE s 2).1=[]/\(xE s 2).2=Y
  ·rw[jF (by omega) a,jF (by omega) (e.1 a)];exact ah9 r (fun f d=>o f (dC _ d)) (fun f d=>h f (dC _ d))
  ·obtain⟨p,m,u,g,_⟩:=sF (by omega) k (by omega) (by omega) a;obtain⟨q,n,v,i,_⟩:=sF (t:=3) (by omega) k (by omega) (by omega) (fun c=>a (e.2 c));rw[jG (by omega) a g,jG (by omega) (fun c=>a (e.2 c)) i];have l:=b.2;rw[g,i]at l;exact beq_iff_eq.1 l
open Go.Maps Go.WideMaps
def yH(base:Nat)(W:M)(v:S)(a:List ByteArray):Prop:=W.ownsRow base 9 1 v a.length (a.map O)
theorem yH.form{base:Nat}{W:M}{v:S}{b:List ByteArray}(h:yH base W v b):∃a c,v= Z a b.length c:=bz h
theorem yH.below{base:Nat}{W a:M}{v:S}{b:List ByteArray}(h:yH base W v b)(c:Below W.heap.size W a):yH base a v b:=aE h c
theorem Cc:(Tryz.prog.info? 9).map (fun i=>(i.zero,i.size,i.bytes))=T (T (U ⟨#[]⟩),1,16):=by kernel_rfl
theorem Ah{w:M}{base:Nat}{v:S}{n:Nat}{f:List S}(e:TypeId)(c:Nat)(d:w.ownsRow base 9 1 v n f):
  (Builtin.append_ #[50,50] e #[v,.slice X 0 c]).run V w= .ok v w:=by
 obtain⟨m,a,j,k,l⟩:=dt Cc;rcases d.2 with⟨rfl,rfl⟩|⟨i,g,h,rfl,_,_,b,_⟩
 ·simp[Builtin.append_,AG Tryz.underlying50,sizeOf,typeInfo,a,Builtin.lenOf,Builtin.firstCells]
 ·simp[Builtin.append_,AG Tryz.underlying50,sizeOf,typeInfo,a,Builtin.lenOf,Builtin.firstCells,b,storeCells]
theorem aal:∀(l:List ByteArray),∀u∈l.map O,u.oneCell'=Y:=fun l u a=>by
 obtain⟨b,_,rfl⟩:=List.mem_map.1 a;rfl
theorem qD{w:M}{p:Array Oper}{q:List Oper}{o:Oper}{a:Act}{Q:Exit->Act->M->Prop}(C:o.guard=X)(s x:Operand)
  (E:o.op= .call {callee:= .builtin .append,args:=#[s,x],argTypes:=#[50,50]}) (base:Nat) (v:S) (g:List ByteArray) (G:a.eval s=v)
  (al:yH base w v g) (B:base<=w.heap.size) (I:S) (d:List ByteArray) (z:a.eval x=I) (ak:cH w I d) (a5:g.length<=4194304) (a4:d.length<=4194304) (r:Nat) (y:g.length+d.length=r)
  (h:∀e f m,yH base m (.slice e r f) (g++d)->Below base w m->wpList V p Q q (a.put o.dst (.slice e r f)) m):
  wpList V p Q (o::q) a w:=by
 subst y;obtain⟨ar,L,an,ao,ap⟩:=dt Cc;have i:w.ownsRow base 9 1 v g.length (g.map O):=al;have a2:∀b,a.eval x= .slice X 0 b->d=[]->wpList V p Q (o::q) a w:=fun b A k=>by
  subst k;obtain⟨e,f,rfl⟩:=bz i;refine wpList_plain C fun a3 J=>?_;have y:=Ah o.type b i;unfold Oper.wp execOp;simp only[E,resolve,invoke,builtin,rh,Sem.run_pure,At,List.map_toArray,wK,List.map_nil,G,A,y];exact J _ _ (h e f w (by rw[da];exact i) (ag _ _))
 have H:∀c b,a.eval x= .slice (T c) d.length b->(∀l t,d[l]?=T t->w.cell? (c.add l)=T (.string t))->wpList V p Q (o::q) a w:=fun c b A u=>by
  refine wpList_append_own_at _ C s x 50 E base 9 ar _ 1 16 Tryz.underlying50 L an ao ap rfl (by decide) v _ _ G i c d.length b (d.map O) A (by simp) (fun l t j=>?_) (aal d) (by unfold maxLen;omega) (by omega) B ?_
  ·rw[cA]at j;obtain⟨a1,am,rfl⟩:=Option.map_eq_some_iff.1 j;exact u l a1 am
  ·intro a6 m F K _ _;obtain⟨e,f,rfl⟩:=bz F;exact h e f m (by unfold yH;rw[aH,ee];exact F) ((ag base w).grown K B (fun a0 af=>(i.lt a0 af).1))
 rcases ak with⟨k,c,b,n⟩|⟨c,b,n,u⟩
 ·cases c with
  |none=>exact a2 b (z.trans n) k
  |some c=>exact H c b (by rw[z,n,k];rfl) (fun l t j=>by rw[k]at j;simp at j)
 ·exact H c b (z.trans n) u
theorem aam{w:M}{an:Array Oper}{o:Oper}{a:Act}{K:Act->M->Prop}{Q:Exit->Act->M->Prop}{E:Prop}(q:o.guard=X)(s x:Operand)
  (B:o.op= .call {callee:= .builtin .append,args:=#[s,x],argTypes:=#[50,50]}) (base:Nat) (v:S) (b:List ByteArray) (H:a.eval s=v)
  (F:yH base w v b) (i:base<=w.heap.size) (f:Addr) (m c:Nat) (d:List ByteArray) (I:a.eval x= .slice (T f) m c) (k:d.length=m) (A:∀j u,d[j]?=T u->w.cell? (f.add j)=T (.string u)) (ar:b.length<=4194304) (z:0<m) (ap:m<=4194304) (r:Nat) (G:b.length+m=r)
  (h:∀g cap e,yH base e (.slice (T ⟨g,0,X⟩) r cap) (b++d)->Below base w e->K (a.put o.dst (.slice (T ⟨g,0,X⟩) r cap)) e):
  if Region.wanted o (yielded an a.tmps)=Y then Oper.wp V o a w K Q else E:=by
 subst G;obtain⟨al,t,L,af,ak⟩:=dt Cc;have l:w.ownsRow base 9 1 v b.length (b.map O):=F;refine step_append_lies _ q s x 50 B base 9 al _ 1 16 Tryz.underlying50 t L af ak rfl (by decide) v _ _ H l f m c (d.map O) I (by simp[k]) (fun j u n=>?_) (aal d) z (by unfold maxLen;omega) (by omega) i w.heap.size rfl ?_
 ·rw[cA]at n;obtain⟨ao,J,rfl⟩:=Option.map_eq_some_iff.1 n;exact A j ao J
 ·intro g cap e C p _ _;subst k;exact h g cap e (by unfold yH;rw[aH,ee];exact C) ((ag base w).grown p i (fun am y=>(l.lt am y).1))
theorem Id(w:M)(s t:ByteArray):∀(j:Nat) u,[s,t][j]?=T u->(w.alloc (.cells #[U s,U t] 9)).cell? ((⟨w.heap.size,0,X⟩:Addr).add j)=T (U u):=fun j u a=>by
 have b:=aj w (.cells #[U s,U t] 9)
 match j,a with
 |0,a=>
  simp at a;subst a;show(w.alloc _).cell? ⟨w.heap.size,0+0,X⟩=_;rw[aq _ _ _ _ _ _ b];rfl
 |1,a=>
  simp at a;subst a;show(w.alloc _).cell? ⟨w.heap.size,0+1,X⟩=_;rw[aq _ _ _ _ _ _ b];rfl
 |j+2,a=>simp at a
theorem xI(w:M)(s:ByteArray):cH (w.alloc (.cells #[U s] 9)) (Z (T ⟨w.heap.size,0,X⟩) 1 1) [s]:=
 .inr ⟨_,_,rfl,fun j c a=>by
  have b:=aj w (.cells #[U s] 9)
  match j,a with
  |0,a=>
   simp at a;subst a;show(w.alloc _).cell? ⟨w.heap.size,0+0,X⟩=_;rw[aq _ _ _ _ _ _ b];rfl
  |j+1,a=>simp at a⟩
