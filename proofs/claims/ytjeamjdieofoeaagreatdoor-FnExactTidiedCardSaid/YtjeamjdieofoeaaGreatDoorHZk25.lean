import Derived.Test.YtjeamjdieofoeaaGreatDoorHZk11
import Derived.Test.YtjeamjdieofoeaaGreatDoorHZk16
import Derived.Laws.AppendOwnNone
set_option linter.all false
set_option maxRecDepth 100000
set_option maxHeartbeats 25600000
open Option renaming some->O,none->U
open Go.Proofs.Tryz renaming prog->Z
open Go.IntKind renaming i64->Ax
open Go.Value renaming int->A0,iface->A2,slice->A5,string->A9,pointer->Cb,ownBlock->Er,string->E1,slice->Ga,bool->Hn,agg->H0,int->H2
open Go renaming Value->Br,wpAnyH_ready->B6,Calls->C2,World->E2,maxLen->F1,wpList_append_own_at->G0,wp_region_held_drew->G3,TypeId->Hm
open Go.Ending renaming returned->Bs
open Go.AllReadyH renaming cons->B0,nil->B1
open Go.RowKit renaming Hid->B3,Below->Fs,intOf->H1
open List renaming set->B4
open Go.Obj renaming cells->B7
open Go.World renaming setCell->E0,news_of_block->G2
open Bool renaming false->F0,true->F2
namespace Go.Proofs.YtjeamjdieofoeaaGreatDoor
open Go.RowKit
variable{E:Pe}{M M':List (Value×List ByteArray)}{NS ns:List ByteArray}{Q:Exit->Act->World->Prop}{R X:Fo}{T:Bxs}{W w:World}{cs:Array Value}{f:FuncId}{i j k m:Nat}{kn vs:List Value}{kv:Value}{nk q:Int}{st:TypeId}{t:Tk}
theorem ag3:(Tryz.prog.info? 3).map (fun i=>(i.zero,i.size,i.bytes))=O (O (A0 Ax 0),1,8):=by kernel_rfl
theorem Dp:(Tryz.prog.info? 9).map (fun i=>(i.zero,i.size,i.bytes))=O (O (E1 ⟨#[]⟩),1,16):=by kernel_rfl
structure Pp (E:Pe) (w:E2) (i:Nat):Prop where
 hn:E.n<=1048576
 tks:∃cs fr,w.heap[E.tb]?=O (.cells cs 67 fr)/\TkR cs E.tk E.n
 row:w.heap[E.pb]?=O (.cells #[.slice (O ⟨E.tb,0,U⟩) E.n E.cap,.int .i64 i] 70 (0,0))
 pg:3<E.pb
 pw:∃tt fr,w.heap[3]?=O (.cells EE tt fr)
def Rv(w:E2)(lo:Nat)(b:Option Nat)(t:Hm)(v:Br)(xs:List Br):Prop:=w.ownsRow lo t 1 v xs.length xs/\∀a,v.ownBlock=O a->b≠O a
def sJ(w:E2)(lo:Nat)(a:Option Nat):Fo->List Br->List Nat->Prop
 | .nil,vs,c=>vs=[]/\c=[]
 | .cons N k r,vs,c=>∃b g vn vk kv f d e,(vs=er N.k b::f/\c=vn.ownBlock.toList++(d++e))/\(lo<=b/\a≠O b/\ft w b N vn g vk/\mz N (de N.k)=N)/\Rv w lo a 9 vn (N.nm.map A9)/\Rv w lo a 49 vk kv/\sJ w lo a k kv d/\sJ w lo a r f e
def Al(w:E2)(lo:Nat)(b:Option Nat)(R:Fo)(c:List Br):Prop:=∃a,sJ w lo b R c a
def mB(a:List (Br×List ByteArray)):List Nat:=a.flatMap fun b=>b.1.ownBlock.toList
theorem nd3{a b c:List Nat}{n:Nat}(h:(a++c).Nodup)(k:b.Nodup)(f:∀x∈a++c,x<n)(g:∀x∈b,n<=x):((a++b)++c).Nodup:=by
 rw[uz]at h;obtain⟨j,l,m⟩:=h;have o:∀x∈a,∀d∈b,x≠d:=fun x hx d e i=>by have:=f x (List.mem_append_left _ hx);have:=g d e;omega
 have p:∀x∈b,∀d∈c,x≠d:=fun x hx d e i=>by have:=f d (Fu _ e);have:=g x hx;omega
 rw[uz,uz];refine⟨⟨j,k,o⟩,l,fun x hx d e=>?_⟩;rcases List.mem_append.1 hx with hx|hx
 ·exact m x hx d e
 ·exact p x hx d e
theorem Ho(o:Option Nat):o.toList.Nodup:=by cases o<;>simp
section
variable {w w' : World} {lo lo' : Nat} {ex ex' : Option Nat}
theorem Rv.mono{t:Hm}{v:Br}{xs:List Br}(o:Rv w lo ex t v xs)(h:∀k,lo<=k->ex≠O k->k<w.heap.size->w'.heap[k]?=w.heap[k]?/\lo'<=k/\ex'≠O k):Rv w' lo' ex' t v xs:=
 ⟨ju o.1 (fun a b c d=>⟨(h a c (o.2 a b) d).1,(h a c (o.2 a b) d).2.1⟩),fun a b=>(h a (o.1.lt a b).1 (o.2 a b) (o.1.lt a b).2).2.2⟩
theorem sJ.mono(h:∀k,lo<=k->ex≠O k->k<w.heap.size->w'.heap[k]?=w.heap[k]?/\lo'<=k/\ex'≠O k):∀(R:Fo)(vs:List Br)(a:List Nat),sJ w lo ex R vs a->sJ w' lo' ex' R vs a
 | .nil,vs,a,q=>q
 | .cons N k r,vs,a,⟨b,o,vn,vk,kv,i,f,g,e,⟨j,l,d,m⟩,n,k1,p,s⟩=>by
  have c:=h b j l (ai d);exact⟨b,o,vn,vk,kv,i,f,g,e,⟨c.2.1,c.2.2,c.1.trans d,m⟩,n.mono h,k1.mono h,sJ.mono h k kv f p,sJ.mono h r i g s⟩
theorem sJ.app:∀(R:Fo)(vs:List Br)(a:List Nat){S:Fo}{us:List Br}{cs:List Nat},sJ w lo ex R vs a->sJ w lo ex S us cs->sJ w lo ex (R.app S) (vs++us) (a++cs)
 | .nil,vs,a,S,us,cs,q,p=>by obtain⟨rfl,rfl⟩:=q;exact p
 | .cons t u o,vs,a,S,us,cs,⟨d,l,s,r,j,c,f,b,⟨g,h⟩,e,k,i,m,n⟩,p=>⟨d,l,s,r,j,c++us,f,b++cs,⟨by rw[g];rfl,by rw[h];simp only[dy]⟩,e,k,i,m,sJ.app o c b n p⟩
theorem sJ.lt:∀(R:Fo)(vs:List Br)(a:List Nat),sJ w lo ex R vs a->∀g∈a,lo<=g/\g<w.heap.size
 | .nil,vs,a,q=>by obtain⟨rfl,rfl⟩:=q;intro g hg;cases hg
 | .cons m e k,vs,a,⟨n,s,u,t,f,l,b,c,⟨p,d⟩,o,h,r,i,j⟩=>by
  intro g hg;rw[d]at hg;rcases List.mem_append.1 hg with hg|hg
  ·exact h.1.lt g (by simpa using hg)
  rcases List.mem_append.1 hg with hg|hg
  ·exact sJ.lt e f b i g hg
  ·exact sJ.lt k l c j g hg
theorem Al.len:∀(R:Fo)(vs:List Br),Al w lo ex R vs->vs.length=R.len
 | .nil,vs,⟨b,q⟩=>by obtain⟨rfl,rfl⟩:=q;rfl
 | .cons g k e,vs,⟨b,h,o,s,r,m,f,j,a,c,i,n,l,p,d⟩=>by rw[c.1,bB,Al.len e f ⟨a,d⟩];rfl
end
abbrev tkB(b:Nat)(t:Tk):Nat×Hm×Array Br:=(b,67,jr t.k t)
structure Sw (E:Pe) (W w:E2) (i:Nat) (kv:Br) (kn:List Br) (D:Fo) (vs:List Br) (T:Bxs) (M:List (Br×List ByteArray)):Prop where
 pp:Pp E w i
 gr:W.grownBy w (O E.pb)
 lt:E.pb<W.heap.size
 ro:w.ownsRow W.heap.size 49 1 kv kn.length kn
 nb:∃bs,sJ w W.heap.size kv.ownBlock D vs bs/\(bs++mB M).Nodup
 tb:∀p∈T,W.heap.size<=p.1/\(p.2.1≠49/\p.2.1≠9)/\w.heap[p.1]?=O (.cells p.2.2 p.2.1 (0,0))
 nm:∀p∈M,w.ownsRow W.heap.size 9 1 p.1 (p.2.map A9).length (p.2.map A9)
section
variable {E : Pe} {W w w' : World} {i j : Nat} {kv v : Value} {kn vs us ws : List Value} {D R : Fo} {T : Bxs} {M : List (Value × List ByteArray)}
theorem Sw.nn(h:Sw E W w i kv kn D vs T M):Al w W.heap.size kv.ownBlock D vs:=h.nb.elim fun a b=>⟨a,b.1⟩
theorem ag4(nm:∀p∈M,w.ownsRow W.heap.size 9 1 p.1 (p.2.map A9).length (p.2.map A9)):∀g∈mB M,g<w.heap.size:=fun g a=>by
 obtain⟨p,b,a⟩:=List.mem_flatMap.1 a;exact((nm p b).lt g (by simpa using a)).2
theorem Pp.lt(h:Pp E w i):E.pb<w.heap.size:=ai h.row
theorem Pp.keep(h:Pp E w i)(g:w.grownBy w' U):Pp E w' i:=by
 obtain⟨c,e,a,f⟩:=h.tks;obtain⟨j,d,b⟩:=h.pw;exact⟨h.hn,⟨c,e,(g.block _ (ai a) (by simp)).trans a,f⟩,(g.block _ h.lt (by simp)).trans h.row,h.pg,j,d,(g.block _ (ai b) (by simp)).trans b⟩
theorem Sw.start(h:Pp E w i):B3 (Sw E w w i s0 [] .nil [] [] []):=⟨h,ub _ _,h.lt,dr _ _ _ _,⟨[],⟨rfl,rfl⟩,uD⟩,fun b a=>(by cases a),fun b a=>(by cases a)⟩
theorem Sw.step(h:Sw E W w i kv kn D vs T M)(g:w.grownBy w' (O E.pb))(p:Pp E w' j):Sw E W w' j kv kn D vs T M:=by
 have e:∀b,W.heap.size<=b->b<w.heap.size->w'.heap[b]?=w.heap[b]?:=fun b a c=>g.block b c (fun e=>by have:=h.lt;cases e;omega);obtain⟨f,l,m⟩:=h.nb;exact⟨p,h.gr.trans g,h.lt,ju h.ro (fun g _ a c=>⟨e g a c,a⟩),⟨f,sJ.mono (fun b a c k=>⟨e b a k,a,c⟩) _ _ _ l,m⟩,fun p d=>⟨(h.tb p d).1,(h.tb p d).2.1,(e _ (h.tb p d).1 (ai (h.tb p d).2.2)).trans (h.tb p d).2.2⟩,fun p d=>ju (h.nm p d) (fun g _ a c=>⟨e g a c,a⟩)⟩
theorem qH(b:Fs w.heap.size w w')(q:Option Nat):w.grownBy w' q:=⟨b.os,b.tape,b.output,b.size,fun c a _=>b.block c a⟩
theorem sX(h:B3 (Sw E W w i kv kn D vs T M))(q:Pp E w' j/\w.grownBy w' (O E.pb)):B3 (Sw E W w' j kv kn D vs T M):=h.step q.2 q.1
theorem sB(h:B3 (Sw E W w i kv kn D vs T M))(b:Fs w.heap.size w w'):B3 (Sw E W w' i kv kn D vs T M):=h.step (qH b _) (h.pp.keep (qH b _))
theorem Sw.sub(h:Sw E W w i kv kn D vs T M)(s:Sw E w w' j v us R ws [] []):Sw E W w' j kv kn (D.app R) (vs++ws) T M:=by
 have b:=h.step s.gr s.pp;have x:=h.gr.size;obtain⟨u,y,z⟩:=b.nb;obtain⟨o,l,q⟩:=h.nb;obtain⟨p,m,t⟩:=s.nb;obtain⟨c,r,p2⟩:∃c,sJ w' W.heap.size kv.ownBlock D vs c/\(c++mB M).Nodup/\∀a∈c,a<w.heap.size:=⟨o,sJ.mono (w:=w) (fun e f g k=>⟨s.gr.block e k (fun d=>by have:=h.lt;cases d;omega),f,g⟩) _ _ _ l,q,fun a hx=>(l.lt _ _ _ a hx).2⟩;refine⟨b.pp,b.gr,b.lt,b.ro,⟨c++p,sJ.app _ _ _ r (sJ.mono (fun e f g k=>⟨rfl,by omega,fun d=>?_⟩) _ _ _ m),nd3 (n:=w.heap.size) p2.1 (by simpa [mB] using t) (fun a hx=>?_) (fun a hx=>(m.lt _ _ _ a hx).1)⟩,b.tb,b.nm⟩
 ·have:=(h.ro.lt e d).2;omega
 ·rcases List.mem_append.1 hx with hx|hx
  ·exact p2.2 a hx
  ·exact ag4 h.nm a hx
theorem Sw.subL(h:Sw E W w i s0 [] D vs T M)(s:Sw E w w' j v us R ws [] []):Sw E W w' j v us (D.app R) (vs++ws) T M:=by
 have a:=h.step s.gr s.pp;have p:=h.gr.size;obtain⟨m,k,q⟩:=h.nb;obtain⟨o,l,r⟩:=s.nb;refine⟨a.pp,a.gr,a.lt,nI s.ro p,⟨m++o,sJ.app _ _ _ (sJ.mono (w:=w) (fun d e f g=>⟨s.gr.block d g (fun c=>by have:=h.lt;cases c;omega),e,fun c=>?_⟩) _ _ _ k) (sJ.mono (fun d e f g=>⟨rfl,by omega,f⟩) _ _ _ l),nd3 (n:=w.heap.size) q (by simpa [mB] using r) (fun b hx=>?_) (fun b hx=>(l.lt _ _ _ b hx).1)⟩,a.tb,a.nm⟩
 ·have:=(s.ro.lt d c).1;omega
 ·rcases List.mem_append.1 hx with hx|hx
  ·exact(k.lt _ _ _ b hx).2
  ·exact ag4 h.nm b hx
theorem Sw.box(h:Sw E W w i kv kn D vs T M)(t:Tk):Sw E W (w.alloc (B7 (jr t.k t) 67)) i kv kn D vs (tkB w.heap.size t::T) M:=by
 have a:=sB (w:=w) h (cK w (B7 (jr t.k t) 67));refine⟨a.pp,a.gr,a.out.lt,a.ro,a.nb,fun b hp=>?_,a.nm⟩;rcases List.mem_cons.1 hp with rfl|hp
 ·exact⟨h.gr.size,⟨show 67≠49 by decide,show 67≠9 by decide⟩,aA w _⟩
 ·exact a.tb b hp
theorem Sw.lit(h:Sw E W w i s0 [] D vs T M)(us:List Br)(m:us.length<=100):Sw E W (w.alloc (B7 us.toArray 49)) i (A5 (O ⟨w.heap.size,0,U⟩) us.length us.length) us D vs T M:=by
 have a:=sB (w:=w) h (cK w (B7 us.toArray 49));have k:=kJ (base:=W.heap.size) (e:=49) (size:=1) w us.toArray us.length h.gr.size (by unfold F1;omega) (by simp);obtain⟨c,g,j⟩:=h.nb;refine⟨a.pp,a.gr,a.out.lt,by simpa using k,⟨c,sJ.mono (w:=w) (fun b d l f=>⟨(cK w _).block b f,d,fun e=>?_⟩) _ _ _ g,j⟩,a.tb,a.nm⟩;have:w.heap.size=b:=by simpa [Er] using e
 omega
theorem Sw.put(h:Sw E W w i kv kn D vs T M)(o:w'.ownsRow W.heap.size 49 1 v us.length us)(g:w.grownBy w' kv.ownBlock)(C:v.ownBlock=kv.ownBlock\/v.ownBlock=O w.heap.size):Sw E W w' i v us D vs T M:=by
 have b:∀a,a<w.heap.size->kv.ownBlock≠O a->w'.heap[a]?=w.heap[a]?:=fun a p l=>g.block a p (fun b=>l b.symm);have t:∀a,kv.ownBlock=O a->W.heap.size<=a:=fun a c=>(h.ro.lt a c).1;have j:∀{a:Nat}{f:Array Br}{r:Hm}{k:Nat×Nat},w.heap[a]?=O (B7 f r k)->r≠49->w'.heap[a]?=O (B7 f r k):=fun c H=>(b _ (ai c) (jw h.ro c H)).trans c;obtain⟨f,k,L,ad⟩:=h.pp.tks;obtain⟨x,J,K⟩:=h.nb;obtain⟨al,A,u⟩:=h.pp.pw;have af:=(b _ (ai u) (fun b=>by have:=t _ b;have:=h.lt;have:=h.pp.pg;omega)).trans u;refine⟨⟨h.pp.hn,⟨f,k,j L (by decide),ad⟩,j h.pp.row (by decide),h.pp.pg,al,A,af⟩,h.gr.andThen g (fun a c=> .inl (t a c)),h.lt,o,⟨x,sJ.mono (w:=w) (fun a p l s=>⟨b a s l,p,fun m=>?_⟩) _ _ _ J,K⟩,fun e d=>⟨(h.tb e d).1,(h.tb e d).2.1,j (h.tb e d).2.2 (h.tb e d).2.1.1⟩,fun e d=>?_⟩
 ·rcases C with q|q
  ·exact l (q ▸ m)
  ·rw[q]at m;cases m;exact Fz _ s
 ·have q:=h.nm e d;obtain⟨B,n⟩:=q;refine⟨B,?_⟩;rcases n with n|⟨g,y,z,I,G,F,ak⟩
  ·exact .inl n
  ·exact .inr ⟨g,y,z,I,G,j F (by decide),ak⟩
theorem Sw.name(h:Sw E W w i kv kn D vs T M)(q:Pp E w' j/\w.grownBy w' (O E.pb)){c:List ByteArray}(o:w'.ownsRow w.heap.size 9 1 v (c.map A9).length (c.map A9)):Sw E W w' j kv kn D vs T ((v,c)::M):=by
 have a:=h.step q.2 q.1;obtain⟨d,e,p⟩:=h.nb;refine⟨a.pp,a.gr,a.lt,a.ro,⟨d,sJ.mono (w:=w) (fun m g k l=>⟨q.2.block m l (fun f=>by have:=h.lt;cases f;omega),g,k⟩) _ _ _ e,?_⟩,a.tb,fun r hp=>?_⟩
 ·show(d++(v.ownBlock.toList++mB M)).Nodup;rw[<-dy];refine nd3 (n:=w.heap.size) p (Ho _) (fun b hx=>?_) (fun b hx=>(o.lt b (by simpa using hx)).1);rcases List.mem_append.1 hx with hx|hx
  ·exact(e.lt _ _ _ b hx).2
  ·exact ag4 h.nm b hx
 rcases List.mem_cons.1 hp with rfl|hp
 ·exact nI o h.gr.size
 ·exact a.nm r hp
theorem Sw.fin0(h:Sw E W w i kv vs D vs T M)(N:Nd)(vn:Br)(j:mz N (de N.k)=N)(o:w.ownsRow W.heap.size 9 1 vn (N.nm.map A9).length (N.nm.map A9))(cs:Array Br)(m:cs=([A0 Ax N.k,A0 Ax N.f,A0 Ax N.t,A0 Ax N.l,A0 Ax 0,kv]++Kw N vn (de N.k)).toArray)(st:Hm)(r:st=vw (de N.k))(g:∀p∈M',p∈M)(n:∀b,(b++mB M).Nodup->((vn.ownBlock.toList++(b++[]))++mB M').Nodup):Sw E W (w.alloc (B7 cs st)) i s0 [] (one N D) [er N.k w.heap.size] T M':=by
 subst m r;have a:=sB (w:=w) h (cK w (B7 ([A0 Ax N.k,A0 Ax N.f,A0 Ax N.t,A0 Ax N.l,A0 Ax 0,kv]++Kw N vn (de N.k)).toArray (vw (de N.k))));have c:=cK w (B7 ([A0 Ax N.k,A0 Ax N.f,A0 Ax N.t,A0 Ax N.l,A0 Ax 0,kv]++Kw N vn (de N.k)).toArray (vw (de N.k)));obtain⟨b,s,u⟩:=a.nb;exact⟨a.pp,a.gr,a.out.lt,dr _ _ _ _,⟨_,⟨w.heap.size,0,vn,kv,vs,[],b,[],⟨rfl,rfl⟩,⟨h.gr.size,by simp[Er],aA w _,j⟩,⟨cJ o c,fun d _=>by simp[Er]⟩,⟨a.ro,fun d _=>by simp[Er]⟩,sJ.mono (fun k e v x=>⟨rfl,e,by simp[Er]⟩) _ _ _ s,rfl,rfl⟩,n b u⟩,a.tb,fun p q=>a.nm p (g p q)⟩
theorem Sw.drop(h:Sw E W w i kv kn D vs T M){b:Bxs}(d:∀p∈b,p∈T)(g:M'=M\/M'=[]):Sw E W w i kv kn D vs b M':=by
 obtain⟨c,e,f⟩:=h.nb;rcases g with rfl|rfl
 ·exact⟨h.pp,h.gr,h.lt,h.ro,⟨c,e,f⟩,fun p a=>h.tb p (d p a),h.nm⟩
 ·exact⟨h.pp,h.gr,h.lt,h.ro,⟨c,e,by rw[show mB []=[] from rfl,dA];exact(List.nodup_append.1 f).1⟩,fun p a=>h.tb p (d p a),fun p a=>(by cases a)⟩
theorem Sw.boxg(h:Sw E W w i kv kn D vs T M)(cs:Array Br)(t:Hm)(b:t≠49)(c:t≠9):Sw E W (w.alloc (B7 cs t)) i kv kn D vs ((w.heap.size,t,cs)::T) M:=by
 have a:=sB (w:=w) h (cK w (B7 cs t));refine⟨a.pp,a.gr,a.out.lt,a.ro,a.nb,fun d hp=>?_,a.nm⟩;rcases List.mem_cons.1 hp with rfl|hp
 ·exact⟨h.gr.size,⟨b,c⟩,aA w _⟩
 ·exact a.tb d hp
end
def CN(E:Pe)(f:FuncId)(args:Array Br)(i:Nat)(R:Fo)(j:Nat):Prop:=
 ∀w,Pp E w i->R.sz<=50000000->C2 Z f args w fun a w'=>∃v,a= Bs v/\B3 (Sw E w w' j s0 [] R [v] [] [])
def CR(E:Pe)(f:FuncId)(args:Array Br)(i:Nat)(R:Fo)(j:Nat):Prop:=
 ∀w,Pp E w i->R.sz<=50000000->C2 Z f args w fun a w'=>∃v vs,a= Bs v/\B3 (Sw E w w' j v vs R vs [] [])
section
variable {E : Pe} {w w' : World} {i : Nat}
theorem Pp.cells(h:Pp E w i):w.cell? ⟨E.pb,0,U⟩=O (A5 (O ⟨E.tb,0,U⟩) E.n E.cap)/\w.cell? ⟨E.pb,1,U⟩=O (A0 Ax i)/\∀j,w.frozen? ⟨E.pb,j,U⟩=F0:=
 ⟨by rw[au _ _ _ _ _ _ h.row];rfl,by rw[au _ _ _ _ _ _ h.row];rfl,fun j=>co _ _ _ _ _ h.row⟩
theorem Pp.tok(h:Pp E w i){q:Nat}(d:q<E.n):∃l,((E.tk q).k≠6->l=(E.tk q).l)/\w.cell? ⟨E.tb,q*6,U⟩=O (A0 Ax (E.tk q).k)/\w.cell? ⟨E.tb,q*6+1,U⟩=O (A0 Ax (E.tk q).f)/\w.cell? ⟨E.tb,q*6+2,U⟩=O (A0 Ax (E.tk q).t)/\w.cell? ⟨E.tb,q*6+3,U⟩=O (A0 Ax l)/\w.cell? ⟨E.tb,q*6+4,U⟩=O (A0 Ax (E.tk q).n)/\w.cell? ⟨E.tb,q*6+5,U⟩=O (E1 (E.tk q).x):=by
 obtain⟨e,g,b,c⟩:=h.tks;obtain⟨l,a⟩:=c q d;exact⟨l,a.hl,by rw[au _ _ _ _ _ _ b];exact a.c0,by rw[au _ _ _ _ _ _ b];exact a.c1,by rw[au _ _ _ _ _ _ b];exact a.c2,by rw[au _ _ _ _ _ _ b];exact a.c3,by rw[au _ _ _ _ _ _ b];exact a.c4,by rw[au _ _ _ _ _ _ b];exact a.c5⟩
theorem Pp.tkw(h:Pp E w i){q:Nat}(d:q<E.n)(b:(E.tk q).k≠6):TkW E q w:=by
 obtain⟨m,c,e,f,g,a,j,l⟩:=h.tok d;rw[c b]at a;exact⟨e,f,g,a,j,l⟩
theorem Pp.ne(h:Pp E w i):E.tb≠E.pb:=fun b=>by
 obtain⟨c,d,a,e⟩:=h.tks;rw[b,h.row]at a;cases a
theorem Pp.move(h:Pp E w i)(j:Nat):Pp E (w.setCell ⟨E.pb,1,U⟩ (A0 Ax j)) j/\w.grownBy (w.setCell ⟨E.pb,1,U⟩ (A0 Ax j)) (O E.pb):=by
 obtain⟨a,c,d,e⟩:=h.tks;obtain⟨g,b,f⟩:=h.pw;exact⟨⟨h.hn,⟨a,c,(aB _ _ _ _ h.ne).trans d,e⟩,bz _ E.pb 1 _ _ _ h.row,h.pg,g,b,(aB _ _ _ _ (Nat.ne_of_lt h.pg)).trans f⟩,qi (ub w _) 1 _⟩
theorem Pp.other(h:Pp E w i){b:Nat}(k:b≠E.pb)(l:b≠E.tb)(o:E.pb<=b)(g:w.grownBy w' (O b)):Pp E w' i:=by
 obtain⟨e,j,d,m⟩:=h.tks;obtain⟨n,f,c⟩:=h.pw;exact⟨h.hn,⟨e,j,(g.block _ (ai d) (fun a=>l (by cases a;rfl))).trans d,m⟩,(g.block _ h.lt (fun a=>k (by cases a;rfl))).trans h.row,h.pg,n,f,(g.block _ (ai c) (fun a=>by cases a;have:=h.pg;omega)).trans c⟩
theorem ag5(h:Pp E w i)(a:i<E.n):C2 Z 140 #[pV E] w fun e w'=>e= Bs (A0 Ax (E.tk i).k)/\Fs w.heap.size w w':=by
 obtain⟨b,c,d⟩:=h.cells;obtain⟨j,g,l,m,o,p,q,r⟩:=h.tok a;have f:(i:Int)<(E.n:Int):=by omega
 clear h a;go_in;go_wp21
 go_quiet (fail)
 go_wp2;go_ret;exact⟨rfl,rfl,rfl,rfl,ag _,fun _ _=>rfl⟩
theorem anB(h:Pp E w i)(a2:i<E.n)(a1:(E.tk i).k≠6):C2 Z 141 #[pV E] w fun e w'=>e= .returned (vTk (E.tk i))/\Pp E w' (i+1)/\w.grownBy w' (O E.pb):=by
 have ba:=h.lt;have B:=cK w (.cells #[.int .i64 0,.int .i64 0,.int .i64 0,.int .i64 0,.int .i64 0,.string ⟨#[]⟩] 67);have A:=h.keep (qH B _);obtain⟨d,F⟩:=A.move (i+1);obtain⟨ap,ar,av⟩:=A.cells;obtain⟨o,p,ak⟩:=d.cells;obtain⟨r,s,u,v,y,z⟩:=d.tkw a2 a1;have a0:((i+1:Nat):Int)=(i:Int)+1:=by omega
 rw[a0]at d F p o ak r s u v y z;have a9:=h.hn;have bb:IntKind.i64.wrap (i:Int)=(i:Int):=by rw[ed];omega
 obtain⟨b,q⟩:=az ((w.alloc (.cells #[.int .i64 0,.int .i64 0,.int .i64 0,.int .i64 0,.int .i64 0,.string ⟨#[]⟩] 67)).setCell ⟨E.pb,1,U⟩ (.int .i64 ((i:Int)+1)));have C:b.heap[w.heap.size]?=O (.cells #[.int .i64 0,.int .i64 0,.int .i64 0,.int .i64 0,.int .i64 0,.string ⟨#[]⟩] 67 (0,0)):=by
  rw[<-q,aB _ _ _ _ (by show w.heap.size≠E.pb;omega)];exact aA w _
 have al:w.grownBy b (O E.pb):=by rw[<-q];exact(qH B _).trans F
 rw[q]at d o p ak r s u v y z;go_in;go_wp21
 have m:=lD d al C;have af:=aq h;clear q A B d F ap ar av h al C;obtain⟨z0,bc,bd,bf,bh,bk⟩:=gg m.2.2;obtain⟨bl,bn,bo,br,bs,bt⟩:=pc m.2.2;have am:E.pb≠w.heap.size:=by omega
 have an:E.tb≠w.heap.size:=by
  obtain⟨a7,a8,a4,_⟩:=af.tks;have:=ai a4;omega
 have G:∀a H I J K L ad,(six b w.heap.size H I J K L ad).drew.cell? ⟨E.pb,a,U⟩=b.cell? ⟨E.pb,a,U⟩:=fun a=>nh am a;have c:∀a H I J K L ad,(six b w.heap.size H I J K L ad).drew.cell? ⟨E.tb,a,U⟩=b.cell? ⟨E.tb,a,U⟩:=fun a=>nh an a;unfold six at G c;go_region_held3 (fun w'=>w'.cell? ⟨E.pb,0,U⟩=O (.slice (O ⟨E.tb,0,U⟩) E.n E.cap)/\w'.cell? ⟨E.pb,1,U⟩=O (.int .i64 ((i:Int)+1))/\w'.cell? ⟨E.tb,i*6,U⟩=O (.int .i64 (E.tk i).k)/\w'.cell? ⟨E.tb,i*6+1,U⟩=O (.int .i64 (E.tk i).f)/\w'.cell? ⟨E.tb,i*6+2,U⟩=O (.int .i64 (E.tk i).t)/\w'.cell? ⟨E.tb,i*6+3,U⟩=O (.int .i64 (E.tk i).l)/\w'.cell? ⟨E.tb,i*6+4,U⟩=O (.int .i64 (E.tk i).n)/\w'.cell? ⟨E.tb,i*6+5,U⟩=O (.string (E.tk i).x)) (first|with_reducible exact⟨(G 0 _ _ _ _ _ _).trans o,(G 1 _ _ _ _ _ _).trans p,(c (i*6) _ _ _ _ _ _).trans r,(c (i*6+1) _ _ _ _ _ _).trans s,(c (i*6+2) _ _ _ _ _ _).trans u,(c (i*6+3) _ _ _ _ _ _).trans v,(c (i*6+4) _ _ _ _ _ _).trans y,(c (i*6+5) _ _ _ _ _ _).trans z⟩|exact⟨o,p,r,s,u,v,y,z⟩) (fail)
 have j:=BF b w.heap.size (.int .i64 (E.tk i).k) (.int .i64 (E.tk i).f) (.int .i64 (E.tk i).t) (.int .i64 (E.tk i).l) (.int .i64 (E.tk i).n) (.string (E.tk i).x);have g:=F5 m.2.2 (.int .i64 (E.tk i).k) (.int .i64 (E.tk i).f) (.int .i64 (E.tk i).t) (.int .i64 (E.tk i).l) (.int .i64 (E.tk i).n) (.string (E.tk i).x);rw[<-qL]at g;unfold six at j g;generalize World.drew _=a6 at j g⊢;go_wp2;obtain⟨a5,ao,C⟩:=m.out;exact aI (eu rfl _ _ w.heap.size _ _ _ _ rfl g Tryz.underlying67 rfl (by kernel_rfl)) rfl ⟨rfl,a5.other am.symm an.symm (gq af.out.lt) j,ao.andThen j (fun a a3=> .inl (by cases a3;exact ag _))⟩
end
section
variable {E : Pe} {w w' : World} {i : Nat}
theorem anC(h:Pp E w i)(l:i<E.n){k:Int}(d:(E.tk i).k=k):C2 Z 250 #[pV E,A0 Ax k] w fun e w'=>e= Bs (Hn F2)/\Pp E w' (i+1)/\w.grownBy w' (O E.pb):=by
 have r:((E.tk i).k !=k)=F0:=by simp[d]
 have f:=ag5 h l;have g:=aq h;have q:=h.hn;clear h d;go_in;go_wp21
 refine f.mono ?_;rintro e s ⟨rfl,c⟩;have a:=g.keep (qH c _);obtain⟨m,o,p⟩:=a.cells;have j:=aq a;clear a f;go_wp21
 go_ret;have b:=j.move (i+1);rw[show((i+1:Nat):Int)=(i:Int)+1 by omega]at b;exact⟨rfl,b.1,(qH c _).trans b.2⟩
theorem anD(h:Pp E w i)(a:i<E.n){k:Int}(b:(E.tk i).k≠k):C2 Z 250 #[pV E,A0 Ax k] w fun e w'=>e= Bs (Hn F0)/\Fs w.heap.size w w':=by
 have f:((E.tk i).k !=k)=F2:=by simp[b]
 have d:=ag5 h a;clear h b a;go_in;go_wp2_with (go_at_call 140;refine d.mono ?_;rintro e g ⟨rfl,c⟩);go_ret;exact⟨rfl,c⟩
theorem ag6(h:Pp E w i)(ad:i<E.n):C2 Z 84 #[pV E] w fun e w'=>(∃l,((E.tk i).k≠6->l=(E.tk i).l)/\e= .returned (.agg #[.int .i64 (E.tk i).k,.int .i64 (E.tk i).f,.int .i64 (E.tk i).t,.int .i64 l,.int .i64 (E.tk i).n,.string (E.tk i).x]))/\Fs w.heap.size w w':=by
 have j:=cK w (.cells #[.int .i64 0,.int .i64 0,.int .i64 0,.int .i64 0,.int .i64 0,.string ⟨#[]⟩] 67);have m:=h.keep (qH j _);obtain⟨p,q,L⟩:=m.cells;obtain⟨l,ak,u,v,y,z,A,B⟩:=m.tok ad;obtain⟨c,r⟩:=az (w.alloc (.cells #[.int .i64 0,.int .i64 0,.int .i64 0,.int .i64 0,.int .i64 0,.string ⟨#[]⟩] 67));have K:c.heap[w.heap.size]?=O (.cells #[.int .i64 0,.int .i64 0,.int .i64 0,.int .i64 0,.int .i64 0,.string ⟨#[]⟩] 67 (0,0)):=by rw[<-r];exact aA w _
 rw[r]at m p q L u v y z A B j;have d:=gI K j;have al:E.pb≠w.heap.size:=by have:=h.lt;omega
 have am:E.tb≠w.heap.size:=by
  obtain⟨ap,ar,an,_⟩:=h.tks;have:=ai an;omega
 clear h m K j;go_in;go_wp21
 clear r;obtain⟨z0,av,a0,a1,a2,a3⟩:=gg d.1;obtain⟨a4,a5,a6,a7,a8,a9⟩:=pc d.1;have s:∀a C F G H I J,(six c w.heap.size C F G H I J).drew.cell? ⟨E.pb,a,U⟩=c.cell? ⟨E.pb,a,U⟩:=fun a=>nh al a;have b:∀a C F G H I J,(six c w.heap.size C F G H I J).drew.cell? ⟨E.tb,a,U⟩=c.cell? ⟨E.tb,a,U⟩:=fun a=>nh am a;unfold six at s b;go_region_held3 (fun w'=>w'.cell? ⟨E.pb,0,U⟩=O (.slice (O ⟨E.tb,0,U⟩) E.n E.cap)/\w'.cell? ⟨E.pb,1,U⟩=O (.int .i64 (i:Int))/\w'.cell? ⟨E.tb,i*6,U⟩=O (.int .i64 (E.tk i).k)/\w'.cell? ⟨E.tb,i*6+1,U⟩=O (.int .i64 (E.tk i).f)/\w'.cell? ⟨E.tb,i*6+2,U⟩=O (.int .i64 (E.tk i).t)/\w'.cell? ⟨E.tb,i*6+3,U⟩=O (.int .i64 l)/\w'.cell? ⟨E.tb,i*6+4,U⟩=O (.int .i64 (E.tk i).n)/\w'.cell? ⟨E.tb,i*6+5,U⟩=O (.string (E.tk i).x)) (first|with_reducible exact⟨(s 0 _ _ _ _ _ _).trans p,(s 1 _ _ _ _ _ _).trans q,(b (i*6) _ _ _ _ _ _).trans u,(b (i*6+1) _ _ _ _ _ _).trans v,(b (i*6+2) _ _ _ _ _ _).trans y,(b (i*6+3) _ _ _ _ _ _).trans z,(b (i*6+4) _ _ _ _ _ _).trans A,(b (i*6+5) _ _ _ _ _ _).trans B⟩|exact⟨p,q,u,v,y,z,A,B⟩) (fail)
 have o:=BF c w.heap.size (.int .i64 (E.tk i).k) (.int .i64 (E.tk i).f) (.int .i64 (E.tk i).t) (.int .i64 l) (.int .i64 (E.tk i).n) (.string (E.tk i).x);have g:=F5 d.1 (.int .i64 (E.tk i).k) (.int .i64 (E.tk i).f) (.int .i64 (E.tk i).t) (.int .i64 l) (.int .i64 (E.tk i).n) (.string (E.tk i).x);rw[<-qL]at g;unfold six at o g;generalize World.drew _=ao at o g⊢;go_wp2;exact aI (eu rfl _ _ w.heap.size _ _ _ _ rfl g Tryz.underlying67 rfl (by kernel_rfl)) rfl ⟨⟨l,ak,rfl⟩,d.2.grown o (by have:=d.2.size;omega) (fun k af=>by cases af;omega)⟩
theorem ajE(h:Pp E w (i+1))(ad:i<E.n)(nk:Int)(T:Tk)(a:Option Addr)(n c:Nat):C2 Z 252 #[pV E,.int .i64 nk,vTk T,.slice a n c] w fun e w'=>e= .returned (.agg #[.int .i64 nk,.int .i64 T.f,.int .i64 (E.tk i).t,.int .i64 T.l,.int .i64 0,.slice a n c])/\Fs w.heap.size w w':=by
 have F:=cK w (.cells (jr T.k T) 67);have u:Fs w.heap.size w ((w.alloc (.cells (jr T.k T) 67)).alloc (.cells #[.int .i64 0,.int .i64 0,.int .i64 0,.int .i64 0,.int .i64 0,.slice U 0 0] 104)):=F.alloc (by simp) _;have x:=h.keep (qH u _);obtain⟨z,v,L⟩:=x.cells;obtain⟨l,a5,ao,ap,C,ar,av,a0⟩:=x.tok ad;rw[show((i+1:Nat):Int)=(i:Int)+1 by omega]at v;have a4:=h.hn;have a6:IntKind.i64.wrap (i:Int)=(i:Int):=by rw[ed];omega
 obtain⟨d,j⟩:=az ((w.alloc (.cells (jr T.k T) 67)).alloc (.cells #[.int .i64 0,.int .i64 0,.int .i64 0,.int .i64 0,.int .i64 0,.slice U 0 0] 104));have H:d.heap[w.heap.size+1]?=O (.cells #[.int .i64 0,.int .i64 0,.int .i64 0,.int .i64 0,.int .i64 0,.slice U 0 0] 104 (0,0)):=by
  have:=aA (w.alloc (.cells (jr T.k T) 67)) (.cells #[.int .i64 0,.int .i64 0,.int .i64 0,.int .i64 0,.int .i64 0,.slice U 0 0] 104);rw[cD]at this;rw[<-j];exact this
 have G:d.heap[w.heap.size]?=O (.cells (jr T.k T) 67 (0,0)):=by
  rw[<-j];exact((cK (w.alloc (.cells (jr T.k T) 67)) _).block _ (by simp)).trans (aA w _)
 rw[j]at x z v L ao ap C ar av a0 u;have g:=gI H u;obtain⟨a8,J,a9,K,ba,bb⟩:=gg G;have ak:E.pb≠w.heap.size+1:=by have:=h.lt;omega
 have al:E.tb≠w.heap.size+1:=by
  obtain⟨a2,a3,an,_⟩:=h.tks;have:=ai an;omega
 have am:w.heap.size≠w.heap.size+1:=by omega
 clear h x H u F G;simp only[jr]at j;unfold vTk;go_in;go_wp21
 clear j;obtain⟨z0,bc,bd,bf,bh,bk⟩:=gg g.1;obtain⟨bl,bn,bo,br,bs,bt⟩:=pc g.1;have B:∀b k m o p q r,(six d (w.heap.size+1) k m o p q r).drew.cell? ⟨E.pb,b,U⟩=d.cell? ⟨E.pb,b,U⟩:=fun b=>nh ak b;have I:∀b k m o p q r,(six d (w.heap.size+1) k m o p q r).drew.cell? ⟨E.tb,b,U⟩=d.cell? ⟨E.tb,b,U⟩:=fun b=>nh al b;have A:∀b k m o p q r,(six d (w.heap.size+1) k m o p q r).drew.cell? ⟨w.heap.size,b,U⟩=d.cell? ⟨w.heap.size,b,U⟩:=fun b=>nh am b;unfold six at B I A;go_region_held3 (fun w'=>w'.cell? ⟨E.pb,0,U⟩=O (.slice (O ⟨E.tb,0,U⟩) E.n E.cap)/\w'.cell? ⟨E.pb,1,U⟩=O (.int .i64 ((i:Int)+1))/\w'.cell? ⟨E.tb,i*6+2,U⟩=O (.int .i64 (E.tk i).t)/\w'.cell? ⟨w.heap.size,1,U⟩=O (.int .i64 T.f)/\w'.cell? ⟨w.heap.size,3,U⟩=O (.int .i64 T.l)) (first|with_reducible exact⟨(B 0 _ _ _ _ _ _).trans z,(B 1 _ _ _ _ _ _).trans v,(I (i*6+2) _ _ _ _ _ _).trans C,(A 1 _ _ _ _ _ _).trans J,(A 3 _ _ _ _ _ _).trans K⟩|exact⟨z,v,C,J,K⟩) (fail)
 have y:=BF d (w.heap.size+1) (.int .i64 nk) (.int .i64 T.f) (.int .i64 (E.tk i).t) (.int .i64 T.l) (.int .i64 0) (.slice a n c);have s:=F5 g.1 (.int .i64 nk) (.int .i64 T.f) (.int .i64 (E.tk i).t) (.int .i64 T.l) (.int .i64 0) (.slice a n c);rw[<-qL]at s;unfold six at y s;generalize World.drew _=a1 at y s⊢;go_wp2;exact aI (eu rfl _ _ (w.heap.size+1) _ _ _ _ rfl s Tryz.underlying104 rfl (by kernel_rfl)) rfl ⟨rfl,g.2.grown y (by have:=g.2.size;omega) (fun a7 af=>by cases af;omega)⟩
end
section
variable {E : Pe} {W w w' : World} {i j q : Nat} {k nk : Int} {kv v : Value} {kn vs us ws : List Value} {D R : Fo} {T : Bxs} {M : List (Value × List ByteArray)} {f : FuncId} {args : Array Value}
theorem iF(S:B3 (Sw E W w i kv kn D vs T M))(d:(E.tk i).k=k)(c:i<E.n:=by omega):C2 Z 140 #[pV E] w fun e w'=>e= Bs (A0 Ax k)/\B3 (Sw E W w' i kv kn D vs T M):=by
 rw[<-d];refine(ag5 S.pp c).mono ?_;rintro e w' ⟨b,a⟩;exact⟨b,sB S a⟩
theorem dH(S:B3 (Sw E W w i kv kn D vs T M))(f:(E.tk i).k=k)(d:i<E.n)(a:k≠6:=by decide):C2 Z 141 #[pV E] w fun e w'=>e= Bs (H0 (jr k (E.tk i)))/\B3 (Sw E W w' (i+1) kv kn D vs T M):=by
 rw[<-f]at a⊢;refine(anB S.pp d a).mono ?_;rintro e w' ⟨c,b⟩;exact⟨c,sX S b⟩
theorem ut(S:B3 (Sw E W w i kv kn D vs T M))(d:(E.tk i).k=k)(c:i<E.n:=by omega):C2 Z 250 #[pV E,A0 Ax k] w fun e w'=>e= Bs (Hn F2)/\B3 (Sw E W w' (i+1) kv kn D vs T M):=by
 refine(anC S.pp c d).mono ?_;rintro e w' ⟨b,a⟩;exact⟨b,sX S a⟩
theorem vG(S:B3 (Sw E W w i kv kn D vs T M))(d:(E.tk i).k≠k)(c:i<E.n:=by omega):C2 Z 250 #[pV E,A0 Ax k] w fun e w'=>e= Bs (Hn F0)/\B3 (Sw E W w' i kv kn D vs T M):=by
 refine(anD S.pp c d).mono ?_;rintro e w' ⟨b,a⟩;exact⟨b,sB S a⟩
theorem sL(S:B3 (Sw E W w i kv kn D vs T M))(f:(E.tk i).k=k)(d:i<E.n)(b:k≠6):C2 Z 84 #[pV E] w fun e w'=>e= Bs (H0 (jr k (E.tk i)))/\B3 (Sw E W w' i kv kn D vs T M):=by
 rw[<-f]at b⊢;refine(ag6 S.pp d).mono ?_;rintro e w' ⟨⟨h,g,a⟩,c⟩;rw[g b]at a;exact⟨a,sB S c⟩
theorem kH(S:B3 (Sw E W w i kv kn D vs T M))(a:t.k=k):∃w',w.alloc (B7 (jr k t) 67)=w'/\B3 (Sw E W w' i kv kn D vs (tkB w.heap.size t::T) M):=by
 rw[<-a];exact⟨_,rfl,S.box t⟩
theorem mH{b:Nat}(S:B3 (Sw E W w i kv kn D vs (tkB b t::T) M))(a:t.k=k):w.cell? ⟨b,0,U⟩=O (A0 Ax k)/\w.cell? ⟨b,1,U⟩=O (A0 Ax t.f)/\w.cell? ⟨b,2,U⟩=O (A0 Ax t.t)/\w.cell? ⟨b,3,U⟩=O (A0 Ax t.l)/\w.cell? ⟨b,4,U⟩=O (A0 Ax t.n)/\w.cell? ⟨b,5,U⟩=O (E1 t.x):=by
 rw[<-a];exact gg (S.tb _ (cE ..)).2.2
theorem Al.form{lo:Nat}{c:Option Nat}(h:Al w lo c R [v]):∃t p,v= A2 t p:=by
 cases R with
 |nil=>obtain⟨b,a,_⟩:=h;cases a
 |cons d i l=>
  obtain⟨b,e,k,n,m,j,o,f,g,a,_⟩:=h;exact⟨_,_,(pJ a.1).1⟩
theorem je(S:B3 (Sw E W w i kv kn D vs T M))(C:CN E f args i R j)(c:R.sz<=50000000:=by omega):C2 Z f args w fun e w'=>∃t p,e= Bs (A2 t p)/\B3 (Sw E W w' j kv kn (D.app R) (vs++[A2 t p]) T M):=by
 refine(C w S.pp c).mono ?_;rintro e w' ⟨d,b,a⟩;obtain⟨t,p,rfl⟩:=Al.form a.nn;exact⟨t,p,b,S.sub a⟩
theorem yy(S:B3 (Sw E W w i s0 [] D vs T M))(C:CR E f args i R j)(g:R.sz<=50000000:=by omega):C2 Z f args w fun e w'=>∃a n c us,e= Bs (A5 a n c)/\B3 (Sw E W w' j (A5 a n c) us (D.app R) (vs++us) T M)/\us.length=n:=by
 refine(C w S.pp g).mono ?_;rintro e w' ⟨h,us,d,b⟩;obtain⟨a,c,rfl⟩:=bI b.ro;exact⟨a,_,c,us,d,S.subL b,rfl⟩
theorem pA(S:B3 (Sw E W w i s0 [] D vs T M))(us:List Br)(cs:Array Br)(a:cs=us.toArray)(n:Nat)(b:us.length=n)(c:n<=100):∃w',w.alloc (B7 cs 49)=w'/\B3 (Sw E W w' i (A5 (O ⟨w.heap.size,0,U⟩) n n) us D vs T M):=by
 subst a b;exact⟨_,rfl,S.lit us c⟩
theorem fI(S:B3 (Sw E W w j kv kn D vs T M))(h:t.k=k)(i:1<=j)(m:j<=E.n)(nk:Int)(a:Option Addr)(n c:Nat):C2 Z 252 #[pV E,A0 Ax nk,H0 (jr k t),A5 a n c] w fun e w'=>e= Bs (H0 #[A0 Ax nk,A0 Ax t.f,A0 Ax (E.tk (j-1)).t,A0 Ax t.l,A0 Ax 0,A5 a n c])/\B3 (Sw E W w' j kv kn D vs T M):=by
 rw[<-h];obtain⟨b,rfl⟩:∃b,j=b+1:=⟨j-1,by omega⟩;refine(ajE S.pp (by omega) nk t a n c).mono ?_;rintro e w' ⟨g,d⟩;exact⟨g,sB S d⟩
theorem aav{vn:Br}(N:Nd)(S:B3 (Sw E W w i kv vs D vs T ((vn,N.nm)::M)))(d:mz N (de N.k)=N)(e:cs=([A0 Ax N.k,A0 Ax N.f,A0 Ax N.t,A0 Ax N.l,A0 Ax 0,kv]++Kw N vn (de N.k)).toArray)(g:st=vw (de N.k)):B3 (Sw E W (w.alloc (B7 cs st)) i s0 [] (one N D) [er N.k w.heap.size] [] []):=(S.fin0 N vn d (S.nm _ (cE ..)) cs e st g (M':=[]) (fun h b=>by cases b) (fun c a=>by
 have a:(c++(vn.ownBlock.toList++mB M)).Nodup:=a;rw[show mB []=[] from rfl,dA,dA];rw[<-dy]at a;exact(List.perm_append_comm.nodup_iff).1 (List.nodup_append.1 a).1)).drop (fun h b=>by cases b) (.inr rfl)
theorem Am(S:B3 (Sw E W w i kv vs D vs T M))(N:Nd)(a:mz N (de N.k)=N)(d:N.nm=[])(b:cs=([A0 Ax N.k,A0 Ax N.f,A0 Ax N.t,A0 Ax N.l,A0 Ax 0,kv]++Kw N s0 (de N.k)).toArray)(g:st=vw (de N.k)):B3 (Sw E W (w.alloc (B7 cs st)) i s0 [] (one N D) [er N.k w.heap.size] T M):=S.fin0 N s0 a (by rw[d];exact dr _ _ _ _) cs b st g (fun j e=>e) (fun h c=>by rw[show(s0:Br).ownBlock.toList=[] from rfl,dt,dA];exact c)
theorem qI(S:B3 (Sw E W w i kv vs D vs T M))(N:Nd)(a:mz N (de N.k)=N)(c:N.nm=[])(b:cs=([A0 Ax N.k,A0 Ax N.f,A0 Ax N.t,A0 Ax N.l,A0 Ax 0,kv]++Kw N s0 (de N.k)).toArray)(e:st=vw (de N.k)):B3 (Sw E W (w.alloc (B7 cs st)) i s0 [] (one N D) [er N.k w.heap.size] [] []):=(Am S N a c b e).out.drop (fun g d=>by cases d) (.inr rfl)
theorem Al.cell:∀(R:Fo)(vs:List Br){lo:Nat}{ex:Option Nat},Al w lo ex R vs->∀u∈vs,u.oneCell'=F2
 | .nil,vs,lo,ex,⟨b,h⟩=>by obtain⟨rfl,rfl⟩:=h;intro u hu;cases hu
 | .cons g l e,vs,lo,ex,⟨b,i,p,s,r,n,f,k,a,c,j,o,m,q,d⟩=>by
  intro u hu;rw[c.1]at hu;rcases List.mem_cons.1 hu with rfl|hu
  ·rfl
  ·exact Al.cell e f ⟨a,d⟩ u hu
theorem ad0:(Tryz.prog.info? 49).map (fun i=>(i.zero,i.size,i.bytes))=O (O .nilIface,1,16):=by kernel_rfl
theorem gC{q:Array Oper}{r:List Oper}{o:Oper}{a:Act}(i:o.guard=U)(s x:Operand)(k:o.op= .call {callee:= .builtin .append,args:=#[s,x],argTypes:=#[93,93]}){base v:Nat}{t:Br}(m:a.eval s=kv)(f:w.ownsRow base 49 1 kv kn.length kn)(n:a.eval x=t)(L:w.ownsRow v 49 1 t us.length us)(A:∀u∈us,u.oneCell'=F2)(ao:kn.length+us.length<=100000000)(C:base<=w.heap.size)
  (h:∀b d c w',w'.ownsRow base 49 1 (.slice b d c) (kn++us).length (kn++us)->d=kn.length+us.length->w.grownBy w' kv.ownBlock->((Ga b d c).ownBlock=kv.ownBlock\/(Ga b d c).ownBlock=O w.heap.size)->wpList Z q Q r (a.put o.dst (.slice b d c)) w'):wpList Z q Q (o::r) a w:=by
 obtain⟨p,j,H,I,J⟩:=du ad0;rcases L.2 with⟨rfl,G⟩|⟨z,y,af,rfl,an,E,ak,al,am,g⟩
 ·refine wpList_append_own_none i s x 93 k base 49 p 1 Tryz.underlying93 j _ _ _ m f n ?_;obtain⟨b,c,rfl⟩:=bI f;obtain rfl:us=[]:=List.length_eq_zero_iff.1 G;exact h _ _ _ w (by simpa using f) (by simp) (ub _ _) (.inl rfl)
 ·refine G0 _ i s x 93 k base 49 p _ 1 16 Tryz.underlying93 j H I J rfl (by decide) _ _ _ m f ⟨z,0,U⟩ us.length y us n (by omega) (fun K u e=>G2 E K u (by rw[sh]at g;rw[<-g,jH]at e;split at e;exact e;cases e)) A (by unfold F1;omega) (by omega) C ?_;intro ap ad l F _ B;obtain⟨b,c,rfl⟩:=bI l;exact h _ _ _ ad (by rw[aK];exact l) rfl F B
end
open Go.Maps Go.WideMaps
section
variable {E : Pe} {i j k k1 : Nat} {x y R Ex : Fo}
theorem An(a:de nk=6)(b:Nat):er nk b= A2 124 (Cb (O ⟨b,0,U⟩)):=by unfold er;rw[a];rfl
theorem Fe(a:de nk=6)(s:Tk)(e:Int):mz (ig nk s e) (de nk)=ig nk s e:=by rw[a];rfl
theorem Ff(j:i+1<E.n){k:Int}(g:k≠6)(a:de nk=6)(c:(E.tk i).k=k):CN E 212 #[pV E,A0 Ax nk] i (one (ig nk (E.tk i) (E.tk i).t) .nil) (i+1):=by
 intro m b l;have d:=Sw.start b;clear b;go_in;go_wp2_with fail;refine bv (dH d c (by omega) g) fun o e=>?_;go_wp2_with fail;refine bv (fI e c (by omega) (by omega) _ _ _ _) fun h f=>?_;go_wp2_with fail;go_ret;exact⟨_,rfl,An a h.heap.size ▸ qI f (ig nk (E.tk i) (E.tk i).t) (Fe a _ _) rfl (by show _=(_++Kw _ _ (de nk)).toArray;rw[a];rfl) (by show _=vw (de nk);rw[a];rfl)⟩
theorem akr(B:∀(args:Array Br) (w:E2),(callFunc f args).run Z w= .ok (.enter f args) w)(C:i<E.n){k:Int}(r:k≠6)(a:de nk=6)(b:(E.tk i).k=k)(v:CN E f #[pV E] (i+1) x j)(F:i+1<=j)(s:j<=E.n):CN E 215 #[pV E,A0 Ax nk,.func (.func f) #[pV E] #[]] i (one (ig nk (E.tk i) (E.tk (j-1)).t) x) (j):=by
 intro w d u;have l:=Sw.start d;clear d;go_in;simp only[bm,Fo.sz_app]at u;go_wp21
 refine bv (dH l b (by omega) r) fun G m=>?_;obtain⟨H,e,o⟩:=kH m b;simp only[jr]at e;go_wp21
 clear e;refine(je o v).mono ?_;rintro z I ⟨h,g,rfl,c⟩;obtain⟨K,L,ad,af,ak,al⟩:=mH c b;obtain⟨J,A,p⟩:=pA c [A2 h g] #[A2 h g] rfl 1 rfl (by decide);go_wp21
 refine bv (fI p b (by omega) s _ _ _ _) fun y q=>?_;go_wp21
 go_ret;exact⟨_,rfl,An a y.heap.size ▸ qI q (ig nk (E.tk i) (E.tk (j-1)).t) (Fe a _ _) rfl (by show _=(_++Kw _ _ (de nk)).toArray;rw[a];rfl) (by show _=vw (de nk);rw[a];rfl)⟩
theorem amd(a:(E.tk i).k=31)(A:i<E.n)(v:CN E 216 #[pV E] (i+1) x k)(w:CN E 218 #[pV E] k y j)(B:i+1<=j)(C:j<=E.n):CN E 210 #[pV E] i (one (ig 8 (E.tk i) (E.tk (j-1)).t) (x.app y)) (j):=by
 intro F c u;have l:=Sw.start c;clear c;simp only[bm,Fo.sz_app]at u;go_in;go_wp21
 refine bv (dH l a (by omega)) fun G m=>?_;obtain⟨H,d,o⟩:=kH m a;simp only[jr]at d;go_wp21
 refine(je o v).mono ?_;rintro s I ⟨g,e,rfl,p⟩;clear d;go_wp21
 refine(je p w).mono ?_;rintro s J ⟨h,f,rfl,q⟩;obtain⟨K,z,b⟩:=pA q [A2 g e,A2 h f] #[A2 g e,A2 h f] rfl 2 rfl (by decide);obtain⟨ad,af,ak,al,am,an⟩:=mH b a;go_wp21
 refine bv (fI b a (by omega) (by omega) 8 _ _ _) fun L r=>?_;go_wp21
 go_ret;exact⟨_,rfl,qI r (ig 8 (E.tk i) (E.tk (j-1)).t) rfl rfl rfl rfl⟩
theorem ame(a:(E.tk i).k=42)(s:i<E.n)(o:CR E 83 #[pV E] (i+1) x k)(l:(E.tk k).k=43)(u:k+1<E.n):CN E 218 #[pV E] i (one (ig 1 (E.tk i) (E.tk k).t) x) (k+1):=by
 intro z c m;have e:=Sw.start c;clear c;simp only[bm,Fo.sz_app]at m;go_in;go_wp21
 refine bv (dH e a (by omega)) fun A f=>?_;obtain⟨B,d,g⟩:=kH f a;simp only[jr]at d;go_wp21
 refine(yy g o).mono ?_;rintro r C ⟨p,w,q,y,rfl,h,v⟩;clear d;go_wp21
 refine bv (dH h l (by omega)) fun F b=>?_;obtain⟨H,I,J,K,L,ad⟩:=mH b a;go_wp21
 refine bv (fI b a (by omega) (by omega) 1 _ _ _) fun G j=>?_;go_wp21
 go_ret;exact⟨_,rfl,qI j (ig 1 (E.tk i) (E.tk k).t) rfl rfl rfl rfl⟩
end
theorem aaw{k:Array Oper}{m:List Oper}{o:Oper}{a:Act}(u:o.guard=U)(s x:Operand)(y:o.op= .call {callee:= .builtin .append,args:=#[s,x],argTypes:=#[42,42]})(base:Nat)(d:Option Addr)(n i:Nat)(l:List ByteArray)(B:a.eval s= .slice d n i)(K:l.length=n)(A:w.ownsRow base 9 1 (.slice d n i) n (l.map A9))(r:base<=w.heap.size)(b:Nat)(z:ByteArray)(E:a.eval x= .slice (O ⟨b,0,U⟩) 1 1)(q:w.heap[b]?=O (.cells #[.string z] 9 (0,0)))(J:n<=50000000)
  (h:∀g f c,c.ownsRow base 9 1 (.slice (O ⟨g,0,U⟩) (n+1) f) (n+1) ((l++[z]).map A9)->w.grownBy c (Ga d n i).ownBlock->((Ga d n i).ownBlock=O g\/g=w.heap.size)->wpList Z k Q m (a.put o.dst (.slice (O ⟨g,0,U⟩) (n+1) f)) c):wpList Z k Q (o::m) a w:=by
 obtain⟨I,v,F,G,H⟩:=du Dp;refine G0 _ u s x 42 y base 9 I _ 1 16 Tryz.underlying42 v F G H rfl (by decide) _ _ _ B A ⟨b,0,U⟩ 1 1 [.string z] E rfl (G2 (cs:=#[.string z]) q) (by intro L C;rw[List.mem_singleton.1 C];rfl) (by unfold F1;omega) (by omega) r ?_;intro ad c j t _ p;obtain⟨g,f,rfl⟩:=ownsRow_succ j;exact h g f c (by rw[dF];exact j) t (by rcases p with e|e;exact .inl e.symm;exact .inr (by simpa [Er] using e))
theorem ad1(w:E2)(x:ByteArray):(w.alloc (B7 #[E1 x] 9)).ownsRow w.heap.size 9 1 (A5 (O ⟨w.heap.size,0,U⟩) 1 1) 1 [E1 x]:=by
 have:=kJ (base:=w.heap.size) (e:=9) (size:=1) w #[E1 x] 1 (ag _) (by unfold F1;omega) (by simp);simpa using this
section
variable {E : Pe} {i j k k1 : Nat} {x y R Ex : Fo}
theorem acj(bb:∀(args:Array Br) (w:E2),(callFunc f args).run Z w= .ok (.enter f args) w)(a3:CN E f #[pV E] i x k)(H:Ls E (CN E f #[pV E]) m k R j):CR E 251 #[pV E,.func (.func f) #[pV E] #[]] i (x.app R) j:=by
 intro w C av;have z:=Sw.start C;have v:=H;have a0:=av;rw[Fo.sz_app]at a0;clear C H;go_in;go_wp21
 refine(je z a3).mono ?_;rintro e bk ⟨L,J,rfl,A⟩;obtain⟨bl,ar,a⟩:=pA A [A2 L J] #[A2 L J] rfl 1 rfl (by decide);have s:=a;go_wp21
 clear ar z A a;go_loopg [5] m (fun gk a8 wr=>∃(k:Nat) (D d:Fo) (l:Option Addr) (r n:Nat) (us:List Br),a8= A5 l r n/\B3 (Ls E (CN E f #[pV E]) gk k d j/\Sw E w wr k (A5 l r n) us D us [] []/\D.app d=x.app R))
 case atStart=>exact⟨k,x,R,_,1,1,_,rfl,v,s,rfl⟩
 case round=>
  clear s v;obtain⟨bf,D,d,l,r,n,us,rfl,u⟩:=hrel;obtain⟨ap,q,b⟩:=u.out;have a:=q;have bc:=Al.len _ _ q.nn;clear q u;cases ap with
  |stop o p=>
   rw[Fo.app_nil]at b;go_wp21
   refine bv (vG a o p) fun a9 g=>?_;go_wp21
   go_ret;exact⟨_,us,rfl,by rw[<-b];exact g⟩
  |@go a6 _ a4 _ af y o p ao B=>
   have bd:D.sz+(af.sz+y.sz)<=50000000:=by have e:=congrArg Fo.sz b;simp only[Fo.sz_app]at e;omega
   have ba:=D.len_le;have t:=gI b B;clear b B;go_wp21
   refine bv (ut a o p) fun a9 g=>?_;go_wp21
   refine(je g ao).mono ?_;rintro e c ⟨ad,K,rfl,h⟩;go_wp2_with (at_builtin;refine gC rfl _ _ rfl rfl (sB h (cK c _)).out.ro rfl (kJ (base:=c.heap.size) (e:=49) (size:=1) c #[A2 ad K] 1 (ag _) (by unfold F1;omega) rfl) (us:=[A2 ad K]) (by intro bh a2;rw[List.mem_singleton.1 a2];rfl) (by simp only[bB,dl];omega) (by rw[cD];have:=h.gr.size;omega) ?_;intro am a7 an bn I a1 G F;have al:=(sB h (cK c _)).out.put I G F;clear I a1 G F);have ak:=al;go_roundg a6
   case measure=>omega
   case rel=>exact⟨a4,D.app af,y,am,a7,an,_,rfl,t.2,ak,by rw[Fo.app_app];exact t.1⟩
theorem ag7(hj:(E.tk j).k=43\/(E.tk j).k=6)(B:Ss E (CN E 142 #[pV E]) m i R j):CR E 83 #[pV E] i R j:=by
 intro a0 y a3;have t:=Sw.start y;have v:=B;clear y B;go_in;go_wp21
 go_loopg [3] m (fun gk av wr=>∃(k:Nat) (D h:Fo) (l:Option Addr) (o n:Nat) (us:List Br),av= A5 l o n/\B3 (Ss E (CN E 142 #[pV E]) gk k h j/\Sw E a0 wr k (A5 l o n) us D us [] []/\D.app h=R))
 case atStart=>exact⟨i,.nil,R,U,0,0,[],rfl,v,t,rfl⟩
 case round=>
  clear t v;obtain⟨ap,D,h,l,o,n,us,rfl,u⟩:=hrel;obtain⟨al,r,a⟩:=u.out;have p:=r;have a4:=Al.len _ _ r.nn;clear r u;cases al with
  |stop x=>
   rw[Fo.app_nil]at a;rcases hj with hj|hj;all_goals
    go_wp21
    refine bv (iF p hj) fun H c=>?_;go_wp21
    go_ret;exact⟨_,us,rfl,by rw[<-a];exact c⟩
  |@sep s _ _ _ q x f=>
   have b:=gI a f;clear a f;go_wp21
   refine bv (iF p q) fun H c=>?_;go_wp21
   refine bv (dH c q (by omega)) fun g d=>?_;go_wp21
   go_roundg s
   case measure=>omega
   case rel=>exact⟨ap+1,D,h,l,o,n,us,rfl,b.2,d,b.1⟩
  |@go s _ ao _ I w q x a1 af ak f=>
   have a6:D.sz+(I.sz+w.sz)<=50000000:=by have e:=congrArg Fo.sz a;simp only[Fo.sz_app]at e;omega
   have a2:=D.len_le;have b:=gI a f;clear a f;go_wp21
   refine bv (iF p rfl af) fun H c=>?_;go_wp21
   refine(je c ak).mono ?_;rintro e g ⟨G,F,rfl,d⟩;go_wp2_with (at_builtin;refine gC rfl _ _ rfl rfl (sB d (cK g _)).out.ro rfl (kJ (base:=g.heap.size) (e:=49) (size:=1) g #[A2 G F] 1 (ag _) (by unfold F1;omega) rfl) (us:=[A2 G F]) (by intro a7 an;rw[List.mem_singleton.1 an];rfl) (by simp only[bB,dl];omega) (by rw[cD];have:=d.gr.size;omega) ?_;intro L ar ad a8 C am A z;have K:=(sB d (cK g _)).out.put C A z;clear C am A z);have J:=K;go_roundg s
   case measure=>omega
   case rel=>exact⟨ao,D.app I,w,L,ar,ad,_,rfl,b.2,J,by rw[Fo.app_app];exact b.1⟩
theorem ajF(b c d e f a:Br)(w:E2):(Instr.field 67 (H0 #[b,c,d,e,f,a]) 5).run Z w= .ok a w:=by kernel_rfl
def CT(E:Pe)(i:Nat)(a:List ByteArray)(j:Nat):Prop:=
 ∀w,Pp E w i->C2 Z 249 #[pV E] w fun b w'=>∃v,b= Bs v/\(Pp E w' j/\w.grownBy w' (O E.pb))/\w'.ownsRow w.heap.size 9 1 v (a.map A9).length (a.map A9)
theorem Sw.putN{w':E2}{v q:Br}{l:List ByteArray}(h:Sw E W w i s0 [] .nil [] T [(v,ns)])(o:w'.ownsRow W.heap.size 9 1 q (l.map A9).length (l.map A9))(g:w.grownBy w' v.ownBlock):Sw E W w' i s0 [] .nil [] T [(q,l)]:=by
 have m:=h.nm (v,ns) (cE ..);have k:∀{f:Nat}{d:Array Br}{n:Hm}{e:Nat×Nat},w.heap[f]?=O (B7 d n e)->n≠9->w'.heap[f]?=O (B7 d n e):=fun b s=>(g.block _ (ai b) (fun j=>jw m b s j.symm)).trans b;obtain⟨d,e,t,u⟩:=h.pp.tks;obtain⟨y,r,p⟩:=h.pp.pw;have x:=(g.block _ (ai p) (fun j=>by have:=(m.lt _ j.symm).1;have:=h.lt;have:=h.pp.pg;omega)).trans p;refine⟨⟨h.pp.hn,⟨d,e,k t (by decide),u⟩,k h.pp.row (by decide),h.pp.pg,y,r,x⟩,h.gr.andThen g (fun f b=> .inl (m.lt f b).1),h.lt,dr _ _ _ _,⟨[],⟨rfl,rfl⟩,by simp[mB,Ho]⟩,fun c a=>⟨(h.tb c a).1,(h.tb c a).2.1,k (h.tb c a).2.2 (h.tb c a).2.1.2⟩,fun c a=>?_⟩;obtain rfl:=List.mem_singleton.1 a;exact o
theorem Dq{D:Fo}(S:B3 (Sw E W w i kv kn D vs T M))(C:CT E i ns j):C2 Z 249 #[pV E] w fun e w'=>∃a n c,e= Bs (A5 a n c)/\B3 (Sw E W w' j kv kn D vs T ((A5 a n c,ns)::M)):=by
 refine(C w S.pp).mono ?_;rintro e w' ⟨g,d,f,b⟩;obtain⟨a,c,rfl⟩:=bI b;exact⟨a,_,c,d,S.name f b⟩
theorem xc(ap:(E.tk i).k=1)(a4:i<E.n)(I:Ib E.tk E.n (i+1) ns j):CT E i ((E.tk i).x::ns) j:=by
 intro e t;have z:=Sw.start t;have y:=I;have a5:=t.hn;have a3:=ajF;clear t I;go_in;go_wp21
 refine bv (dH z ap (by omega)) fun m p=>?_;simp only[jr];go_wp21
 have r:=cK m (B7 #[E1 (E.tk i).x] 9);have v:B3 (Sw E e (m.alloc (B7 #[E1 (E.tk i).x] 9)) (i+1) s0 [] .nil [] [] [(A5 (O ⟨m.heap.size,0,U⟩) 1 1,[(E.tk i).x])]):=p.name ⟨p.pp.keep (qH r _),qH r _⟩ (ad1 m (E.tk i).x);clear z p r;go_loopg [3] ns.length (fun gk a0 wr=>∃(k:Nat) (D l:List ByteArray) (b:Option Addr) (n c:Nat),a0= A5 b n c/\gk=l.length/\D.length=n/\B3 (Ib E.tk E.n k l j/\Sw E e wr k s0 [] .nil [] [] [(A5 b n c,D)]/\D++l=(E.tk i).x::ns/\i+2*D.length=k+1))
 case atStart=>exact⟨i+1,[(E.tk i).x],ns,_,1,1,rfl,rfl,rfl,y,v,rfl,by simp⟩
 case round=>
  clear v y;obtain⟨d,D,l,b,n,c,rfl,ao,h,w⟩:=hrel;obtain⟨al,G,g,am⟩:=w.out;have A:=G;clear G w;cases al with
  |stop s C=>
   rw[dA]at g;go_wp21
   refine bv (vG A s C) fun a1 a=>?_;go_wp21
   go_ret;exact⟨_,rfl,⟨a.pp,a.gr⟩,by rw[<-g];exact a.nm _ (cE ..)⟩
  |@go _ _ J s C af F=>
   have ar:n<=50000000:=by omega
   have o:=lD g F am;clear g F;go_wp21
   refine bv (ut A s) fun a1 a=>?_;go_wp21
   refine bv (dH a af (by omega)) fun f q=>?_;simp only[jr];have u:=q.nm _ (cE ..);rw[cj,h]at u;have L:B3 (f.ownsRow e.heap.size 9 1 (A5 b n c) n (D.map A9)):=u;clear u;go_wp2_with (at_builtin;refine aaw rfl _ _ rfl e.heap.size b n c D rfl h (cJ L (cK f _)) (by rw[cD];have:=q.gr.size;omega) f.heap.size (E.tk (d+1)).x rfl (aA f _) ar ?_;intro ak B a2 K H an;have ad:B3 (Sw E e a2 (d+1+1) s0 [] .nil [] [] [(A5 (O ⟨ak,0,U⟩) (n+1) B,D++[(E.tk (d+1)).x])]):=(sB q (cK f _)).out.putN (by rw[cj,aK,h];exact K) H;clear K H an);go_roundg J.length
   case measure=>rw[ao];simp
   case rel=>exact⟨d+2,D++[(E.tk (d+1)).x],J,_,n+1,B,rfl,rfl,by rw[aK,h];rfl,o.2.1,ad,by rw[dy];exact o.1,by have:=o.2.2;rw[aK,AH];omega⟩
end
section
variable {E : Pe} {i j k k1 : Nat} {x y R Ex : Fo}
theorem anE(a b c d e f:Br)(w:E2):(Instr.field 67 (H0 #[a,b,c,d,e,f]) 0).run Z w= .ok a w:=by kernel_rfl
theorem cfE(args:Array Br)(w:E2):(callFunc 216 args).run Z w= .ok (.enter 216 args) w:=by kernel_rfl
theorem cfB(args:Array Br)(w:E2):(callFunc 217 args).run Z w= .ok (.enter 217 args) w:=by kernel_rfl
theorem anF(a:(E.tk i).k=22)(r:i<E.n)(m:CT E (i+1) NS k)(s:i+1<=k)(u:k<E.n)(l:(E.tk k).k≠47):CN E 206 #[pV E] i (one (nd 2 (E.tk i) (E.tk (k-1)).t 0 0 z0 NS) .nil) (k):=by
 intro x c v;have e:=Sw.start c;clear c;go_in;go_wp21
 refine bv (dH e a (by omega)) fun y f=>?_;obtain⟨z,d,g⟩:=kH f a;simp only[jr]at d;go_wp21
 refine(Dq g m).mono ?_;rintro q A ⟨o,w,p,rfl,h⟩;clear d;go_wp21
 refine bv (vG h l) fun B b=>?_;obtain⟨F,G,H,I,J,K⟩:=mH b a;go_wp21
 refine bv (fI b a (by omega) (by omega) 2 _ _ _) fun C j=>?_;go_wp21
 go_ret;exact⟨_,rfl,aav (nd 2 (E.tk i) (E.tk (k-1)).t 0 0 z0 NS) j rfl rfl rfl⟩
theorem ao9(a:(E.tk i).k=22)(y:i<E.n)(s:CT E (i+1) NS k)(z:i+1<=k)(C:k<E.n)(p:(E.tk k).k=47)(q:CR E 251 #[pV E,.func (.func 216) #[pV E] #[]] (k+1) Ex j)(A:k+1<=j)(B:j<=E.n):CN E 206 #[pV E] i (one (nd 2 (E.tk i) (E.tk (j-1)).t 0 0 z0 NS) Ex) (j):=by
 intro J c r;have e:=Sw.start c;clear c;simp only[bm,Fo.sz_app]at r;go_in;go_wp21
 refine bv (dH e a (by omega)) fun K f=>?_;obtain⟨L,d,g⟩:=kH f a;simp only[jr]at d;go_wp21
 refine(Dq g s).mono ?_;rintro o ad ⟨v,H,x,rfl,h⟩;clear d;go_wp21
 refine bv (ut h p) fun af l=>?_;go_wp21
 refine(yy l q).mono ?_;rintro o ak ⟨u,G,w,I,rfl,b,F⟩;obtain⟨am,ao,ap,ar,av,a0⟩:=mH b a;go_wp21
 refine bv (fI b a (by omega) (by omega) 2 _ _ _) fun al m=>?_;go_wp21
 go_ret;exact⟨_,rfl,aav (nd 2 (E.tk i) (E.tk (j-1)).t 0 0 z0 NS) m rfl rfl rfl⟩
theorem amf(a:(E.tk i).k=13)(B:i<E.n)(v:CT E (i+1) NS k)(C:i+1<=k)(H:k<E.n)(s:(E.tk k).k=47)(w:CN E 216 #[pV E] (k+1) x j)(F:k+1<=j)(G:j<=E.n):CN E 207 #[pV E] i (one (nd 3 (E.tk i) (E.tk (j-1)).t 0 0 z0 NS) x) (j):=by
 intro J c u;have g:=Sw.start c;clear c;simp only[bm,Fo.sz_app]at u;go_in;go_wp21
 refine bv (dH g a (by omega)) fun K h=>?_;obtain⟨L,d,l⟩:=kH h a;simp only[jr]at d;go_wp21
 refine(Dq l v).mono ?_;rintro r ad ⟨y,I,z,rfl,m⟩;clear d;go_wp21
 refine bv (dH m s (by omega)) fun af o=>?_;go_wp21
 refine(je o w).mono ?_;rintro r ak ⟨f,e,rfl,b⟩;obtain⟨ao,ap,ar,av,a0,a1⟩:=mH b a;obtain⟨al,A,p⟩:=pA b [A2 f e] #[A2 f e] rfl 1 rfl (by decide);go_wp21
 refine bv (fI p a (by omega) (by omega) 3 _ _ _) fun am q=>?_;go_wp21
 go_ret;exact⟨_,rfl,aav (nd 3 (E.tk i) (E.tk (j-1)).t 0 0 z0 NS) q rfl rfl rfl⟩
theorem fnP(a:(E.tk i).k=18)(C:i<E.n)(w:CT E (i+1) NS k)(F:i+1<=k)(I:k<E.n){kb:Int}(s:kb≠6)(u:(E.tk k).k=kb)(y:CN E 253 #[pV E,H0 (jr kb (E.tk k))] k x j)(G:k+1<=j)(H:j<=E.n):CN E 208 #[pV E] i (one (nd 4 (E.tk i) (E.tk (j-1)).t 0 0 z0 NS) x) (j):=by
 intro K c v;have g:=Sw.start c;clear c;simp only[bm,Fo.sz_app]at v;go_in;go_wp21
 refine bv (dH g a (by omega)) fun L h=>?_;obtain⟨ad,d,l⟩:=kH h a;simp only[jr]at d;go_wp21
 refine(Dq l w).mono ?_;rintro r af ⟨z,J,A,rfl,m⟩;clear d;go_wp21
 refine bv (sL m u (by omega) s) fun ak o=>?_;go_wp21
 refine(je o y).mono ?_;rintro r al ⟨f,e,rfl,b⟩;obtain⟨ap,ar,av,a0,a1,a2⟩:=mH b a;obtain⟨am,B,p⟩:=pA b [A2 f e] #[A2 f e] rfl 1 rfl (by decide);go_wp21
 refine bv (fI p a (by omega) (by omega) 4 _ _ _) fun ao q=>?_;go_wp21
 go_ret;exact⟨_,rfl,aav (nd 4 (E.tk i) (E.tk (j-1)).t 0 0 z0 NS) q rfl rfl rfl⟩
theorem anG(h:i<E.n)(hk:(E.tk i).k=5\/(E.tk i).k=6\/(E.tk i).k=43){D:Fo}(b:B3 (Sw E W w i kv kn D vs T M)):C2 Z 254 #[pV E] w fun e w'=>e= Bs (Hn F2)/\B3 (Sw E W w' i kv kn D vs T M):=by
 rcases hk with hk|hk|hk
 ·go_in;go_wp21
  refine bv (iF b hk) fun d a=>?_;go_wp21
  go_ret;exact⟨rfl,a⟩
 ·go_in;go_wp21
  refine bv (iF b hk) fun d a=>?_;go_wp21
  refine bv (iF a hk) fun g c=>?_;go_wp21
  go_ret;exact⟨rfl,c⟩
 ·go_in;go_wp21
  refine bv (iF b hk) fun d a=>?_;go_wp21
  refine bv (iF a hk) fun g c=>?_;go_wp21
  refine bv (iF c hk) fun j f=>?_;go_wp21
  go_ret;exact⟨rfl,f⟩
theorem anH(j:i<E.n)(f:(E.tk i).k≠5)(g:(E.tk i).k≠6)(h:(E.tk i).k≠43){D:Fo}(a:B3 (Sw E W w i kv kn D vs T M)):C2 Z 254 #[pV E] w fun e w'=>e= Bs (Hn F0)/\B3 (Sw E W w' i kv kn D vs T M):=by
 have l:((E.tk i).k==5)=F0:=by simp[f]
 have m:((E.tk i).k==6)=F0:=by simp[g]
 have o:((E.tk i).k==43)=F0:=by simp[h]
 go_in;go_wp21
 refine bv (iF a rfl) fun p b=>?_;go_wp21
 refine bv (iF b rfl) fun q c=>?_;go_wp21
 refine bv (iF c rfl) fun r d=>?_;go_wp21
 go_ret;exact⟨rfl,d⟩
theorem anI(a:(E.tk i).k=27)(l:i+1<E.n)(j:(E.tk (i+1)).k=5\/(E.tk (i+1)).k=6\/(E.tk (i+1)).k=43):CN E 213 #[pV E] i (one (ig 13 (E.tk i) (E.tk i).t) .nil) (i+1):=by
 intro o c m;have e:=Sw.start c;clear c;go_in;go_wp21
 refine bv (dH e a (by omega)) fun p f=>?_;obtain⟨q,d,g⟩:=kH f a;simp only[jr]at d;go_wp21
 clear d;refine bv (anG l j g) fun r b=>?_;obtain⟨u,v,w,x,y,z⟩:=mH b a;go_wp21
 refine bv (fI b a (by omega) (by omega) 13 _ _ _) fun s h=>?_;go_wp21
 go_ret;exact⟨_,rfl,qI h (ig 13 (E.tk i) (E.tk i).t) rfl rfl rfl rfl⟩
theorem apa(a:(E.tk i).k=27)(r:i+1<E.n)(m:(E.tk (i+1)).k≠5)(o:(E.tk (i+1)).k≠6)(p:(E.tk (i+1)).k≠43)(q:CR E 251 #[pV E,.func (.func 216) #[pV E] #[]] (i+1) Ex j)(x:i+1<=j)(y:j<=E.n):CN E 213 #[pV E] i (one (ig 13 (E.tk i) (E.tk (j-1)).t) Ex) (j):=by
 intro C c s;have e:=Sw.start c;clear c;simp only[bm,Fo.sz_app]at s;go_in;go_wp21
 refine bv (dH e a (by omega)) fun F f=>?_;obtain⟨G,d,g⟩:=kH f a;simp only[jr]at d;go_wp21
 clear d;refine bv (anH r m o p g) fun H h=>?_;go_wp21
 refine(yy h q).mono ?_;rintro w I ⟨u,A,v,B,rfl,b,z⟩;obtain⟨K,L,ad,af,ak,al⟩:=mH b a;go_wp21
 refine bv (fI b a (by omega) (by omega) 13 _ _ _) fun J l=>?_;go_wp21
 go_ret;exact⟨_,rfl,qI l (ig 13 (E.tk i) (E.tk (j-1)).t) rfl rfl rfl rfl⟩
theorem apb(a:(E.tk i).k=30)(I:i<E.n)(B:CN E 218 #[pV E] (i+1) x k)(w:(E.tk k).k=12)(L:k+1<E.n)(A:CT E (k+1) NS k1)(C:CN E 218 #[pV E] k1 y j)(J:i+1<=j)(K:j<=E.n):CN E 214 #[pV E] i (one (nd 14 (E.tk i) (E.tk (j-1)).t 0 0 z0 NS) (x.app y)) (j):=by
 intro af d z;have m:=Sw.start d;clear d;simp only[bm,Fo.sz_app]at z;go_in;go_wp21
 refine bv (dH m a (by omega)) fun ak o=>?_;obtain⟨al,e,p⟩:=kH o a;simp only[jr]at e;go_wp21
 refine(je p B).mono ?_;rintro c am ⟨h,f,rfl,q⟩;clear e;go_wp21
 refine bv (dH q w (by omega)) fun ao r=>?_;go_wp21
 refine(Dq r A).mono ?_;rintro c ap ⟨F,ad,G,rfl,s⟩;go_wp21
 refine(je s C).mono ?_;rintro c ar ⟨l,g,rfl,b⟩;obtain⟨a1,a2,a3,a4,a5,a6⟩:=mH b a;obtain⟨av,H,u⟩:=pA b [A2 h f,A2 l g] #[A2 h f,A2 l g] rfl 2 rfl (by decide);go_wp21
 refine bv (fI u a (by omega) (by omega) 14 _ _ _) fun a0 v=>?_;go_wp21
 go_ret;exact⟨_,rfl,aav (nd 14 (E.tk i) (E.tk (j-1)).t 0 0 z0 NS) v rfl rfl rfl⟩
theorem apc(a:(E.tk i).k=19)(ap:i<E.n)(G:CT E (i+1) NS k)(ar:i+1<=k)(a1:k<E.n)(A:(E.tk k).k=47)(B:CR E 251 #[pV E,.func (.func 216) #[pV E] #[]] (k+1) Ex k1)(K:CN E 218 #[pV E] k1 y j)(av:k+1<=j)(a0:j<=E.n):CN E 211 #[pV E] i (one (nd 9 (E.tk i) (E.tk (j-1)).t 0 0 z0 NS) (Ex.app y)) (j):=by
 intro ba h C;have s:=Sw.start h;clear h;simp only[bm,Fo.sz_app]at C;have ao:=anE;go_in;go_wp21
 refine bv (dH s a (by omega)) fun bb u=>?_;obtain⟨bc,m,v⟩:=kH u a;simp only[jr]at m;go_wp21
 refine(Dq v G).mono ?_;rintro e bd ⟨af,a6,am,rfl,w⟩;clear m;go_wp21
 refine bv (dH w A (by omega)) fun bf x=>?_;simp only[jr];go_wp21
 refine(yy x B).mono ?_;rintro e bh ⟨L,a3,ak,a9,rfl,d,H⟩;have F:=Al.len _ _ d.nn;simp only[dt]at F;have a2:(Fo.nil.app Ex).len<=Ex.sz:=Fo.len_le _;clear H;go_wp21
 refine(je d K).mono ?_;rintro e b ⟨r,q,rfl,c⟩;go_wp2_with (at_builtin;refine gC rfl _ _ rfl rfl (sB c (cK b _)).out.ro rfl (kJ (base:=b.heap.size) (e:=49) (size:=1) b #[A2 r q] 1 (ag _) (by unfold F1;omega) rfl) (us:=[A2 r q]) (by intro a8 J;rw[List.mem_singleton.1 J];rfl) (by simp only[bB,dl];omega) (by rw[cD];have:=c.gr.size;omega) ?_;intro ad a4 al bk p I o l;have g:=(sB c (cK b _)).out.put p o l;clear p I o l;have f:=g;clear g;obtain⟨bn,bo,br,bs,bt,bw⟩:=mH f a);refine bv (fI f a (by omega) (by omega) 9 _ _ _) fun bl z=>?_;go_wp21
 go_ret;exact⟨_,rfl,aav (nd 9 (E.tk i) (E.tk (j-1)).t 0 0 z0 NS) z rfl rfl rfl⟩
theorem anJ(a:(E.tk i).k=19)(ar:i<E.n)(H:CT E (i+1) NS k)(av:i+1<=k)(a2:k<E.n)(B:(E.tk k).k=21)(C:CR E 251 #[pV E,.func (.func 216) #[pV E] #[]] (k+1) x k1)(L:CN E 218 #[pV E] k1 y j)(a0:k+1<=j)(a1:j<=E.n):CN E 211 #[pV E] i (one (nd 10 (E.tk i) (E.tk (j-1)).t 0 0 z0 NS) (x.app y)) (j):=by
 intro bb h F;have s:=Sw.start h;clear h;simp only[bm,Fo.sz_app]at F;have ap:=anE;go_in;go_wp21
 refine bv (dH s a (by omega)) fun bc u=>?_;obtain⟨bd,m,v⟩:=kH u a;simp only[jr]at m;go_wp21
 refine(Dq v H).mono ?_;rintro e bf ⟨ak,a8,ao,rfl,w⟩;clear m;go_wp21
 refine bv (dH w B (by omega)) fun bh z=>?_;simp only[jr];go_wp21
 refine(yy z C).mono ?_;rintro e bk ⟨ad,a4,al,ba,rfl,d,I⟩;have G:=Al.len _ _ d.nn;simp only[dt]at G;have a3:(Fo.nil.app x).len<=x.sz:=Fo.len_le _;clear I;go_wp21
 refine(je d L).mono ?_;rintro e b ⟨r,q,rfl,c⟩;go_wp2_with (at_builtin;refine gC rfl _ _ rfl rfl (sB c (cK b _)).out.ro rfl (kJ (base:=b.heap.size) (e:=49) (size:=1) b #[A2 r q] 1 (ag _) (by unfold F1;omega) rfl) (us:=[A2 r q]) (by intro a9 K;rw[List.mem_singleton.1 K];rfl) (by simp only[bB,dl];omega) (by rw[cD];have:=c.gr.size;omega) ?_;intro af a6 am bl p J o l;have g:=(sB c (cK b _)).out.put p o l;clear p J o l;have f:=g;clear g;obtain⟨bo,br,bs,bt,bw,bx⟩:=mH f a);refine bv (fI f a (by omega) (by omega) 10 _ _ _) fun bn A=>?_;go_wp21
 go_ret;exact⟨_,rfl,aav (nd 10 (E.tk i) (E.tk (j-1)).t 0 0 z0 NS) A rfl rfl rfl⟩
end
section
variable {E : Pe} {i j k k1 : Nat} {x y R Ex : Fo}
theorem apd(G:q=20\/q=15)(a:(E.tk i).k=q)(H:i<E.n)(B:CN E 216 #[pV E] (i+1) x k)(C:CN E 218 #[pV E] k y k1)(J:k1<E.n)(F:(E.tk k1).k≠15)(w:(E.tk k1).k≠16)(I:i+1<=k1):CN E 209 #[pV E] i (one (ig 7 (E.tk i) (E.tk (k1-1)).t) (x.app y)) (k1):=by
 intro K c A;have j:=Sw.start c;clear c;simp only[bm,Fo.sz_app]at A;go_in;go_wp21
 refine bv (dH j a (by omega) (by omega)) fun L l=>?_;obtain⟨ad,d,m⟩:=kH l a;simp only[jr]at d;go_wp21
 refine(je m B).mono ?_;rintro v af ⟨g,e,rfl,o⟩;clear d;go_wp21
 refine(je o C).mono ?_;rintro v ak ⟨h,f,rfl,p⟩;obtain⟨al,z,r⟩:=pA p [A2 g e,A2 h f] #[A2 g e,A2 h f] rfl 2 rfl (by decide);go_wp21
 refine bv (iF r rfl) fun am s=>?_;clear z;go_wp21
 refine bv (vG s w) fun an b=>?_;obtain⟨ap,ar,av,a0,a1,a2⟩:=mH b a;go_wp21
 refine bv (fI b a (by omega) (by omega) 7 _ _ _) fun ao u=>?_;go_wp21
 go_ret;exact⟨_,rfl,qI u (ig 7 (E.tk i) (E.tk (k1-1)).t) rfl rfl rfl rfl⟩
theorem ape(ar:q=20\/q=15)(a:(E.tk i).k=q)(av:i<E.n)(al:CN E 216 #[pV E] (i+1) x k)(am:CN E 218 #[pV E] k y k1)(a2:k1<E.n)(K:(E.tk k1).k=15){z:Fo}(an:CN E 209 #[pV E] k1 z j)(a0:i+1<=j)(a1:j<=E.n):CN E 209 #[pV E] i (one (ig 7 (E.tk i) (E.tk (j-1)).t) ((x.app y).app z)) (j):=by
 intro a5 g ad;have A:=Sw.start g;clear g;simp only[bm,Fo.sz_app]at ad;go_in;go_wp21
 refine bv (dH A a (by omega) (by omega)) fun a6 B=>?_;obtain⟨a8,l,C⟩:=kH B a;simp only[jr]at l;go_wp21
 refine(je C al).mono ?_;rintro e a9 ⟨u,p,rfl,F⟩;clear l;go_wp21
 refine(je F am).mono ?_;rintro e ba ⟨v,r,rfl,G⟩;obtain⟨bb,L,H⟩:=pA G [A2 u p,A2 v r] #[A2 u p,A2 v r] rfl 2 rfl (by decide);go_wp21
 refine bv (iF H K) fun bc I=>?_;clear L;go_wp21
 refine(je I an).mono ?_;rintro e b ⟨w,s,rfl,c⟩;go_wp2_with (at_builtin;refine gC rfl _ _ rfl rfl (sB c (cK b _)).out.ro rfl (kJ (base:=b.heap.size) (e:=49) (size:=1) b #[A2 w s] 1 (ag _) (by unfold F1;omega) rfl) (us:=[A2 w s]) (by intro a4 ak;rw[List.mem_singleton.1 ak];rfl) (by simp only[bB,dl];omega) (by rw[cD];have:=c.gr.size;omega) ?_;intro ao a3 ap bd o af m h;have f:=(sB c (cK b _)).out.put o m h;clear o af m h;have d:=f;clear f;obtain⟨bh,bk,bl,bn,bo,br⟩:=mH d a);refine bv (fI d a (by omega) (by omega) 7 _ _ _) fun bf J=>?_;go_wp21
 go_ret;exact⟨_,rfl,qI J (ig 7 (E.tk i) (E.tk (j-1)).t) rfl rfl rfl rfl⟩
theorem apf(av:q=20\/q=15)(a:(E.tk i).k=q)(a0:i<E.n)(am:CN E 216 #[pV E] (i+1) x k)(an:CN E 218 #[pV E] k y k1)(a3:k1<E.n)(h:(E.tk k1).k=16){z:Fo}(ao:CN E 218 #[pV E] (k1+1) z j)(a1:i+1<=j)(a2:j<=E.n):CN E 209 #[pV E] i (one (ig 7 (E.tk i) (E.tk (j-1)).t) ((x.app y).app z)) (j):=by
 intro a6 g af;have B:=Sw.start g;clear g;simp only[bm,Fo.sz_app]at af;go_in;go_wp21
 refine bv (dH B a (by omega) (by omega)) fun a8 C=>?_;obtain⟨a9,m,F⟩:=kH C a;simp only[jr]at m;go_wp21
 refine(je F am).mono ?_;rintro e ba ⟨v,r,rfl,G⟩;clear m;go_wp21
 refine(je G an).mono ?_;rintro e bb ⟨w,s,rfl,H⟩;obtain⟨bc,ad,I⟩:=pA H [A2 v r,A2 w s] #[A2 v r,A2 w s] rfl 2 rfl (by decide);go_wp21
 refine bv (iF I h) fun bd J=>?_;clear ad;go_wp21
 refine bv (ut J h) fun bf K=>?_;go_wp21
 refine(je K ao).mono ?_;rintro e b ⟨A,u,rfl,c⟩;go_wp2_with (at_builtin;refine gC rfl _ _ rfl rfl (sB c (cK b _)).out.ro rfl (kJ (base:=b.heap.size) (e:=49) (size:=1) b #[A2 A u] 1 (ag _) (by unfold F1;omega) rfl) (us:=[A2 A u]) (by intro a5 al;rw[List.mem_singleton.1 al];rfl) (by simp only[bB,dl];omega) (by rw[cD];have:=c.gr.size;omega) ?_;intro ap a4 ar bh p ak o l;have f:=(sB c (cK b _)).out.put p o l;clear p ak o l;have d:=f;clear f;obtain⟨bl,bn,bo,br,bs,bt⟩:=mH d a);refine bv (fI d a (by omega) (by omega) 7 _ _ _) fun bk L=>?_;go_wp21
 go_ret;exact⟨_,rfl,qI L (ig 7 (E.tk i) (E.tk (j-1)).t) rfl rfl rfl rfl⟩
theorem ag8{D:Fo}{args:Array Br}(S:B3 (Sw E W w i kv kn D vs T M))(C:CR E f args i R j)(g:R.sz<=50000000):C2 Z f args w fun e w'=>∃a n c us,e= Bs (A5 a n c)/\B3 (Sw E W w' j kv kn (D.app R) (vs++us) T M)/\B3 (w'.ownsRow w.heap.size 49 1 (A5 a n c) us.length us/\(∀u∈us,u.oneCell'=F2)/\us.length=R.len):=by
 refine(C w S.pp g).mono ?_;rintro e w' ⟨h,us,d,b⟩;obtain⟨a,c,rfl⟩:=bI b.ro;exact⟨a,_,c,us,d,S.sub b,b.ro,Al.cell _ _ b.nn,Al.len _ _ b.nn⟩
theorem doP(v:q=1\/q=40)(a:(E.tk i).k=q)(w:i<E.n)(p:CR E 251 #[pV E,.func (.func 217) #[pV E] #[]] i x j)(m:(E.tk j).k≠47)(z:j<E.n)(y:i+1<=j):CN E 219 #[pV E] i (one (ig 6 (E.tk i) (E.tk (j-1)).t) x) (j):=by
 intro F c o;have e:=Sw.start c;clear c;simp only[bm,Fo.sz_app]at o;go_in;go_wp21
 refine bv (sL e a (by omega) (by omega)) fun G f=>?_;obtain⟨H,d,g⟩:=kH f a;simp only[jr]at d;go_wp21
 refine(yy g p).mono ?_;rintro u I ⟨r,B,s,C,rfl,h,A⟩;clear d;go_wp21
 refine bv (vG h m) fun J b=>?_;obtain⟨L,ad,af,ak,al,am⟩:=mH b a;go_wp21
 refine bv (fI b a (by omega) (by omega) 6 _ _ _) fun K l=>?_;go_wp21
 go_ret;exact⟨_,rfl,qI l (ig 6 (E.tk i) (E.tk (j-1)).t) rfl rfl rfl rfl⟩
theorem setP(am:q=1\/q=40)(a:(E.tk i).k=q)(an:i<E.n)(H:CR E 251 #[pV E,.func (.func 217) #[pV E] #[]] i x k)(A:(E.tk k).k=47)(ar:k<E.n)(B:CR E 251 #[pV E,.func (.func 216) #[pV E] #[]] (k+1) Ex j)(ao:k+1<=j)(ap:j<=E.n):CN E 219 #[pV E] i (one (nd 5 (E.tk i) (E.tk (j-1)).t 0 (x.len:Nat) z0 []) (x.app Ex)) (j):=by
 intro a6 h C;have s:=Sw.start h;clear h;simp only[bm,Fo.sz_app]at C;go_in;go_wp21
 refine bv (sL s a (by omega) (by omega)) fun a8 u=>?_;obtain⟨a9,m,v⟩:=kH u a;simp only[jr]at m;go_wp21
 refine(yy v H).mono ?_;rintro z ba ⟨K,I,af,J,rfl,c,p⟩;clear m;have e:B3 (I=x.len/\J.length=x.len):=⟨by rw[<-p];exact Al.len _ _ c.nn,Al.len _ _ c.nn⟩;have a0:=x.len_le;have av:=Ex.len_le;clear p;go_wp21
 refine bv (ut c A) fun bb w=>?_;go_wp21
 refine(ag8 w B (by omega)).mono ?_;rintro z bc ⟨L,a1,ak,a4,rfl,d,b⟩;go_wp2_with (at_builtin;refine gC rfl _ _ rfl rfl d.ro rfl b.1 b.2.1 (by have:=b.2.2;have:=e.2;omega) (by have:=d.gr.size;omega) ?_;intro ad a2 al bd r G o l;have g:=d.put r o l;clear r G o l;have f:=g;clear g;obtain⟨bh,bk,bl,bn,bo,br⟩:=mH f a);refine bv (fI f a (by omega) (by omega) 5 _ _ _) fun bf y=>?_;have F:=e.1;subst F;go_wp21
 go_ret;exact⟨_,rfl,qI y (nd 5 (E.tk i) (E.tk (j-1)).t 0 (x.len:Nat) z0 []) rfl rfl rfl rfl⟩
def stF(E:Pe)(k:Int):FuncId×Array Br:=
 if k=22 then(206,#[pV E])
 else if k=13 then(207,#[pV E])
 else if k=18 then(208,#[pV E])
 else if k=20 then(209,#[pV E])
 else if k=31 then(210,#[pV E])
 else if k=19 then(211,#[pV E])
 else if k=11 then(212,#[pV E,A0 Ax 11])
 else if k=23 then(212,#[pV E,A0 Ax 12])
 else if k=27 then(213,#[pV E])
 else if k=30 then(214,#[pV E])
 else if k=28 then(215,#[pV E,A0 Ax 15,.func (.func 216) #[pV E] #[]])
 else if k=14 then(215,#[pV E,A0 Ax 16,.func (.func 217) #[pV E] #[]])
 else if k=42 then(218,#[pV E])
 else if k=1 then(219,#[pV E])
 else(219,#[pV E])
theorem lB(g:(E.tk i).k=q)(l:i<E.n)(a:q=22\/q=13\/q=18\/q=20\/q=31\/q=19\/q=11\/q=23\/q=27\/q=30\/q=28\/q=14\/q=42\/q=1\/q=40)(b:CN E (stF E q).1 (stF E q).2 i R j):CN E 142 #[pV E] i R j:=by
 rcases a with rfl|rfl|rfl|rfl|rfl|rfl|rfl|rfl|rfl|rfl|rfl|rfl|rfl|rfl|rfl;all_goals
  simp only[stF]at b;simp at b;intro o c a;have d:=Sw.start c;clear c;go_in;go_wp2_with fail;refine bv (iF d g) fun p e=>?_;go_wp2_with fail;refine(je e b a).mono ?_;rintro h r ⟨m,p2,rfl,f⟩;go_wp2_with fail;go_ret;exact⟨_,rfl,f⟩
end
theorem anK(k:Int)(a:ip k=F2)(d:k<=78)(w:E2):C2 Z 176 #[A0 Ax k] w fun e w'=>e= Bs (.tuple #[A0 Ax (Iz k),A0 Ax (rpw k)])/\w'=w:=by
 have b:=aH a;have c:k=10\/k=26\/k=61\/k=62\/k=63\/k=64\/k=65\/k=66\/k=67\/k=68\/k=69\/k=70\/k=71\/k=72\/k=73\/k=74\/k=75\/k=76\/k=77\/k=78:=by omega
 clear b a d;rcases c with rfl|rfl|rfl|rfl|rfl|rfl|rfl|rfl|rfl|rfl|rfl|rfl|rfl|rfl|rfl|rfl|rfl|rfl|rfl|rfl;all_goals
  go_in;go_wp2;first
   |(go_ret;exact⟨rfl,rfl⟩)
   |(go_ret2;exact⟨rfl,rfl⟩)
theorem amg{t:Int}{b:Bool}(h:ip t=b)(w:E2):C2 Z 225 #[A0 Ax t] w fun e w'=>e= Bs (Hn b)/\w'=w:=h ▸ zK w t
inductive Ms (E:Pe) (C:Int->Nat->Fo->Nat->Prop) (p:Int) (s:Tk):Nat->Fo->Nat->Fo->Nat->Prop where
 |stop {x:Fo}{k:Nat}:k<E.n->(ip (E.tk k).k=true->Iz (E.tk k).k<p)->Ms E C p s 0 x k x k
 |go {m k k1 j:Nat}{x y R:Fo}:k<E.n->ip (E.tk k).k=true->p<=Iz (E.tk k).k->C (rpw (E.tk k).k) (k+1) y k1->k+1<=k1->k1<=E.n->Ms E C p s m (one (wv (E.tk k).k s (E.tk (k1-1)).t) (x.app y)) k1 R j->Ms E C p s (m+1) x k R j
theorem Ms.le{C:Int->Nat->Fo->Nat->Prop}{p:Int}{s:Tk}{x:Fo}(h:Ms E C p s m x k R j):x.sz<=R.sz:=by
 induction h with
 |stop=>exact ag _
 |go _ _ _ _ _ _ _ a=>rw[bm,Fo.sz_app]at a;omega
theorem anL{o:Obj}(k j:Nat)(h:k<W.heap.size):(W.alloc o).cell? ⟨k,j,U⟩=W.cell? ⟨k,j,U⟩:=World.cell?_alloc_past _ _ _ h
section
variable {E : Pe} {i j : Nat}
theorem amh{p:Int}{x:Fo}(al:(E.tk i).k≠6)(an:i<E.n)(r:∀q,(E.tk q).k<=78)(a1:CU E i x k)(s:Ms E (CX E) p (E.tk i) m x k R j):CX E p i R j:=by
 intro f H K F bb;have a:=aq F;have ad:=a.cells;have t:=a.tkw an al;unfold TkW at t;have bd:=a.lo;have J:=aq s;have bh:=s.le;clear F s;have ap:(i:Int)<(E.n:Int):=by omega
 have ao:(0:Int)<=(i:Int):=by omega
 have a0:IntKind.i64.wrap (i:Int)=(i:Int):=by rw[ed];omega
 go_in;go_wp2_with fail;go_region_held3 (fun a4=>∀k j,k<f.heap.size->a4.cell? ⟨k,j,U⟩=f.cell? ⟨k,j,U⟩) (first|exact anL|exact fun _ _ _=>rfl) (fail)
 replace a:=Sq.below (Sq.box (cs:=jr (E.tk i).k (E.tk i)) (t:=67) a) (aw (ah _ _));generalize World.drew _=d at a⊢;clear ad t ap ao a0;go_wp2_with fail;refine Sq.cq a a1 (by omega) ?_;rintro d _ z _ _ ⟨g,rfl,rfl,rfl⟩ a;go_wp2_with fail;go_loopg [6] m (fun gk a3 wr=>∃(k:Nat) (l:Fo) (v:Int) (L:List Mb),a3= A0 Ax v/\B3 (Ms E (CX E) p (E.tk i) gk l k R j/\Sq E f H K wr k L l [v] [(f.heap.size,67,jr (E.tk i).k (E.tk i))] []))
 case atStart=>exact⟨k,_,g,_,rfl,J,a⟩
 case round=>
  clear a;obtain⟨b,l,v,a5,rfl,w⟩:=hrel;obtain⟨ak,a⟩:=w.out;clear w;cases ak with
  |stop B C=>
   cases c:ip (E.tk j).k with
   |false=>
    go_wp2_with fail;refine bv (Sq.kind a rfl) fun d a=>?_;go_wp2_with fail;refine dB (amg c _) ?_;go_wp2_with fail;go_ret;exact⟨_,_,_,_,rfl,⟨_,rfl,rfl,rfl⟩,Sq.fin a⟩
   |true=>
    have bf:=C c;go_wp2_with fail;refine bv (Sq.kind a rfl) fun d a=>?_;go_wp2_with fail;refine dB (amg c _) ?_;go_wp2_with fail;refine bv (Sq.kind a rfl) fun d a=>?_;go_wp2_with fail;refine dB (anK _ c (r _) _) ?_;go_wp2_with fail;go_ret;exact⟨_,_,_,_,rfl,⟨_,rfl,rfl,rfl⟩,Sq.fin a⟩
  |@go a2 _ e _ _ bl a6 B c C af a9 ba o=>
   have I:=aq o;have av:=o.le;rw[bm,Fo.sz_app]at av;have bc:¬Iz (E.tk b).k<p:=by omega
   have am:(E.tk b).k≠6:=fun A=>by rw[A]at c;revert c;decide
   have bk:IntKind.i64.wrap ((E.tk b).k-60)=(E.tk b).k-60:=by rw[ed];have:=r b;have:(E.tk b).k=10\/(E.tk b).k=26\/60<(E.tk b).k:=aH c;omega
   clear o;go_wp2_with fail;refine bv (Sq.kind a rfl) fun d a=>?_;go_wp2_with fail;refine dB (amg c _) ?_;go_wp2_with fail;refine bv (Sq.kind a rfl) fun d a=>?_;go_wp2_with fail;refine dB (anK _ c (r _) _) ?_;go_wp2_with fail;refine bv (Sq.take a rfl B am) fun d a=>?_;go_wp2_with fail;refine Sq.cq (Sq.box a) af (by have:=Sq.ln a;omega) ?_;rintro d _ z _ _ ⟨g,rfl,rfl,rfl⟩ a;have u:=Sq.rd a;have bn:=Sq.rd (Sq.tail a);have ar:=Sq.ln a;rw[Fo.sz_app]at ar;go_wp2_with fail;refine bv (Sq.node a) fun d a=>?_;have u:=Sq.rd a;have y:B3 (((E.tk b).k=10\/(E.tk b).k=26)\/((E.tk b).k≠10/\(E.tk b).k≠26)):=by show _\/_;omega
   rcases y.out with(hK|hK)|⟨hK,G⟩
   case' inl.inl=>rw[hK]at u;have h:=aq (show wv (E.tk b).k (E.tk i) (E.tk (e-1)).t=ig 28 (E.tk i) (E.tk (e-1)).t by rw[hK];rfl)
   case' inl.inr=>rw[hK]at u;have h:=aq (show wv (E.tk b).k (E.tk i) (E.tk (e-1)).t=ig 29 (E.tk i) (E.tk (e-1)).t by rw[hK];rfl)
   case' inr=>have a7:=beq_eq_false_iff_ne.2 hK;have a8:=beq_eq_false_iff_ne.2 G;have h:=aq (show wv (E.tk b).k (E.tk i) (E.tk (e-1)).t=nd 31 (E.tk i) (E.tk (e-1)).t ((E.tk b).k-60) 0 z0 [] by unfold wv;rw[aa hK,aa G])
   all_goals
    clear hK y;go_wp2_with fail;refine(Sq.add (Sq.lit1 (Sq.box a)) (.inl ⟨rfl,rfl⟩) (.inr (.head _)) (by omega)).mono ?_;rintro A d ⟨g,rfl,z,a⟩;go_wp2_with fail;go_roundg a2
    case measure=>omega
    case rel=>exact⟨e,_,g,_,rfl,I,by rw[h.out];exact Sq.tail (Sq.tail a)⟩
end
inductive Kb (E:Pe) (C D:Nat->Fo->Nat->Prop) (s:Tk):Nat->Fo->Nat->Fo->Nat->Prop where
 |stop {X:Fo}{k:Nat}:k<E.n->KG (E.tk k).k=false->Kb E C D s 0 X k X k
 |dot {m k j:Nat}{X R:Fo}:(E.tk k).k=48->(E.tk (k+1)).k=1->k+2<E.n->Kb E C D s m (one (nd 33 s (E.tk (k+1)).t 0 0 (E.tk (k+1)).x []) X) (k+2) R j->Kb E C D s (m+1) X k R j
 |sq {m k k1 j:Nat}{X Y R:Fo}:(E.tk k).k=44->k<E.n->C (k+1) Y k1->(E.tk k1).k=45->k1+1<E.n->Kb E C D s m (one (ig 32 s (E.tk k1).t) (X.app Y)) (k1+1) R j->Kb E C D s (m+1) X k R j
 |call0 {m k j:Nat}{X R:Fo}:(E.tk k).k=40->(E.tk (k+1)).k=41->k+2<E.n->Kb E C D s m (one (ig 34 s (E.tk (k+1)).t) X) (k+2) R j->Kb E C D s (m+1) X k R j
 |call {m k k1 j:Nat}{X Y R:Fo}:(E.tk k).k=40->k+1<E.n->(E.tk (k+1)).k≠41->D (k+1) Y k1->(E.tk k1).k=41->k1+1<E.n->Kb E C D s m (one (ig 34 s (E.tk k1).t) (X.app Y)) (k1+1) R j->Kb E C D s (m+1) X k R j
theorem Kb.le{C D:Nat->Fo->Nat->Prop}{s:Tk}(h:Kb E C D s m X k R j):X.sz<=R.sz:=by
 induction h with
 |stop=>exact ag _
 |dot _ _ _ _ a=>rw[bm]at a;omega
 |sq _ _ _ _ _ _ a=>rw[bm,Fo.sz_app]at a;omega
 |call0 _ _ _ _ a=>rw[bm]at a;omega
 |call _ _ _ _ _ _ _ a=>rw[bm,Fo.sz_app]at a;omega
inductive Su (E:Pe) (i:Nat):Int->Fo->Nat->Prop
 |name:Su E i 1 (one (nd 26 (E.tk i) (E.tk i).t 0 0 (E.tk i).x []) .nil) (i+1)
 |held {N:Nd}{ks:Fo}{k:Nat}{q:Int}:CX E 0 (i+1) (one N ks) k->(E.tk k).k=41->i+1<=k->q=34\/q=27->N.k=q->Su E i 40 (one (ig 37 (E.tk i) (E.tk k).t) (one N ks)) (k+1)
 |par {N:Nd}{ks:Fo}{k:Nat}:CX E 0 (i+1) (one N ks) k->(E.tk k).k=41->i+1<=k->(N.k==34)=false->(N.k==27)=false->Su E i 40 (one N ks) (k+1)
section
variable {E : Pe} {W w : World} {G : Option Nat} {L L1 : List Mb} {i j : Nat} {D : Fo} {zs : List Int} {B : Bxs} {R : Rws}
theorem Sq.top{N:Nd}{ks:Fo}{z:Int}(S:B3 (Sq E W G L w i L1 (one N ks) [z] B R)):∃q g a:Nat,z=(q:Int)/\w.cell? ⟨E.pb,2,U⟩=O (A5 (O ⟨g,0,U⟩) L1.length a)/\w.cell? ⟨g,q*9,U⟩=O (A0 Ax N.k)/\q<L1.length:=by
 obtain⟨o,e,b⟩:=S.row;have l:=S.tp;have h:=S.ac.len;obtain⟨m,d,c,_⟩:=S.ac;have q:(L1.map Mb.N)[L.length+ks.sz]?=O {N with ks:=ks.tops L.length}:=by
  rw[d,dF,c,BG,fL (by rw[cj];omega),cj,Nat.add_sub_cancel_left,fL (by rw[Fo.flat_len];exact ag _),Fo.flat_len,eC];rfl
 rw[ce]at q;obtain⟨p,j,f⟩:=Option.map_eq_some_iff.1 q;rw[bm]at h;rcases bu b with⟨n,rfl⟩|⟨g,a,rfl⟩
 ·omega
 ·exact⟨L.length+ks.sz,g,a,(pJ l).1.symm,by rw[au _ _ _ _ _ _ e];rfl,by rw[(uJ b j).1,f],by omega⟩
theorem ag9{a3:Int}{R:Fo}(ba:(E.tk i).k=a3)(bA:i<E.n)(ar:Su E i a3 X k)(bD:k<E.n)(I:Kb E (CX E 0) (CLx E) (E.tk i) m X k R j):CB E i R j:=by
 intro am ad al A bE;have a:=aq A;have ak:=aq I;have y:=I.le;clear A I;cases ar
 case' held A _=>rcases A with rfl|rfl
 all_goals
  simp only[bm,Fo.sz]at y;go_in;go_wp2_with fail;refine bv (Sq.take a ba) fun a5 a=>?_;go_wp2_with fail;first
   |(go_at_call 160
     refine bv (Sq.node (Sq.box a)) fun b a=>?_;have e:=Sq.rd a;go_wp2_with fail;refine(Sq.add (Sq.box a) (.inl ⟨rfl,rfl⟩) (.inl ⟨rfl,rfl⟩) (by omega)).mono ?_;rintro v b ⟨p,rfl,f,a⟩;replace a:=Sq.tail a)
   |(refine Sq.cq (Sq.box a) (by assumption) (by rw[bm];omega) ?_
     rintro b _ f _ _ ⟨p,rfl,rfl,rfl⟩ a;go_wp2_with fail;refine bv (Sq.take a (by assumption)) fun b a=>?_;have e:=Sq.rd a;have F:=a.cells;have s:=Sq.ln a;rw[show(Fo.nil.app (one _ _))=one _ _ from rfl,bm]at s;obtain⟨q,w,z,rfl,bh,a4,b2⟩:=Sq.top a;have bb:(0:Int)<=(q:Int):=by omega
     have bc:(q:Int)<(f.length:Int):=by omega
     (try rw[(by assumption:Nd.k _=_)]at a4)
     go_wp2_with fail;try
      go_at_call 160
      refine bv (Sq.node a) fun b a=>?_;go_wp2_with fail;refine(Sq.add (Sq.lit1 (Sq.box a)) (.inl ⟨rfl,rfl⟩) (.inr (.head _)) (by omega)).mono ?_;rintro v b ⟨p,rfl,f,a⟩;replace a:=Sq.tail a
     clear F bh a4 e)
  (try go_wp2_with fail)
  go_loopg [3] m (fun gk bk wr=>∃(k:Nat) (X:Fo) (r J:Int) (a7:List Mb),bk= A0 Ax r/\B3 (Kb E (CX E 0) (CLx E) (E.tk i) gk X k R j/\Sq E am ad al wr k a7 X [r] [(a5.heap.size,67,jr J (E.tk i))] []))
  case atStart=>exact⟨_,_,_,_,_,rfl,ak,a⟩
  case round=>
   clear a ak;obtain⟨bf,an,r,J,bn,rfl,af⟩:=hrel;obtain⟨ap,a⟩:=af.out;clear af;have e:=Sq.rd a;have s:=Sq.ln a;have bF:=ap.le;go_wp2_with fail;refine bv (Sq.node a) fun bl a=>?_;go_wp2_with fail;cases ap with
   |stop d h=>
    have ar:=iz h;have bw:((E.tk j).k==48)=F0:=by simp;omega
    have bt:((E.tk j).k==44)=F0:=by simp;omega
    have br:((E.tk j).k==40)=F0:=by simp;omega
    refine bv (Sq.kind (Sq.lit1 (Sq.box a)) rfl) fun b a=>?_;go_wp2_with fail;go_ret;exact⟨_,_,_,_,rfl,⟨_,rfl,rfl,rfl⟩,Sq.fin0 a⟩
   |@dot o _ _ _ _ d h x c=>
    have l:=aq c;clear c;refine bv (Sq.kind (Sq.lit1 (Sq.box a)) d) fun b a=>?_;go_wp2_with fail;refine bv (Sq.take a d) fun b a=>?_;go_wp2_with fail;refine bv (Sq.take a h) fun b a=>?_;have e:=Sq.rd a;go_wp2_with fail;refine(Sq.add (Sq.box (Sq.set a)) (.inl ⟨rfl,rfl⟩) (.inr (.head _)) (by omega)).mono ?_;rintro v b ⟨p,rfl,f,a⟩;replace a:=Sq.tail (Sq.tail a);go_wp2_with fail;go_roundg o
    case measure=>omega
    case rel=>exact⟨_,_,_,_,_,rfl,l,a⟩
   |@sq o _ a2 _ _ B _ d h x H ao c=>
    have l:=aq c;have y:=c.le;clear c;rw[bm,Fo.sz_app]at y;refine bv (Sq.kind (Sq.lit1 (Sq.box a)) d) fun b a=>?_;go_wp2_with fail;refine bv (Sq.take a d) fun b a=>?_;go_wp2_with fail;refine Sq.cq a x (by omega) ?_;rintro b _ f _ _ ⟨p,rfl,rfl,rfl⟩ a;have s:=Sq.ln a;rw[Fo.sz_app]at s;go_wp2_with fail;refine bv (Sq.take a H) fun b a=>?_;have e:=Sq.rd a;go_wp2_with (at_builtin;refine Sq.apG tI (Sq.set a) (by simp) rfl rfl _ _ rfl rfl rfl (by simp[E0]) ?_;intro w z b a;have e:=Sq.rd a);refine(Sq.add (Sq.set a) (.inl ⟨rfl,rfl⟩) (.inr (.head _)) (by omega)).mono ?_;rintro v b ⟨p,rfl,f,a⟩;replace a:=Sq.tail a;go_wp2_with fail;go_roundg o
    case measure=>omega
    case rel=>exact⟨_,_,_,_,_,rfl,l,a⟩
   |@call0 o _ _ _ _ d h x c=>
    have l:=aq c;clear c;refine bv (Sq.kind (Sq.lit1 (Sq.box a)) d) fun b a=>?_;go_wp2_with fail;refine bv (Sq.take a d) fun b a=>?_;have e:=Sq.rd a;go_wp2_with fail;refine bv (Sq.kind (Sq.set a) h) fun b a=>?_;go_wp2_with fail;refine bv (Sq.take a h) fun b a=>?_;have e:=Sq.rd a;go_wp2_with fail;refine(Sq.add a (.inl ⟨rfl,rfl⟩) (.inr (.head _)) (by omega)).mono ?_;rintro v b ⟨p,rfl,f,a⟩;replace a:=Sq.tail a;go_wp2_with fail;go_roundg o
    case measure=>omega
    case rel=>exact⟨_,_,_,_,_,rfl,l,a⟩
   |@call o _ a2 _ _ B _ d h x H ao bx c=>
    have bs:((E.tk (bf+1)).k !=41)=F2:=by simp[x]
    have l:=aq c;have y:=c.le;clear c;rw[bm,Fo.sz_app]at y;refine bv (Sq.kind (Sq.lit1 (Sq.box a)) d) fun b a=>?_;go_wp2_with fail;refine bv (Sq.take a d) fun b a=>?_;have e:=Sq.rd a;go_wp2_with fail;refine bv (Sq.kind (Sq.set a) rfl) fun b a=>?_;go_wp2_with fail;refine Sq.cq a H (by omega) ?_;rintro b _ f g _ ⟨a8,F,rfl,rfl⟩ a;have s:=Sq.ln a;rw[Fo.sz_app]at s;have a1:=congrArg List.length a.tp;have bd:=Fo.len_le (an.app B);rw[Fo.tops_len,aK]at a1;rw[Fo.sz_app]at bd;obtain⟨t,a9⟩:=az g.length;rw[a9]at a a1⊢;go_wp2_with fail;go_loopw [95] (fun K wr=>∃(q G:Nat) (C:Option Addr),q<=t/\K= A0 Ax q/\B3 (Sq E am ad al wr a2 f (an.app B) ([r]++g) [(bl.heap.size,45,ndA 34 0 0 ⟨#[]⟩ (E.tk i) s0 (A5 C (q+1) G)),(a5.heap.size,67,jr J (E.tk i))] [(3,A5 C (q+1) G,iv r::(g.take q).map iv),(3,A5 a8 t F,g.map iv)])) (fun K _=>t-(H1 K).toNat)
    case atStart=>exact⟨0,1,_,aL _,rfl,Sq.swap a⟩
    case round=>
     clear a;obtain⟨q,G,C,b1,rfl,a⟩:=hrel;by_cases b0:q<t
     ·obtain⟨L,a0⟩:∃L,g[q]?=O L:=⟨g[q]'(by omega),aJ _⟩;obtain⟨w,rfl,bo⟩:=Sq.at2 a a0;have bb:(0:Int)<=(q:Int):=by omega
      have bc:(q:Int)<(t:Int):=by omega
      have e:=Sq.rd a;go_wp2_with (at_builtin;refine Sq.apG tI a (by omega) rfl rfl _ _ rfl rfl rfl rfl ?_;intro w z b a;have e:=Sq.rd a);have a6:B3 (iv r::(g.take q).map iv++[H2 Ax L]=iv r::(g.take (q+1)).map iv):=by show _=_;rw[iI,a0,dF];rfl
      replace a:=Sq.set (q:=8) (u:= A5 (O ⟨w,0,U⟩) (q+1+1) z) a;rw[a6.out]at a;exact⟨⟨q+1,z,O ⟨w,0,U⟩,by omega,by go_num,a⟩,by simp[H1];omega⟩
     ·obtain rfl:q=t:=by omega
      rw[show g.take q=g from cA (by omega)]at a;replace a:=Sq.less a (show List.Sublist [_] [_,_] from .cons_cons _ (.cons _ .slnil));go_wp2_with fail;refine bv (Sq.take a ao) fun b a=>?_;have e:=Sq.rd a;go_wp2_with fail;refine(Sq.add a (.inl ⟨rfl,rfl⟩) (.inr (.head _)) (by omega)).mono ?_;rintro v b ⟨p,rfl,f,a⟩;replace a:=Sq.tail a;go_wp2_with fail;go_roundg o
      case measure=>omega
      case rel=>exact⟨_,_,_,_,_,rfl,l,a⟩
end
inductive Pt (E:Pe):Nat->Nat->List ByteArray->Bool->Nat->Prop where
 |stop {k:Nat}:(E.tk k).k=41->k<E.n->Pt E 0 k [] false k
 |name {m k j:Nat}{ns:List ByteArray}{r:Bool}:(E.tk k).k=1->k<E.n->Pt E m (k+1) ns r j->Pt E (m+1) k ((E.tk k).x::ns) r j
 |rest {m k j:Nat}{ns:List ByteArray}{r:Bool}:(E.tk k).k=49->k<E.n->Pt E m (k+1) ns r j->Pt E (m+1) k ns true j
 |com {m k j:Nat}{ns:List ByteArray}{r:Bool}:(E.tk k).k=46->k<E.n->Pt E m (k+1) ns r j->Pt E (m+1) k ns r j
theorem Pt.of{r:Bool}(h:Prm E.tk E.n k ns r j):∃m,Pt E m k ns r (j-1)/\(E.tk (j-1)).k=41/\k+1<=j/\j<E.n:=by
 induction h with
 |close b a=>exact⟨0,.stop b (by omega),b,by omega,a⟩
 |rest b a c=>exact⟨1,.rest b (by omega) (.stop a (by omega)),a,by omega,c⟩
 |last b a c=>exact⟨1,.name b (by omega) (.stop a (by omega)),a,by omega,c⟩
 |go b a c i d=>
  obtain⟨m,e,f,l,g⟩:=d;exact⟨m+2,.name b (by omega) (.com a (by omega) e),f,by omega,g⟩
def opR(b:Bool):Int:=if b=F2 then 1 else 0
section
variable {E : Pe} {i j : Nat}
theorem ami{T:Tk}{r:Bool}{x:Fo}(al:(E.tk i).k=40)(a4:i<E.n)(H:Pt E m (i+1) NS r k)(G:(E.tk k).k=41)(a7:k+1<E.n)(ap:CK E (k+1) x j)(a5:k+1<=j)(a6:j<=E.n):CBd E T i (one (nd 36 T (E.tk (j-1)).t (opR r) 0 z0 NS) x) j:=by
 intro C I B F am;have a:=aq F;have J:=aq H;have a8:=a.lo.2.2.2;clear F H;rw[bm]at am;go_in;go_wp2_with fail;refine bv (Sq.take (Sq.nil (t:=9) (Sq.box a)) al) fun b a=>?_;go_wp2_with fail;go_loopg [5] m (fun gk a9 wr=>∃(e:Nat) (D p:List ByteArray) (s:Int) (q:Bool) (h:Option Addr) (n l:Nat),B3 (Pt E gk e p q k/\Sq E C I B wr e B .nil [] [(C.heap.size,45,ndA 36 s 0 ⟨#[]⟩ T (A5 h n l) s0)] [(9,A5 h n l,D.map A9)]/\D++p=NS/\(∃u,s=opR u/\(u||q)=r)/\n<=e))
 case atStart=>exact⟨i+1,[],NS,0,r,U,0,0,J,a,rfl,⟨F0,rfl,by simp⟩,by omega⟩
 case round=>
  clear a;obtain⟨e,D,p,s,q,h,n,l,A⟩:=hrel;obtain⟨af,a,v,w,a3⟩:=A.out;have f:=gI v w;clear v w A;cases af with
  |stop c y=>
   go_wp2_with fail;refine bv (Sq.kind a G) fun b a=>?_;go_wp2_with fail;refine bv (Sq.take a G) fun b a=>?_;go_wp2_with fail;refine Sq.cq a ap (by omega) ?_;rintro b _ K _ _ ⟨a0,rfl,rfl,rfl⟩ a;have z:=Sq.rd a;have ao:=Sq.ln a;rw[show(Fo.nil.app x)=x from rfl]at ao;go_wp2_with fail;refine(Sq.add (Sq.lit2 (Sq.set a)) (.inr (.tail _ (.head _))) (.inr (.head _)) (by omega)).mono ?_;rintro a1 b ⟨a0,rfl,K,a⟩;go_wp2_with fail;go_ret;obtain⟨v,u,w,ak⟩:=f.out;obtain rfl:D=NS:=by simpa using v
   obtain rfl:u=r:=by simpa using ak
   subst w;exact⟨_,_,_,_,rfl,⟨_,rfl,rfl,rfl⟩,Sq.fin a⟩
  |@name o _ _ ar _ c y d=>
   have g:=aq d;clear d;go_wp2_with fail;refine bv (Sq.kind a c) fun b a=>?_;go_wp2_with fail;refine bv (Sq.take a c) fun b a=>?_;have z:=Sq.rd a;go_wp2_with (at_builtin;refine Sq.apG tS (Sq.box a) (by omega) rfl rfl _ _ rfl rfl rfl (by simp) ?_;intro a2 L b a;have a:=Sq.tail a;have z:=Sq.rd a);go_roundg o
   case measure=>omega
   case rel=>exact⟨e+1,D++[(E.tk e).x],ar,s,q,_,n+1,L,g,by rw[dF];exact Sq.set a,by rw[dy];exact f.1,f.2,by omega⟩
  |@rest o _ _ _ av c y d=>
   have g:=aq d;clear d;go_wp2_with fail;refine bv (Sq.kind a c) fun b a=>?_;go_wp2_with fail;refine bv (Sq.take a c) fun b a=>?_;have z:=Sq.rd a;go_wp2_with fail;go_roundg o
   case measure=>omega
   case rel=>exact⟨e+1,D,p,1,av,h,n,l,g,Sq.below (Sq.set a) (cK _ _),f.1,⟨F2,rfl,by obtain⟨u,_,ad⟩:=f.2;rw[<-ad];simp⟩,by omega⟩
  |@com o _ _ _ _ c y d=>
   have g:=aq d;clear d;go_wp2_with fail;refine bv (Sq.kind a c) fun b a=>?_;go_wp2_with fail;refine bv (Sq.take a c) fun b a=>?_;go_wp2_with fail;go_roundg o
   case measure=>omega
   case rel=>exact⟨e+1,D,p,s,q,h,n,l,g,Sq.below a (cK _ _),f.1,f.2,by omega⟩
end
section
variable (E : Pe)
inductive Ws (i:Nat):FuncId->Array Value->Nat->Fo->Nat->Prop
 |blk {x:Fo}{j:Nat}:(E.tk i).k=42->i<E.n->CK E i x j->Ws i 94 #[pV E] i x j
 |smp {k:Int}{x:Fo}{j:Nat}:k=1\/k=40->(E.tk i).k=k->i<E.n->CI E 158 #[pV E] i x j->Ws i 94 #[pV E] i x j
 |let0 {ns:List ByteArray}{k:Nat}:(E.tk i).k=22->i<E.n->CM E (i+1) ns k->1<=k->k<E.n->(E.tk k).k≠47->Ws i 94 #[pV E] i (one (nd 2 (E.tk i) (E.tk (k-1)).t 0 0 z0 ns) .nil) k
 |let1 {ns:List ByteArray}{k j:Nat}{x:Fo}:(E.tk i).k=22->i<E.n->CM E (i+1) ns k->k<E.n->(E.tk k).k=47->CLx E (k+1) x j->1<=j->j<=E.n->Ws i 94 #[pV E] i (one (nd 2 (E.tk i) (E.tk (j-1)).t 0 0 z0 ns) x) j
 |con {ns:List ByteArray}{k j:Nat}{x:Fo}:(E.tk i).k=13->i<E.n->CM E (i+1) ns k->k<E.n->(E.tk k).k=47->CX E 0 (k+1) x j->1<=j->j<=E.n->Ws i 94 #[pV E] i (one (nd 3 (E.tk i) (E.tk (j-1)).t 0 0 z0 ns) x) j
 |iff {x:Fo}{j:Nat}:(E.tk i).k=20->i<E.n->CBr E 20 i x j->Ws i 94 #[pV E] i x j
 |whl {x y:Fo}{k j:Nat}:(E.tk i).k=31->i<E.n->CX E 0 (i+1) x k->CK E k y j->1<=j->j<=E.n->Ws i 94 #[pV E] i (one (ig 8 (E.tk i) (E.tk (j-1)).t) (x.app y)) j
 |for_ {x:Fo}{j:Nat}:(E.tk i).k=19->i<E.n->CI E 167 #[pV E,tkV 19 (E.tk i)] (i+1) x j->Ws i 94 #[pV E] i x j
 |leaf {k nk:Int}:(k=11/\nk=11)\/(k=23/\nk=12)->(E.tk i).k=k->i+1<E.n->Ws i 94 #[pV E] i (one (ig nk (E.tk i) (E.tk i).t) .nil) (i+1)
 |ret0:(E.tk i).k=27->i+1<E.n->dK (E.tk (i+1)).k=false->Ws i 94 #[pV E] i (one (ig 13 (E.tk i) (E.tk i).t) .nil) (i+1)
 |ret1 {x:Fo}{j:Nat}:(E.tk i).k=27->i+1<E.n->dK (E.tk (i+1)).k=true->CLx E (i+1) x j->1<=j->j<=E.n->Ws i 94 #[pV E] i (one (ig 13 (E.tk i) (E.tk (j-1)).t) x) j
 |try_ {ns:List ByteArray}{x y:Fo}{k k1 j:Nat}:(E.tk i).k=30->i<E.n->CK E (i+1) x k->(E.tk k).k=12->k<E.n->CM E (k+1) ns k1->CK E k1 y j->1<=j->j<=E.n->Ws i 94 #[pV E] i (one (nd 14 (E.tk i) (E.tk (j-1)).t 0 0 z0 ns) (x.app y)) j
 |thr {x:Fo}{j:Nat}:(E.tk i).k=28->i<E.n->CX E 0 (i+1) x j->1<=j->j<=E.n->Ws i 94 #[pV E] i (one (ig 15 (E.tk i) (E.tk (j-1)).t) x) j
 |dfr {x:Fo}{j:Nat}:(E.tk i).k=14->i<E.n->CB E (i+1) x j->1<=j->j<=E.n->Ws i 94 #[pV E] i (one (ig 16 (E.tk i) (E.tk (j-1)).t) x) j
 |bno {q:Int}{x y:Fo}{k k1:Nat}:q=20\/q=15->(E.tk i).k=q->i<E.n->CX E 0 (i+1) x k->CK E k y k1->1<=k1->k1<E.n->(E.tk k1).k≠15->(E.tk k1).k≠16->Ws i 166 #[pV E,tkV q (E.tk i)] (i+1) (one (ig 7 (E.tk i) (E.tk (k1-1)).t) (x.app y)) k1
 |belif {q:Int}{x y z:Fo}{k k1 j:Nat}:q=20\/q=15->(E.tk i).k=q->i<E.n->CX E 0 (i+1) x k->CK E k y k1->k1<E.n->(E.tk k1).k=15->CBr E 15 k1 z j->1<=j->j<=E.n->Ws i 166 #[pV E,tkV q (E.tk i)] (i+1) (one (ig 7 (E.tk i) (E.tk (j-1)).t) ((x.app y).app z)) j
 |belse {q:Int}{x y z:Fo}{k k1 j:Nat}:q=20\/q=15->(E.tk i).k=q->i<E.n->CX E 0 (i+1) x k->CK E k y k1->k1<E.n->(E.tk k1).k=16->CK E (k1+1) z j->1<=j->j<=E.n->Ws i 166 #[pV E,tkV q (E.tk i)] (i+1) (one (ig 7 (E.tk i) (E.tk (j-1)).t) ((x.app y).app z)) j
 |lfor {ns:List ByteArray}{x y:Fo}{k k1 j:Nat}:(E.tk i).k=19->i<E.n->CM E (i+1) ns k->k<E.n->(E.tk k).k=47->CLx E (k+1) x k1->CK E k1 y j->1<=j->j<=E.n->Ws i 167 #[pV E,tkV 19 (E.tk i)] (i+1) (one (nd 9 (E.tk i) (E.tk (j-1)).t 0 0 z0 ns) (x.app y)) j
 |leach {ns:List ByteArray}{x y:Fo}{k k1 j:Nat}:(E.tk i).k=19->i<E.n->CM E (i+1) ns k->k<E.n->(E.tk k).k=21->CX E 0 (k+1) x k1->CK E k1 y j->1<=j->j<=E.n->Ws i 167 #[pV E,tkV 19 (E.tk i)] (i+1) (one (nd 10 (E.tk i) (E.tk (j-1)).t 0 0 z0 ns) (x.app y)) j
end
theorem gK{d:Nat}{args:Array Br}(h:Ws E i f args d X j):CI E f args d X j:=by
 cases h
 case' smp h _ _ _=>rcases h with rfl|rfl
 case' leaf h _ _=>rcases h with⟨rfl,rfl⟩|⟨rfl,rfl⟩
 case' bno h _ _ _ _ _ _ _ _=>rcases h with rfl|rfl
 case' belif h _ _ _ _ _ _ _ _ _=>rcases h with rfl|rfl
 case' belse h _ _ _ _ _ _ _ _ _=>rcases h with rfl|rfl
 all_goals
  intro q o p h l;have a:=aq h;clear h;have t:=aoA;try simp only[bm,Fo.sz_app,Fo.sz]at l
  try have v:=beq_eq_false_iff_ne.2 (by assumption:(E.tk _).k≠15)
  go_in
  repeat' (go_wp2_with (at_builtin;refine Sq.app a (by have:=Sq.ln a;simp only[Fo.sz_app,Fo.sz]at this;(try simp only[Fo.sz]);omega) rfl _ _ rfl rfl rfl rfl ?_;intro u r b a;have m:=Sq.rd a);(first
   |(go_at_call 92;first|refine bv (Sq.kind (by first|exact a|exact Sq.box a|exact Sq.lit2 (Sq.set a)) (by assumption)) fun b a=>?_|refine bv (Sq.kind (by first|exact a|exact Sq.box a|exact Sq.lit2 (Sq.set a)) rfl) fun b a=>?_)
   |(go_at_call 159;refine bv (Sq.take (by first|exact a|exact Sq.set a|exact Sq.box a) (by assumption)) fun b a=>?_)
   |(go_at_call 93;first|refine bv (Sq.isY (by first|exact a|exact Sq.set a) (by assumption)) fun b a=>?_|refine bv (Sq.isN (by first|exact a|exact Sq.set a) (by assumption)) fun b a=>?_)
   |(go_at_call 154;refine dB (aoz (by assumption) _) ?_)
   |(go_at_call 160;refine bv (Sq.node (by first|exact a|exact Sq.box a)) fun b a=>?_)
   |(go_at_call 163;refine(Sq.add (by first|exact a|exact Sq.set a|exact Sq.lit1 (Sq.box a)|exact Sq.lit2 (Sq.set a)|exact Sq.box a) (by first|exact .inl ⟨rfl,rfl⟩|exact .inr (.head _)|exact .inr (.tail _ (.head _))) (by first|exact .inl ⟨rfl,rfl⟩|exact .inr (.head _)) (by have:=Sq.ln a;simp only[Fo.sz_app,Fo.sz]at this;(try simp only[Fo.sz]);omega)).mono ?_;rintro s b ⟨n,rfl,c,a⟩)
   |(refine Sq.cq (by first|exact a|exact Sq.set a|exact Sq.box a|exact Sq.lit2 (Sq.set a)) (by assumption) (by have:=Sq.ln a;simp only[Fo.sz_app,Fo.sz]at this;(try simp only[Fo.sz]);omega) ?_;(first|rintro b _ c _ _ ⟨n,rfl,rfl,rfl⟩ a|rintro b _ c w _ ⟨e,g,rfl,rfl⟩ a|(rintro b _ c _ _ ⟨e,g,rfl,rfl,rfl⟩ a;rw[Fo.app_nil,dA]at a))));(try have m:=Sq.rd a))
  all_goals
   go_wp2_with fail;go_ret;exact⟨_,_,_,_,rfl,⟨_,rfl,rfl,rfl⟩,Sq.fin a⟩
def Sm(E:Pe)(i:Nat)(x:Fo)(k:Nat)(X:Fo)(j:Nat):Prop:=((E.tk k).k≠46/\(E.tk k).k≠47/\k<E.n/\j=k/\X=one (ig 6 (E.tk i) (E.tk (k-1)).t) x)\/
 ∃R Ex k1 m,((E.tk k).k=46\/(E.tk k).k=47)/\Ls E (CB E) m k R k1/\(E.tk k1).k=47/\k1<E.n/\CLx E (k1+1) Ex j/\k<E.n/\j<=E.n/\X=one (nd 5 (E.tk i) (E.tk (j-1)).t 0 ((x.app R).len:Nat) z0 []) ((x.app R).app Ex)
section
variable {W V w : World}
theorem bdN(w:E2)(n:Nat):Fs w.heap.size w (w.drewN n):=⟨rfl,rfl,rfl,ag _,fun _ _=>rfl⟩
theorem ack(h:Fs W.heap.size W V)(k:Fs V.heap.size V w):Fs W.heap.size W w:=h.trans (k.mono h.size)
end
section
variable {E : Pe} {i j k : Nat}
theorem Kc{x:Fo}(cw:q=1\/q=40)(cB:(E.tk i).k=q)(b8:i<E.n)(cg:CB E i x k)(bk:Sm E i x k X j)(cz:i+1<=j):CI E 158 #[pV E] i X j:=by
 intro e L H B bc;have S:=aq B;have b4:(E.tk i).k≠6:=by omega
 have an:=fun F (ap:Fs e.heap.size e F)=>(Sq.below S ap).cells;have t:=fun F (ap:Fs e.heap.size e F)=>(Sq.below S ap).tkw b8 b4;unfold TkW at t;have c1:=S.lo;have ad:=aq bk;clear B bk;have a0:(i:Int)<(E.n:Int):=by omega
 have ar:(0:Int)<=(i:Int):=by omega
 have a1:IntKind.i64.wrap (i:Int)=(i:Int):=by rw[ed];omega
 go_in;go_wp2_with fail;refine G3 (S:=fun F=>Fs e.heap.size e F) (by kernel_rfl) (aw (ah _ _)) (fun a=>?_);simp only[gj,bB,dl,Nat.reduceAdd,gD,iw,ix,dt,ej];refine bG 0 (Cb (O ⟨E.pb,0,U⟩)) rfl rfl (by kernel_rfl) (fun _ _ _=>id) a (fun p o=>by go_simp) ?_;simp only[B4];refine bG 1 (Cb (O ⟨E.pb,0,U⟩)) rfl rfl (by kernel_rfl) (fun _ _ _=>id) a (fun p o=>by go_simp) ?_;simp only[B4];refine bG 2 (Cb (O ⟨E.pb,0,U⟩)) rfl rfl (by kernel_rfl) (fun _ _ _=>id) a (fun p o=>by go_simp) ?_;simp only[B4];refine bG 3 (A5 (O ⟨E.tb,0,U⟩) E.n E.cap) rfl rfl (by kernel_rfl) (fun _ _ _=>id) a (fun p o=>by go_simp) ?_;simp only[B4];refine bG 4 (Cb (O ⟨E.pb,0,U⟩)) rfl rfl (by kernel_rfl) (fun _ _ _=>id) a (fun p o=>by go_simp) ?_;simp only[B4];refine bG 5 (Cb (O ⟨E.pb,0,U⟩)) rfl rfl (by kernel_rfl) (fun _ _ _=>id) a (fun p o=>by go_simp) ?_;simp only[B4];refine bG 6 (Cb (O ⟨E.pb,1,U⟩)) rfl rfl (by kernel_rfl) (fun _ _ _=>id) a (fun p o=>by go_simp) ?_;simp only[B4];refine bG 7 (A0 Ax (i:Int)) rfl rfl (by kernel_rfl) (fun _ _ _=>id) a (fun p o=>by go_simp) ?_;simp only[B4];refine bG 8 (Cb (O ⟨E.tb,i*6,U⟩)) rfl rfl (by kernel_rfl) (fun _ _ _=>id) a (fun p o=>by go_simp) ?_;simp only[B4];refine bG 9 (H0 (jr (E.tk i).k (E.tk i))) rfl rfl (by kernel_rfl) (fun _ _ _=>id) a (fun p o=>by go_simp) ?_;simp only[B4];refine B6 (rs:=[10,11]) (by kernel_rfl) (by simp) (B0 rfl (fun g b=>?_) (B0 rfl (fun g b=>?_) B1))
 case' refine_1=>
  go_simp;refine bv (Bk _ _ (E.tk i) _) fun a3 A=>?_;have l:=ack (aw (ah _ _)) A;have z:=Sq.box (cs:=ndA 5 0 0 ⟨#[]⟩ (E.tk i) s0 s0) (t:=45) (Sq.below S l);refine b.out _ _ l (fun a=>?_);clear b g;try simp only[aD,aE,aF]
  refine B6 (rs:=[11]) (by kernel_rfl) (by simp) (B0 rfl (fun g b=>?_) B1);go_simp;refine b.out _ _ (ack l (cK _ _)) (fun a=>?_);clear b g;try simp only[aD,aE,aF]
  refine B6 (rs:=[12]) (by kernel_rfl) (by simp) (B0 rfl (fun g b=>?_) B1);go_simp;refine b.out _ _ (ack l (cK _ _)) (fun a=>?_);clear b g;refine wpAnyH_done (by kernel_rfl) ?_ _;clear A a l;generalize a3.alloc _=cm at z⊢;generalize a3.heap.size=am at z⊢
 case' refine_2=>
  go_simp;have a7:=Sq.below (Sq.box (cs:=#[A0 Ax 0,A0 Ax 0,A0 Ax 0,A0 Ax 0,A0 Ax 0,A0 Ax 0,E1 ⟨#[]⟩,s0,s0]) (t:=45) S) (aw (ah _ _));refine b.out _ _ (aw (cK _ _)) (fun a=>?_);clear b g;try simp only[aD,aE,aF]
  refine B6 (rs:=[10]) (by kernel_rfl) (by simp) (B0 rfl (fun g b=>?_) B1);go_simp;refine bv (Bk _ _ (E.tk i) _) fun a3 A=>?_;have l:=ack (aw (cK e _)) A;have al:=Sq.below a7 A;refine b.out _ _ l (fun a=>?_);clear b g a7 A;try simp only[aD,aE,aF]
  have r:=Sq.rd al;refine B6 (rs:=[12]) (by kernel_rfl) (by simp) (B0 rfl (fun g b=>?_) B1);go_simp;have z:B3 (Sq E e L H _ i H .nil [] [(e.heap.size,45,ndA 5 0 0 ⟨#[]⟩ (E.tk i) s0 s0)] []):=Sq.set (q:=8) (u:=s0) (Sq.set (q:=7) (u:=s0) (Sq.set (q:=6) (u:= E1 ⟨#[]⟩) (Sq.set (q:=5) (u:= A0 Ax 0) (Sq.set (q:=4) (u:= A0 Ax 0) (Sq.set (q:=3) (u:= A0 Ax (E.tk i).l) (Sq.set (q:=2) (u:= A0 Ax 0) (Sq.set (q:=1) (u:= A0 Ax (E.tk i).f) (Sq.set (q:=0) (u:= A0 Ax 5) al))))))));have d:=ag e.heap.size;refine b.out _ _ (((((((((l.setCell d _).setCell d _).setCell d _).setCell d _).setCell d _).setCell d _).setCell d _).setCell d _).setCell d _) (fun a=>?_);clear b g;refine wpAnyH_done (by kernel_rfl) ?_ _;clear a l r d al;generalize E0 _ _ _=cm at z⊢;generalize e.heap.size=am at z⊢
 all_goals
  clear an t a0 ar a1 S;go_wp2_with fail;have bf:x.sz<=X.sz/\k<E.n:=by
   rcases ad.out with⟨_,_,B,_,rfl⟩|⟨w,Ex,bo,m,_,_,_,_,_,B,_,rfl⟩
   ·exact⟨by rw[bm];omega,B⟩
   ·exact⟨by rw[bm,Fo.sz_app,Fo.sz_app];omega,B⟩
  refine Sq.cq z cg (by omega) ?_;rintro c _ af _ _ ⟨d,rfl,rfl,rfl⟩ S;have K:=Sq.ln S;rw[show(Fo.nil.app x)=x from rfl]at K;have an:=S.cells;obtain⟨df,c0,t⟩:=S.tok bf.2;have a0:(k:Int)<(E.n:Int):=by omega
  have ar:(0:Int)<=(k:Int):=by omega
  have a1:IntKind.i64.wrap (k:Int)=(k:Int):=by rw[ed];omega
  go_wp2_with fail;rcases ad.out with⟨b2,J,b9,rfl,rfl⟩|⟨w,Ex,bo,m,hkk,bh,J,cF,b7,cI,b9,rfl⟩
  ·have dk:((E.tk j).k !=46)=F2:=by simp[b2]
   have dn:((E.tk j).k !=47)=F2:=by simp[J]
   rw[bm]at bc;go_quiet (fail)
   replace S:=Sq.below S (bdN c nq);generalize c.drewN nq=c at S⊢;have r:=Sq.rd S;go_wp2_with fail;refine(Sq.add (Sq.litm (m:=c.heap.size) (Sq.set (Sq.set S)) (by simp[E0])) (.inl ⟨rfl,rfl⟩) (.inr (.head _)) (by omega)).mono ?_;rintro bF c ⟨d,rfl,af,S⟩;go_wp2_with fail;go_ret;exact⟨_,_,_,_,rfl,⟨_,rfl,rfl,rfl⟩,Sq.fin S⟩
  simp only[bm,Fo.sz_app]at bc bf;have a6:=aq bh;clear bh ad;rcases hkk with hkk|hkk;all_goals
   rw[hkk]at t;go_quiet (fail)
   replace S:=Sq.below S (bdN c nq);generalize c.drewN nq=c at S⊢;have r:=Sq.rd S;clear t an a0 ar a1;go_wp2_with fail;go_loopg [4] m (fun gk cl wr=>∃(k:Nat) (D ak:Fo) (br:Int) (s:Option Addr) (n v:Nat) (bw:List Mb) (y:List Int),cl= A0 Ax br/\B3 (Ls E (CB E) gk k ak bo/\Sq E e L H wr k bw D y [(am,45,ndA 5 0 (n:Int) ⟨#[]⟩ (E.tk i) s0 (A5 s n v))] [(3,A5 s n v,y.map iv)]/\D.app ak=x.app w))
   case atStart=>exact⟨k,x,w,d,_,1,1,_,_,rfl,a6,Sq.litm (m:=c.heap.size) (xs:=[iv d]) (Sq.set (Sq.set S)) (by simp[E0]),rfl⟩
   case round=>
    clear S a6 r;obtain⟨c9,D,ak,br,s,n,v,cr,y,rfl,a4⟩:=hrel;obtain⟨b1,S,ao⟩:=a4.out;have bn:=congrArg Fo.sz ao;have bb:=aq ao;rw[Fo.sz_app,Fo.sz_app]at bn;clear ao a4;have K:=Sq.ln S;have cc:=Sq.rn S;rw[cj]at cc;have cf:=congrArg List.length S.tp;rw[Fo.tops_len]at cf;have c3:=D.len_le;cases b1 with
    |stop a8 a9=>
     obtain rfl:D=x.app w:=by rw[<-bb.out,Fo.app_nil]
     go_wp2_with fail;refine bv (Sq.isN S (by rw[J];decide)) fun c S=>?_;go_wp2_with fail;refine bv (Sq.take S J) fun c S=>?_;go_wp2_with fail;refine Sq.cq S b7 (by omega) ?_;rintro c _ bx h _ ⟨bD,bE,rfl,rfl⟩ S;have cb:=Sq.ln S;rw[Fo.sz_app]at cb;have bd:=congrArg List.length S.tp;have ca:=Fo.len_le ((x.app w).app Ex);rw[Fo.tops_len,aK]at bd;rw[Fo.sz_app]at ca;obtain⟨C,b3⟩:=az h.length;rw[b3]at S bd⊢;go_wp2_with fail;go_loopw [76] (fun a2 wr=>∃(q v:Nat) (s:Option Addr),q<=C/\a2= A0 Ax q/\B3 (Sq E e L H wr j bx ((x.app w).app Ex) (y++h) [(am,45,ndA 5 0 (n:Int) ⟨#[]⟩ (E.tk i) s0 (A5 s (n+q) v))] [(3,A5 s (n+q) v,y.map iv++(h.take q).map iv),(3,A5 bD C bE,h.map iv)])) (fun a2 _=>C-(H1 a2).toNat)
     case atStart=>exact⟨0,v,s,aL _,rfl,by rw[Fj,List.map_nil,dA];exact Sq.swap S⟩
     case round=>
      clear S;obtain⟨q,v,s,c4,rfl,S⟩:=hrel;by_cases c2:q<C
      ·obtain⟨cn,bl⟩:∃x,h[q]?=O x:=⟨h[q]'(by omega),aJ _⟩;obtain⟨G,rfl,ct⟩:=Sq.at2 S bl;have c6:(0:Int)<=(q:Int):=by omega
       have c7:(q:Int)<(C:Int):=by omega
       have r:=Sq.rd S;go_wp2_with (at_builtin;refine Sq.apG tI S (by omega) rfl rfl _ _ rfl rfl rfl rfl ?_;intro G I c S;have r:=Sq.rd S);have bt:B3 (y.map iv++(h.take q).map iv++[H2 Ax cn]=y.map iv++(h.take (q+1)).map iv):=by show _=_;rw[iI,bl,dF,dy];rfl
       replace S:=Sq.set (q:=8) (u:= A5 (O ⟨G,0,U⟩) (n+q+1) I) S;rw[bt.out]at S;exact⟨⟨q+1,I,O ⟨G,0,U⟩,by omega,by go_num,S⟩,by simp[H1];omega⟩
      ·obtain rfl:q=C:=by omega
       rw[show h.take q=h from cA (by omega),<-dF]at S;replace S:=Sq.less S (show List.Sublist [_] [_,_] from .cons_cons _ (.cons _ .slnil));have r:=Sq.rd S;go_wp2_with fail;refine(Sq.add S (.inl ⟨rfl,rfl⟩) (.inr (.head _)) (by omega)).mono ?_;rintro bF c ⟨d,rfl,af,S⟩;go_wp2_with fail;go_ret;rw[show n=(x.app w).len by omega]at S;exact⟨_,_,_,_,rfl,⟨_,rfl,rfl,rfl⟩,Sq.fin S⟩
    |@go ck _ ch _ dq bA a8 a9 b0 ba=>
     have bs:=aq ba;clear ba;rw[Fo.sz_app]at bn;have c8:IntKind.i64.wrap ((n:Int)+1)=(n:Int)+1:=by rw[ed];omega
     go_wp2_with fail;refine bv (Sq.isY S a8 a9) fun c S=>?_;go_wp2_with fail;refine Sq.cq S b0 (by omega) ?_;rintro c _ af _ _ ⟨d,rfl,rfl,rfl⟩ S;have K:=Sq.ln S;rw[Fo.sz_app]at K;have r:=Sq.rd S;go_wp2_with (at_builtin;refine Sq.app S (by omega) rfl _ _ rfl rfl rfl rfl ?_;intro G I c S;have r:=Sq.rd S);go_roundg ck
     case measure=>omega
     case rel=>exact⟨ch,_,bA,d,O ⟨G,0,U⟩,n+1,I,_,_,rfl,bs,by rw[show((n+1:Nat):Int)=(n:Int)+1 by omega];exact Sq.set (Sq.set S),by rw[Fo.app_app];exact bb⟩
end
inductive Enp (E:Pe) (i:Nat):Fo->Nat->Prop
 |item {x:Fo}{j:Nat}:(E.tk i).k≠48->(E.tk i).k≠44->CX E 0 i x j->1<=j->j<=E.n->Enp E i (one (ig 40 (E.tk i) (E.tk (j-1)).t) x) j
 |named {x:Fo}{j:Nat}:Hid ((E.tk i).k=48)->(E.tk (i+1)).k=1->(E.tk (i+2)).k=47->i+2<E.n->CX E 0 (i+3) x j->1<=j->j<=E.n->Enp E i (one (nd 42 (E.tk i) (E.tk (j-1)).t 0 0 (E.tk (i+1)).x []) x) j
 |pair {x y:Fo}{k j:Nat}:Hid ((E.tk i).k=44)->CX E 0 (i+1) x k->(E.tk k).k=45->(E.tk (k+1)).k=47->k+1<E.n->CX E 0 (k+2) y j->1<=j->j<=E.n->Enp E i (one (ig 41 (E.tk i) (E.tk (j-1)).t) (x.app y)) j
theorem an0{o:Obj}(k j:Nat)(h:k<W.heap.size):(W.alloc o).cell? ⟨k,j,U⟩=W.cell? ⟨k,j,U⟩:=World.cell?_alloc_past _ _ _ h
section
variable {E : Pe} {i j : Nat}
theorem Hp(r:(E.tk i).k≠6)(w:i<E.n)(v:Enp E i X j):CI E 260 #[pV E] i X j:=by
 intro o B C q m;have a:=aq q;have u:=a.cells;have t:=a.tkw w r;unfold TkW at t;have H:=a.lo;clear q;have y:(i:Int)<(E.n:Int):=by omega
 have x:(0:Int)<=(i:Int):=by omega
 have z:IntKind.i64.wrap (i:Int)=(i:Int):=by rw[ed];omega
 go_in;go_wp2_with fail;go_region_held3 (fun A=>∀k j,k<o.heap.size->A.cell? ⟨k,j,U⟩=o.cell? ⟨k,j,U⟩) (first|exact an0|exact fun _ _ _=>rfl) (fail)
 replace a:=Sq.below (Sq.box (cs:=jr (E.tk i).k (E.tk i)) (t:=67) a) (aw (ah _ _));generalize World.drew _=b at a⊢;have c:=Sq.rd a;clear u t y x z;go_wp2_with fail;refine bv (Sq.node a) fun b a=>?_;replace a:=Sq.box (cs:=ndA 40 0 0 ⟨#[]⟩ (E.tk i) s0 s0) (t:=45) a;go_wp2_with fail;cases v
 case item=>
  rw[bm]at m;refine bv (Sq.isN a (by assumption)) fun b a=>?_;go_wp2_with fail;refine bv (Sq.isN a (by assumption)) fun b a=>?_;go_wp2_with fail;refine Sq.cq a (by assumption) (by omega) ?_;rintro b _ e _ _ ⟨f,rfl,rfl,rfl⟩ a;have d:=Sq.ln a;simp only[Fo.sz_app,Fo.sz]at d;have c:=Sq.rd a;go_wp2_with (at_builtin;refine Sq.apG tI (Sq.nil a) (by simp) rfl rfl _ _ rfl rfl rfl rfl ?_;intro l h b a;have c:=Sq.rd a);refine(Sq.add (Sq.set a) (.inl ⟨rfl,rfl⟩) (.inr (.head _)) (by omega)).mono ?_;rintro p b ⟨f,rfl,e,a⟩;go_wp2_with fail;go_ret;exact⟨_,_,_,_,rfl,⟨_,rfl,rfl,rfl⟩,Sq.fin a⟩
 case named=>
  rw[bm]at m;refine bv (Sq.isY a (by assumption:B3 ((E.tk i).k=48)).out) fun b a=>?_;go_wp2_with fail;refine bv (Sq.take a (by assumption)) fun b a=>?_;go_wp2_with fail;refine bv (Sq.take (Sq.box a) (by assumption)) fun b a=>?_;have J:=Sq.rd a;have K:=Sq.rd (Sq.tail a);have I:¬(E.tk i).k=6:=r;have g:=a.bd;simp only[kK,List.nodup_cons,jb,not_or]at g;have F:=g.1.1;have G:=dv g.1.1;clear g;go_wp2_with fail;refine Sq.cq (Sq.set (Sq.set (Sq.swapB a))) (by assumption) (by omega) ?_;rintro b _ e _ _ ⟨f,rfl,rfl,rfl⟩ a;have d:=Sq.ln a;simp only[Fo.sz_app,Fo.sz]at d;have c:=Sq.rd a;go_wp2_with (at_builtin;refine Sq.apG tI (Sq.nil a) (by simp) rfl rfl _ _ rfl rfl rfl rfl ?_;intro l h b a;have c:=Sq.rd a);refine(Sq.add (Sq.set a) (.inl ⟨rfl,rfl⟩) (.inr (.head _)) (by omega)).mono ?_;rintro p b ⟨f,rfl,e,a⟩;go_wp2_with fail;go_ret;exact⟨_,_,_,_,rfl,⟨_,rfl,rfl,rfl⟩,Sq.fin a⟩
 case pair=>
  have s:=(by assumption:B3 ((E.tk i).k=44));rw[bm,Fo.sz_app]at m;refine bv (Sq.isN a (by rw[s.out];decide)) fun b a=>?_;go_wp2_with fail;refine bv (Sq.isY a s.out) fun b a=>?_;go_wp2_with fail;refine Sq.cq a (by assumption) (by omega) ?_;rintro b _ e _ _ ⟨f,rfl,rfl,rfl⟩ a;have d:=Sq.ln a;simp only[Fo.sz_app,Fo.sz]at d;go_wp2_with fail;refine bv (Sq.take a (by assumption)) fun b a=>?_;go_wp2_with fail;refine bv (Sq.take a (by assumption)) fun b a=>?_;have c:=Sq.rd a;go_wp2_with (at_builtin;refine Sq.apG tI (Sq.nil (Sq.set a)) (by simp) rfl rfl _ _ rfl rfl rfl (by simp[E0]) ?_;intro l h b a;have c:=Sq.rd a);refine Sq.cq (Sq.set a) (by assumption) (by omega) ?_;rintro b _ e _ _ ⟨f,rfl,rfl,rfl⟩ a;have d:=Sq.ln a;simp only[Fo.sz_app,Fo.sz]at d;have c:=Sq.rd a;go_wp2_with (at_builtin;refine Sq.apG tI a (by simp) rfl rfl _ _ rfl rfl rfl rfl ?_;intro l h b a;have c:=Sq.rd a);refine(Sq.add (Sq.set a) (.inl ⟨rfl,rfl⟩) (.inr (.head _)) (by omega)).mono ?_;rintro p b ⟨f,rfl,e,a⟩;go_wp2_with fail;go_ret;exact⟨_,_,_,_,rfl,⟨_,rfl,rfl,rfl⟩,Sq.fin a⟩
theorem ajG{x:Fo}(g:(E.tk i).k=18)(y:(E.tk (i+1)).k=1)(I:(E.tk (i+2)).k=40)(h:i+2<E.n)(A:CBd E (E.tk (i+2)) (i+2) x j)(L:1<=j)(ad:j<=E.n):CI E 94 #[pV E] i (one (nd 4 (E.tk i) (E.tk (j-1)).t 0 0 z0 [(E.tk (i+1)).x]) x) j:=by
 intro G C F p z;have S:=aq p;clear p;rw[bm]at z;go_in;go_wp2_with fail;refine bv (Sq.kind S g) fun d S=>?_;go_wp2_with fail;refine bv (Sq.kind S g) fun d S=>?_;go_wp2_with fail;refine bv (Sq.kind S g) fun d S=>?_;go_wp2_with fail;refine bv (Sq.take S g) fun d S=>?_;go_wp2_with fail;refine bv (Sq.node (Sq.box S)) fun d S=>?_;replace S:=Sq.box (cs:=ndA 4 0 0 ⟨#[]⟩ (E.tk i) s0 s0) (t:=45) S;go_wp2_with fail;refine bv (Sq.take S y) fun d S=>?_;have s:=Sq.rd S;go_wp2_with fail;replace S:=Sq.litm (m:=d.heap.size+1) (xs:=[E1 (E.tk (i+1)).x]) (t:=9) (Sq.below (Sq.set (q:=7) (u:= A5 (O ⟨d.heap.size+1,0,U⟩) 1 1) S) (cK _ (B7 (jr 1 (E.tk (i+1))) 67))) (by simp[E0]);clear s;generalize World.alloc (World.alloc _ _) _=al at S⊢;have o:=S.cells;have t:=S.tkw (q:=i+2) h (by omega);have r:=S.lo.2.2.2;rw[show((i+1+1:Nat):Int)=(i:Int)+2 by omega]at o;have K:(i:Int)+2<(E.n:Int):=by omega
 have J:(0:Int)<=(i:Int)+2:=by omega
 have af:((i:Int)+2).toNat=i+2:=by omega
 have ak:IntKind.i64.wrap ((i:Int)+2)=(i:Int)+2:=by rw[ed];omega
 refine G3 (S:=fun l=>l.cell? ⟨E.pb,0,U⟩=O (A5 (O ⟨E.tb,0,U⟩) E.n E.cap)/\TkW E (i+2) l) (by kernel_rfl) ⟨o.1,t⟩ (fun a=>?_);unfold TkW at *;simp only[gj,bB,dl,Nat.reduceAdd,gD,iw,ix,dt,ej];refine bG 0 (Cb (O ⟨E.pb,0,U⟩)) rfl rfl (by kernel_rfl) (fun _ _ _=>id) a (fun f e=>by go_simp) ?_;simp only[B4];refine bG 1 (Cb (O ⟨E.pb,0,U⟩)) rfl rfl (by kernel_rfl) (fun _ _ _=>id) a (fun f e=>by go_simp) ?_;simp only[B4];refine bG 2 (Cb (O ⟨E.pb,0,U⟩)) rfl rfl (by kernel_rfl) (fun _ _ _=>id) a (fun f e=>by go_simp) ?_;simp only[B4];refine bG 3 (Cb (O ⟨E.pb,0,U⟩)) rfl rfl (by kernel_rfl) (fun _ _ _=>id) a (fun f e=>by go_simp) ?_;simp only[B4];refine bG 4 (A5 (O ⟨E.tb,0,U⟩) E.n E.cap) rfl rfl (by kernel_rfl) (fun _ _ _=>id) a (fun f e=>by go_simp) ?_;simp only[B4];refine bG 5 (Cb (O ⟨E.pb,0,U⟩)) rfl rfl (by kernel_rfl) (fun _ _ _=>id) a (fun f e=>by go_simp) ?_;simp only[B4];refine bG 6 (Cb (O ⟨E.pb,0,U⟩)) rfl rfl (by kernel_rfl) (fun _ _ _=>id) a (fun f e=>by go_simp) ?_;simp only[B4];refine bG 7 (Cb (O ⟨E.pb,1,U⟩)) rfl rfl (by kernel_rfl) (fun _ _ _=>id) a (fun f e=>by go_simp) ?_;simp only[B4];refine B6 (rs:=[8]) (by kernel_rfl) (by simp) (B0 rfl (fun c b=>?_) B1);go_simp;refine b.out _ _ a (fun a=>?_);clear b c;try simp only[aD,aE,aF]
 refine B6 (rs:=[9]) (by kernel_rfl) (by simp) (B0 rfl (fun c b=>?_) B1);go_simp;refine b.out _ _ a (fun a=>?_);clear b c;try simp only[aD,aE,aF]
 refine B6 (rs:=[10]) (by kernel_rfl) (by simp) (B0 rfl (fun c b=>?_) B1);go_simp;refine b.out _ _ a (fun a=>?_);clear b c;try simp only[aD,aE,aF]
 refine B6 (rs:=[11]) (by kernel_rfl) (by simp) (B0 rfl (fun c b=>?_) B1);go_simp;refine bv (Bk _ _ (E.tk (i+2)) _) fun d w=>?_;replace S:=Sq.below (Sq.below S (aw (ah _ _))) w;refine b.out _ _ ⟨S.cells.1,S.tkw h (by omega)⟩ (fun a=>?_);clear b c;try simp only[aD,aE,aF]
 refine B6 (rs:=[12]) (by kernel_rfl) (by simp) (B0 rfl (fun c b=>?_) B1);go_simp;refine Sq.cq S A (by omega) ?_;rintro d _ v _ _ ⟨B,rfl,rfl,rfl⟩ S;refine b.out _ _ ⟨S.cells.1,S.tkw h (by omega)⟩ (fun a=>?_);clear b c;try simp only[aD,aE,aF]
 refine B6 (rs:=[13]) (by kernel_rfl) (by simp) (B0 rfl (fun c b=>?_) B1);go_simp;refine b.out _ _ a (fun a=>?_);clear b c;refine wpAnyH_done (by kernel_rfl) ?_ _;have s:=Sq.rd S;have r:=Sq.ln S;simp only[Fo.sz_app,Fo.sz]at r;go_wp2_with fail;refine(Sq.add (Sq.lit2 (Sq.set S)) (nm:=[(E.tk (i+1)).x]) (.inr (.tail _ (.head _))) (.inr (.head _)) (by omega)).mono ?_;rintro H d ⟨B,rfl,v,S⟩;go_wp2_with fail;go_ret;exact⟨_,_,_,_,rfl,⟨_,rfl,rfl,rfl⟩,Sq.fin S⟩
end
def PM(E:Pe):xi->Nat->Fo->Nat->Prop
 | .unit,i,R,j=>CU E i R j
 | .expr p,i,R,j=>CX E p i R j
 | .more p s x,i,R,j=>∃m,Ms E (CX E) p s m x i R j
 | .base,i,R,j=>CB E i R j
 | .post s x,i,R,j=>∃m,Kb E (CX E 0) (CLx E) s m x i R j
 | .exprs,i,R,j=>CLx E i R j
 | .moreE,i,R,j=>∃m,Ls E (CX E 0) m i R j
 | .moreB,i,R,j=>∃m,Ls E (CB E) m i R j
 | .stat,i,R,j=>CI E 94 #[pV E] i R j
 | .stats,i,R,j=>∃m,Ss E (CI E 94 #[pV E]) m i R j
 | .block,i,R,j=>CK E i R j
 | .body s,i,R,j=>CBd E s i R j
 | .entry,i,R,j=>CI E 260 #[pV E] i R j
 | .entries,i,R,j=>∃m,Es E (CI E 260 #[pV E]) m i R j
 | .branch,i,R,j=>CBr E (E.tk i).k i R j
theorem amj{k:Int}(h:k=5\/k=6\/k=43):dK k=F0:=by rcases h with rfl|rfl|rfl<;>decide
theorem amk{k:Int}(h:ma k=F2):k=25\/k=50\/k=62\/k=69:=by
 have:=aH h;omega
theorem brK{k:Int}(h:CBr E (E.tk i).k i R j)(e:(E.tk i).k=k):CBr E k i R j:=e ▸ h
theorem ad2(A:∀q,(E.tk q).k<=78){t:xi}(h:P E.tk E.n t i R j):PM E t i R j:=by
 induction h with
 |upre a b d c=>have:=d.pos;simp only[fi]at this;exact pm (.pre (amk a) rfl b c (by omega) (by omega))
 |uint a b=>exact pm (.int a b)
 |uflt a b=>exact pm (.word (.inl ⟨rfl,rfl⟩) a b)
 |ustr a b=>exact pm (.word (.inr ⟨rfl,rfl⟩) a b)
 |unil a b=>exact pm (.leaf (.inl ⟨rfl,rfl⟩) a b)
 |utru a b=>exact pm (.leaf (.inr (.inl ⟨rfl,rfl⟩)) a b)
 |ufls a b=>exact pm (.leaf (.inr (.inr (.inl ⟨rfl,rfl⟩))) a b)
 |urst a b=>exact pm (.leaf (.inr (.inr (.inr ⟨rfl,rfl⟩))) a b)
 |ufn a b d c=>exact pm (.fn a b c)
 |utab a b d e f c=>obtain⟨g,c⟩:=c;exact afk a b c e f
 |ubas a b d c=>exact pm (.base a rfl b c)
 |ex a b d e l o=>obtain⟨g,c⟩:=o;exact amh a b A l c
 |mstop a b=>exact⟨0,.stop a b⟩
 |mgo a b d e f o w=>obtain⟨g,c⟩:=w;have:=e.pos;simp only[fi]at this;exact⟨g+1,.go a b d o (by omega) (by omega) c⟩
 |bname a b d c=>obtain⟨g,c⟩:=c;have:=d.pos;simp only[fi]at this;exact ag9 a b .name (by omega) c
 |@bopen i k j u z R a b d e f m l r=>
  obtain⟨g,c⟩:=r;have:=d.pos;have:=m.pos;simp only[fi]at *;by_cases v:u.k=34\/u.k=27
  ·rw[show mc u z (E.tk i) (E.tk k).t=_ from ab v]at c;exact ag9 a b (.held l e (by omega) v rfl) (by omega) c
  ·rw[show mc u z (E.tk i) (E.tk k).t=_ from aa v]at c;exact ag9 a b (.par l e (by omega) (by simp;omega) (by simp;omega)) (by omega) c
 |pstop a b=>exact⟨0,.stop a b⟩
 |pdot a b d e c=>obtain⟨g,c⟩:=c;have:=e.pos;exact⟨g+1,.dot a b (by omega) c⟩
 |psq a b d e f m l r=>obtain⟨g,c⟩:=r;have:=d.pos;simp only[fi]at this;have:=m.pos;exact⟨g+1,.sq a b l e (by omega) c⟩
 |pcall0 a b d e c=>obtain⟨g,c⟩:=c;have:=e.pos;exact⟨g+1,.call0 a b (by omega) c⟩
 |pcall a b d e f m p o s=>obtain⟨g,c⟩:=s;have:=e.pos;simp only[fi]at this;have:=p.pos;exact⟨g+1,.call a b d o f (by omega) c⟩
 |es a b C F=>obtain⟨g,c⟩:=F;exact aiD C c
 |estop a b=>exact⟨0,.stop a b⟩
 |ego a b d e l o=>obtain⟨g,c⟩:=o;exact⟨g+1,.go a b l c⟩
 |bstop a b=>exact⟨0,.stop a b⟩
 |bgo a b d e l o=>obtain⟨g,c⟩:=o;exact⟨g+1,.go a b l c⟩
 |@body i k j al ad ak L a b d e c=>
  obtain⟨g,I,J,af,K⟩:=Pt.of d;have:=e.pos;simp only[fi]at this;obtain⟨y,rfl⟩:∃y,k=y+1:=⟨k-1,by omega⟩;exact ami a b I J K c (by omega) (by omega)
 |block a b d e f c=>obtain⟨g,c⟩:=c;exact pm (.block a b (abr (.inl rfl) e c) e f)
 |sstop a b=>exact⟨0,.stop b⟩
 |ssep a b d c=>obtain⟨g,c⟩:=c;exact⟨g+1,.sep a b c⟩
 |sgo a b d e f m w r=>obtain⟨g,c⟩:=r;exact⟨g+1,.go a b d e w c⟩
 |nstop a b=>exact⟨0,.stop a b⟩
 |ncom a b d e f m l r=>obtain⟨g,c⟩:=r;exact⟨g+1,.com a b l e f c⟩
 |nlast a b d e f m l r=>obtain⟨g,c⟩:=r;exact⟨g+1,.last a b l e f c⟩
 |item a b d e f c=>have:=f.pos;simp only[fi]at this;exact Hp d e (.item a b c (by omega) (by omega))
 |pair a b d e f m p l s=>have:=d.pos;have:=p.pos;simp only[fi]at *;exact Hp (by omega) (by omega) (.pair a l e f m s (by omega) (by omega))
 |named a b d e f c=>have:=f.pos;simp only[fi]at this;exact Hp (by omega) (by omega) (.named a b d e c (by omega) (by omega))
 |belif a b d e f m p l o s=>have:=d.pos;have:=e.pos;have:=p.pos;simp only[fi]at *;exact gK (.belif a rfl b l o m f (brK s f) (by omega) (by omega))
 |belse a b d e f m p l o s=>have:=d.pos;have:=e.pos;have:=p.pos;simp only[fi]at *;exact gK (.belse a rfl b l o m f s (by omega) (by omega))
 |bno a b d e f m p l o=>have:=d.pos;have:=e.pos;simp only[fi]at *;exact gK (.bno a rfl b l o (by omega) p f m)
 |tlet0 a b d e f=>have:=e.pos;exact gK (.let0 a (by omega) (vv d b e) (by omega) (by omega) f)
 |tlet a b d e f m c=>have:=e.pos;have:=m.pos;simp only[fi]at *;exact gK (.let1 a (by omega) (vv d b e) (by omega) f c (by omega) (by omega))
 |@tcon i j am a b d e f c=>have:=f.pos;simp only[fi]at *;exact gK (.con a (by omega) (vv b (by omega) (.stop (by rw[d];decide) (by omega))) (by omega) d c (by omega) (by omega))
 |tfn a b d e f c=>have:=f.pos;simp only[fi]at *;exact ajG a b d e c (by omega) (by omega)
 |tif a b d c=>exact gK (.iff a b (brK c a))
 |twhile a b d e l o=>have:=d.pos;have:=e.pos;simp only[fi]at *;exact gK (.whl a b l o (by omega) (by omega))
 |tfor a b d e f m p r s=>have:=e.pos;have:=m.pos;have:=p.pos;simp only[fi]at *;exact gK (.for_ a (by omega) (gK (.lfor a (by omega) (vv d b e) (by omega) f r s (by omega) (by omega))))
 |teach a b d e f m p x B r H=>have:=e.pos;have:=m.pos;have:=B.pos;simp only[fi]at *;exact gK (.for_ a (by omega) (gK (.leach a (by omega) (vv d b e) (by omega) f r H (by omega) (by omega))))
 |tbreak a b=>exact gK (.leaf (.inl ⟨rfl,rfl⟩) a b)
 |tnext a b=>exact gK (.leaf (.inr ⟨rfl,rfl⟩) a b)
 |tret0 a b d=>exact gK (.ret0 a b (amj d))
 |tret a b d e c=>have:=e.pos;simp only[fi]at *;exact gK (.ret1 a b d c (by omega) (by omega))
 |ttry a b d e f m p x l G=>have:=d.pos;have:=p.pos;have:=x.pos;simp only[fi]at *;exact gK (.try_ a b l e (by omega) (vv m f p) G (by omega) (by omega))
 |tthrow a b d c=>have:=d.pos;simp only[fi]at *;exact gK (.thr a b c (by omega) (by omega))
 |tdefer a b d c=>have:=d.pos;simp only[fi]at *;exact gK (.dfr a b c (by omega) (by omega))
 |tblock a b d c=>exact gK (.blk a b c)
 |tdo a b d e f m c=>have:=d.pos;simp only[fi]at *;exact gK (.smp a rfl b (Kc a rfl b c (.inl ⟨e,f,m,rfl,rfl⟩) (by omega)))
 |tset a b d e f m p l o s=>obtain⟨g,o⟩:=o;have:=d.pos;have:=e.pos;have:=p.pos;simp only[fi]at *;exact gK (.smp a rfl b (Kc a rfl b l (.inr ⟨_,_,_,g,by cases o with|stop _ _=>exact .inr f|go h _ _ _=>exact .inl h,o,f,m,s,by omega,by omega,rfl⟩) (by omega)))
