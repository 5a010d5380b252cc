import Derived.Test.YtnoojdbdapljoaaGreatDoorHOk49
import Derived.Test.YtnoojdbdapljoaaGreatDoorHOk51
set_option linter.all false
set_option maxRecDepth 100000
set_option maxHeartbeats 12800000
open Option renaming some->M,none->O
open Go.Value renaming slice->Q,slice->R,pointer->U,ownBlock->Z,int->A0,iface->A3,string->A5,tuple->A9
open Go renaming World->V,Value->Ax,Calls->A6
open Go.Proofs.Tryz renaming prog->X
open Go.RowKit renaming Below->Y,Hid->A7,intOf->A8
open Go.IntKind renaming i64->A1
open Go.Obj renaming cells->A2
open Go.Ending renaming returned->A4
namespace Go.Proofs.YtnoojdbdapljoaaGreatDoor
open Go.RowKit Go.Maps Go.WideMaps
theorem ajf(s:ByteArray)(d:s.size<=1100000)(w:V):A6 X 37 #[A5 s] w fun e b=>e= A4 (A5 s)/\Y w.heap.size w b:=by
 have c:=fun w=>Tryz.stringslite_Clone s w (by omega);go_in;go_wp2_with (go_at_call 70;refine(c _).mono ?_;rintro e b ⟨rfl,a⟩);go_ret;first|exact⟨rfl,a⟩|exact⟨rfl,a.1⟩
def jF(b:Nat)(c:V)(v:Ax)(a:List Im):Prop:=c.ownsRow b 53 1 v a.length (a.map nV)
def agI(c:V)(e:List Im):Prop:=∀a∈e,∃d,fE c a.b a.N a.vn d a.kv
def fK:List Im->Int
 |[]=>0
 |x::a=>(if x.N.k=36 then 1 else 0)+fK a
theorem Gr(a b:List Im):fK (a++b)=fK a+fK b:=by
 induction a with
 |nil=>simp[fK]
 |cons e d c=>simp only[fF,fK,c];omega
theorem Kg:∀a,0<=fK a
 |[]=>by simp[fK]
 |x::a=>by have:=Kg a;simp only[fK];split<;>omega
theorem Kh:∀a,fK a<=a.length
 |[]=>by simp[fK]
 |x::a=>by have:=Kh a;simp only[fK,di];split<;>omega
theorem aay(a:List Im)(x:Im):fK (a++[x])=xB x.N (fK a):=by
 rw[Gr];unfold xB;simp only[fK];split<;>omega
def IB(b:List Im):ByteArray:=match b.getLast? with|some a=>jb a.N|none=>pL
theorem aer(a:List Im)(x:Im):IB (a++[x])=jb x.N:=by unfold IB;rw[List.getLast?_append];rfl
theorem jF.form{d n:Nat}{e:V}{v:Ax}{b:List Im}(h:jF d e v b)(f:b.length=n):∃a c,v= R a n c:=by subst f;exact bI h
theorem jF.get{f n c:Nat}{e:V}{a:Option Addr}{d:List Im}(h:jF f e (R a n c) d){j:Nat}{x:Im}(l:d[j]?=M x):
  ∃g,a=M ⟨g,0,O⟩/\e.cell? ⟨g,j,O⟩=M (A3 (lG (fJ x.N.k)) (U (M ⟨x.b,0,O⟩))):=by
 have q:j<d.length:=(List.getElem?_eq_some_iff.1 l).1;have i:e.ownsRow f 53 1 (R a n c) d.length (d.map nV):=h;rcases bq i with⟨p,_⟩|⟨g,o,m⟩
 ·omega
 ·cases m;exact⟨g,rfl,by rw[i.cellAt j (by omega),cj,l];rfl⟩
theorem D4(G:Nat)(w:V)(v:Ax)(c:List Im)(h:jF G w v c)(z:agI w c)(ad:c.length<=3000):
  A6 X 18 #[v] w fun e ap=>e= A4 (A0 A1 (fK c))/\ap=w:=by
 obtain⟨i,l⟩:=aA c.length;obtain⟨ar,av,rfl⟩:=h.form l;rw[l]at ad;have g:=gD h z l;clear h z l;go_in;go_wp2_with fail;go_loopw [3,8] (fun ao s wr=>∃a:Nat,a<=i/\s= A0 A1 a/\ao= A0 A1 (fK (c.take a))/\A7 (wr=w)) (fun _ s _=>i-(A8 s).toNat)
 case atStart=>exact⟨0,by omega,rfl,rfl,rfl⟩
 case round=>
  obtain⟨a,a1,rfl,rfl,H⟩:=hrel;have am:=H.out;subst am;by_cases af:a<i
  ·obtain⟨d,m⟩:=bj g.out.2.2 af;obtain⟨f,rfl,t⟩:=g.out.1.get m;obtain⟨a4,A⟩:=g.out.2.1 d (bC m);have u:=A.cells.1;have E:=fun w=>ma d.N.k d.b w;have q:=fun w=>eK d.b w;have x:c.take (a+1)=c.take a++[d]:=by rw[dG,m];rfl
   have k:fK (c.take (a+1))=fK (c.take a)+(if d.N.k=36 then 1 else 0):=by rw[x,Gr];simp[fK]
   have K:=Kg (c.take a);have B:=Kh (c.take a);have L:(c.take a).length<=3000:=by rw[eJ,g.out.2.2];omega
   obtain⟨n,y⟩:=aA (fK (c.take a));rw[y]at k K B⊢;have a0:n<=3000:=by omega
   obtain⟨an,p⟩:=aA (lG (fJ d.N.k));rw[p]at t;have ak:∀w,(method 377 an (U (M ⟨d.b,0,O⟩)) "loop.example/warp/impl.head").run X w= .ok (234,U (M ⟨d.b,0,O⟩)) w:=by rw[<-p];exact E
   have a3:(a:Int)<(i:Int):=by omega
   have a2:(0:Int)<=(a:Int):=by omega
   obtain⟨r,C⟩:=aA d.N.k;obtain⟨a5,F⟩:=aA d.b;rw[C]at u k;rw[F]at t u q ak;have j:=aq k;clear E p m x k y A C F B L;by_cases f:r=36
   ·have I:(r==36)=true:=by rw[gn];exact f
    have o:A7 (fK (c.take (a+1))=n+1):=by show _=_;rw[j.out,ab f]
    clear f j;go_wp2_with (go_at_call 234;refine ee (q _) ?_);go_roundw
    case measure=>simp[A8];omega
    case rel=>exact⟨a+1,by omega,by go_num,by rw[o.out],by first|exact True.intro|exact rfl⟩
   ·have I:(r==36)=false:=by rw[bg];exact f
    have o:A7 (fK (c.take (a+1))=n):=by show _=_;rw[j.out,aa f];omega
    clear f j;go_wp2_with (go_at_call 234;refine ee (q _) ?_);go_roundw
    case measure=>simp[A8];omega
    case rel=>exact⟨a+1,by omega,by go_num,by rw[o.out],by first|exact True.intro|exact rfl⟩
  ·obtain rfl:a=i:=by omega
   have J:c.take a=c:=cw (by rw[g.out.2.2];exact ah _);rw[J];go_wp2_with fail;go_ret;exact⟨rfl,rfl⟩
theorem asN(k:Int)(h:fJ k≠0)(b:Nat)(w:V):(Instr.typeAssert (A3 (lG (fJ k)) (U (M ⟨b,0,O⟩))) 53 96 true).run X w= .ok (A9 #[U O,.bool false]) w:=by
 rcases wh k with g|g|g|g|g|g|g
 ·exact absurd g h
 ·rw[g];exact Ic b w _ _ (by decide) (by decide) (by decide)
 ·rw[g];exact Ic b w _ _ (by decide) (by decide) (by decide)
 ·rw[g];exact Ic b w _ _ (by decide) (by decide) (by decide)
 ·rw[g];exact Ic b w _ _ (by decide) (by decide) (by decide)
 ·rw[g];exact Ic b w _ _ (by decide) (by decide) (by decide)
 ·rw[g];exact Ic b w _ _ (by decide) (by decide) (by decide)
theorem IC(ad:Nat)(w:V)(v:Ax)(r:List Im)(p:Im)(h:jF ad w v r)(o:agI w r)(ao:r.length<=3000)(m:r.getLast?=M p)(q:bu w p.vn p.N.nm)(t:p.N.k=4->1<=p.N.nm.length)(z:∀s∈p.N.nm,s.size<=1100000):
  A6 X 17 #[v] w fun e L=>e= A4 (A5 (jb p.N))/\Y w.heap.size w L:=by
 obtain⟨B,i⟩:=aA r.length;obtain⟨av,a1,rfl⟩:=h.form i;rw[i]at ao;have F:1<=B:=by
  rcases li B with g|g
  ·rw[g]at i;rw[iE i]at m;simp at m
  ·exact g
 obtain⟨c,rfl⟩:∃c,B=c+1:=⟨B-1,by omega⟩;have u:r[c]?=M p:=by rw[List.getLast?_eq_getElem?,i]at m;exact m
 obtain⟨g,rfl,d⟩:=h.get u;obtain⟨bb,l⟩:=o p (bC u);have n:=l.cells.1;have a4:((c:Int)+1)-1=(c:Int):=by omega
 have a7:(0:Int)<=(c:Int):=by omega
 have a8:(c:Int)<(c:Int)+1:=by omega
 have a9:(c:Int)<=3000:=by omega
 by_cases a:p.N.k=4
 ·have f:fJ p.N.k=0:=by rw[a];rfl
  rw[f]at d;unfold lG at d;have E:w.cell? ⟨p.b,6,O⟩=M p.vn:=by
   unfold fE at l;rw[f]at l;rw[az _ _ _ _ _ _ l];simp[exT]
  rw[a]at n;obtain⟨s0,y⟩:∃s0,p.N.nm[0]?=M s0:=⟨_,aI (t a)⟩;obtain⟨a0,a2,K⟩:=q.form;rw[K]at q E;obtain⟨am,rfl,G⟩:=q.get y;have a3:w.cell? am=M (A5 s0):=by simpa [Addr.add] using G
  have ar:=fun ak=>ajf s0 (z s0 (bC y)) ak;have x:A7 (jb p.N=s0):=by show _=_;unfold jb;rw[ab a,bm,y];rfl
  obtain⟨af,H⟩:=aA p.N.nm.length;rw[H]at E;have a5:(0:Int)<(af:Int):=by have:=t a;omega
  obtain⟨C,j⟩:=aA p.b;rw[j]at d n E;clear h o m q t z u l a f y G K H j i F;go_in;have A:=fun w=>asT C w 96 (by decide);go_wp2_with (go_at_call 37;refine(ar _).mono ?_;rintro e L ⟨rfl,o⟩);go_ret;exact⟨by rw[x.out];rfl,o⟩
 ·have x:A7 (jb p.N=pL):=by show _=_;unfold jb;rw[aa a]
  by_cases f:fJ p.N.k=0
  ·rw[f]at d;unfold lG at d;have ap:(p.N.k==4)=false:=by rw[bg];exact a
   obtain⟨a6,I⟩:=aA p.N.k;obtain⟨C,j⟩:=aA p.b;rw[I]at n ap;rw[j]at d n;have A:=fun w=>asT C w 96 (by decide);clear h o m q t z u l a f I j i F;go_in;go_wp2_with fail;go_ret;exact⟨by rw[x.out];rfl,aj _ _⟩
  ·have A:=fun w=>asN p.N.k f p.b w;obtain⟨bd,J⟩:=aA (lG (fJ p.N.k));rw[J]at A d;obtain⟨C,j⟩:=aA p.b;rw[j]at d n A;clear h o m q t z u l a f j i F J n;go_in;go_wp2_with fail;go_ret;exact⟨by rw[x.out];rfl,aj _ _⟩
def ID(c eb:Nat)(a:V)(d:List En):Prop:=∃b,a.heap[eb]?=M (A2 #[b] 30 (0,0))/\ez c a b d
structure Kw (B eb:Nat) (vex:Option Nat) (W W':V):Prop where
 os:W'.os=W.os
 tape:W'.tape=W.tape
 output:W'.output=W.output
 size:W.heap.size<=W'.heap.size
 block:∀k,k<W.heap.size->k≠eb->(B<=k->vex≠M k/\∀c f,W.heap[k]?≠M (.cells c 37 f))->W'.heap[k]?=W.heap[k]?
theorem Kw.refl(b eb:Nat)(c:Option Nat)(a:V):Kw b eb c a a:=⟨rfl,rfl,rfl,ah _,fun _ _ _ _=>rfl⟩
theorem Kw.of_below{c eb:Nat}{f:Option Nat}{a b:V}(h:Y a.heap.size a b):Kw c eb f a b:=⟨h.os,h.tape,h.output,h.size,fun e d _ _=>h.block e d⟩
theorem Kw.trans{c eb:Nat}{f b:Option Nat}{d g i:V}(h:Kw c eb f d g)(a:Kw c eb b g i)(hv:b=f\/b=O\/∀k,b=M k->d.heap.size<=k):Kw c eb f d i:=by
 refine⟨a.os.trans h.os,a.tape.trans h.tape,a.output.trans h.output,bz h.size a.size,fun k m n e=>?_⟩;have j:=h.block k m n e;rw[<-j];refine a.block k (gh m h.size) n fun l=>⟨?_,fun o q=>by rw[j];exact(e l).2 o q⟩;rcases hv with rfl|rfl|hv
 ·exact(e l).1
 ·simp
 ·intro p;have:=hv k p;omega
theorem Kw.low{b eb:Nat}{f:Option Nat}{a c:V}(h:Kw b eb f a c){k:Nat}(i:k<b)(d:k<a.heap.size)(e:k≠eb):c.heap[k]?=a.heap[k]?:=
 h.block k d e fun g=>by omega
theorem Kw.cell{b eb:Nat}{i:Option Nat}{c d:V}(h:Kw b eb i c d){a:Addr}{v:Ax}(e:c.cell? a=M v)(f:a.block<b)(g:a.block≠eb):d.cell? a=M v:=by
 rw[<-e];unfold World.cell?;rw[h.low f (uh e) g]
theorem Kw.ar{a eb:Nat}{j:Option Nat}{c f:V}(h:Kw a eb j c f)(u:eb<a){v:Ax}{b:List Im}(n:jF a c v b)(q:∀g,v.ownBlock=M g->j≠M g):jF a f v b:=by
 have o:c.ownsRow a 53 1 v b.length (b.map nV):=n;obtain⟨m,d⟩:=o;refine⟨m,?_⟩;rcases d with d|⟨g,k,l,i,p,e,r⟩
 ·exact .inl d
 ·refine .inr ⟨g,k,l,i,p,?_,r⟩;rw[h.block g (ax e) (by omega) fun _=>⟨q g (by rw[i];rfl),fun s t=>by rw[e];simp⟩];exact e
theorem Kw.bx{a eb:Nat}{k:Option Nat}{c d:V}(h:Kw a eb k c d){b:Nat}{N:Nd}{vn f:Ax}{g:Int}(e:fE c b N vn g f)(i:b<a)(j:b≠eb):fE d b N vn g f:=
 (h.low i (ax e) j).trans e
theorem agJ{w:V}{J:Array Oper}{d:Oper}{a:Act}{i:Act->V->Prop}{k:Exit->Act->V->Prop}{E:Prop}(n:d.guard=O)(s x:Operand)
  (q:d.op= .call {callee:= .builtin .append,args:=#[s,x],argTypes:=#[30,30]}) (base:Nat) (v:Ax) (b:List En) (B:a.eval s=v)
  (y:ez base w v b) (l:base<=w.heap.size) (f:Addr) (c:Nat) (e:En) (C:a.eval x= .slice (M f) 1 c) (p:∀j u,(GB e)[j]?=M u->w.cell? (f.add j)=M u) (K:b.length<=4194304) (r:Nat) (A:b.length+1=r)
  (h:∀g cap w1,ez base w1 (.slice (M ⟨g,0,O⟩) r cap) (b++[e])->w.grownBy w1 v.ownBlock->i (a.put d.dst (.slice (M ⟨g,0,O⟩) r cap)) w1):
  if Region.wanted d (yielded J a.tmps)=true then Oper.wp X d a w i k else E:=by
 subst A;obtain⟨I,o,F,G,H⟩:=dC acA;have z:w.ownsRow base 37 4 v b.length (uy b):=y;refine step_append_lies _ n s x 30 q base 37 I _ 4 40 Tryz.underlying30 o F G H rfl (by decide) v _ _ B z f 1 c (GB e) C rfl p (Ju e) (by decide) (by unfold maxLen;omega) (by omega) l w.heap.size rfl ?_;intro g cap w1 t m _ _;exact h g cap w1 (by unfold ez;rw[aC,Fg];show w1.ownsRow _ _ _ _ _ (uy b++(GB e++[]));rw[dA];exact t) m
theorem aaz(f eb i:Nat)(a8:eb<f)(w:V)(F:f<=w.heap.size)(x:Im)(v:Ax)(j:List Im)(r:List En)(G:fE w x.b x.N x.vn (i:Int) x.kv)(bA:x.b<f)(dp:x.b≠eb)(ap:jF f w v j)(a7:agI w j)(c7:ID f eb w r)(c2:r.length<=3000)(ck:j.length<=3000)
  (bp:x.N.k=36->∃p,j.getLast?=M p/\bu w p.vn p.N.nm/\(p.N.k=4->1<=p.N.nm.length)/\∀s∈p.N.nm,s.size<=1100000):
  A6 X 16 #[nV x,v,U (M ⟨eb,0,O⟩)] w fun e g=>e= A4 (A9 #[])/\ID f eb g (r++nD x.N i (IB j) (fK j))/\Kw f eb O w g:=by
 obtain⟨bd,bt⟩:=aA j.length;obtain⟨a3,a4,rfl⟩:=ap.form bt;obtain⟨ea,H,ar⟩:=c7;obtain⟨n,a9⟩:=aA r.length;obtain⟨J,L,rfl⟩:=ar.formn a9;have bn:=G.cells;have b0:=bn.1;have bl:w.cell? ⟨x.b,3,O⟩=M (A0 A1 x.N.l):=by unfold fE at G;rw[az _ _ _ _ _ _ G];simp
 have b1:w.cell? ⟨x.b,4,O⟩=M (A0 A1 (i:Int)):=by unfold fE at G;rw[az _ _ _ _ _ _ G];simp
 have cx:w.cell? ⟨eb,0,O⟩=M (R J n L):=ch H;have d5:w.frozen? ⟨eb,0,O⟩=false:=du _ _ _ _ _ H;have bs:=fun w=>ma x.N.k x.b w;have bE:=fun w=>eK x.b w;obtain⟨cr,bb⟩:=aA (lG (fJ x.N.k));have ca:∀w,(method 377 cr (U (M ⟨x.b,0,O⟩)) "loop.example/warp/impl.head").run X w= .ok (234,U (M ⟨x.b,0,O⟩)) w:=by rw[<-bb];exact bs
 have bw:nV x= A3 cr (U (M ⟨x.b,0,O⟩)):=by unfold nV gy;rw[bb]
 rw[bw];obtain⟨o,cl⟩:=aA x.b;rw[cl]at b0 bl b1 bE ca bA dp⊢;by_cases E:x.N.k=36
 ·have cm:(x.N.k==36)=true:=by rw[gn];exact E
  obtain⟨p,bx,cb,cc,cf⟩:=bp E;have cq:=IC f w.drew (R a3 bd a4) j p ap a7 ck bx cb cc cf;have I:A7 (nD x.N i (IB j) (fK j)=[⟨jb p.N,x.N.l,fK j,(i:Int)⟩]):=by
   show _=_;unfold nD IB;rw[ab E,bx]
  have cp:=fun h (m:Y w.heap.size w h)=>D4 f h (R a3 bd a4) j (aG ap m) (fun d0 dq=>by obtain⟨ds,df⟩:=a7 d0 dq;exact⟨ds,df.below m⟩) ck;have ak:Y w.heap.size w w.drew:=aL (aj _ _);have af:=gD ar H a9;generalize jb p.N=bf at cq I;generalize fK j=cnt at cp I;obtain⟨B,b9⟩:=aA x.N.l;rw[b9]at bl I;have a0:∀h,Y f w h->h.cell? ⟨eb,0,O⟩=M (R J n L)/\h.frozen? ⟨eb,0,O⟩=false/\h.cell? ⟨o,3,O⟩=M (A0 A1 B)/\h.cell? ⟨o,4,O⟩=M (A0 A1 (i:Int)):=fun h m=>⟨(gF m a8).trans cx,du _ _ _ _ _ ((m.block _ a8).trans H),(gF m bA).trans bl,(gF m bA).trans b1⟩;have d6:n<=3000:=by omega
  have d7:=ca;clear bs bb bw bp E bx cb cc cf G bn ar H ap a7 a9 bt b9 cl c2;go_in;go_wp2_with (go_at_call 234;refine(bE _).mono ?_;rintro e g ⟨rfl,rfl⟩);obtain⟨t,rfl⟩:∃t,t=g:=⟨_,rfl⟩;have cv:∀(h:V)(m:Y t.heap.size t h)(bF:Obj),Y t.heap.size t (h.alloc bF):=fun h m bF=>m.alloc m.size bF;have cn:=fun (h:V) (m:Y t.heap.size t h)=>af.out.1.below m;refine wp_region_held_drew (S:=fun a2=>a2.cell? ⟨o,3,O⟩=M (A0 A1 B)/\a2.cell? ⟨o,4,O⟩=M (A0 A1 (i:Int))) (by kernel_rfl) (a0 _ (ak.mono F)).2.2 (fun hS=>?_);simp only[ip,di,fs,Nat.reduceAdd,jt,ju,jw,fd,fF];refine jz 1 14 (R a3 bd a4) rfl rfl (by kernel_rfl) (by kernel_rfl) (by kernel_rfl) (fun _ _ _ a=>a) (by rfl) hS (fun g c=>by obtain⟨u,y⟩:=c;go_simp) ?_;simp only[Act.put,bJ,bK,ci];refine jz 3 16 (U (M ⟨o,0,O⟩)) rfl rfl (by kernel_rfl) (by kernel_rfl) (by kernel_rfl) (fun _ _ _ a=>a) (by rfl) hS (fun g c=>by obtain⟨u,y⟩:=c;go_simp) ?_;simp only[Act.put,bJ,bK,ci];refine jz 4 17 (U (M ⟨o,0,O⟩)) rfl rfl (by kernel_rfl) (by kernel_rfl) (by kernel_rfl) (fun _ _ _ a=>a) (by rfl) hS (fun g c=>by obtain⟨u,y⟩:=c;go_simp) ?_;simp only[Act.put,bJ,bK,ci];refine jz 5 18 (U (M ⟨o,3,O⟩)) rfl rfl (by kernel_rfl) (by kernel_rfl) (by kernel_rfl) (fun _ _ _ a=>a) (by rfl) hS (fun g c=>by obtain⟨u,y⟩:=c;go_simp) ?_;simp only[Act.put,bJ,bK,ci];refine jz 6 19 (A0 A1 B) rfl rfl (by kernel_rfl) (by kernel_rfl) (by kernel_rfl) (fun _ _ _ a=>a) (by rfl) hS (fun g c=>by obtain⟨u,y⟩:=c;go_simp) ?_;simp only[Act.put,bJ,bK,ci];refine jz 7 20 (R a3 bd a4) rfl rfl (by kernel_rfl) (by kernel_rfl) (by kernel_rfl) (fun _ _ _ a=>a) (by rfl) hS (fun g c=>by obtain⟨u,y⟩:=c;go_simp) ?_;simp only[Act.put,bJ,bK,ci];refine jz 9 22 (U (M ⟨o,0,O⟩)) rfl rfl (by kernel_rfl) (by kernel_rfl) (by kernel_rfl) (fun _ _ _ a=>a) (by rfl) hS (fun g c=>by obtain⟨u,y⟩:=c;go_simp) ?_;simp only[Act.put,bJ,bK,ci];refine jz 10 23 (U (M ⟨o,0,O⟩)) rfl rfl (by kernel_rfl) (by kernel_rfl) (by kernel_rfl) (fun _ _ _ a=>a) (by rfl) hS (fun g c=>by obtain⟨u,y⟩:=c;go_simp) ?_;simp only[Act.put,bJ,bK,ci];refine jz 11 24 (U (M ⟨o,4,O⟩)) rfl rfl (by kernel_rfl) (by kernel_rfl) (by kernel_rfl) (fun _ _ _ a=>a) (by rfl) hS (fun g c=>by obtain⟨u,y⟩:=c;go_simp) ?_;simp only[Act.put,bJ,bK,ci];refine jz 12 25 (A0 A1 (i:Int)) rfl rfl (by kernel_rfl) (by kernel_rfl) (by kernel_rfl) (fun _ _ _ a=>a) (by rfl) hS (fun g c=>by obtain⟨u,y⟩:=c;go_simp) ?_;simp only[Act.put,bJ,bK,ci];refine rC (S:=fun a2=>a2.cell? ⟨eb,0,O⟩=M (R J n L)) (C:=fun av=>!(av==15||av==16)) (i:=0) (v:= R J n L) rfl (yi (by kernel_rfl)) (fun _ _ _ a=>a) ?hC _ _ _ _ (yj rfl (by kernel_rfl)) (List.contains_iff_mem.1 (by kernel_rfl)) (Or.inl ⟨by rfl,fun g c=>by go_simp⟩) hS (a0 _ (ak.mono F)).1 ?_
  case hC=>
   intro av d9 b6 A;have am:av=15\/av=16:=by
    simp only[Bool.not_eq_false',yo,gn]at A;exact A
   rcases am with rfl|rfl
   ·obtain rfl:=db b6;exact⟨{on:=0,ground:=Ground.data},by simp,rfl,rfl⟩
   ·obtain rfl:=db b6;exact⟨{on:=0,ground:=Ground.phase},by simp,rfl,rfl⟩
  simp only[Act.put,bJ,bK];refine fi (i:=2) (by kernel_rfl) rfl (fun q d=>?_);go_simp;refine cq.mono ?_;rintro e dz ⟨rfl,br⟩;have ad:=a0 dz ((ak.trans br).mono F);refine d.out _ _ ad.2.2 (fun _=>ad.1) ?_;clear d q;try simp only[bJ,bK,ci]
  refine fi (i:=8) (by kernel_rfl) rfl (fun q d=>?_);go_simp;refine(cp _ (ak.trans br)).mono ?_;rintro e ct ⟨rfl,rfl⟩;refine d.out _ _ ad.2.2 (fun _=>ad.1) ?_;clear d q;try simp only[bJ,bK,ci]
  refine fi (i:=13) (by kernel_rfl) rfl (fun q d=>?_);go_simp;refine d.out _ _ ad.2.2 (fun _=>ad.1) ?_;clear d q;try simp only[bJ,bK,ci]
  refine fi (i:=14) (by kernel_rfl) rfl (fun q d=>?_);go_simp;have z:=cv ct (ak.trans br) (A2 #[A5 bf,A0 A1 B,A0 A1 cnt,A0 A1 (i:Int)] 37);have b2:=a0 _ (z.mono F);refine d.out _ _ b2.2.2 (fun _=>b2.1) ?_;clear d q;try simp only[bJ,bK,ci]
  refine fi (i:=15) (by kernel_rfl) rfl (fun q d=>?_);refine agJ (by rfl) _ _ (by rfl) f (R J n L) r (by rfl) (cn _ z) (bz F z.size) ⟨_,0,O⟩ 1 ⟨bf,B,cnt,(i:Int)⟩ (by rfl) (Jv ct bf B cnt (i:Int)) (by rw[af.out.2.2];omega) (n+1) (by rw[af.out.2.2]) ?_;intro a6 a5 a1 dd b3;have c5:=(cn _ z).grown (bz F z.size) b3;have K:Y f t a1:=(z.mono F).trans c5;have an:=a0 _ K;refine d.out _ _ an.2.2 (fun A=>by cases A) ?_;clear d q;simp only[Act.put,bJ,bK,ci];refine fi (i:=16) (by kernel_rfl) rfl (fun q d=>?_);have d3:=an.1;have d4:=an.2.1;go_simp;have dn:=(K.block _ a8).trans af.out.2.1;have c6:(a1.setCell ⟨eb,0,O⟩ (R (M ⟨a6,0,O⟩) (n+1) a5)).cell? ⟨o,3,O⟩=M (A0 A1 B)/\(a1.setCell ⟨eb,0,O⟩ (R (M ⟨a6,0,O⟩) (n+1) a5)).cell? ⟨o,4,O⟩=M (A0 A1 (i:Int)):=
   ⟨(World.cell?_setCell_far _ _ _ _ (by simp;omega)).trans an.2.2.1,(World.cell?_setCell_far _ _ _ _ (by simp;omega)).trans an.2.2.2⟩
  refine d.out _ _ c6 (fun A=>by cases A) ?_;clear d q;refine uo (by kernel_rfl) ?_ _;have cB:ID f eb (a1.setCell ⟨eb,0,O⟩ (R (M ⟨a6,0,O⟩) (n+1) a5)) (r++[⟨bf,B,cnt,(i:Int)⟩]):=⟨_,cD _ eb 0 _ _ _ dn,xK dd a8 _⟩;have c1:Kw f eb O t (a1.setCell ⟨eb,0,O⟩ (R (M ⟨a6,0,O⟩) (n+1) a5)):=by
   refine⟨K.os,K.tape,K.output,by simp[World.setCell];exact K.size,fun k b7 c9 A=>?_⟩;rw[bh _ _ _ _ c9,<-z.block k b7];refine b3.block k (gh b7 z.size) fun e=>?_;have dk:t.ownsRow f 37 4 (R J n L) r.length (uy r):=af.out.1;rcases dk.2 with⟨am,_⟩|⟨cy,d1,d2,am,c8,cz,_⟩
   ·rw[am]at e;simp[Z]at e
   ·rw[am]at e;obtain rfl:k=cy:=by simpa [Z] using e
    exact(A c8).2 _ _ cz
  go_end0
  exact⟨rfl,by rw[I.out];exact cB,c1⟩
 ·have cm:(x.N.k==36)=false:=by rw[bg];exact E
  have I:A7 (r++nD x.N i (IB j) (fK j)=r):=by show _=_;unfold nD;rw[aa E,dA]
  have cu:A7 (ID f eb w r):=⟨_,H,ar⟩;obtain⟨d8,b8⟩:=aA x.N.k;rw[b8]at b0 cm;clear bs bb bw bp E G bn ar H ap a7 a9 bt b8;go_in;go_wp2_with (go_at_call 234;refine(bE _).mono ?_;rintro e g ⟨rfl,rfl⟩);go_end0
  exact⟨rfl,by rw[I.out];exact cu.out,Kw.refl _ _ _ _⟩
theorem agK:(Tryz.prog.info? 53).map (fun i=>(i.zero,i.size,i.bytes))=M (M .nilIface,1,16):=by kernel_rfl
theorem ajg(x:Im):(nV x).oneCell'=true:=rfl
theorem Bt{w:V}{f:Nat}{v:Ax}{a:List Im}(x:Im)(m:TypeId)(L:jF f w v a)(F:f<=w.heap.size)(h:Addr)(c:Nat)(q:∀j u,[nV x][j]?=M u->w.cell? (h.add j)=M u)(a1:a.length<=100000):
  ∃b e,(Builtin.append_ #[57,57] m #[v,.slice (M h) 1 c]).run X w= .ok b e/\jF f e b (a++[x])/\w.grownBy e v.ownBlock/\(b.ownBlock=v.ownBlock\/b.ownBlock=M w.heap.size)/\
   (b.ownBlock=v.ownBlock->∃g cap,v= .slice (M ⟨g,0,O⟩) a.length cap/\b= .slice (M ⟨g,0,O⟩) (a.length+1) cap)/\(b.ownBlock≠v.ownBlock->Y w.heap.size w e):=by
 obtain⟨l,p,B,k,C⟩:=dC agK;have s:w.ownsRow f 53 1 v a.length (a.map nV):=L;have z:∀u∈[nV x],u.oneCell'=true:=fun u ak=>by obtain rfl:=List.mem_singleton.1 ak;exact ajg x
 obtain⟨b,e,i,r,d,a4,G⟩:=run_append_own_at (P:=X) w f 57 m 53 l _ 1 16 Tryz.underlying57 p B k C rfl (by decide) v _ _ s h 1 c [nV x] rfl q z (by unfold maxLen;omega) (by omega) F;refine⟨b,e,i,by unfold jF;rw[aC,en];exact r,d,G,?_⟩;rcases s.2 with⟨rfl,ap⟩|⟨g,cap,y,rfl,ar,A,a2,av,H,a3⟩
 ·refine⟨fun o=>?_,fun _=>⟨d.os,d.tape,d.output,d.size,fun am J=>d.block am J (by simp[Z])⟩⟩;obtain⟨an,ao,n⟩:=bI r;subst n;rcases bq r with⟨a5,_⟩|⟨g,cap,n⟩
  ·omega
  ·cases n;simp[Z]at o
 ·by_cases af:a.length+1<=cap
  ·have I:a.length*l.size+[nV x].length<=y.size:=by rw[k,H];show a.length*1+1<=cap*1;omega
   have t:=run_append_room (P:=X) w 57 m 53 l Tryz.underlying57 p g a.length cap y A h 1 c [nV x] (by rw[k];rfl) q z af I;rw[t]at i;cases i;exact⟨fun _=>⟨g,cap,rfl,rfl⟩,fun E=>absurd rfl E⟩
  ·have K:∀j u,(a.map nV)[j]?=M u->w.cell? ((⟨g,0,O⟩:Addr).add j)=M u:=s.cells (g:=g) rfl;have t:=run_append_grow (P:=X) w 57 m 53 l _ Tryz.underlying57 p B ⟨g,0,O⟩ a.length cap (a.map nV) (by rw[k];simp) K h 1 c [nV x] (by rw[k];rfl) q (by omega) (by omega) (growslice_fits (by omega) (by rw[C];omega));rw[t]at i;cases i;have a0:=ax A;refine⟨fun o=>?_,fun _=>((aj _ w).drew).alloc (ah _) _⟩;simp[Z]at o;omega
theorem aaA{w:V}{p:Array Oper}{q:List Oper}{f:Oper}{a:Act}{m:Exit->Act->V->Prop}(F:f.guard=O)(s y:Operand)
  (I:f.op= .call {callee:= .builtin .append,args:=#[s,y],argTypes:=#[57,57]}) (i:Nat) (v:Ax) (e:List Im) (x:Im) (K:a.eval s=v)
  (J:jF i w v e) (C:i<=w.heap.size) (k:Addr) (c:Nat) (L:a.eval y= R (M k) 1 c) (H:∀j u,[nV x][j]?=M u->w.cell? (k.add j)=M u) (G:e.length<=100000) (r:Nat) (l:e.length+1=r)
  (h:∀b d w1,jF i w1 (R b r d) (e++[x])->w.grownBy w1 v.ownBlock->((Q b r d).ownBlock=v.ownBlock\/(Q b r d).ownBlock=M w.heap.size)->
   ((Q b r d).ownBlock=v.ownBlock->∃g cap,v= R (M ⟨g,0,O⟩) e.length cap/\Q b r d= R (M ⟨g,0,O⟩) (e.length+1) cap)->((Q b r d).ownBlock≠v.ownBlock->Y w.heap.size w w1)->wpList X p m q (a.put f.dst (R b r d)) w1):
  wpList X p m (f::q) a w:=by
 subst l;refine wpList_plain F fun ak E=>?_;obtain⟨am,af,l,o,t,z,A,B⟩:=Bt x f.type J C k c H G;obtain⟨b,d,rfl⟩:=o.form (n:=e.length+1) (by simp);unfold Oper.wp execOp;simp only[I,resolve,invoke,builtin,Cp,Sem.run_pure,IG,List.map_toArray,lg,List.map_nil,K,L,l];exact E _ _ (h b d af o t z A B)
theorem jF.pre{b:Nat}{c:V}{a:List Im}{x:Im}{g cap:Nat}(h:jF b c (R (M ⟨g,0,O⟩) (a.length+1) cap) (a++[x])):jF b c (R (M ⟨g,0,O⟩) a.length cap) a:=by
 have f:c.ownsRow b 53 1 (R (M ⟨g,0,O⟩) (a.length+1) cap) (a++[x]).length ((a++[x]).map nV):=h;rw[show(a++[x]).length=a.length+1 by simp]at f;rcases f.2 with⟨d,_⟩|⟨p,o,i,d,j,m,q,k,l,n⟩
 ·cases d
 ·cases d;refine⟨by simp,.inr ⟨g,cap,i,rfl,j,m,by omega,k,l,?_⟩⟩;have e:=congrArg (List.take a.length) n;rw[List.take_take]at e;simp at e;simpa using e
def ajh(eb:Nat):Ax:= .func (.func 16) #[] #[U (M ⟨eb,0,O⟩)]
structure Tr (w0:V) (ns:List Nd) (L:List Im) (base:Nat) (vs:Ax):Prop where
 at_:js w0 base vs L
 map:L.map Im.N=ns
 nms:∀x∈L,bu w0 x.vn x.N.nm
 ok:(cF ns).1=0
 sm:∀N∈ns,fx N
theorem Kw.bel{w0 b c:V}{f:Option Nat}(h:Kw (w0.heap.size+1) w0.heap.size f b c)(a:Y w0.heap.size w0 b):Y w0.heap.size w0 c:=
 ⟨h.os.trans a.os,h.tape.trans a.tape,h.output.trans a.output,bz a.size h.size,fun e d=>(h.low (by omega) (gh d a.size) (by omega)).trans (a.block e d)⟩
theorem aes{b eb:Nat}{a c:V}{v:Ax}{k:List Im}(g:jF b a v k)(h:a.grownBy c v.ownBlock):Kw b eb v.ownBlock a c:=
 ⟨h.os,h.tape,h.output,h.size,fun e j _ i=>h.block e j fun d=>by
  have f:=(g.lt e d.symm).1;exact(i f).1 d.symm⟩
theorem ID.below{b eb:Nat}{a d:V}{c:List En}(h:ID b eb a c)(f:Y a.heap.size a d):ID b eb d c:=by
 obtain⟨i,e,g⟩:=h;exact⟨i,(f.block _ (ax e)).trans e,g.below f⟩
theorem ID.grownNd{a eb:Nat}{b f:V}{c:List En}{v:Ax}{e:List Im}(h:ID a eb b c)(x:eb<a)(j:jF a b v e)(k:b.grownBy f v.ownBlock):ID a eb f c:=by
 obtain⟨m,g,i⟩:=h;refine⟨m,(k.block _ (ax g) fun d=>?_).trans g,yq i k ?_⟩
 ·have:=(j.lt eb d.symm).1;omega
 ·have p:b.ownsRow a 37 4 m c.length (uy c):=i;have q:b.ownsRow a 53 1 v e.length (e.map nV):=j;rcases p.2 with⟨rfl,_⟩|⟨n,s,u,rfl,_,r,_⟩
  ·exact .inl rfl
  ·refine .inr fun d=>?_;rcases q.2 with⟨rfl,_⟩|⟨o,t,w,rfl,_,l,_⟩
   ·simp[Z]at d
   ·obtain rfl:n=o:=by simpa [Z] using d
    rw[r]at l;simp at l
theorem Kw.weak{a eb:Nat}{j:Option Nat}{b c:V}(h:Kw a eb O b c):Kw a eb j b c:=
 ⟨h.os,h.tape,h.output,h.size,fun i f g e=>h.block i f g fun d=>⟨by simp,(e d).2⟩⟩
def aji(w0:V)(j:List Nd)(i:List Im)(c:Nat):Prop:=∀(d:Nat)(h:Im)(b:V)(e:Ax)(a:List Im)(f:List En),d<c->i[d]?=M h->Y w0.heap.size w0 b->w0.heap.size+1<=b.heap.size->jF (w0.heap.size+1) b e a->(∀m∈a,m∈i)->ID (w0.heap.size+1) w0.heap.size b f->
 f.length+(cG j c d (IB a) (fK a)).length<=3000->a.length+c<=3000->(h.N.k=36->a≠[])->
 A6 X 15 #[nV h,e,ajh w0.heap.size] b fun l g=>l= A4 (A9 #[])/\ID (w0.heap.size+1) w0.heap.size g (f++cG j c d (IB a) (fK a))/\jF (w0.heap.size+1) g e a/\Kw (w0.heap.size+1) w0.heap.size e.ownBlock b g
theorem aaB(w0:V)(g:List Nd)(L:List Im)(base:Nat)(d8:Ax)(T:Tr w0 g L base d8)(i:Nat)(cu:aji w0 g L i):aji w0 g L (i+1):=by
 intro r a n d7 c K eg I F b8 A am cf bf d0 b7;have G:=T.at_.box r a I;have ce:=G.below F;have et:=ax G;obtain⟨e,bn⟩:=aA c.length;have ad:g[r]?=M a.N:=by rw[<-T.map,cj,I];rfl
 have a8:cG g (i+1) r (IB c) (fK c)=nD a.N r (IB c) (fK c)++a.N.ks.flatMap fun d=>cG g i d.toNat (jb a.N) (xB a.N (fK c)):=by rw[cG,uI ad]
 have cc:agI n c:=fun m C=>by
  obtain⟨v,a9,u⟩:=fH (am m C);exact⟨v,(T.at_.box v m (by rw[aI a9,u])).below F⟩
 have dz:=J0 a.N r (IB c) (fK c);have bw:=aaz (w0.heap.size+1) w0.heap.size r (by omega) n b8 a d7 c K ce (by omega) (by omega) A cc cf (by omega) (by omega) (fun k=>by
  have dq:=b7 k;obtain⟨m,C⟩:∃m,c.getLast?=M m:=⟨_,List.getLast?_eq_some_getLast dq⟩;have cn:=am m (List.mem_of_getLast? C);obtain⟨v,a9,u⟩:=fH cn;have d1:L[v]?=M m:=by rw[aI a9,u]
  have co:g[v]?=M m.N:=by rw[<-T.map,cj,d1];rfl
  exact⟨m,C,(T.nms m cn).below F,Kd T.ok v m.N co,fun d4 H=>by have:=(T.sm m.N (bC co)).ls d4 H;omega⟩)
 obtain⟨x,br⟩:=aA (lG (fJ a.N.k));have ep:∀n,(method 377 x (U (M ⟨a.b,0,O⟩)) "loop.example/warp/impl.head").run X n= .ok (234,U (M ⟨a.b,0,O⟩)) n:=by rw[<-br];exact fun n=>ma a.N.k a.b n
 have bo:nV a= A3 x (U (M ⟨a.b,0,O⟩)):=by unfold nV gy;rw[br]
 have d2:=fun n=>eK a.b n;obtain⟨w,an⟩:=aA a.N.ks.length;have bb:=T.at_.kid r a I;rw[an]at bb;obtain⟨bE,b4,z⟩:=bI bb;have b3:w0.cell? ⟨a.b,5,O⟩=M (R bE w b4):=by rw[<-z];unfold fE at G;rw[az _ _ _ _ _ _ G];simp
 have em:w<=200:=by rw[<-an];exact(lC T.ok).kn a.N (bC ad)
 obtain⟨j,f,rfl⟩:=A.form bn;have l:=akn T cu I an z bn am bo ad;obtain⟨c0,b9⟩:=aA (cG g (i+1) r (IB c) (fK c));rw[b9]at a8 bf⊢;have a1:=dx a8 bf;have a0:=gD A F b8;have eq:e+(i+1)<=3000:=by omega
 rw[bo]at bw⊢;unfold ajh;clear G ce ad a8 cc dz bb z A cf bf d0 b7 am I br bo an b9 cu F bn;go_in;go_wp2_with fail;refine bw.mono ?_;rintro u w1 ⟨rfl,b6,J⟩;have bF:jF (w0.heap.size+1) w1 (R j e f) c:=J.ar (by omega) a0.out.1 (fun k _=>by simp);have bel1:=J.bel a0.out.2.1;have cx:=J.size;have E:Y w1.heap.size w1 (w1.alloc (A2 #[A3 x (U (M ⟨a.b,0,O⟩))] 53)):=(aj _ w1).alloc (ah _) _;have y:jF (w0.heap.size+1) (w1.alloc (A2 #[A3 x (U (M ⟨a.b,0,O⟩))] 53)) (R j e f) c:=aG bF E;have bp:w0.heap.size+1<=(w1.alloc (A2 #[A3 x (U (M ⟨a.b,0,O⟩))] 53)).heap.size:=by have:=a0.out.2.2;simp;omega
 have cm:∀v cz,[nV a][v]?=M cz->(w1.alloc (A2 #[A3 x (U (M ⟨a.b,0,O⟩))] 53)).cell? ((⟨w1.heap.size,0,O⟩:Addr).add v)=M cz:=by
  rw[l.out.2.2.2.2.2.2.2.1];exact World.news_of_block (cs:=#[A3 x (U (M ⟨a.b,0,O⟩))]) (fr:=(0,0)) (aw w1 _)
 have av:=gD b6 J bel1;have ds:c.length<=100000:=by rw[l.out.2.2.2.2.2.1];omega
 have dp:c.length+1=e+1:=by rw[l.out.2.2.2.2.2.1]
 have c3:∀a2,Y w0.heap.size w0 a2->a2.cell? ⟨a.b,5,O⟩=M (R bE w b4):=fun a2 dd=>cell_kept dd b3;clear bw b6 J bF b3;go_wp2_with (first|(at_builtin;refine aaA rfl _ _ rfl (w0.heap.size+1) (R j e f) c a rfl y bp ⟨_,0,O⟩ 1 rfl cm ds (e+1) dp ?_;intro p q ev b0 af cb cq cl;have bx:=aes (eb:=w0.heap.size) y af;have a3:=bx.bel (bel1.trans (E.mono bel1.size));have c2:=c3 _ a3)|(go_at_call 234;refine(d2 _).mono ?_;rintro u d9 ⟨rfl,rfl⟩));obtain⟨s,rfl⟩:∃s,s=d9:=⟨_,rfl⟩;have cp:(w1.alloc (A2 #[A3 x (U (M ⟨a.b,0,O⟩))] 53)).heap.size=w1.heap.size+1:=ba _ _;have cv:Kw (w0.heap.size+1) w0.heap.size (Q j e f).ownBlock n s:=(av.out.2.1.weak.trans (Kw.of_below E) (.inl rfl)).trans bx (.inl rfl);have b1:(Q p (e+1) q).ownBlock≠(Q j e f).ownBlock->jF (w0.heap.size+1) s (R j e f) c:=fun h=>aG y (cl h);have o:A7 (ID (w0.heap.size+1) w0.heap.size s (K++nD a.N r (IB c) (fK c))/\jF (w0.heap.size+1) s (R p (e+1) q) (c++[a])/\Kw (w0.heap.size+1) w0.heap.size (Q j e f).ownBlock n s/\w0.heap.size+1<=s.heap.size/\Y w0.heap.size w0 s/\
   ((Q p (e+1) q).ownBlock=(Q j e f).ownBlock\/(Q p (e+1) q).ownBlock=M (w1.heap.size+1))/\n.heap.size<=w1.heap.size/\
   ((Q p (e+1) q).ownBlock=(Q j e f).ownBlock->∃k a4,(Q j e f)= R (M ⟨k,0,O⟩) c.length a4/\(Q p (e+1) q)= R (M ⟨k,0,O⟩) (c.length+1) a4)/\
   ((Q p (e+1) q).ownBlock≠(Q j e f).ownBlock->jF (w0.heap.size+1) s (R j e f) c)/\(∀k,(Q j e f).ownBlock=M k->k<w1.heap.size+1)):=
  ⟨(av.out.1.below E).grownNd (by omega) y af,b0,cv,bz bp af.size,a3,by rw[<-cp];exact cb,cx,cq,b1,fun k B=>by have:=(y.lt k B).2;omega⟩
 clear b1 cv bx cb cq cl af b0 y E bp cm a3 c2 cp cx bel1 av;go_loopw [23] (fun bD wr=>∃d:Nat,d<=w/\bD= A0 A1 d/\A7 (ID (w0.heap.size+1) w0.heap.size wr (K++nD a.N r (IB c) (fK c)++(a.N.ks.take d).flatMap fun d=>cG g i d.toNat (jb a.N) (xB a.N (fK c)))/\jF (w0.heap.size+1) wr (R p (e+1) q) (c++[a])/\Kw (w0.heap.size+1) w0.heap.size (Q p (e+1) q).ownBlock s wr)) (fun bD _=>w-(A8 bD).toNat)
 case atStart=>exact⟨0,by omega,rfl,by rw[iG,List.flatMap_nil,dA];exact o.out.1,o.out.2.1,Kw.refl _ _ _ _⟩
 case round=>
  obtain⟨d,eh,rfl,t⟩:=hrel;have b2:=t.out.2.2.bel o.out.2.2.2.2.1;have d5:=t.out.2.2.size;by_cases dn:d<w
  ·obtain⟨eF,bt⟩:=bj l.out.2.2.2.1 dn;have bd:=l.out.1.at_.kid r a l.out.2.2.1;rw[l.out.2.2.2.1]at bd;obtain⟨gk,ea,z⟩:∃k f,a.kv= R (M ⟨k,0,O⟩) w f:=by
    rcases bq bd with⟨ec,_⟩|h
    ·omega
    ·exact h
   have c6:=l.out.2.2.2.2.1.symm.trans z;cases c6;obtain⟨bA,ap,rfl,es,cr,b5⟩:=l.out.1.at_.kidAt l.out.2.2.1 z bt;have c4:=cell_kept b2 b5;have a5:(a.N.ks.take (d+1)).flatMap (fun d=>cG g i d.toNat (jb a.N) (xB a.N (fK c)))=((a.N.ks.take d).flatMap fun d=>cG g i d.toNat (jb a.N) (xB a.N (fK c)))++cG g i bA (jb a.N) (xB a.N (fK c)):=by
    rw[dG,bt,mj];simp
   have a6:=aer c a;have a7:=aay c a;have bl:=a1.out.2;rw[a1.out.1,show a.N.ks.flatMap (fun d=>cG g i d.toNat (jb a.N) (xB a.N (fK c)))=(a.N.ks.take (d+1)).flatMap (fun d=>cG g i d.toNat (jb a.N) (xB a.N (fK c)))++(a.N.ks.drop (d+1)).flatMap (fun d=>cG g i d.toNat (jb a.N) (xB a.N (fK c))) by rw[<-mj,py],a5]at bl;simp only[aC]at bl;have ao:=l.out.2.1 bA ap wr (R p (e+1) q) (c++[a]) _ (by omega) cr b2 (bz o.out.2.2.2.1 d5) t.out.2.1 (fun m C=>by
    rcases List.mem_append.1 C with h|h
    ·exact l.out.2.2.2.2.2.2.1 m h
    ·obtain rfl:=List.mem_singleton.1 h;exact bC l.out.2.2.1) t.out.1 (by rw[a6,a7];simp only[aC];omega) (by rw[aC,l.out.2.2.2.2.2.1];show e+1+i<=3000;omega) (fun _=>by simp)
   rw[a6,a7]at ao;obtain⟨d6,bs⟩:=aA (lG (fJ ap.N.k));have ct:nV ap= A3 d6 (U (M ⟨ap.b,0,O⟩)):=by unfold nV gy;rw[bs]
   rw[ct]at ao;rw[bs]at c4;unfold ajh at ao;have cB:A7 ((a.N.ks.take (d+1)).flatMap (fun d=>cG g i d.toNat (jb a.N) (xB a.N (fK c)))=((a.N.ks.take d).flatMap fun d=>cG g i d.toNat (jb a.N) (xB a.N (fK c)))++cG g i bA (jb a.N) (xB a.N (fK c))):=a5;have el:(d:Int)<(w:Int):=by omega
   have ei:(0:Int)<=(d:Int):=by omega
   clear a5 a6 a7 bl bt bd b5 cr bs ct;go_wp2_with (go_at_call 15;refine ao.mono ?_;rintro u ex ⟨rfl,c7,c1,d3⟩);go_roundw
   case measure=>simp[A8];omega
   case rel=>exact⟨d+1,by omega,by go_num,by rw[cB.out,<-cI];exact c7,c1,t.out.2.2.trans d3 (.inl rfl)⟩
  ·obtain rfl:d=w:=by omega
   have ca:a.N.ks.take d=a.N.ks:=cw (by rw[l.out.2.2.2.1];exact ah _);rw[ca]at t;have df:ID (w0.heap.size+1) w0.heap.size wr (K++c0):=by rw[a1.out.1,<-cI];exact t.out.1
   have dk:Kw (w0.heap.size+1) w0.heap.size (Q j e f).ownBlock n wr:=by
    refine o.out.2.2.1.trans t.out.2.2 ?_;rcases o.out.2.2.2.2.2.1 with h|h
    ·exact .inl h
    ·refine .inr (.inr fun k B=>?_);rw[h]at B;have:=o.out.2.2.2.2.2.2.1;simp at B;omega
   have A:jF (w0.heap.size+1) wr (R j e f) c:=by
    by_cases H:(Q p (e+1) q).ownBlock=(Q j e f).ownBlock
    ·obtain⟨k,a4,c8,c9⟩:=o.out.2.2.2.2.2.2.2.1 H;rw[c8];have:=t.out.2.1;rw[c9]at this;exact this.pre
    ·refine t.out.2.2.ar (by omega) (o.out.2.2.2.2.2.2.2.2.1 H) fun k B u=>?_;rcases o.out.2.2.2.2.2.1 with h|h
     ·exact H h
     ·have ef:=o.out.2.2.2.2.2.2.2.2.2 k B;rw[h]at u;simp at u;omega
   clear ca;go_wp2_with fail;go_end0
   exact⟨rfl,df,A,dk⟩
theorem Ki(w0:V)(b:List Nd)(a:List Im)(base:Nat)(c:Ax)(T:Tr w0 b a base c):∀f,aji w0 b a f
 |0=>fun i x d v g E e=>by omega
 |f+1=>aaB w0 b a base c T f (Ki w0 b a base c T f)
theorem agL{a:List Nd}(h:(cF a).1=0):(a.getD (a.length-1) AB).k=1:=by
 unfold cF at h;by_cases c:gB a=true
 ·rw[ab c]at h;exact absurd h (by decide)
 ·have d:gB a=false:=by simpa using c
  have e:=ig d;by_cases b:(a.getD (a.length-1) AB).k=1
  ·exact b
  ·exact absurd (.inr (.inr b)) e
theorem xF(w:V)(v:Ax)(a:List Nd)(h:cg w v a)(ap:a.length<=1048576)(A:∀N∈a,fx N)(am:nI w)(a4:TypeId)(fr:Nat×Nat)(s:w.heap[0]?=M (A2 eE a4 fr))
  (a0:∀c,Y w.heap.size w c->Lib.TabIs X c "strings.asciiSpace" .u8 Lib.asciiSpaceTab):
  A6 X 6 #[.agg #[v]] w fun e a6=>∃B,e= A4 B/\ez w.heap.size a6 B (sn a)/\Y w.heap.size w a6:=by
 have ak:∀d,Y w.heap.size w (w.alloc d):=fun d=>(aj _ w).alloc (ah _) d;have r:A7 (∀c,Y w.heap.size w c->A6 X 14 #[.agg #[v]] c (vg c a)):=fun c l=>
  Av c v a (h.below l) ap A (am.below l (ah _)) a4 fr ((l.block _ (ax s)).trans s) (fun a8 ad=>a0 a8 (l.trans (ad.mono l.size)))
 obtain⟨H,J,rfl⟩:=h.form;obtain⟨b,u⟩:=aA a.length;rw[u]at r⊢;have i:=dx u A;have z:=r.out _ (ak (A2 #[R H b J] 25));clear h ap A am s a0 u r;go_in;go_wp2_with fail;refine z.mono ?_;rintro e w1 ⟨o,bf⟩;have bD:(w.alloc (A2 #[R H b J] 25)).heap.size=w.heap.size+1:=ba _ _;have p:Y w.heap.size w w1:=(ak _).trans (o.mono (by omega));have n:∀d,Y w1.heap.size w1 (w1.alloc d):=fun d=>(aj _ w1).alloc (ah _) d;rcases bf with⟨g,rfl⟩|⟨g,I,a5,F,C,rfl,y,af,av,ar⟩
 ·have K:((cF a).1 !=0)=true:=by rw[mo];exact g
  have m:A7 (sn a=[]):=by show _=_;unfold sn;rw[aa g]
  generalize (cF a).1=bs at K;generalize (cF a).2=bt;clear z g;go_wp2_with fail;go_ret;exact⟨_,rfl,by rw[m.out];exact ez.nil _ _,p.trans ((n _).mono p.size)⟩
 ·have f:(cF a).1=0:=by rw[g]
  have G:Tr (w1.alloc (A2 #[A0 A1 0,A0 A1 0] 45)) a F I a5:=⟨av.below (n _),af,fun br bp=>(ar br bp).below (o.trans ((n _).mono o.size)),f,i.out.2⟩;have K:((0:Int)!=0)=false:=rfl;have a3:=lC f;have bl:=a3.len;rw[i.out.1]at bl y;have x:(w1.alloc (A2 #[A0 A1 0,A0 A1 0] 45)).heap.size=w1.heap.size+1:=ba _ _;have q:Y w.heap.size w (w1.alloc (A2 #[A0 A1 0,A0 A1 0] 45)):=p.trans ((n _).mono p.size);have bo:C.N.k≠36:=by
   have L:=agL f;rw[i.out.1,bm,<-af,cj,y]at L;have ad:C.N.k=1:=L;omega
  have bA:=J1 f b (b-1) pL 0 (by rw[i.out.1];omega);have bE:=(yI f).le (b-1);have a7:A7 (sn a=cG a b (b-1) pL 0):=by show _=_;unfold sn;rw[ab f,i.out.1]
  have E:=aq G;clear z a3 G av ar g f o;go_wp2_with fail;generalize w1.alloc (A2 #[A0 A1 0,A0 A1 0] 45)=j at E x q⊢;rw[<-x];have a2:=Ki j a F I a5 E.out b (b-1) C (j.alloc (A2 #[R O 0 0] 30)) (R O 0 0) [] [] (by omega) y ((aj _ j).alloc (ah _) _) (by simp) (bk _ _ _ _) (fun b1 bn=>by simp at bn) ⟨_,aw j _,ez.nil _ _⟩ (by show 0+(cG a b (b-1) pL 0).length<=3000;omega) (by show 0+b<=3000;omega) (fun bb=>absurd bb bo);refine a2.mono ?_;rintro e b2 ⟨rfl,⟨B,a1,t⟩,_,an⟩;have bd:=an.bel ((aj _ j).alloc (ah _) _);have a9:=ch a1;obtain⟨bw,bx,rfl⟩:=t.form;have m:=aq t;generalize ([]++cG a b (b-1) (IB []) (fK [])).length=b0 at m a9;clear a2 a1 t an x;go_wp2_with fail;go_ret;refine⟨_,rfl,?_,q.trans (bd.mono q.size)⟩;rw[a7.out];exact m.out.le (by have:=q.size;omega)
