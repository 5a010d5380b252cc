import Derived.WalkSpells
import Derived.Deep.RegionHeld3
import Derived.Deep.AppendLies
import Derived.Test.YtnoembpaejlaeaaGreatDoorHLk01
import Derived.BigQuiet
import Derived.OneCell
import Derived.Lib.Bytealg
set_option linter.all false
set_option maxRecDepth 100000
set_option maxHeartbeats 6400000
open Go.Value renaming string->M,int->O,tuple->B0,bool->B3,slice->B4,agg->Ce,pointer->Ck
open Go.Proofs.Tryz renaming prog->N
open Go.IntKind renaming i64->S,u8->B6,u64->C2
open Bool renaming false->T,true->Ax
open Option renaming none->U,some->X
open Go.Ending renaming returned->Y
open Go renaming World->Z,Value->A0,Calls->A2,maxLen->B7
open Go.RowKit renaming Below->A3,intOf->Br
open ByteArray renaming empty->A5
open Go.Obj renaming cells->A9
open Go.Instr renaming index->B1
open Go.World renaming setCell->B2,news_of_block->B5
namespace Go.Proofs.YtnoembpaejlaeaaGreatDoor
open Go.RowKit
variable{B b base i t:Nat}{Q:Exit->Act->World->Prop}{R:Bool×Nat×List Int}{a:Act}{f fr l n p:Int}{k:Bool}{m v:Value}{o:Oper}{ops:Array Oper}{s:ByteArray}{w w' y z:World}
def Tryz.info5:(Tryz.prog.info? 5).map (λi=>(i.zero,i.size,i.bytes))=X (X (O B6 0),1,1):=by kernel_rfl
def B8(l:List Int):List A0:=l.map (Value.int B6)
def aeL(a b:List Int):B8 (a++b)=B8 a++B8 b:=by simp[B8]
def ae0(a:List Int):(B8 a).length=a.length:=by simp[B8]
def xI{n:Nat}{l:List Int}(h:w.ownsRow base 5 1 v n (B8 l)):l.length=n:=by
 have:=h.1;simpa [B8] using this
def mL{f:List Oper}(k:o.guard=U)(s x:Operand)
  (y:o.op= .call {callee:= .builtin .append,args:=#[s,x],argTypes:=#[22,22]}) (base:Nat) (v:A0) (n:Nat) (l:List Int) (A:a.eval s=v)
  (d:w.ownsRow base 5 1 v n (B8 l)) (i:base<=w.heap.size) (J:n<=100000) (c:List Int) (m:Nat) (t:c.length=m) (u:0<m) (I:m<=100) (cs:Array A0) (j:cs.toList=B8 c)
  (B:a.eval x= .slice (X ⟨w.heap.size,0,U⟩) m m)
  (h:∀g b w1,w1.ownsRow base 5 1 (.slice (X ⟨g,0,U⟩) (n+m) b) (n+m) (B8 (l++c))->A3 base w w1->wpList N ops Q f (a.put o.dst (.slice (X ⟨g,0,U⟩) (n+m) b)) w1):
  wpList N ops Q (o::f) a (w.alloc (.cells cs 5)):=by
 obtain⟨G,q,C,E,F⟩:=eD Tryz.info5;refine wpList_append_lies _ k s x 22 y base 5 G (.int .u8 0) 1 1 Tryz.underlying22 q C E F rfl (by decide) v n (B8 l) A (d.alloc _) ⟨w.heap.size,0,U⟩ m m (B8 c) B (by simp[B8,t])
  (by rw[<-j];exact B5 (fr:=(0,0)) (aB w _)) (by intro L e;simp[B8]at e;obtain⟨K,_,rfl⟩:=e;rfl) u (by unfold B7;omega) (by omega) (by simp;omega) (w.heap.size+1) (by simp) ?_
 intro g b w1 z p _ _;refine h g b w1 (by rw[aeL];exact z) (((ai base w).alloc i _).grown p (by simp;omega) (λH r=>(d.lt H r).1))
def qJ(d:Int):Int:=if d<10 then 48+d else 87+d
def esc(c:Int):List Int:=if c=10 then [92,110] else if c=9 then [92,116] else if c=34\/c=92 then [92,c] else if c<32\/126<c then [92,120,qJ (c / 16),qJ (c%16)] else [c]
def DG:ByteArray:=⟨#[48,49,50,51,52,53,54,55,56,57,97,98,99,100,101,102]⟩
def alG:∀i:Fin 16,((DG[i.val]'(by have:=i.isLt;exact this)).toNat:Int)=qJ (i.val:Int):=by decide
def ak0(d:Int)(b:0<=d)(c:d<16)(h:d.toNat<DG.size):((DG[d.toNat]'h).toNat:Int)=qJ d:=by
 have:=alG ⟨d.toNat,by omega⟩;have a:((d.toNat:Nat):Int)=d:=by omega
 simp only[a]at this;exact this
def ae1(d:Int)(b:0<=d)(c:d<16)(w:Z):(B1 9 (M ⟨#[48,49,50,51,52,53,54,55,56,57,97,98,99,100,101,102]⟩) (O B6 d)).run N w= .ok (O B6 (qJ d)) w:=by
 have a:d.toNat<DG.size:=by simp only[DG];show d.toNat<16;omega
 have e:=ak0 d b c a;go_simp;exact e
def aqx(c:Int)(a:0<=c)(b:c<256):bits .and B6 c 15=c%16:=by
 have:=bits_mask B6 8 (by decide) wraps_u8 4 (by decide) c a b;simpa using this
def aby{d:Act->Z->Prop}{E:Prop}(k:o.guard=U)(s x:Operand)
  (y:o.op= .call {callee:= .builtin .append,args:=#[s,x],argTypes:=#[22,22]}) (base:Nat) (v:A0) (n:Nat) (l:List Int) (A:a.eval s=v)
  (e:w.ownsRow base 5 1 v n (B8 l)) (i:base<=w.heap.size) (K:n<=100000) (c:List Int) (m:Nat) (t:c.length=m) (u:0<m) (J:m<=100) (cs:Array A0) (j:cs.toList=B8 c)
  (B:a.eval x= .slice (X ⟨w.heap.size,0,U⟩) m m)
  (h:∀g b w1,w1.ownsRow base 5 1 (.slice (X ⟨g,0,U⟩) (n+m) b) (n+m) (B8 (l++c))->A3 base w w1->d (a.put o.dst (.slice (X ⟨g,0,U⟩) (n+m) b)) w1):
  if Region.wanted o (yielded ops a.tmps)=Ax then Oper.wp N o a (w.alloc (.cells cs 5)).drew d Q else E:=by
 obtain⟨H,q,C,F,G⟩:=eD Tryz.info5;refine step_append_lies _ k s x 22 y base 5 H (.int .u8 0) 1 1 Tryz.underlying22 q C F G rfl (by decide) v n (B8 l) A ((e.alloc _).drew) ⟨w.heap.size,0,U⟩ m m (B8 c) B (by simp[B8,t])
  (by rw[<-j];exact B5 (fr:=(0,0)) (aB w _)) (by intro ad f;simp[B8]at f;obtain⟨L,_,rfl⟩:=f;rfl) u (by unfold B7;omega) (by omega) (by simp;omega) (w.heap.size+1) (by simp) ?_
 intro g b w1 z p _ _;refine h g b w1 (by rw[aeL];exact z) ((((ai base w).alloc i _).drew).grown p (by simp;omega) (λI r=>(e.lt I r).1))
def fy(l:List Int):ByteArray:=l.foldl (λa n=>a.push (UInt8.ofNat n.toNat)) A5
def oh{g n b:Nat}{l:List Int}(c:w.ownsRow base 5 1 (.slice (X ⟨g,0,U⟩) n b) n (B8 l)):
  (convert 22 9 (.slice (X ⟨g,0,U⟩) n b)).run N w= .ok (.string (fy l)) w:=by
 rw[abw w 22 9 5 _ _ _ Tryz.underlying22 Tryz.underlying5 Tryz.underlying9];have f:=xI c;refine run_bytesToString w _ n b l ?_;rcases c.2 with⟨d,_⟩|⟨p,m,o,i,_,e,_,_,q,h⟩
 .cases d
 .cases i;have:=run_loadCells_list (P:=N) w ⟨g,0,U⟩ (B8 l) (λj k a=>by
   refine B5 e j k ?_;rw[<-h]at a;rw[mJ]at a;split at a
   .exact a
   .cases a)
  rw[ae0,f]at this;exact this
def zj(w:Z)(c:Int):(w.alloc (A9 #[O B6 c] 5)).ownsRow w.heap.size 5 1 (B4 (X ⟨w.heap.size,0,U⟩) 1 1) 1 (B8 [c]):=
 ⟨rfl,.inr ⟨w.heap.size,1,#[O B6 c],rfl,ag _,aB w _,ag _,by unfold B7;omega,rfl,rfl⟩⟩
def aiw(c:Int):(esc c).length<=4:=by
 unfold esc;split
 .decide
 split
 .decide
 split
 .simp
 split<;>simp
def qt(s:ByteArray)(k:Nat):List Int:=34::(s.data.toList.take k).flatMap λb=>esc (b.toNat:Int)
def abz(s:ByteArray):qt s 0=[34]:=rfl
def vw(s:ByteArray)(k:Nat)(h:k<s.size):qt s (k+1)=qt s k++esc (s[k].toNat:Int):=by
 unfold qt;rw[List.take_succ_eq_append_getElem (by simpa using h)];simp only[uK,Bq,List.flatMap_nil,dr,ez];rfl
def Gy(s:ByteArray):∀k,k<=s.size->(qt s k).length<=1+4*k
 |0,_=>by simp[qt]
 |k+1,h=>by
  have:=Gy s k (by omega);have a:=aiw (s[k].toNat:Int);rw[vw s k (by omega),aJ];omega
def eE(s:ByteArray):List Int:=qt s s.size++[34]
structure Cd where
 len:Nat
 cd:Nat->Int
 ok:len<=1048576
 bt:∀i,0<=cd i/\cd i<256
def Code(C:Cd)(base:Nat)(w:Z)(c:Option Addr):Prop:=
 C.len=0\/∃a b,c=X ⟨a,b,U⟩/\a<base/\∀i,i<C.len->w.cell? ⟨a,b+i,U⟩=X (O B6 (C.cd i))
def Code.below{C:Cd}{a:Option Addr}(h:Code C base w a)(g:A3 base w w'):Code C base w' a:=by
 rcases h with h|⟨b,e,f,c,i⟩
 .exact .inl h
 .exact .inr ⟨b,e,f,c,λd j=>(g.cell (p:=⟨b,e+d,U⟩) c).trans (i d j)⟩
structure Bs where
 base:Nat
 cb:Nat
 bb:Nat
 a0:Option Addr
 cap:Nat
abbrev cV(E:Bs):A0:= Ck (X ⟨E.cb,0,U⟩)
structure Cr where
 p:Int
 q:Int
 r:Int
abbrev cuO(C:Cd)(E:Bs)(c:Cr):Obj:= A9 #[B4 E.a0 C.len E.cap,O S c.p,O C2 c.q,O S c.r] 36 (0,0)
structure Cu (C:Cd) (E:Bs) (w:Z) (c:Cr):Prop where
 lo:E.base<=E.cb/\E.base<=w.heap.size
 code:Code C E.base w E.a0
 cur:w.heap[E.cb]?=X (cuO C E c)
def qx(w:Z)(b:Nat):w.grownBy w (X b):=⟨rfl,rfl,rfl,ag _,λ_ _ _=>rfl⟩
def ub{a:Z}(h:a.grownBy w (X b))(n:Nat):a.grownBy (w.drewN n) (X b):=⟨h.os,h.tape,h.output,h.size,h.block⟩
def zk{c:Z}(h:c.grownBy w (X b))(i:Nat)(v:A0):c.grownBy (w.setCell ⟨b,i,U⟩ v) (X b):=
 ⟨h.os,h.tape,h.output,by simpa [B2] using h.size,λf e a=>by rw[aC _ _ _ _ (λd=>a (by rw[d]))];exact h.block f e a⟩
def I3{x:Z}(h:x.grownBy y (X b))(k:y.grownBy z (X b)):x.grownBy z (X b):=
 ⟨k.os.trans h.os,k.tape.trans h.tape,k.output.trans h.output,bG h.size k.size,λd a c=>(k.block d (ip a h.size) c).trans (h.block d a c)⟩
def xJ{x:Z}(h:x.grownBy y (X b))(c:base<=b)(d:base<=x.heap.size):A3 base x y:=
 (ai base x).grown h d (λe a=>by cases a;exact c)
def aqy(x:Int):0<=wrap64 (bits .and C2 (IntKind.u64.wrap x / 1099511627776) 255)/\wrap64 (bits .and C2 (IntKind.u64.wrap x / 1099511627776) 255)<256:=by
 have b:IntKind.u64.wrap x=x%18446744073709551616:=by simp[IntKind.wrap,IntKind.bits,IntKind.signed]
 have f:0<=IntKind.u64.wrap x / 1099511627776:=by rw[b];omega
 have g:IntKind.u64.wrap x / 1099511627776<2 ^ 24:=by rw[b];omega
 have h:∀a:Int,0<=a->a<2 ^ 24->IntKind.u64.wrap a=a:=λa i j=>by
  have c:IntKind.u64.wrap a=a%18446744073709551616:=by simp[IntKind.wrap,IntKind.bits,IntKind.signed]
  rw[c];omega
 have:=bits_mask C2 24 (by decide) h 8 (by decide) _ f g;have d:((2:Int) ^ 8-1)=255:=by decide
 rw[d]at this;have e:((2:Int) ^ 8)=256:=by decide
 rw[this,e];unfold wrap64;omega
def Rc(C:Cd)(f:FuncId)(a:List A0)(c:Cr)(v:A0)(b:Cr):Prop:=
 ∀ ⦃E:Bs⦄ ⦃w:Z⦄,Cu C E w c->A2 N f (cV E::a).toArray w λd w'=>d= Y v/\Cu C E w' b/\w.grownBy w' (X E.cb)
section
variable {C : Cd} {E : Bs} {w w' W : World} {c c' : Cr}
def Cu.lt(h:Cu C E w c):E.cb<w.heap.size:=aj h.cur
def Cu.cells(h:Cu C E w c):(w.cell? ⟨E.cb,0,U⟩=X (B4 E.a0 C.len E.cap)/\w.cell? ⟨E.cb,1,U⟩=X (O S c.p)/\w.cell? ⟨E.cb,2,U⟩=X (O C2 c.q)/\w.cell? ⟨E.cb,3,U⟩=X (O S c.r))/\∀i,w.frozen? ⟨E.cb,i,U⟩=T:=by
 have r:=λi=>am w E.cb i _ _ _ h.cur;exact⟨⟨r 0,r 1,r 2,r 3⟩,λi=>ch _ _ _ _ _ h.cur⟩
def Cu.grown(h:Cu C E w c)(g:w.grownBy w' (X E.cb))(b:w'.heap[E.cb]?=X (cuO C E c')):Cu C E w' c':=by
 have a:=xJ g h.lo.1 h.lo.2;exact⟨⟨h.lo.1,bG h.lo.2 a.size⟩,h.code.below a,b⟩
def Cu.below(h:Cu C E w c)(a:A3 w.heap.size w w'):Cu C E w' c:=⟨⟨h.lo.1,bG h.lo.2 a.size⟩,h.code.below (a.mono h.lo.2),(a.block _ h.lt).trans h.cur⟩
def Gz(C:Cd)(c:Cr)(s:0<=c.p)(t:c.p<=1000000000):∃z c',(0<=z/\z<256)/\(c'.p=c.p+1/\c'.r=c.r)/\Rc C 71 [] c (O S z) c':=by
 obtain⟨p,u,r⟩:=c;have B:=C.ok;have s:0<=p:=s;have t:p<=1000000000:=t;by_cases A:p<C.len
 .obtain⟨z,l⟩:=aF (C.cd p.toNat);have j:=C.bt p.toNat;rw[l]at j;refine⟨z,⟨p+1,IntKind.u64.wrap (IntKind.u64.wrap (IntKind.u64.wrap (u*6364136223846793005)+z)+1442695040888963407),r⟩,j,⟨rfl,rfl⟩,λa f g=>?_⟩;have o:=g.cells;rcases g.code with y|⟨x,G,n,_,q⟩
  .omega
  have v:=q p.toNat (by omega);rw[l]at v;rw[n]at o;have i:∀b d e,f.grownBy (((f.drewN b).setCell ⟨a.cb,1,U⟩ d).setCell ⟨a.cb,2,U⟩ e) (X a.cb):=λb d e=>zk (zk (ub (qx f a.cb) b) 1 d) 2 e;have k:=λb d e=>aL ((f.drewN b).setCell ⟨a.cb,1,U⟩ d) a.cb 2 _ _ e (aL (f.drewN b) a.cb 1 _ _ d g.cur);have E:=j.1;have F:=j.2;have h:=kJ g i k;clear i k g j n q l;go_in;go_wp2;go_quiet (fail)
  go_wp2;go_quiet (fail)
  go_wp2;go_ret;exact⟨rfl,h.1.grown (h.2.1 _ _ _) (h.2.2 _ _ _),h.2.1 _ _ _⟩
 .obtain⟨m,w⟩:=aF (IntKind.u64.wrap (u*6364136223846793005)+1442695040888963407);refine⟨wrap64 (bits .and C2 (IntKind.u64.wrap m / 1099511627776) 255),⟨p+1,IntKind.u64.wrap m,r⟩,aqy m,⟨rfl,rfl⟩,λa f g=>?_⟩;subst w;have o:=g.cells;have i:∀b d e,f.grownBy (((f.drewN b).setCell ⟨a.cb,2,U⟩ d).setCell ⟨a.cb,1,U⟩ e) (X a.cb):=λb d e=>zk (zk (ub (qx f a.cb) b) 2 d) 1 e;have k:=λb d e=>aL ((f.drewN b).setCell ⟨a.cb,2,U⟩ d) a.cb 1 _ _ e (aL (f.drewN b) a.cb 2 _ _ d g.cur);have h:=kJ g i k;clear i k g;go_in;go_wp2;go_quiet (fail)
  go_wp2;go_ret;exact⟨rfl,h.1.grown (h.2.1 _ _ _) (h.2.2 _ _ _),h.2.1 _ _ _⟩
end
def xK(w:Z):(convert 22 9 (.slice U 0 0)).run N w= .ok (.string A5) w:=by
 rw[abw w 22 9 5 _ _ _ Tryz.underlying22 Tryz.underlying5 Tryz.underlying9];simp[Conv.bytesToString,Sem.run_pure]
def adn(l:List Int):∀r:ByteArray,(l.foldl (λr n=>r.push (UInt8.ofNat n.toNat)) r).size=r.size+l.length:=by
 induction l with
 |nil=>intro r;rfl
 |cons b l a=>intro r;simp only[kF,bm];rw[a,ByteArray.size_push];omega
def rp(l:List Int):(fy l).size=l.length:=by
 unfold fy;rw[adn];simp
def alH{e size:Nat}{n:Nat}{xs:List A0}(h:w.ownsRow base e size v n xs)(a:b<base):v.ownBlock=U\/v.ownBlock≠X b:=by
 right;intro e;have:=(h.lt b e).1;omega
def ae2{x:Z}(h:x.grownBy y (X b))(k:A3 x.heap.size y z):x.grownBy z (X b):=
 ⟨k.os.trans h.os,k.tape.trans h.tape,k.output.trans h.output,bG h.size k.size,λc a d=>(k.block c a).trans (h.block c a d)⟩
structure Cw (C:Cd) (E:Bs) (W w:Z) (c:Cr):Prop where
 cu:Cu C E w c
 gr:W.grownBy w (X E.cb)
section
variable {C : Cd} {E : Bs} {w w' W : World} {c c' : Cr} {v : Value} {ar : List Value} {f : FuncId} {Q : Ending → World → Prop}
def Cu.cw(h:Cu C E w c):Cw C E w w c:=⟨h,qx _ _⟩
def Cw.below(a:Cw C E W w c)(b:A3 w.heap.size w w'):Cw C E W w' c:=⟨a.cu.below b,ae2 a.gr (b.mono a.gr.size)⟩
def Cw.own(a:Cw C E W w c)(b:A3 W.heap.size w w')(d:E.cb<W.heap.size):Cw C E W w' c:=by
 have:=a.cu.lo.1;exact⟨⟨⟨a.cu.lo.1,bG a.cu.lo.2 b.size⟩,a.cu.code.below (b.mono (by omega)),(b.block _ d).trans a.cu.cur⟩,ae2 a.gr b⟩
def Cw.al{o:Obj}(a:Cw C E W w c):Cw C E W (w.alloc o) c:=a.below (dE w o)
def Cw.run(a:Cw C E W w c)(k:Rc C f ar c v c')(h:∀w',Cw C E W w' c'->w.grownBy w' (X E.cb)->Q (Y v) w'):A2 N f (cV E::ar).toArray w Q:=
 (k a.cu).mono λd w' b=>b.1 ▸ h w' ⟨b.2.1,I3 a.gr b.2.2⟩ b.2.2
def Cp{cs:Array A0}{t:TypeId}(h:Cu C E w c)(g:(w.alloc (A9 cs t)).grownBy w' (X E.cb))(i:Nat):w'.cell? ⟨w.heap.size,i,U⟩=cs[i]?:=
 am w' w.heap.size i _ _ _ ((g.block _ (by simp) (λa=>by have:=h.lt;have:=bc a;omega)).trans (aB w _))
def kL(C:Cd)(c:Cr)(k:Int)(l:2<=k:=by omega)(m:k<=200:=by omega)(h:0<=c.p:=by omega)(i:c.p<=1000000000:=by omega):∃z c',(0<=z/\z<k)/\(c'.p=c.p+1/\c'.r=c.r)/\Rc C 37 [O S k] c (O S z) c':=by
 obtain⟨z,c',b,g,d⟩:=Gz C c h i;have z0:=b.1;have o:=b.2;refine⟨z%k,c',⟨Int.emod_nonneg _ (by omega),Int.emod_lt_of_pos _ (by omega)⟩,g,λj n f=>?_⟩;have e:=f.cw;go_in;go_wp2_with (go_at_call 71;refine e.run d λw1 a _=>?_);go_ret;exact⟨rfl,a.cu,a.gr⟩
def aou(C:Cd)(c:Cr)(k:Int)(w:1<=k)(x:k<=1000000000)(g:0<=c.p)(y:c.p<=900000000):∃z c',(0<=z/\z<k)/\(c.p<=c'.p/\c'.p<=c.p+2/\c'.r=c.r)/\Rc C 37 [O S k] c (O S z) c':=by
 by_cases n:k=1
 .subst n;refine⟨0,c,by decide,by omega,λh s d=>?_⟩;have a:=d.cw;go_in;go_wp2;go_ret;exact⟨rfl,a.cu,a.gr⟩
 by_cases o:k<=200
 .obtain⟨z,c',q,t,b⟩:=kL C c k (by omega) o g (by omega);exact⟨z,c',q,by omega,b⟩
 obtain⟨z,l,F,u,b⟩:=Gz C c g (by omega);obtain⟨e,m,E,v,i⟩:=Gz C l (by omega) (by omega);refine⟨(z*256+e)%k,m,⟨Int.emod_nonneg _ (by omega),Int.emod_lt_of_pos _ (by omega)⟩,by omega,λh s d=>?_⟩;have a:=d.cw;have A:IntKind.i64.wrap (z*256)=z*256:=by rw[dt];omega
 have B:IntKind.i64.wrap (z*256+e)=z*256+e:=by rw[dt];omega
 go_in;go_wp2_with fail;refine a.run b λw1 j _=>?_;go_wp2_with fail;refine j.run i λG f _=>?_;go_wp2_with fail;go_ret;exact⟨rfl,f.cu,f.gr⟩
inductive Byc (C:Cd):Nat->Cr->List Int->Cr->Prop
 |nil (c:Cr):Byc C 0 c [] c
 |cons {n:Nat}{c c1 c2:Cr}{z:Int}{l:List Int}:(0<=z/\z<256)->Rc C 71 [] c (.int .i64 z) c1->Byc C n c1 l c2->Byc C (n+1) c (z::l) c2
def byc(C:Cd):∀(n:Nat)(c:Cr),n<=100->0<=c.p->c.p<=900000000+100-n->∃l c',l.length=n/\(c'.p=c.p+n/\c'.r=c.r)/\Byc C n c l c':=by
 intro n
 induction n with
 |zero=>exact λc _ _ _=>⟨[],c,rfl,by simp,.nil c⟩
 |succ n i=>
  intro c o g q;obtain⟨j,d,h,k,b⟩:=Gz C c g (by omega);obtain⟨l,e,f,m,a⟩:=i d (by omega) (by omega) (by omega);exact⟨j::l,e,by simp[f],by omega,.cons h b a⟩
def aix(C:Cd)(c:Cr)(n:Nat)(ak:n<=100)(ao:0<=c.p)(a7:c.p<=900000000):∃s c',s.size=n/\(c'.p=c.p+n/\c'.r=c.r)/\Rc C 239 [O S n] c (M s) c':=by
 obtain⟨h,o,v,x,m⟩:=byc C n c ak ao (by omega);refine⟨fy h,o,by rw[rp,v],x,λG l t=>?_⟩;have I:=t.cw;have w:=t.lt;clear x;go_in;go_wp21
 go_loopw [1,5] (λk au wr=>∃(a d:Nat) (f j:List Int) (i:Cr),k= O S a/\a+d=n/\wr.ownsRow l.heap.size 5 1 au d (B8 f)/\Cw C G l wr i/\Byc C a i j o/\f++j=h) (λk _ _=>(Br k).toNat)
 case atStart=>exact⟨n,0,[],h,c,rfl,rfl,eI _ _ _ _,I,m,rfl⟩
 case round=>
  obtain⟨a,d,f,j,i,rfl,A,e,b,E,q⟩:=hrel;have z:=xI e;have a8:=b.gr.size;have a4:d<=n:=by omega
  have a6:a<=n:=by omega
  have g:=kJ A z q;clear A z q m v;cases E with
  |@cons a _ K _ bf ar B H F=>
   have z0:=B.1;have bh:=B.2;have a5:(0:Int)<((a+1:Nat):Int):=by omega
   have ba:IntKind.i64.wrap (((a+1:Nat):Int)-1)=(a:Int):=by rw[dt];omega
   go_wp2_with (first
    |(go_at_call 71;refine b.run H λw1 J y=>?_;have al:=e.kept y (alH e w);have a9:=y.size)
    |(at_builtin;refine mL rfl (.tmp 10) (.tmp 14) rfl l.heap.size _ d f rfl al (by omega) (by omega) [_] 1 rfl (by decide) (by decide) _ rfl rfl ?_;intro ad L bd an af))
   go_roundw
   case rel=>exact⟨a,d+1,_,ar,K,by go_num,by have:=g.1;omega,an,J.own af w,F,by rw[cg];exact g.2.2⟩
   case measure=>simp[Br]
  |nil=>
   obtain⟨ax,a2,u⟩:=g.out;rw[dr]at u;subst u;rcases e.2 with⟨rfl,a3⟩|⟨ad,L,av,rfl,bb⟩
   .have ap:=xK;go_wp2;go_ret;refine⟨?_,b.cu,b.gr⟩;have:f=[]:=jK (by omega);subst this;rfl
   .have ap:=oh e;go_wp2;go_ret;exact⟨rfl,b.cu,b.gr⟩
end
def aqz:A0->Nat| .string t=>t.size|_=>0
def iK(c:Int):Bool:=decide (c=32\/c=9\/c=13)
def bK(c:Int):Bool:=decide ((97<=c/\c<=122)\/(65<=c/\c<=90)\/c=95)
def cD(c:Int):Bool:=decide (48<=c/\c<=57)
def I4(c:Int)(w:Z):A2 N 54 #[O B6 c] w λe w'=>e= Y (B3 (iK c))/\w=w':=by
 rcases(show c=32\/c=9\/c=13\/(c≠32/\c≠9/\c≠13) by omega) with rfl|rfl|rfl|⟨a,b,d⟩
 .go_in;go_wp2;go_ret;exact⟨rfl,rfl⟩
 .go_in;go_wp2;go_ret;exact⟨rfl,rfl⟩
 .go_in;go_wp2;go_ret;exact⟨rfl,rfl⟩
 .have f:(c==32)=T:=by simp[a]
  have g:(c==9)=T:=by simp[b]
  have h:(c==13)=T:=by simp[d]
  have e:iK c=T:=by simp[iK,a,b,d]
  rw[e];clear e a b d;go_in;go_wp2;go_ret;exact⟨rfl,rfl⟩
def lg(c:Int)(w:Z):A2 N 105 #[O B6 c] w λe w'=>e= Y (B3 (cD c))/\w=w':=by
 rcases(show c<48\/57<c\/(48<=c/\c<=57) by omega) with h|h|⟨d,b⟩
 .have e:cD c=T:=by simp[cD];omega
  rw[e];clear e;have a:¬48<=c:=by omega
  go_in;go_wp2;go_ret;exact⟨rfl,rfl⟩
 .have e:cD c=T:=by simp[cD];omega
  rw[e];clear e;have a:¬c<=57:=by omega
  have b:48<=c:=by omega
  go_in;go_wp2;go_ret;exact⟨rfl,rfl⟩
 .have e:cD c=Ax:=by simp[cD];omega
  rw[e];clear e;go_in;go_wp2;go_ret;exact⟨rfl,rfl⟩
def pj(c:Int)(w:Z):A2 N 103 #[O B6 c] w λe w'=>e= Y (B3 (bK c))/\w=w':=by
 rcases(show(97<=c/\c<=122)\/(65<=c/\c<=90)\/c=95\/c<65\/(90<c/\c<97/\c≠95)\/122<c by omega) with⟨f,g⟩|⟨f,g⟩|rfl|h|⟨f,g,k⟩|h
 .have e:bK c=Ax:=by simp[bK];omega
  rw[e];clear e;go_in;go_wp2;go_ret;exact⟨rfl,rfl⟩
 .have e:bK c=Ax:=by simp[bK];omega
  rw[e];clear e;have a:¬97<=c:=by omega
  go_in;go_wp2;go_ret;exact⟨rfl,rfl⟩
 .go_in;go_wp2;go_ret;exact⟨rfl,rfl⟩
 .have e:bK c=T:=by simp[bK];omega
  rw[e];clear e;have a:¬97<=c:=by omega
  have b:¬65<=c:=by omega
  have d:(c==95)=T:=by simp;omega
  go_in;go_wp2;go_ret;exact⟨rfl,rfl⟩
 .have e:bK c=T:=by simp[bK];omega
  rw[e];clear e;have a:¬97<=c:=by omega
  have b:65<=c:=by omega
  have i:¬c<=90:=by omega
  have d:(c==95)=T:=by simp;omega
  go_in;go_wp2;go_ret;exact⟨rfl,rfl⟩
 .have e:bK c=T:=by simp[bK];omega
  rw[e];clear e;have a:97<=c:=by omega
  have b:¬c<=122:=by omega
  have i:65<=c:=by omega
  have j:¬c<=90:=by omega
  have d:(c==95)=T:=by simp;omega
  go_in;go_wp2;go_ret;exact⟨rfl,rfl⟩
def gF(c:Int):Int:=if 48<=c/\c<=57 then c-48 else if 97<=c/\c<=102 then c-87 else -1
def ae3:∀n:Fin 256,Lib.indexByte [48,49,50,51,52,53,54,55,56,57,97,98,99,100,101,102] (n.val.toUInt8)=gF (n.val:Int):=by decide+kernel
def aiy(c:Int)(b:0<=c)(d:c<256):Lib.indexByte [48,49,50,51,52,53,54,55,56,57,97,98,99,100,101,102] c.toNat.toUInt8=gF c:=by
 have:=ae3 ⟨c.toNat,by omega⟩;have a:((c.toNat:Nat):Int)=c:=by omega
 simp only[a]at this;exact this
def ae4(c:Int)(a:0<=c)(b:c<256)(w:Z):A2 N 264 #[M ⟨#[48,49,50,51,52,53,54,55,56,57,97,98,99,100,101,102]⟩,O B6 c] w λe w'=>e= Y (O S (gF c))/\w'=w:=by
 rw[<-aiy c a b];go_in;go_wp2;rw[abr Tryz.func272 (by kernel_rfl) (by kernel_rfl) (by kernel_rfl) (e:=Extern.BytealgIndexByte.indexByte) (by kernel_rfl),Lib.run_indexByteString];simp only[Result.andThen];rw[Oper.upon_value];go_wp2;go_ret;exact⟨rfl,rfl⟩
def vy(c:Int)(a:0<=c)(b:c<256)(w:Z):A2 N 246 #[M ⟨#[48,49,50,51,52,53,54,55,56,57,97,98,99,100,101,102]⟩,O B6 c] w λe w'=>e= Y (O S (gF c))/\w'=w:=by
 go_in;go_wp2_with (go_at_call 264;refine(ae4 c a b _).mono ?_;rintro e w' ⟨rfl,rfl⟩);go_ret;exact⟨rfl,rfl⟩
def aw(s:ByteArray)(i:Nat):Int:=if h:i<s.size then(s[i].toNat:Int) else -1
def jF(h:i<s.size):0<=aw s i/\aw s i<256:=by
 unfold aw;rw[mK h];have:=s[i].toNat_lt;omega
def dH(h:¬i<s.size:=by omega):aw s i= -1:=by unfold aw;rw[dif_neg h]
def dL(h:i<s.size)(w:Z):(B1 9 (M s) (O S (i:Int))).run N w= .ok (O B6 (aw s i)) w:=by
 unfold aw;rw[mK h];go_simp
def xL(h:i+1<s.size)(w:Z):(B1 9 (M s) (O S ((i:Int)+1))).run N w= .ok (O B6 (aw s (i+1))) w:=by
 have:=dL h w;have a:((i+1:Nat):Int)=(i:Int)+1:=by omega
 rw[a]at this;exact this
def oa(c:Int):gF c<16:=by unfold gF;split;omega;split<;>omega
def or4(a b:Int)(e:0<=a)(f:a<256)(g:a%16=0)(c:0<=b)(d:b<16):bits .or S a b=a+b:=
 bits_join S 8 (by decide) (λh a b=>by rw[dt];omega) 4 a b e g f c d (by omega)
def or0(b:Int)(a:0<=b)(c:b<16):bits .or S 0 b=b:=by
 have:=or4 0 b (by omega) (by omega) (by omega) a c;rw[this];omega
def hexI(s:ByteArray)(p:Nat):Int×Nat×Bool:=
 if gF (aw s p)<0 then(0,p,T) else if gF (aw s (p+1))<0 then(0,p+1,T) else(gF (aw s p)*16+gF (aw s (p+1)),p+1+1,Ax)
def ae5(r:Int×Nat×Bool):A0:= B0 #[O B6 r.1,O S (r.2.1:Int),B3 r.2.2]
def I5(s:ByteArray)(v:s.size<=100000)(p:Nat)(l:p+1<s.size)(x a:Int)(g:gF (aw s p)=x)(h:gF (aw s (p+1))=a)(x0:0<=x)(q:0<=a)(w:Z):
  A2 N 223 #[M s,O S p] w λe w'=>e= Y (B0 #[O B6 (x*16+a),O S ((p:Int)+1+1),B3 Ax])/\w'=w:=by
 have o:x<16:=by rw[<-g];exact oa _
 have r:a<16:=by rw[<-h];exact oa _
 have m:=λw=>dL (s:=s) (i:=p) (by omega) w;have n:=λw=>xL (s:=s) (i:=p) (by omega) w;have t:=or0 x x0 o;have u:=or4 (x*16) a (by omega) (by omega) (by omega) q r;have b:=jF (s:=s) (i:=p) (by omega);have c:=jF (s:=s) (i:=p+1) l;obtain⟨j,d⟩:=aF (aw s p);obtain⟨k,f⟩:=aF (aw s (p+1));rw[d]at g m b;rw[f]at h n c;clear d f;go_in;go_wp21
 refine qv 3 ?_;rw[jA];go_wp2_with (go_at_call 246;refine(vy j b.1 b.2 _).mono ?_;rintro e w' ⟨rfl,rfl⟩);rw[jA];go_wp2_with (go_at_call 246;refine(vy k c.1 c.2 _).mono ?_;rintro e y ⟨rfl,rfl⟩);rw[jA];go_wp2;go_ret3
 exact⟨rfl,rfl⟩
def Ez(s:ByteArray)(h:s.size<=100000)(p:Nat)(g:p<s.size)(x:Int)(d:gF (aw s p)=x)(x0:x<0)(w:Z):
  A2 N 223 #[M s,O S p] w λe w'=>e= Y (B0 #[O B6 0,O S (p:Int),B3 T])/\w'=w:=by
 have f:=λw=>dL (s:=s) (i:=p) (by omega) w;have a:=jF (s:=s) (i:=p) (by omega);obtain⟨c,b⟩:=aF (aw s p);rw[b]at d f a;clear b;go_in;go_wp21
 refine qv 1 ?_;rw[jA];go_wp2_with (go_at_call 246;refine(vy c a.1 a.2 _).mono ?_;rintro e w' ⟨rfl,rfl⟩);go_ret3
 exact⟨rfl,rfl⟩
def I6(s:ByteArray)(b:s.size<=100000)(p:Nat)(a:p=s.size)(w:Z):
  A2 N 223 #[M s,O S p] w λe w'=>e= Y (B0 #[O B6 0,O S (p:Int),B3 T])/\w'=w:=by
 subst a;go_in;go_wp2_with fail;refine qv 1 ?_;rw[jA];go_wp2;go_ret3
 exact⟨rfl,rfl⟩
def Cq(s:ByteArray)(o:s.size<=100000)(p:Nat)(k:p+1<s.size)(x g:Int)(f:gF (aw s p)=x)(l:gF (aw s (p+1))=g)(x0:0<=x)(t:g<0)(w:Z):
  A2 N 223 #[M s,O S p] w λe w'=>e= Y (B0 #[O B6 0,O S ((p:Int)+1),B3 T])/\w'=w:=by
 have r:x<16:=by rw[<-f];exact oa _
 have m:=λw=>dL (s:=s) (i:=p) (by omega) w;have n:=λw=>xL (s:=s) (i:=p) (by omega) w;have a:=jF (s:=s) (i:=p) (by omega);have b:=jF (s:=s) (i:=p+1) k;obtain⟨h,c⟩:=aF (aw s p);obtain⟨j,d⟩:=aF (aw s (p+1));rw[c]at f m a;rw[d]at l n b;clear c d;go_in;go_wp21
 refine qv 2 ?_;rw[jA];go_wp2_with (go_at_call 246;refine(vy h a.1 a.2 _).mono ?_;rintro e w' ⟨rfl,rfl⟩);rw[jA];go_wp2_with (go_at_call 246;refine(vy j b.1 b.2 _).mono ?_;rintro e q ⟨rfl,rfl⟩);go_ret3
 exact⟨rfl,rfl⟩
def I7(s:ByteArray)(h:s.size<=100000)(p:Nat)(f:p+1=s.size)(x:Int)(c:gF (aw s p)=x)(x0:0<=x)(w:Z):
  A2 N 223 #[M s,O S p] w λe w'=>e= Y (B0 #[O B6 0,O S ((p:Int)+1),B3 T])/\w'=w:=by
 have l:x<16:=by rw[<-c];exact oa _
 have g:=λw=>dL (s:=s) (i:=p) (by omega) w;have j:((p:Int)+1==(s.size:Int))=Ax:=by simp;omega
 have k:p<=100000:=by omega
 have a:=jF (s:=s) (i:=p) (by omega);obtain⟨d,b⟩:=aF (aw s p);rw[b]at c g a;clear b f;go_in;go_wp21
 refine qv 2 ?_;rw[jA];go_wp2_with (go_at_call 246;refine(vy d a.1 a.2 _).mono ?_;rintro e w' ⟨rfl,rfl⟩);rw[jA];go_wp2;go_ret3
 exact⟨rfl,rfl⟩
def I8(s:ByteArray)(a:s.size<=100000)(p:Nat)(h:p<=s.size)(w:Z):
  A2 N 223 #[M s,O S p] w λe w'=>e= Y (ae5 (hexI s p))/\w'=w:=by
 have g:gF (-1)= -1:=by decide
 unfold hexI ae5;by_cases f:p<s.size
 .by_cases c:gF (aw s p)<0
  .rw[ab c];exact Ez s a p f _ rfl c w
  .rw[aa c];by_cases b:p+1<s.size
   .by_cases d:gF (aw s (p+1))<0
    .rw[ab d];exact Cq s a p b _ _ rfl rfl (by omega) d w
    .rw[aa d];exact I5 s a p b _ _ rfl rfl (by omega) (by omega) w
   .have e:=dH (s:=s) (i:=p+1) b;rw[ab (by rw[e,g];omega)];exact I7 s a p (by omega) _ rfl (by omega) w
 .have e:=dH (s:=s) (i:=p) f;rw[ab (by rw[e,g];omega)];exact I6 s a p (by omega) w
def iH(s:ByteArray)(p:Nat):Int×Nat×Bool:=
 if aw s p=110 then(10,p+1,Ax) else if aw s p=116 then(9,p+1,Ax) else if aw s p=34\/aw s p=92 then(aw s p,p+1,Ax) else if aw s p=120 then hexI s (p+1) else(0,p,T)
def I9(s:ByteArray)(o:s.size<=100000)(p:Nat)(h:p<=s.size)(w:Z):
  A2 N 180 #[M s,O S p] w λe w'=>e= Y (ae5 (iH s p))/\w'=w:=by
 by_cases n:p<s.size
 .have q:=λw=>dL (s:=s) (i:=p) (by omega) w;have x:=jF (s:=s) (i:=p) (by omega);have j:=I8 s o (p+1) (by omega);have m:((p+1:Nat):Int)=(p:Int)+1:=by omega
  rw[m]at j;unfold iH;obtain⟨a,k⟩:=aF (aw s p);rw[k]at q x⊢;clear k;by_cases b:a=110
  .subst b;go_in;go_wp2;go_ret3
   exact⟨rfl,rfl⟩
  rw[aa b];have r:(a==110)=T:=by simp[b]
  by_cases c:a=116
  .subst c;go_in;go_wp2;go_ret3
   exact⟨rfl,rfl⟩
  rw[aa c];have t:(a==116)=T:=by simp[c]
  by_cases d:a=34
  .subst d;go_in;go_wp2;go_ret3
   exact⟨rfl,rfl⟩
  have u:(a==34)=T:=by simp[d]
  by_cases f:a=92
  .subst f;go_in;go_wp2;go_ret3
   exact⟨rfl,rfl⟩
  have v:(a==92)=T:=by simp[f]
  rw[aa (by omega)];by_cases g:a=120
  .subst g;rw[ab rfl];clear b c d f r t u v;unfold ae5 at j⊢;go_in;go_wp2_with (go_at_call 223;refine(j _).mono ?_;rintro e w' ⟨rfl,rfl⟩);go_ret3
   exact⟨rfl,rfl⟩
  rw[aa g];have y:(a==120)=T:=by simp[g]
  clear b c d f g;go_in;go_wp2;go_ret3
  exact⟨rfl,rfl⟩
 .have e:=dH (s:=s) (i:=p) n;have l:iH s p=(0,p,T):=by unfold iH;rw[e];simp
  rw[l];obtain rfl:p=s.size:=by omega
  clear e l;go_in;go_wp2;go_ret3
  exact⟨rfl,rfl⟩
def abA(s:ByteArray)(p:Nat)(h:p<=s.size):p<=(hexI s p).2.1/\(hexI s p).2.1<=s.size/\0<=(hexI s p).1/\(hexI s p).1<256:=by
 have b:gF (-1)= -1:=by decide
 have g:=oa (aw s p);have j:=oa (aw s (p+1));unfold hexI;split
 .simp;omega
 .rename_i c;have e:p<s.size:=by
   rcases bC p s.size with h|h
   .exact h
   .have a:=dH (s:=s) (i:=p) (by omega);rw[a,b]at c;omega
  split
  .simp;omega
  .rename_i d;have f:p+1<s.size:=by
    rcases bC (p+1) s.size with h|h
    .exact h
    .have a:=dH (s:=s) (i:=p+1) (by omega);rw[a,b]at d;omega
   simp;omega
def abB(s:ByteArray)(p:Nat)(h:p<=s.size):p<=(iH s p).2.1/\(iH s p).2.1<=s.size/\0<=(iH s p).1/\(iH s p).1<256:=by
 unfold iH;by_cases a:p<s.size
 .have c:=jF a;split
  .simp;omega
  split
  .simp;omega
  split
  .simp;omega
  split
  .have:=abA s (p+1) (by omega);omega
  .simp;omega
 .have b:=dH (s:=s) (i:=p) a;rw[b];simp;omega
def ae6(s:ByteArray)(p:Nat)(h:p<=s.size)(c:(iH s p).2.2=Ax):p+1<=(iH s p).2.1:=by
 revert c;unfold iH;split
 .simp
 split
 .simp
 split
 .simp
 split
 .rename_i a;have d:p<s.size:=by
   rcases bC p s.size with h|h
   .exact h
   .have b:=dH (s:=s) (i:=p) (by omega);rw[b]at a;omega
  intro _;exact(abA s (p+1) (by omega)).1
 .simp
def ix(b:Nat)(w:Z)(s:ByteArray)(m:A0)(fr p l:Int)(k:Bool):Prop:=
 w.heap[b]?=X (A9 #[M s,m,O S fr,O S p,O S l,B3 k] 81 (0,0))
def fe(b:Nat)(w:Z)(k f t l n:Int)(x:ByteArray):Prop:=
 w.heap[b]?=X (A9 #[O S k,O S f,O S t,O S l,O S n,M x] 46 (0,0))
def gI(h:ix b w s m fr p l k):
  w.cell? ⟨b,0,U⟩=X (M s)/\w.cell? ⟨b,1,U⟩=X m/\w.cell? ⟨b,3,U⟩=X (O S p)/\w.cell? ⟨b,4,U⟩=X (O S l)/\w.cell? ⟨b,5,U⟩=X (B3 k)/\
  w.frozen? ⟨b,3,U⟩=T/\w.frozen? ⟨b,4,U⟩=T/\w.frozen? ⟨b,5,U⟩=T:=by
 unfold ix at h;exact⟨by rw[am _ _ _ _ _ _ h];rfl,by rw[am _ _ _ _ _ _ h];rfl,by rw[am _ _ _ _ _ _ h];rfl,by rw[am _ _ _ _ _ _ h];rfl,by rw[am _ _ _ _ _ _ h];rfl,ch _ _ _ _ _ h,ch _ _ _ _ _ h,ch _ _ _ _ _ h⟩
def abC(h:ix b w s m fr p l k):w.cell? ⟨b,2,U⟩=X (O S fr)/\w.frozen? ⟨b,2,U⟩=T:=by
 unfold ix at h;exact⟨by rw[am _ _ _ _ _ _ h];rfl,ch _ _ _ _ _ h⟩
def ix.setF(h:ix b w s m fr p l k)(x:Int):ix b (w.setCell ⟨b,2,U⟩ (O S x)) s m x p l k:=aL w b 2 _ _ _ h
def bz{k t:Int}{x:ByteArray}(h:fe b w k f t l n x):
  w.cell? ⟨b,0,U⟩=X (O S k)/\w.cell? ⟨b,1,U⟩=X (O S f)/\w.cell? ⟨b,2,U⟩=X (O S t)/\w.cell? ⟨b,3,U⟩=X (O S l)/\w.cell? ⟨b,4,U⟩=X (O S n)/\w.cell? ⟨b,5,U⟩=X (M x)/\
  (∀j,w.frozen? ⟨b,j,U⟩=T):=by
 unfold fe at h;exact⟨by rw[am _ _ _ _ _ _ h];rfl,by rw[am _ _ _ _ _ _ h];rfl,by rw[am _ _ _ _ _ _ h];rfl,by rw[am _ _ _ _ _ _ h];rfl,by rw[am _ _ _ _ _ _ h];rfl,by rw[am _ _ _ _ _ _ h];rfl,λj=>ch _ _ _ _ _ h⟩
def ix.setP(h:ix b w s m fr p l k)(x:Int):ix b (w.setCell ⟨b,3,U⟩ (O S x)) s m fr x l k:=aL w b 3 _ _ _ h
def ix.setL(h:ix b w s m fr p l k)(x:Int):ix b (w.setCell ⟨b,4,U⟩ (O S x)) s m fr p x k:=aL w b 4 _ _ _ h
def ix.setK(h:ix b w s m fr p l k)(x:Bool):ix b (w.setCell ⟨b,5,U⟩ (B3 x)) s m fr p l x:=aL w b 5 _ _ _ h
def ix.other(h:ix b w s m fr p l k){a:Addr}(c:b≠a.block)(v:A0):ix b (w.setCell a v) s m fr p l k:=(aC w a b v c).trans h
def ix.drewN(h:ix b w s m fr p l k)(n:Nat):ix b (w.drewN n) s m fr p l k:=h
def ix.below(h:ix b w s m fr p l k)(a:A3 B w w')(c:b<B):ix b w' s m fr p l k:=(a.block b c).trans h
def fe.other{k t:Int}{x:ByteArray}(h:fe b w k f t l n x){a:Addr}(c:b≠a.block)(v:A0):fe b (w.setCell a v) k f t l n x:=(aC w a b v c).trans h
def fe.drewN{k t:Int}{x:ByteArray}(h:fe b w k f t l n x)(q:Nat):fe b (w.drewN q) k f t l n x:=h
def fe.below{k t:Int}{x:ByteArray}(h:fe b w k f t l n x)(a:A3 B w w')(c:b<B):fe b w' k f t l n x:=(a.block b c).trans h
def fe.setKind{k t:Int}{x:ByteArray}(h:fe b w k f t l n x)(a:Int):fe b (w.setCell ⟨b,0,U⟩ (O S a)) a f t l n x:=aL w b 0 _ _ _ h
def fe.setTo{k t:Int}{x:ByteArray}(h:fe b w k f t l n x)(a:Int):fe b (w.setCell ⟨b,2,U⟩ (O S a)) k f a l n x:=aL w b 2 _ _ _ h
def fe.setNum{k t:Int}{x:ByteArray}(h:fe b w k f t l n x)(a:Int):fe b (w.setCell ⟨b,4,U⟩ (O S a)) k f t l a x:=aL w b 4 _ _ _ h
def fe.setText{k t:Int}{x:ByteArray}(h:fe b w k f t l n x)(a:ByteArray):fe b (w.setCell ⟨b,5,U⟩ (M a)) k f t l n a:=aL w b 5 _ _ _ h
def gi(s:ByteArray):Nat->Nat->List Int->Bool×Nat×List Int
 |0,p,a=>(T,p,a)
 |f+1,p,a=>if s.size<=p then(T,p,a) else if aw s p=34 then(Ax,p+1,a) else if aw s p=10 then(T,p,a) else if aw s p=92 then
   (if(iH s (p+1)).2.2=Ax then gi s f (iH s (p+1)).2.1 (a++[(iH s (p+1)).1]) else(T,(iH s (p+1)).2.1,a))
  else gi s f (p+1) (a++[aw s p])
def ya(s:ByteArray):∀(f p:Nat)(a:List Int),p<=s.size->p<=(gi s f p a).2.1/\(gi s f p a).2.1<=s.size/\(gi s f p a).2.2.length<=a.length+(s.size-p)
 |0,p,a,h=>by simp[gi];omega
 |f+1,p,a,h=>by
  unfold gi;split
  .simp;omega
  split
  .simp;omega
  split
  .simp;omega
  split
  .have e:=abB s (p+1) (by omega);split
   .rename_i b;have:=ya s f (iH s (p+1)).2.1 (a++[(iH s (p+1)).1]) e.2.1;simp at this⊢;omega
   .simp;omega
  .have:=ya s f (p+1) (a++[aw s p]) (by omega);simp at this⊢;omega
structure se (b t:Nat) (w w':Z):Prop where
 os:w'.os=w.os
 tape:w'.tape=w.tape
 output:w'.output=w.output
 size:w.heap.size<=w'.heap.size
 block:∀k,k<w.heap.size->k≠b->k≠t->w'.heap[k]?=w.heap[k]?
def se.refl(b t:Nat)(w:Z):se b t w w:=⟨rfl,rfl,rfl,ag _,λ_ _ _ _=>rfl⟩
def se.trans{x:Z}(h:se b t x y)(k:se b t y z):se b t x z:=
 ⟨k.os.trans h.os,k.tape.trans h.tape,k.output.trans h.output,bG h.size k.size,λe d a c=>(k.block e (ip d h.size) a c).trans (h.block e d a c)⟩
def se.drewN{x:Z}(h:se b t x y)(n:Nat):se b t x (y.drewN n):=⟨h.os,h.tape,h.output,h.size,h.block⟩
def se.drew{x:Z}(h:se b t x y):se b t x y.drew:=⟨h.os,h.tape,h.output,h.size,h.block⟩
def se.setB{x:Z}(h:se b t x y)(i:Nat)(v:A0):se b t x (y.setCell ⟨b,i,U⟩ v):=
 ⟨h.os,h.tape,h.output,by simpa [B2] using h.size,λe d a c=>by rw[aC _ _ _ _ a];exact h.block e d a c⟩
def se.setT{x:Z}(h:se b t x y)(i:Nat)(v:A0):se b t x (y.setCell ⟨t,i,U⟩ v):=
 ⟨h.os,h.tape,h.output,by simpa [B2] using h.size,λe d c a=>by rw[aC _ _ _ _ a];exact h.block e d c a⟩
def se.below{x:Z}(h:se b t x y)(k:A3 x.heap.size y z):se b t x z:=
 ⟨k.os.trans h.os,k.tape.trans h.tape,k.output.trans h.output,bG h.size k.size,λc a d e=>(k.block c a).trans (h.block c a d e)⟩
def abD{d:List Oper}(j:o.guard=U)(s x:Operand)
  (t:o.op= .call {callee:= .builtin .append,args:=#[s,x],argTypes:=#[22,22]}) (base:Nat) (v:A0) (n:Nat) (l:List Int) (y:a.eval s=v)
  (u:w.ownsRow base 5 1 v n (B8 l)) (f:base<=w.heap.size) (r:n<=100000) (b:List Int) (m:Nat) (k:b.length=m) (p:0<m) (q:m<=100) (cs:Array A0) (i:cs.toList=B8 b)
  (H:Nat) (z:a.eval x= B4 (X ⟨H,0,U⟩) m m) (e:w.heap.size=H)
  (h:∀g c w1,w1.ownsRow base 5 1 (B4 (X ⟨g,0,U⟩) (n+m) c) (n+m) (B8 (l++b))->A3 base w w1->wpList N ops Q d (a.put o.dst (B4 (X ⟨g,0,U⟩) (n+m) c)) w1):
  wpList N ops Q (o::d) a (w.alloc (A9 cs 5)):=by
 subst e;exact mL j s x t base v n l y u f r b m k p q cs i z h
def rq(w:Z)(n:Nat)(a:Addr)(v:A0):((w.drewN n).setCell a v).heap.size=w.heap.size:=by simp[B2,World.drewN]
def aqA{e size:Nat}{n:Nat}{xs:List A0}(h:w.ownsRow base e size v n xs)(c:b<base)(q r:Nat)(x d:A0):((((w.drewN q).setCell ⟨b,3,U⟩ x).drewN r).setCell ⟨b,3,U⟩ d).ownsRow base e size v n xs:=by
 have f:=iF (w:=w.drewN q) (a:=⟨b,3,U⟩) h c x;exact iF (w:=((w.drewN q).setCell ⟨b,3,U⟩ x).drewN r) (a:=⟨b,3,U⟩) f c d
def Fg(b:Nat)(w:Z):Nat:=match w.cell? ⟨b,3,U⟩ with|some (.int _ a)=>a.toNat|_=>0
def uc{p:Nat}(h:ix b w s m fr p l k):Fg b w=p:=by
 unfold Fg;rw[(gI h).2.2.1];simp
def nE(b t:Nat)(a:Z)(s:ByteArray)(m:A0)(fr:Int)(l f c:Int)(R:Bool×Nat×List Int):Prop:=
 if R.1=Ax then ix b a s m fr R.2.1 l T/\fe t a 4 f 0 c 0 (fy R.2.2) else ix b a s m fr R.2.1 l Ax/\fe t a 0 f 0 c 0 A5
def nE.yes{c:Int}{p:Nat}{a:List Int}(h:(Ax,p,a)=R)(d:ix b w' s m fr p l T)(e:fe t w' 4 f 0 c 0 (fy a)):nE b t w' s m fr l f c R:=by
 subst h;unfold nE;rw[ab rfl];exact⟨d,e⟩
def nE.no{c:Int}{p:Nat}{a:List Int}(h:(T,p,a)=R)(d:ix b w' s m fr p l Ax)(e:fe t w' 0 f 0 c 0 A5):nE b t w' s m fr l f c R:=by
 subst h;unfold nE;rw[aa (by simp)];exact⟨d,e⟩
def abE(p:Nat):((p+1:Nat):Int)=(p:Int)+1:=by omega
def Ct(s:ByteArray)(bn:s.size<=70000)(b t:Nat)(w:Z)(m:A0)(p:Nat)(l f H:Int)(br:p<s.size)(g:b≠t)(hS:ix b w s m fr p l T)(au:fe t w 0 f 0 H 0 A5):
  A2 N 107 #[Ck (X ⟨b,0,U⟩),Ck (X ⟨t,0,U⟩)] w λe w'=>e= Y (B0 #[])/\se b t w w'/\
   nE b t w' s m fr l f H (gi s (s.size+1) (p+1) []):=by
 obtain⟨a8,E⟩:=aF (gi s (s.size+1) (p+1) []);rw[E];have a7:=aq E;clear E;have y:=aj hS;have a3:=aj au;obtain⟨J,K,L,ad,af,al,an,ao⟩:=gI hS;go_in;go_wp21
 go_loopw [4] (λbj wr=>∃(d r k:Nat) (j:List Int),ix b wr s m fr d l T/\fe t wr 0 f 0 H 0 A5/\wr.ownsRow w.heap.size 5 1 bj r (B8 j)/\s.size<d+k/\d<=s.size/\r<=d/\Hid (gi s k d j=a8)/\se b t w wr) (λ_ wr=>s.size-Fg b wr)
 case atStart=>exact⟨p+1,0,s.size+1,[],hS.setP _,au.other (dA g) _,eI _ _ _ _,by omega,by omega,by omega,a7,(se.refl b t w).setB _ _⟩
 case round=>
  obtain⟨d,r,k,j,i,n,z,bl,bs,bo,I,o⟩:=hrel;clear J K L ad af al an ao;obtain⟨J,K,L,ad,af,al,an,ao⟩:=gI i;obtain⟨bv,bw,bx,bA,bD,bE,b0⟩:=bz n;have a2:=o.size;obtain⟨k,rfl⟩:∃A,k=A+1:=⟨k-1,by omega⟩;by_cases a1:d<s.size
  .have bd:=jF a1;have ba:=λw=>dL a1 w;have c:=I.out;unfold gi at c;rw[aa (by omega)]at c;obtain⟨v,a0⟩:=aF (aw s d);rw[a0]at bd ba c;clear a0;by_cases B:v=34
   .subst B;rw[ab rfl]at c;have h:=aq c;clear c;rcases z.2 with⟨rfl,a9⟩|⟨A,ak,bk,rfl,bt⟩
    .have av:j=[]:=by have:=xI z;rw[a9]at this;exact jK this
     have a6:=aq av;clear av;have bb:=xK;go_wp21
     go_quiet (fail)
     go_wp21
     go_quiet (fail)
     go_wp2;refine aH (jd rfl _ _ _) rfl ?_;refine⟨rfl,(((o.drewN _).setB _ _).setT _ _).setT _ _,nE.yes h (by rw[abE];exact(((i.drewN _).setP _).other g _).other g _) ?_⟩;rw[a6.out];exact(((n.drewN _).other (dA g) _).setKind _).setText _
    .have bb:=λbh=>oh (iF (w:=wr.drewN bh) (a:=⟨b,3,U⟩) z y (O S ((d:Int)+1)));go_wp21
     go_quiet (fail)
     go_wp21
     go_quiet (fail)
     go_wp2;refine aH (jd rfl _ _ _) rfl ?_;exact⟨rfl,(((o.drewN _).setB _ _).setT _ _).setT _ _,nE.yes h (by rw[abE];exact(((i.drewN _).setP _).other g _).other g _) ((((n.drewN _).other (dA g) _).setKind _).setText _)⟩
   rw[aa B]at c;by_cases C:v=10
   .subst C;rw[ab rfl]at c;have h:=aq c;clear c;go_wp21
    go_quiet (fail)
    go_wp21
    go_quiet (fail)
    go_wp2;refine aH (jd rfl _ _ _) rfl ?_;exact⟨rfl,(o.drewN _).setB _ _,nE.no h ((i.drewN _).setK _) ((n.drewN _).other (dA g) _)⟩
   rw[aa C]at c;by_cases ap:v=92
   .subst ap;rw[ab rfl]at c;have u:=I9 s (by omega) (d+1) (by omega);have ax:=abB s (d+1) (by omega);have F:=ae6 s (d+1) (by omega);rw[abE]at u;obtain⟨a5,ar⟩:=aF (iH s (d+1));rw[ar]at u ax F c;clear ar B C;obtain⟨a4,e,bf⟩:=a5;simp only at ax F c;unfold ae5 at u;simp only at u;cases bf
    .rw[aa (by simp)]at c;have h:=aq c;clear c;go_wp21
     go_quiet (fail)
     go_wp21
     go_quiet (fail)
     go_wp21
     go_quiet ((go_at_call 180;exact Calls.quiet_of_same (u _)))
     go_wp2;refine aH (jd rfl _ _ _) rfl ?_;exact⟨rfl,(((((o.drewN _).setB _ _).drewN _).setB _ _).setB _ _),nE.no h (((((i.drewN _).setP _).drewN _).setP _).setK _) (((((n.drewN _).other (dA g) _).drewN _).other (dA g) _).other (dA g) _)⟩
    .rw[ab rfl]at c;have h:=aq c;clear c F;go_wp21
     go_quiet (fail)
     go_wp21
     go_quiet (fail)
     go_wp21
     go_quiet ((go_at_call 180;exact Calls.quiet_of_same (u _)))
     go_wp2_with (at_builtin;refine abD rfl (.tmp 100) (.tmp 102) rfl w.heap.size _ r j rfl (aqA z y _ _ _ _) (by rw[rq,rq];exact a2) (by omega) [a4] 1 rfl (by decide) (by decide) _ rfl wr.heap.size rfl (by rw[rq,rq]) ?_;intro A ak w1 G q);have x:=((((i.drewN _).setP _).drewN _).setP _).below q y;go_roundw
     case rel=>exact⟨e,r+1,k,j++[a4],x,((((n.drewN _).other (dA g) _).drewN _).other (dA g) _).below q a3,G,by omega,by omega,by omega,h,((((o.drewN _).setB _ _).drewN _).setB _ _).below q⟩
     case measure=>rw[uc x,uc i];omega
   rw[aa ap]at c;have h:=aq c;clear c;go_wp21
   go_quiet (fail)
   go_wp21
   go_quiet (fail)
   go_wp2_with (at_builtin;refine abD rfl (.tmp 43) (.tmp 45) rfl w.heap.size _ r j rfl (iF (a:=⟨b,3,U⟩) (w:=wr.drewN _) z y _) (by rw[rq];exact a2) (by omega) [v] 1 rfl (by decide) (by decide) _ rfl wr.heap.size rfl (rq _ _ _ _) ?_;intro A ak w1 G q);have x:ix b w1 s m fr ((d+1:Nat):Int) l T:=by rw[abE];exact((i.drewN _).setP _).below q y
   go_roundw
   case rel=>exact⟨d+1,r+1,k,j++[v],x,((n.drewN _).other (dA g) _).below q a3,G,by omega,by omega,by omega,h,((o.drewN _).setB _ _).below q⟩
   case measure=>rw[uc x,uc i];omega
  .have c:=I.out;unfold gi at c;rw[ab (by omega)]at c;have h:=aq c;clear c;obtain rfl:d=s.size:=by omega
   go_wp21
   go_quiet (fail)
   go_wp2;go_end0
   exact⟨rfl,(o.drewN _).setB _ _,nE.no h ((i.drewN _).setK _) ((n.drewN _).other (dA g) _)⟩
def wI{x:Z}{a:Addr}(h:w.grownBy x (X b))(v:A0)(f:w.heap.size<=a.block):w.grownBy (x.setCell a v) (X b):=
 ⟨h.os,h.tape,h.output,by simpa [B2] using h.size,λe c d=>by rw[aC _ _ _ _ (by omega)];exact h.block e c d⟩
def alI{x:Z}(h:A3 w.heap.size w x)(k:se b t x y)(ht:w.heap.size<=t):w.grownBy y (X b):=
 ⟨k.os.trans h.os,k.tape.trans h.tape,k.output.trans h.output,bG h.size k.size,λc a e=>(k.block c (ip a h.size) (λd=>e (by rw[d])) (by omega)).trans (h.block c a)⟩
open Go.Maps Go.WideMaps
def fp:Array A0:=#[M ⟨#[97,110,100]⟩,M ⟨#[98,114,101,97,107]⟩,M ⟨#[99,97,116,99,104]⟩,M ⟨#[99,111,110,115,116]⟩,M ⟨#[100,101,102,101,114]⟩,M ⟨#[101,108,105,102]⟩,M ⟨#[101,108,115,101]⟩,M ⟨#[102,97,108,115,101]⟩,M ⟨#[102,110]⟩,M ⟨#[102,111,114]⟩,M ⟨#[105,102]⟩,M ⟨#[105,110]⟩,M ⟨#[108,101,116]⟩,M ⟨#[110,101,120,116]⟩,M ⟨#[110,105,108]⟩,M ⟨#[110,111,116]⟩,M ⟨#[111,114]⟩,M ⟨#[114,101,116,117,114,110]⟩,M ⟨#[116,104,114,111,119]⟩,M ⟨#[116,114,117,101]⟩,M ⟨#[116,114,121]⟩,M ⟨#[119,104,105,108,101]⟩]
def mA(k:Nat):ByteArray:=match fp[k]? with|some (.string s)=>s|_=>A5
def aqB(k:Nat)(a:k<22)(w:Z):(B1 127 (Ce fp) (O S (k:Int))).run N w= .ok (M (mA k)) w:=by
 rcases(show k=0\/k=1\/k=2\/k=3\/k=4\/k=5\/k=6\/k=7\/k=8\/k=9\/k=10\/k=11\/k=12\/k=13\/k=14\/k=15\/k=16\/k=17\/k=18\/k=19\/k=20\/k=21 by omega) with rfl|rfl|rfl|rfl|rfl|rfl|rfl|rfl|rfl|rfl|rfl|rfl|rfl|rfl|rfl|rfl|rfl|rfl|rfl|rfl|rfl|rfl;all_goals kernel_rfl
def Ja:∀k:Fin 22,(mA k.val).size<=100:=by decide
def zi{H:Type}:Nat->DataW H
 |0=> .map []
 |k+1=>(zi k).put (.string (mA k).data.toList) (.lit (.int .i64 (10+(k:Int))))
def aiz:Keyed N 9:=string_keyed Tryz.underlying9
def qK{H:Type}(w:Z)(fr:Nat×Nat)(tt:TypeId)(f:w.heap[0]?=X (.cells fp tt fr)):
  A2 N 28 #[] w λe w'=>e= .returned (.map (X w.heap.size))/\w'.ownsMap N 9 (plainElem (H:=H) N 3) w.heap.size 22 (zi 22)/\A3 w.heap.size w w':=by
 have b:=aj f;have p:∀w:Z,(Instr.makeMap 78 (X (.int .i64 22))).run N w= .ok (.map (X w.heap.size)) (w.alloc (.map #[] 0)):=λw=>by kernel_rfl
 have h:(w.alloc (.map #[] 0)).heap[0]?=X (.cells fp tt fr):=(dG w _ _ b).trans f;go_in;go_wp2_with (refine uJ rfl 127 _ rfl 0 rfl tt _ fr _ h Tryz.underlying127 rfl (by kernel_rfl) ?_);go_loopw [6] (λd wr=>∃a:Nat,a<=22/\d= .int .i64 a/\wr.ownsMap N 9 (plainElem (H:=H) N 3) w.heap.size a (zi a)/\A3 w.heap.size w wr) (λd _=>22-(Br d).toNat)
 case atStart=>exact⟨0,by omega,rfl,World.ownsMap_made _ _ _ _,(ai _ _).alloc (ag _) _⟩
 case round=>
  obtain⟨a,o,rfl,g,c⟩:=hrel;by_cases b:a<22
  .have n:=λw=>aqB a b w;have q:(mA a).size<=100:=Ja ⟨a,b⟩;have k:keyOf N 9 (.string (mA a))=X (.string (mA a).data.toList):=keyOf_string_mk Tryz.underlying9 (by unfold B7;omega);have m:Hid (zi (H:=H) (a+1)=(zi a).put (.string (mA a).data.toList) (.lit (.int .i64 (10+(a:Int))))):=rfl;go_wp2_with (at_mapUpdate;refine wpList_mapUpdate_own _ rfl _ _ _ 78 rfl 9 3 aiz Tryz.underlying78 _ w.heap.size a _ rfl g (by unfold B7;omega) _ _ _ rfl rfl k _ [] (plainElem_int Tryz.underlying3 (WalkArith.wf_i64 (by omega))) ?_;intro w1 l i);go_roundw
   case rel=>exact⟨a+1,by omega,by go_num,by rw[m.out];exact l,c.grown i c.size (λr j=>by cases j;exact ag _)⟩
   case measure=>simp[Br];omega
  .obtain rfl:a=22:=by omega
   go_wp2;go_ret;exact⟨rfl,g,c⟩
def Cv:Array A0:=#[M ⟨#[]⟩,M ⟨#[43]⟩,M ⟨#[45]⟩,M ⟨#[42]⟩,M ⟨#[47]⟩,M ⟨#[47,47]⟩,M ⟨#[37]⟩,M ⟨#[38]⟩,M ⟨#[124]⟩,M ⟨#[126]⟩,M ⟨#[60,60]⟩,M ⟨#[62,62]⟩,M ⟨#[46,46]⟩,M ⟨#[61,61]⟩,M ⟨#[126,61]⟩,M ⟨#[60]⟩,M ⟨#[60,61]⟩,M ⟨#[62]⟩,M ⟨#[62,61]⟩]
def je:Array A0:=#[M ⟨#[40]⟩,M ⟨#[41]⟩,M ⟨#[123]⟩,M ⟨#[125]⟩,M ⟨#[91]⟩,M ⟨#[93]⟩,M ⟨#[44]⟩,M ⟨#[61]⟩,M ⟨#[46]⟩,M ⟨#[46,46,46]⟩,M ⟨#[35]⟩]
def oF:Array A0:=#[M ⟨#[46,46,46]⟩,M ⟨#[46,46]⟩,M ⟨#[46]⟩,M ⟨#[60,60]⟩,M ⟨#[60,61]⟩,M ⟨#[60]⟩,M ⟨#[62,62]⟩,M ⟨#[62,61]⟩,M ⟨#[62]⟩,M ⟨#[61,61]⟩,M ⟨#[61]⟩,M ⟨#[126,61]⟩,M ⟨#[126]⟩,M ⟨#[47,47]⟩,M ⟨#[47]⟩,M ⟨#[40]⟩,M ⟨#[41]⟩,M ⟨#[123]⟩,M ⟨#[125]⟩,M ⟨#[91]⟩,M ⟨#[93]⟩,M ⟨#[44]⟩,M ⟨#[59]⟩,M ⟨#[35]⟩,M ⟨#[43]⟩,M ⟨#[45]⟩,M ⟨#[42]⟩,M ⟨#[37]⟩,M ⟨#[38]⟩,M ⟨#[124]⟩]
def aiA:(#[M ⟨#[]⟩,M ⟨#[43]⟩,M ⟨#[45]⟩,M ⟨#[42]⟩,M ⟨#[47]⟩,M ⟨#[47,47]⟩,M ⟨#[37]⟩,M ⟨#[38]⟩,M ⟨#[124]⟩,M ⟨#[126]⟩,M ⟨#[60,60]⟩,M ⟨#[62,62]⟩,M ⟨#[46,46]⟩,M ⟨#[61,61]⟩,M ⟨#[126,61]⟩,M ⟨#[60]⟩,M ⟨#[60,61]⟩,M ⟨#[62]⟩,M ⟨#[62,61]⟩]:Array A0)=Cv:=rfl
def aiB:(#[M ⟨#[40]⟩,M ⟨#[41]⟩,M ⟨#[123]⟩,M ⟨#[125]⟩,M ⟨#[91]⟩,M ⟨#[93]⟩,M ⟨#[44]⟩,M ⟨#[61]⟩,M ⟨#[46]⟩,M ⟨#[46,46,46]⟩,M ⟨#[35]⟩]:Array A0)=je:=rfl
def ci(V:Array A0)(k:Nat):ByteArray:=match V[k]? with|some (.string s)=>s|_=>A5
def alJ:∀k:Fin 19,Cv[k.val]?=X (M (ci Cv k.val)):=by
 intro ⟨k,a⟩;rcases(show k=0\/k=1\/k=2\/k=3\/k=4\/k=5\/k=6\/k=7\/k=8\/k=9\/k=10\/k=11\/k=12\/k=13\/k=14\/k=15\/k=16\/k=17\/k=18 by omega) with rfl|rfl|rfl|rfl|rfl|rfl|rfl|rfl|rfl|rfl|rfl|rfl|rfl|rfl|rfl|rfl|rfl|rfl|rfl;all_goals rfl
def ae7:∀k:Fin 11,je[k.val]?=X (M (ci je k.val)):=by
 intro ⟨k,a⟩;rcases(show k=0\/k=1\/k=2\/k=3\/k=4\/k=5\/k=6\/k=7\/k=8\/k=9\/k=10 by omega) with rfl|rfl|rfl|rfl|rfl|rfl|rfl|rfl|rfl|rfl|rfl;all_goals rfl
def ae8:∀k:Fin 30,oF[k.val]?=X (M (ci oF k.val)):=by
 intro ⟨k,a⟩;rcases(show k=0\/k=1\/k=2\/k=3\/k=4\/k=5\/k=6\/k=7\/k=8\/k=9\/k=10\/k=11\/k=12\/k=13\/k=14\/k=15\/k=16\/k=17\/k=18\/k=19\/k=20\/k=21\/k=22\/k=23\/k=24\/k=25\/k=26\/k=27\/k=28\/k=29 by omega) with rfl|rfl|rfl|rfl|rfl|rfl|rfl|rfl|rfl|rfl|rfl|rfl|rfl|rfl|rfl|rfl|rfl|rfl|rfl|rfl|rfl|rfl|rfl|rfl|rfl|rfl|rfl|rfl|rfl|rfl;all_goals rfl
def GA:∀k:Fin 22,fp[k.val]?=X (M (ci fp k.val)):=by
 intro ⟨k,a⟩;rcases(show k=0\/k=1\/k=2\/k=3\/k=4\/k=5\/k=6\/k=7\/k=8\/k=9\/k=10\/k=11\/k=12\/k=13\/k=14\/k=15\/k=16\/k=17\/k=18\/k=19\/k=20\/k=21 by omega) with rfl|rfl|rfl|rfl|rfl|rfl|rfl|rfl|rfl|rfl|rfl|rfl|rfl|rfl|rfl|rfl|rfl|rfl|rfl|rfl|rfl|rfl;all_goals rfl
def vz(V:Array A0)(s:ByteArray):Nat->Nat->Option Nat
 |0,_=>U
 |f+1,k=>if((ci V k).toList==s.toList)=Ax then X k else vz V s f (k+1)
def A1(s:ByteArray):Int:=match vz Cv s 18 1 with|some k=>60+(k:Int)|none=>(match vz je s 11 0 with|some k=>40+(k:Int)|none=>5)
def ud(w:Z):A2 N 201 #[] w λe w'=>e= Y (B4 (X ⟨w.heap.size,0,U⟩) 22 22)/\w'=w.alloc (A9 fp 9):=by
 go_in;go_wp2;go_ret;exact⟨rfl,rfl⟩
def Am(w:Z):A2 N 137 #[] w λe w'=>e= Y (B4 (X ⟨w.heap.size,0,U⟩) 30 30)/\w'=w.alloc (A9 oF 9):=by
 go_in;go_wp2;go_ret;exact⟨rfl,rfl⟩
def wJ(s:ByteArray)(w:Z):A2 N 138 #[M s] w λe w'=>e= Y (O S (A1 s))/\A3 w.heap.size w w':=by
 go_in;go_wp21
 rw[aiA];have t:=aB w (A9 Cv 9);have l:A3 w.heap.size w (w.alloc (A9 Cv 9)):=(ai _ w).alloc (ag _) _;generalize w.alloc (A9 Cv 9)=i at t l⊢;obtain⟨v,q⟩:=aF (vz Cv s 18 1);have k:=aq q;clear q;go_loop [4] (λd=>∃a:Nat,1<=a/\a<=19/\d= O S a/\Hid (vz Cv s (19-a) a=v)) (λd=>19-(Br d).toNat)
 case atStart=>exact⟨1,by omega,by omega,rfl,k⟩
 case round=>
  obtain⟨a,C,z,rfl,g⟩:=hrel;by_cases p:a<19
  .have o:i.cell? ⟨w.heap.size,a,U⟩=X (M (ci Cv a)):=by rw[am _ _ _ _ _ _ t];exact alJ ⟨a,p⟩
   have b:=g.out;rw[show 19-a=(19-(a+1))+1 by omega]at b;unfold vz at b;generalize ci Cv a=j at o b;by_cases c:(j.toList==s.toList)=Ax
   .rw[ab c]at b;have f:=aq b;clear b;go_wp2;go_ret;refine⟨?_,l⟩;unfold A1;rw[k.out,<-f.out];rfl
   .rw[aa c]at b;have f:=aq b;have B:(j.toList==s.toList)=T:=by simpa using c
    clear b c;go_wp2;go_round
    case rel=>exact⟨a+1,by omega,by omega,by go_num,f⟩
    case measure=>simp[Br];omega
  .obtain rfl:a=19:=by omega
   have f:=aq g.out;go_wp21
   rw[aiB];have u:=aB i (A9 je 9);have A:=l.size;have n:A3 w.heap.size w (i.alloc (A9 je 9)):=l.alloc A _;generalize i.alloc (A9 je 9)=y at u n⊢;obtain⟨x,r⟩:=aF (vz je s 11 0);have m:=aq r;clear r;go_loop [26] (λd=>∃a:Nat,a<=11/\d= O S a/\Hid (vz je s (11-a) a=x)) (λd=>11-(Br d).toNat)
   case atStart=>exact⟨0,by omega,rfl,m⟩
   case round=>
    obtain⟨a,z,rfl,g⟩:=hrel;by_cases p:a<11
    .have o:y.cell? ⟨i.heap.size,a,U⟩=X (M (ci je a)):=by rw[am _ _ _ _ _ _ u];exact ae7 ⟨a,p⟩
     have b:=g.out;rw[show 11-a=(11-(a+1))+1 by omega]at b;unfold vz at b;generalize ci je a=j at o b;by_cases c:(j.toList==s.toList)=Ax
     .rw[ab c]at b;have h:=aq b;clear b;go_wp2;go_ret;refine⟨?_,n⟩;unfold A1;rw[k.out,<-f.out,m.out,<-h.out];rfl
     .rw[aa c]at b;have h:=aq b;have B:(j.toList==s.toList)=T:=by simpa using c
      clear b c;go_wp2;go_round
      case rel=>exact⟨a+1,by omega,by go_num,h⟩
      case measure=>simp[Br];omega
    .obtain rfl:a=11:=by omega
     have h:=aq g.out;go_wp2;go_ret;refine⟨?_,n⟩;unfold A1;rw[k.out,<-f.out,m.out,<-h.out];rfl
def ak1:ByteArray:=⟨#[59]⟩
def aov:ByteArray:=⟨#[10]⟩
def LF:ByteArray:=⟨#[]⟩
def ae9(a:Int):Nat->Nat->ByteArray
 |0,_=>LF
 |f+1,k=>if A1 (ci oF k)=a then ci oF k else ae9 a f (k+1)
def Cx(a:Int):ByteArray:=if a=5 then ak1 else if 10<=a/\a<32 then ci fp (a-10).toNat else ae9 a 30 0
def lB:Array A0:=#[M ⟨#[43]⟩,M ⟨#[45]⟩,M ⟨#[42]⟩,M ⟨#[47]⟩,M ⟨#[47,47]⟩,M ⟨#[37]⟩,M ⟨#[38]⟩,M ⟨#[124]⟩,M ⟨#[126]⟩,M ⟨#[60,60]⟩,M ⟨#[62,62]⟩,M ⟨#[46,46]⟩,M ⟨#[61,61]⟩,M ⟨#[126,61]⟩,M ⟨#[60]⟩,M ⟨#[60,61]⟩,M ⟨#[62]⟩,M ⟨#[62,61]⟩]
def alK:∀k:Fin 18,lB[k.val]?=X (M (ci lB k.val)):=by
 intro ⟨k,a⟩;rcases(show k=0\/k=1\/k=2\/k=3\/k=4\/k=5\/k=6\/k=7\/k=8\/k=9\/k=10\/k=11\/k=12\/k=13\/k=14\/k=15\/k=16\/k=17 by omega) with rfl|rfl|rfl|rfl|rfl|rfl|rfl|rfl|rfl|rfl|rfl|rfl|rfl|rfl|rfl|rfl|rfl|rfl;all_goals rfl
structure wd (w:Z):Prop where
 word:∃tt fr,w.heap[0]?=X (.cells fp tt fr)
 mark:∃tt fr,w.heap[2]?=X (.cells je tt fr)
 bin:∃tt fr,w.heap[3]?=X (.cells lB tt fr)
def wd.below(h:wd w)(b:A3 B w w')(a:w.heap.size<=B):wd w':=by
 obtain⟨⟨j,f,c⟩,⟨k,g,d⟩,⟨l,i,e⟩⟩:=h;exact⟨⟨j,f,(b.block _ (ip (aj c) a)).trans c⟩,⟨k,g,(b.block _ (ip (aj d) a)).trans d⟩,⟨l,i,(b.block _ (ip (aj e) a)).trans e⟩⟩
def eC(a:Int):ByteArray:=if a=5 then ak1 else if a=7 then aov else if 10<=a/\a<=31 then ci fp (a-10).toNat else if 40<=a/\a<=50 then ci je (a-40).toNat else if 61<=a/\a<=78 then ci lB (a-61).toNat else LF
def EA(b:Int)(z: -9223372036854775808<=b)(A:b<=9223372036854775807)(w:Z)(m:wd w):A2 N 111 #[O S b] w λe w'=>e= Y (M (eC b))/\w'=w:=by
 obtain⟨⟨B,t,s⟩,⟨C,u,r⟩,⟨E,v,n⟩⟩:=m;unfold eC;by_cases d:b=5
 .subst d;go_in;go_wp2;go_ret;exact⟨rfl,rfl⟩
 by_cases f:b=7
 .subst f;go_in;go_wp2;go_ret;exact⟨rfl,rfl⟩
 rw[aa d,aa f];have x:(b==5)=T:=by simp[d]
 have y:(b==7)=T:=by simp[f]
 by_cases c:10<=b/\b<=31
 .rw[ab c];obtain⟨a,i⟩:∃a:Nat,b=10+(a:Int):=⟨(b-10).toNat,by omega⟩;subst i;rw[show((10+(a:Int))-10).toNat=a by omega];have q:a<22:=by omega
  have k:w.cell? ⟨0,a,U⟩=X (M (ci fp a)):=by rw[am _ _ _ _ _ _ s];exact GA ⟨a,q⟩
  clear c d f;go_in;go_wp2;go_ret;exact⟨rfl,rfl⟩
 by_cases g:40<=b/\b<=50
 .rw[aa c,ab g];obtain⟨a,i⟩:∃a:Nat,b=40+(a:Int):=⟨(b-40).toNat,by omega⟩;subst i;rw[show((40+(a:Int))-40).toNat=a by omega];have o:a<11:=by omega
  have k:w.cell? ⟨2,a,U⟩=X (M (ci je a)):=by rw[am _ _ _ _ _ _ r];exact ae7 ⟨a,o⟩
  clear c g d f;go_in;go_wp2;go_ret;exact⟨rfl,rfl⟩
 by_cases j:61<=b/\b<=78
 .rw[aa c,aa g,ab j];obtain⟨a,i⟩:∃a:Nat,b=61+(a:Int):=⟨(b-61).toNat,by omega⟩;subst i;rw[show((61+(a:Int))-61).toNat=a by omega];have p:a<18:=by omega
  have k:w.cell? ⟨3,61+a-60-1,U⟩=X (M (ci lB a)):=by rw[show 61+a-60-1=a by omega,am _ _ _ _ _ _ n];exact alK ⟨a,p⟩
  clear c g j d f;go_in;go_wp2;go_ret;exact⟨rfl,rfl⟩
 rw[aa c,aa g,aa j];rcases(show b<10\/(31<b/\b<40)\/(50<b/\b<=60)\/78<b by omega) with h|⟨h,l⟩|⟨h,l⟩|h;all_goals
  clear c g j d f;go_in;go_wp2;go_ret;exact⟨rfl,rfl⟩
def LG(c:Int)(w:Z):A2 N 171 #[O S c] w λe w'=>e= Y (M (Cx c))/\A3 w.heap.size w w':=by
 unfold Cx;by_cases v:c=5
 .subst v;go_in;go_wp2;go_ret;exact⟨rfl,ai _ _⟩
 rw[aa v];by_cases z:10<=c/\c<32
 .rw[ab z];obtain⟨a,x⟩:∃a:Nat,c=10+(a:Int):=⟨(c-10).toNat,by omega⟩;subst x;have H:a<22:=by omega
  have G:((10+(a:Int))-10).toNat=a:=by omega
  rw[G];have k:A3 w.heap.size w (w.alloc (A9 fp 9)):=(ai _ w).alloc (ag _) _;have r:(w.alloc (A9 fp 9)).cell? ⟨w.heap.size,a,U⟩=X (M (ci fp a)):=by rw[am _ _ _ _ _ _ (aB w _)];exact GA ⟨a,H⟩
  obtain⟨b,g⟩:∃b,b=w.alloc (A9 fp 9):=⟨_,rfl⟩;rw[<-g]at r k;have t:A2 N 201 #[] w λe w'=>e= Y (B4 (X ⟨w.heap.size,0,U⟩) 22 22)/\b=w':=by rw[g];exact(ud w).mono λe w' f=>⟨f.1,f.2.symm⟩
  clear g;go_in;go_wp2_with (go_at_call 201;refine t.mono ?_;rintro e w1 ⟨rfl,rfl⟩);go_ret;exact⟨rfl,k⟩
 .rw[aa z];obtain⟨b,g⟩:∃b,b=w.alloc (A9 fp 9):=⟨_,rfl⟩;have t:A2 N 201 #[] w λe w'=>e= Y (B4 (X ⟨w.heap.size,0,U⟩) 22 22)/\b=w':=by rw[g];exact(ud w).mono λe w' f=>⟨f.1,f.2.symm⟩
  have k:A3 w.heap.size w b:=by rw[g];exact(ai _ w).alloc (ag _) _
  clear g;obtain⟨j,m⟩:∃j,j=b.alloc (A9 oF 9):=⟨_,rfl⟩;have ad:A2 N 137 #[] b λe w'=>e= Y (B4 (X ⟨b.heap.size,0,U⟩) 30 30)/\j=w':=by rw[m];exact(Am b).mono λe w' f=>⟨f.1,f.2.symm⟩
  have F:j.heap[b.heap.size]?=X (A9 oF 9 (0,0)):=by rw[m];exact aB b _
  have E:A3 b.heap.size b j:=by rw[m];exact(ai _ b).alloc (ag _) _
  clear m;obtain⟨B,p⟩:=aF (ae9 c 30 0);rw[p];have A:=aq p;clear p;have K:=k.size;rcases(show ¬10<=c\/(10<=c/\¬c<10+22) by omega) with C|⟨ak,C⟩;all_goals
   go_in;go_wp2_with (first|(go_at_call 201;refine t.mono ?_;rintro e w1 ⟨rfl,rfl⟩)|(go_at_call 137;refine ad.mono ?_;rintro e al ⟨rfl,rfl⟩));go_loopw [25] (λs wr=>∃a:Nat,a<=30/\s= O S a/\Hid (ae9 c (30-a) a=B)/\wr.heap[b.heap.size]?=X (A9 oF 9 (0,0))/\A3 w.heap.size w wr) (λs _=>30-(Br s).toNat)
   case atStart=>exact⟨0,by omega,rfl,A,F,k.trans (E.mono K)⟩
   case round=>
    obtain⟨a,x,rfl,u,q,o⟩:=hrel;have y:=o.size;by_cases J:a<30
    .have r:wr.cell? ⟨b.heap.size,a,U⟩=X (M (ci oF a)):=by rw[am _ _ _ _ _ _ q];exact ae8 ⟨a,J⟩
     have d:=u.out;rw[show 30-a=(30-(a+1))+1 by omega]at d;unfold ae9 at d;have I:=aj q;generalize ci oF a=l at r d;by_cases h:A1 l=c
     .rw[ab h]at d;have i:=aq d;have L:(A1 l==c)=Ax:=by simp[h]
      clear d h;go_wp2_with (go_at_call 138;refine(wJ l _).mono ?_;rintro e af ⟨rfl,n⟩);go_ret;exact⟨by rw[<-i.out];rfl,o.trans (n.mono y)⟩
     .rw[aa h]at d;have i:=aq d;have L:(A1 l==c)=T:=by simp[h]
      clear d h;go_wp2_with (go_at_call 138;refine(wJ l _).mono ?_;rintro e af ⟨rfl,n⟩);go_roundw
      case rel=>exact⟨a+1,by omega,by go_num,i,(n.block _ I).trans q,o.trans (n.mono y)⟩
      case measure=>simp[Br];omega
    .obtain rfl:a=30:=by omega
     have i:=aq u.out;go_wp2;go_ret;exact⟨by rw[<-i.out];rfl,o⟩
def Ao(c:Int)(w:Z):A2 N 134 #[O B6 c] w λe w'=>e= Y (B3 (cD c))/\w=w':=by
 rcases(show c<48\/57<c\/(48<=c/\c<=57) by omega) with h|h|⟨d,b⟩
 .have e:cD c=T:=by simp[cD];omega
  rw[e];clear e;have a:¬48<=c:=by omega
  go_in;go_wp2;go_ret;exact⟨rfl,rfl⟩
 .have e:cD c=T:=by simp[cD];omega
  rw[e];clear e;have a:¬c<=57:=by omega
  have b:48<=c:=by omega
  go_in;go_wp2;go_ret;exact⟨rfl,rfl⟩
 .have e:cD c=Ax:=by simp[cD];omega
  rw[e];clear e;go_in;go_wp2;go_ret;exact⟨rfl,rfl⟩
def pm(c:Int)(w:Z):A2 N 132 #[O B6 c] w λe w'=>e= Y (B3 (bK c))/\w=w':=by
 rcases(show(97<=c/\c<=122)\/(65<=c/\c<=90)\/c=95\/c<65\/(90<c/\c<97/\c≠95)\/122<c by omega) with⟨f,g⟩|⟨f,g⟩|rfl|h|⟨f,g,k⟩|h
 .have e:bK c=Ax:=by simp[bK];omega
  rw[e];clear e;go_in;go_wp2;go_ret;exact⟨rfl,rfl⟩
 .have e:bK c=Ax:=by simp[bK];omega
  rw[e];clear e;have a:¬97<=c:=by omega
  go_in;go_wp2;go_ret;exact⟨rfl,rfl⟩
 .go_in;go_wp2;go_ret;exact⟨rfl,rfl⟩
 .have e:bK c=T:=by simp[bK];omega
  rw[e];clear e;have a:¬97<=c:=by omega
  have b:¬65<=c:=by omega
  have d:(c==95)=T:=by simp;omega
  go_in;go_wp2;go_ret;exact⟨rfl,rfl⟩
 .have e:bK c=T:=by simp[bK];omega
  rw[e];clear e;have a:¬97<=c:=by omega
  have b:65<=c:=by omega
  have i:¬c<=90:=by omega
  have d:(c==95)=T:=by simp;omega
  go_in;go_wp2;go_ret;exact⟨rfl,rfl⟩
 .have e:bK c=T:=by simp[bK];omega
  rw[e];clear e;have a:97<=c:=by omega
  have b:¬c<=122:=by omega
  have i:65<=c:=by omega
  have j:¬c<=90:=by omega
  have d:(c==95)=T:=by simp;omega
  go_in;go_wp2;go_ret;exact⟨rfl,rfl⟩
def lk(s:ByteArray)(p:Nat):Int:=if p<s.size then aw s p else 0
def abF(s:ByteArray)(p:Nat):0<=lk s p/\lk s p<256:=by
 unfold lk;split
 .rename_i a;exact jF a
 .omega
def aiC(s:ByteArray)(p:Nat):bK (lk s p)=bK (aw s p):=by
 unfold lk;split
 .rfl
 .rename_i a;rw[dH a];decide
def pJ(s:ByteArray)(p:Nat):cD (lk s p)=cD (aw s p):=by
 unfold lk;split
 .rfl
 .rename_i a;rw[dH a];decide
def Cz(s:ByteArray)(d:s.size<=1100000)(p:Nat)(w:Z):A2 N 131 #[M s,O S p] w λe w'=>e= Y (O B6 (lk s p))/\w=w':=by
 unfold lk;by_cases a:p<s.size
 .rw[ab a];have b:=λw=>dL a w;generalize aw s p=c at b;go_in;go_wp2;go_ret;exact⟨rfl,rfl⟩
 .rw[aa a];go_in;go_wp2;go_ret;exact⟨rfl,rfl⟩
def qr(s:ByteArray):Nat->Nat->Nat
 |0,p=>p
 |f+1,p=>if bK (aw s p)=Ax\/cD (aw s p)=Ax then qr s f (p+1) else p
def GC{p:Nat}(h:¬p<s.size):¬(bK (aw s p)=Ax\/cD (aw s p)=Ax):=by
 rw[dH h];decide
def wL(s:ByteArray):∀(f p:Nat),p<=s.size->p<=qr s f p/\qr s f p<=s.size
 |0,p,h=>⟨ag _,h⟩
 |f+1,p,h=>by
  unfold qr;split
  .rename_i a;have b:p<s.size:=by
    rcases bC p s.size with h1|h1
    .exact h1
    .exact absurd a (GC (by omega))
   have:=wL s f (p+1) (by omega);omega
  .exact⟨ag _,h⟩
def Aq(s:ByteArray)(A:s.size<=1100000)(p:Nat)(v:p<=s.size)(w:Z):A2 N 176 #[M s,O S p] w λe w'=>e= Y (O S (qr s (s.size+1) p))/\w'=w:=by
 obtain⟨t,m⟩:=aF (qr s (s.size+1) p);rw[m];have r:=aq m;clear m;go_in;go_wp21
 go_loop [1] (λn=>∃(b c:Nat),b<=s.size/\s.size<b+c/\n= O S b/\Hid (qr s c b=t)) (λn=>s.size-(Br n).toNat)
 case atStart=>exact⟨p,s.size+1,v,by omega,rfl,r⟩
 case round=>
  obtain⟨b,c,z,y,rfl,q⟩:=hrel;obtain⟨c,rfl⟩:∃u,c=u+1:=⟨c-1,by omega⟩;have a:=q.out;unfold qr at a;by_cases o:b<s.size
  .have x:=λw=>dL o w;generalize aw s b=f at x a;have i:=λw=>pj f w;have k:=λw=>lg f w;by_cases g:bK f=Ax
   .rw[ab (.inl g)]at a;have d:=aq a;clear a;rw[g]at i;clear g;go_wp2_with (go_at_call 103;refine(i _).mono ?_;rintro e w' ⟨rfl,rfl⟩);go_round
    case rel=>exact⟨b+1,c,by omega,by omega,by go_num,d⟩
    case measure=>simp[Br];omega
   .have j:bK f=T:=by simpa using g
    rw[j]at i;by_cases h:cD f=Ax
    .rw[ab (.inr h)]at a;have d:=aq a;clear a;rw[h]at k;clear g j h;go_wp2_with (first|(go_at_call 103;refine(i _).mono ?_;rintro e w' ⟨rfl,rfl⟩)|(go_at_call 105;refine(k _).mono ?_;rintro e w' ⟨rfl,rfl⟩));go_round
     case rel=>exact⟨b+1,c,by omega,by omega,by go_num,d⟩
     case measure=>simp[Br];omega
    .have l:cD f=T:=by simpa using h
     rw[aa (by rw[j,l];simp)]at a;have d:=aq a;clear a;rw[l]at k;clear g j h l;go_wp2_with (first|(go_at_call 103;refine(i _).mono ?_;rintro e w' ⟨rfl,rfl⟩)|(go_at_call 105;refine(k _).mono ?_;rintro e w' ⟨rfl,rfl⟩));go_ret;exact⟨by rw[<-d.out];rfl,rfl⟩
  .rw[aa (GC o)]at a;have d:=aq a;clear a;go_wp2;go_ret;exact⟨by rw[<-d.out];rfl,rfl⟩
def sr(s:ByteArray):Bool:=(vz fp s 22 0).isSome
def xa(k:Nat):ci fp k=mA k:=rfl
def qy(V:Array A0)(s:ByteArray):∀(f k j:Nat),vz V s f k=X j->k<=j/\j<k+f/\(ci V j).toList=s.toList
 |0,k,j,h=>by simp[vz]at h
 |f+1,k,j,h=>by
  unfold vz at h;split at h
  .rename_i a;obtain rfl:=bc h;exact⟨ag _,by omega,by simpa using a⟩
  .have:=qy V s f (k+1) j h;exact⟨by omega,by omega,this.2.2⟩
def Jb(V:Array A0)(s:ByteArray):∀(f k:Nat),vz V s f k=U->∀j,k<=j->j<k+f->(ci V j).toList≠s.toList
 |0,k,h=>λj a b=>by omega
 |f+1,k,h=>λj a b=>by
  unfold vz at h;split at h
  .cases h
  .rename_i c;rcases js a with rfl|h3
   .simpa using c
   .exact Jb V s f (k+1) h j h3 (by omega)
def CA{H:Type}:∀n,IsMap (zi (H:=H) n)
 |0=>isMap_empty
 |n+1=>(CA n).put _ _
def abG{H:Type}(l:List UInt8):∀n,(∀j,j<n->(mA j).data.toList≠l)->Maps.has (zi (H:=H) n) (.string l)=T
 |0,_=>rfl
 |n+1,h=>by
  show Maps.has ((zi n).put _ _) _=T;rw[has_put_other (by intro e;exact h n (by omega) (by injection e with e;exact e.symm))];exact abG l n λj a=>h j (by omega)
def abH{H:Type}(l:List UInt8)(j:Nat)(b:(mA j).data.toList=l):∀n,j<n->Maps.has (zi (H:=H) n) (.string l)=Ax
 |0,h=>by omega
 |n+1,h=>by
  show Maps.has ((zi n).put _ _) _=Ax;by_cases e:(mA n).data.toList=l
  .rw[e];exact has_put_same (CA n) (by trivial) _
  .rw[has_put_other (by intro a;injection a with a;exact e a.symm)];rcases js (Nat.le_of_lt_succ h) with rfl|h3
   .exact absurd b e
   .exact abH l j b n h3
def Jc{H:Type}(s:ByteArray):Maps.has (zi (H:=H) 22) (.string s.data.toList)=sr s:=by
 unfold sr;cases h:vz fp s 22 0 with
 |none=>
  have:=Jb fp s 22 0 h;exact abG _ 22 λd g c=>this d (aI _) (by omega) (by rw[xa,gy,gy];exact c)
 |some b=>
  obtain⟨e,f,a⟩:=qy fp s 22 0 b h;rw[xa,gy,gy]at a;exact abH _ b a 22 (by omega)
def aiD:∀i j:Fin 22,i≠j->(mA i.val).data.toList≠(mA j.val).data.toList:=by decide+kernel
def Fh{H:Type}(j:Nat):∀n,n<=22->j<n->(zi (H:=H) n).atKey (.string (mA j).data.toList) (.lit (.int .i64 0))= .lit (.int .i64 (10+(j:Int)))
 |0,_,h=>by omega
 |n+1,c,h=>by
  show((zi n).put _ _).atKey _ _=_;by_cases e:n=j
  .subst e;exact atKey_put_same (CA n) (by trivial) _ _
  .rw[atKey_put_other (by intro a;injection a with a;exact aiD ⟨j,by omega⟩ ⟨n,by omega⟩ (by intro b;injection b with b;exact e b.symm) a)];exact Fh j n (by omega) (by omega)
def aow{H:Type}(k:Fin 22):(zi (H:=H) 22).atKey (.string (mA k.val).data.toList) (.lit (.int .i64 0))= .lit (.int .i64 (10+(k.val:Int))):=Fh k.val 22 (by omega) k.isLt
def aiE{H:Type}(s:ByteArray)(k:Nat)(h:vz fp s 22 0=X k):(zi (H:=H) 22).atKey (.string s.data.toList) (.lit (.int .i64 0))= .lit (.int .i64 (10+(k:Int))):=by
 obtain⟨b,c,a⟩:=qy fp s 22 0 k h;rw[xa,gy,gy]at a;rw[<-a];exact aow ⟨k,by omega⟩
def LH{H:Type}(s:ByteArray)(t:s.size<=1100000)(b:Nat)(w:Z)(v:w.ownsMap N 9 (plainElem (H:=H) N 3) b 22 (zi 22)):A2 N 249 #[.string s,.map (X b)] w λe w'=>e= .returned (.bool (decide (bK (aw s 0)=Ax/\qr s (s.size+1) 0=s.size/\sr s=T)))/\w'=w:=by
 have q:keyOf N 9 (.string s)=X (.string s.data.toList):=keyOf_string_mk Tryz.underlying9 (by unfold B7;omega);by_cases l:0<s.size
 .have u:(s.toList==[])=T:=by
   have:s.toList.length=s.size:=by rw[gy];simp
   cases hs:s.toList with
   |nil=>rw[hs]at this;simp at this;omega
   |cons y C=>rfl
  have x:∀w,(B1 9 (.string s) (.int .i64 0)).run N w= .ok (.int .u8 (aw s 0)) w:=λw=>dL l w;have d:=λw=>pj (aw s 0) w;have o:=wL s (s.size+1) 0 (by omega);have h:=λw=>Aq s t 0 (by omega) w;generalize aw s 0=f at x d;generalize qr s (s.size+1) 0=g at h o;by_cases c:bK f=Ax
  .rw[c]at d;by_cases m:g=s.size
   .subst m;have r:¬(s.size:Int)<(s.size:Int):=by omega
    obtain⟨i,k⟩:=aF (sr s);have p:Maps.has (zi (H:=H) 22) (.string s.data.toList)=i:=by rw[Jc,k]
    have a:decide (bK f=Ax/\s.size=s.size/\sr s=T)=!i:=by rw[c,k];cases i<;>simp
    rw[a];clear a k c;go_in;go_wp2_with (first|(go_at_call 103;refine(d _).mono ?_;rintro e w' ⟨rfl,rfl⟩)|(go_at_call 176;refine(h _).mono ?_;rintro e w' ⟨rfl,rfl⟩)|(at_lookup;refine wpList_lookup_own_ok_int _ rfl _ _ 78 rfl 9 3 .i64 aiz Tryz.underlying78 Tryz.underlying3 (by kernel_rfl) b 22 _ rfl v _ _ rfl q ?_;intro z A B;rw[p]));go_ret;exact⟨rfl,rfl⟩
   .have r:(g:Int)<(s.size:Int):=by omega
    have a:decide (bK f=Ax/\g=s.size/\sr s=T)=T:=by simp[m]
    rw[a];clear a c;go_in;go_wp2_with (first|(go_at_call 103;refine(d _).mono ?_;rintro e w' ⟨rfl,rfl⟩)|(go_at_call 176;refine(h _).mono ?_;rintro e w' ⟨rfl,rfl⟩));go_ret;exact⟨rfl,rfl⟩
  .have j:bK f=T:=by simpa using c
   rw[j]at d;have a:decide (bK f=Ax/\g=s.size/\sr s=T)=T:=by simp[j]
   rw[a];clear a c j;go_in;go_wp2_with (first|(go_at_call 103;refine(d _).mono ?_;rintro e w' ⟨rfl,rfl⟩)|(go_at_call 176;refine(h _).mono ?_;rintro e w' ⟨rfl,rfl⟩));go_ret;exact⟨rfl,rfl⟩
 .have n:s.toList=[]:=by
   have:s.toList.length=s.size:=by rw[gy];simp
   exact List.length_eq_zero_iff.1 (by omega)
  have u:(s.toList==[])=Ax:=by rw[n];rfl
  have a:decide (bK (aw s 0)=Ax/\qr s (s.size+1) 0=s.size/\sr s=T)=T:=by rw[dH l];simp[bK]
  rw[a];clear a n;go_in;go_wp2;go_ret;exact⟨rfl,rfl⟩
def wdT(s:ByteArray)(p:Nat):A0:=
 match vz fp (s.extract p (qr s (s.size+1) p)) 22 0 with
 |some k=> Ce #[O S (10+(k:Int)),O S p,O S (qr s (s.size+1) p),O S 0,O S 0,M ⟨#[]⟩]
 |none=> Ce #[O S 1,O S p,O S (qr s (s.size+1) p),O S 0,O S 0,M (s.extract p (qr s (s.size+1) p))]
def LI(s:ByteArray)(bn:s.size<=1100000)(p:Nat)(al:p<=s.size)(w:Z):A2 N 133 #[M s,Ce #[O S 0,O S p,O S 0,O S 0,O S 0,M ⟨#[]⟩]] w λe w'=>e= Y (B0 #[wdT s p,O S (-1)])/\A3 w.heap.size w w':=by
 unfold wdT;obtain⟨I,E⟩:=aF (qr s (s.size+1) p);have a9:=wL s (s.size+1) p al;rw[E]at a9⊢;have J:=aq E;clear E;obtain⟨a8,F⟩:=aF (vz fp (s.extract p I) 22 0);rw[F];have a6:=aq F;clear F;go_in;go_wp21
 generalize af:(w.alloc _).alloc _=n;obtain⟨a,K,L, -⟩:=Co af;have G:fe w.heap.size n 0 p 0 0 0 ⟨#[]⟩:=a;have ak:fe (w.heap.size+1) n 0 0 0 0 0 ⟨#[]⟩:=K;clear af a K;go_loop [6] (λj=>∃(b g:Nat),b<=s.size/\s.size<b+g/\j= O S b/\Hid (qr s g b=I)) (λj=>s.size-(Br j).toNat)
 case atStart=>exact⟨p,s.size+1,al,by omega,rfl,J⟩
 case round=>
  obtain⟨b,g,bt,br,rfl,l⟩:=hrel;obtain⟨g,rfl⟩:∃ba,g=ba+1:=⟨g-1,by omega⟩;have c:=l.out;unfold qr at c;have r:=λw=>Cz s bn b w;have f:=λw=>pm (lk s b) w;have i:=λw=>Ao (lk s b) w;have h:bK (aw s b)=Ax\/cD (aw s b)=Ax->b<s.size:=by
   intro bb;rcases bC b s.size with h1|h1
   .exact h1
   .exact absurd bb (GC (by omega))
  rw[aiC]at f;rw[pJ]at i;generalize lk s b=bo at r f i;generalize aw s b=u at c f i h;by_cases h1:bK u=Ax
  .rw[ab (.inl h1)]at c;have m:=aq c;have bl:=h (.inl h1);clear c h;rw[h1]at f;clear h1;go_wp2_with (first|(go_at_call 131;refine(r _).mono ?_;rintro e w' ⟨rfl,rfl⟩)|(go_at_call 132;refine(f _).mono ?_;rintro e w' ⟨rfl,rfl⟩));go_round
   case rel=>exact⟨b+1,g,by omega,by omega,by go_num,m⟩
   case measure=>simp[Br];omega
  .have x:bK u=T:=by simpa using h1
   rw[x]at f;by_cases k:cD u=Ax
   .rw[ab (.inr k)]at c;have m:=aq c;have bl:=h (.inr k);clear c h;rw[k]at i;clear h1 x k;go_wp2_with (first|(go_at_call 131;refine(r _).mono ?_;rintro e w' ⟨rfl,rfl⟩)|(go_at_call 132;refine(f _).mono ?_;rintro e w' ⟨rfl,rfl⟩)|(go_at_call 134;refine(i _).mono ?_;rintro e w' ⟨rfl,rfl⟩));go_round
    case rel=>exact⟨b+1,g,by omega,by omega,by go_num,m⟩
    case measure=>simp[Br];omega
   .have C:cD u=T:=by simpa using k
    rw[aa (by rw[x,C];simp)]at c;rw[C]at i;clear h1 x k C h l J;subst c;obtain⟨an,ao,ap,ar,au,av,ax⟩:=bz G;have z:=(G.setKind 1).setTo (b:Int);have A:=(ak.other (a:=⟨w.heap.size,0,U⟩) (by simp) (O S 1)).other (a:=⟨w.heap.size,2,U⟩) (by simp) (O S (b:Int));have y:A3 w.heap.size w ((n.setCell ⟨w.heap.size,0,U⟩ (O S 1)).setCell ⟨w.heap.size,2,U⟩ (O S (b:Int))):=(L.setCell (by simp) _).setCell (by simp) _;obtain⟨o,H⟩:=aF ((n.setCell ⟨w.heap.size,0,U⟩ (O S 1)).setCell ⟨w.heap.size,2,U⟩ (O S (b:Int)));rw[H]at z A y;have a7:=aq H;clear H;go_wp2_with (first|(go_at_call 131;refine(r _).mono ?_;rintro e w' ⟨rfl,rfl⟩)|(go_at_call 132;refine(f _).mono ?_;rintro e w' ⟨rfl,rfl⟩)|(go_at_call 134;refine(i _).mono ?_;rintro e w' ⟨rfl,rfl⟩));rw[show(n.setCell ⟨w.heap.size,0,U⟩ (O S 1)).setCell ⟨w.heap.size,2,U⟩ (O S (b:Int))=o from a7.out];refine(ud o).mono ?_;rintro e t ⟨rfl,q⟩;have bf:fe w.heap.size t 1 p b 0 0 ⟨#[]⟩:=by rw[q];exact(dG _ _ _ (aj z)).trans z
    have bh:fe (w.heap.size+1) t 0 0 0 0 0 ⟨#[]⟩:=by rw[q];exact(dG _ _ _ (aj A)).trans A
    have ad:A3 w.heap.size w t:=by rw[q];exact y.alloc y.size _
    have bj:t.heap[o.heap.size]?=X (A9 fp 9 (0,0)):=by rw[q];exact aB o _
    clear q z A y G ak L an ao ap ar au av ax r f i;go_wp21
    obtain⟨an,ao,ap,ar,au,av,ax⟩:=bz bf;obtain⟨z0,a1,a2,a3,a4,a5,bw⟩:=bz bh;go_loop [34] (λj=>∃d:Nat,d<=22/\j= O S d/\Hid (vz fp (s.extract p b) (22-d) d=a8)) (λj=>22-(Br j).toNat)
    case atStart=>exact⟨0,by omega,rfl,a6⟩
    case round=>
     obtain⟨d,bs,rfl,l⟩:=hrel;by_cases h:d<22
     .have bk:t.cell? ⟨o.heap.size,d,U⟩=X (M (ci fp d)):=by rw[am _ _ _ _ _ _ bj];exact GA ⟨d,h⟩
      have c:=l.out;rw[show 22-d=(22-(d+1))+1 by omega]at c;unfold vz at c;generalize ci fp d=a0 at bk c;by_cases B:(a0.toList==(s.extract p b).toList)=Ax
      .rw[ab B]at c;subst c;go_wp2;refine aH (v:= B0 #[Ce #[O S (10+(d:Int)),O S p,O S b,O S 0,O S 0,M ⟨#[]⟩],O S (-1)]) (by simp[results,Tryz.results133,go_sem,z0,a1,a2,a3,a4,a5]) rfl ⟨rfl,?_⟩
       iterate 7 refine fK ?_ (by simp) _
       exact ad
      .rw[aa B]at c;have m:=aq c;have bv:(a0.toList==(s.extract p b).toList)=T:=by simpa using B
       clear c B;go_wp2;go_round
       case rel=>exact⟨d+1,by omega,by go_num,m⟩
       case measure=>simp[Br];omega
     .obtain rfl:d=22:=by omega
      have c:=l.out;simp only[fG,vz]at c;subst c;go_wp2;refine aH (v:= B0 #[Ce #[O S 1,O S p,O S b,O S 0,O S 0,M (s.extract p b)],O S (-1)]) (by simp[results,Tryz.results133,go_sem,z0,a1,a2,a3,a4,a5]) rfl ⟨rfl,?_⟩
      iterate 7 refine fK ?_ (by simp) _
      exact ad
def nF{c:Int}(h:bK c=Ax):65<=c/\c<=122:=by simp[bK]at h;omega
def jw{c:Int}(h:cD c=Ax):48<=c/\c<=57:=by simpa [cD] using h
def afa(s:ByteArray)(p:Nat):∃(k:Int) (x:ByteArray),wdT s p= Ce #[O S k,O S p,O S (qr s (s.size+1) p),O S 0,O S 0,M x]/\((k==1)=!(sr (s.extract p (qr s (s.size+1) p)))):=by
 unfold wdT sr;cases h:vz fp (s.extract p (qr s (s.size+1) p)) 22 0 with
 |none=>exact⟨1,_,rfl,rfl⟩
 |some k=>exact⟨10+(k:Int),_,rfl,by simp;omega⟩
def Ar(s:ByteArray)(u:s.size<=1100000)(p:Nat)(m:p<s.size)(d:bK (aw s p)=Ax)(w:Z):A2 N 74 #[M s,O S p] w λe w'=>e= Y (B0 #[wdT s p,O S (-1)])/\A3 w.heap.size w w':=by
 have n:=λw=>dL m w;have a:=λw=>pm (aw s p) w;have b:=λw=>LI s u p (fx m) w;have x:=nF d;rw[d]at a;generalize aw s p=r at n a x;obtain⟨z,B,h,l⟩:=afa s p;rw[h]at b⊢;generalize qr s (s.size+1) p=o at b l;have I:(r==10)=T:=by simp;omega
 clear d l h;go_in;go_wp2_with (first|(go_at_call 132;refine(a _).mono ?_;rintro e w' ⟨rfl,rfl⟩));generalize i:(w.alloc _).alloc _=q;obtain⟨f, -,g,y⟩:=Co i;have j:fe w.heap.size q 0 0 0 0 0 ⟨#[]⟩:=f;clear i f;refine(b _).mono ?_;rintro e A ⟨rfl,c⟩;have k:=j.below c (by omega);have t:=g.trans (c.mono (by omega));clear c j g y b a n;obtain⟨z0,C,E,F,G,H,K⟩:=bz k;have J:w.heap.size<A.heap.size:=aj k;go_wp2;refine aH (v:= B0 #[Ce #[O S z,O S p,O S o,O S 0,O S 0,M B],O S (-1)]) (by simp[results,Tryz.results74,go_sem,z0,C,E,F,G,H]) rfl ⟨rfl,?_⟩
 iterate 6 refine fK ?_ (by simp) _
 exact t
def jy(s:ByteArray):s.extract 0 s.size=s:=by
 simp
def lh(s:ByteArray):Bool:=decide (s.size<=40/\bK (aw s 0)=Ax/\qr s (s.size+1) 0=s.size/\sr s=T)
def yc(s:ByteArray)(t:s.size<=1100000)(w:Z):A2 N 163 #[M s] w λe w'=>e= Y (B3 (lh s))/\A3 w.heap.size w w':=by
 unfold lh;by_cases h:0<s.size
 .have u:((s.size:Int)==0)=T:=by rw[dv];omega
  by_cases m:s.size<=40
  .have v:¬(40:Int)<(s.size:Int):=by omega
   have q:∀w,(B1 9 (M s) (O S 0)).run N w= .ok (O B6 (aw s 0)) w:=λw=>dL h w;have b:=λw=>pm (aw s 0) w;by_cases a:bK (aw s 0)=Ax
   .have f:∀w,A2 N 74 #[M s,O S 0] w λe w'=>e= Y (B0 #[wdT s 0,O S (-1)])/\A3 w.heap.size w w':=λw=>Ar s t 0 h a w;rw[a]at b;obtain⟨k,y,o,d⟩:=afa s 0;rw[o]at f;generalize qr s (s.size+1) 0=g at f d;generalize aw s 0=l at q b a;have p:decide (s.size<=40/\bK l=Ax/\g=s.size/\sr s=T)=((k==1)&&((g:Int)==(s.size:Int))):=by
     by_cases n:g=s.size
     .subst n;rw[jy]at d;rw[d,a];simp[m]
     .simp[n];intro _;omega
    rw[p];clear p d o a;by_cases i:k=1
    .subst i;go_in;go_wp2_with (first|(go_at_call 132;refine(b _).mono ?_;rintro e w' ⟨rfl,rfl⟩)|(go_at_call 74;refine(f _).mono ?_;rintro e x ⟨rfl,c⟩));go_ret;exact⟨by simp,c.alloc c.size _⟩
    .have r:(k==1)=T:=by simp[i]
     clear i;go_in;go_wp2_with (first|(go_at_call 132;refine(b _).mono ?_;rintro e w' ⟨rfl,rfl⟩)|(go_at_call 74;refine(f _).mono ?_;rintro e x ⟨rfl,c⟩));go_ret;exact⟨by simp[r],c.alloc c.size _⟩
   .have j:bK (aw s 0)=T:=by simpa using a
    rw[show decide (s.size<=40/\bK (aw s 0)=Ax/\qr s (s.size+1) 0=s.size/\sr s=T)=T by simp[j]];rw[j]at b;clear a j;generalize aw s 0=l at q b;go_in;go_wp2_with (first|(go_at_call 132;refine(b _).mono ?_;rintro e w' ⟨rfl,rfl⟩));go_ret;exact⟨rfl,ai _ _⟩
  .have v:(40:Int)<(s.size:Int):=by omega
   rw[show decide (s.size<=40/\bK (aw s 0)=Ax/\qr s (s.size+1) 0=s.size/\sr s=T)=T by simp[m]];go_in;go_wp2;go_ret;exact⟨rfl,ai _ _⟩
 .have u:((s.size:Int)==0)=Ax:=by rw[jB];omega
  rw[show decide (s.size<=40/\bK (aw s 0)=Ax/\qr s (s.size+1) 0=s.size/\sr s=T)=T by rw[dH h];simp[bK]];go_in;go_wp2;go_ret;exact⟨rfl,ai _ _⟩
