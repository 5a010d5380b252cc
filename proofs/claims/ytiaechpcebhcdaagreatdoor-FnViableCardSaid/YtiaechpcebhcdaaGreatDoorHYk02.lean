import Derived.Test.YtiaechpcebhcdaaGreatDoorHYk01
import Derived.WalkSpells
import Derived.Deep.RegionHeld3
import Derived.Deep.AppendLies
import Derived.BigQuiet
import Derived.OneCell
import Derived.Shelf.Strings.Builder2
import Derived.Shelf.Small.Strs
import Derived.Shelf.Small.Wraps
import Derived.Shelf.Strings.BuilderK
import Derived.Shelf.Strconv.Itoa3
import Derived.Shelf.Strconv.ErrVarParseInt
import Derived.Shelf.Pu.ErrVarParseUint
import Derived.Shelf.Strings.Fields
import Derived.Shelf.Bits.Mul64
import Derived.Shelf.Slices.Empties2
import Derived.ProofKit
import Derived.RangeFuncBox
import Derived.Deep.Strs
import Derived.OpenShut
set_option linter.all false
set_option maxRecDepth 100000
set_option maxHeartbeats 12800000
open Go.Proofs.Tryz
open Go.Value renaming string->M,int->A3,slice->B0,bool->B5,tuple->B6,int->E0,pointer->E1,ownBlock->Fs,nilIface->G0,string->G2,iface->G3
open Option renaming some->S,none->Ax
open Go.Proofs.Tryz renaming prog->X,sizeOf3->C2,isAgg3->D4
open List renaming length->Y,range->F2
open Bool renaming true->A0,false->A9
open Go renaming World->A2,Value->Br,Calls->B2,TypeId->F0
open Go.IntKind renaming i64->A5,u8->Ed,u64->H0
open Go.Ending renaming returned->A6
open Go.RowKit renaming Below->B1,intOf->D3
open Go.Obj renaming cells->B3
open ByteArray renaming empty->B4
open Go.Shelf renaming Ren->B7
open Go.World renaming setCell->Ce,news_of_block->E2
open Go.Calls renaming quiet_of_same->Ck
open Go.Instr renaming index->F1
namespace Go.Proofs.YtiaechpcebhcdaaGreatDoor
open Go.RowKit
variable{B b base c e g i n:Nat}{Q:Exit->Act->World->Prop}{R:Bool×Nat×List Int}{T s:Bz}{W W' w w' w0 y z:World}{a:Addr}{f fr l p t:Int}{k:Bool}{lo r:List Int}{m v vt:Value}{o:Oper}{ops:Array Oper}{xs:List Value}
def Tryz.info5:(Tryz.prog.info? 5).map (λi=>(i.zero,i.size,i.bytes))=S (S (A3 Ed 0),1,1):=J
def B8(l:List Int):List Br:=l.map (E0 Ed)
def ag0(a b:List Int):B8 (a++b)=B8 a++B8 b:=by simp[B8]
def aop(a:List Int):Y (B8 a)=Y a:=by simp[B8]
def zD{l:List Int}(h:w.ownsRow base 5 1 v n (B8 l)):Y l=n:=by
 simpa [B8] using h.1
def nB{e:List Oper}{a:Act}(j:o.guard=Ax)(s x:Operand)
  (u:o.op= .call {callee:= .builtin .append,args:=#[s,x],argTypes:=#[22,22]}) (base:Nat) (v:Br) (n:Nat) (l:List Int) (y:a.eval s=v)
  (c:w.ownsRow base 5 1 v n (B8 l)) (f:base<=w.heap.size) (hn:n<=100000) (b:List Int) (m:Nat) (r:Y b=m) (t:0<m) (G:m<=100) (cs:Array Br) (i:cs.toList=B8 b)
  (z:a.eval x= B0 (S ⟨w.heap.size,0,Ax⟩) m m)
  (h:∀g cap w1,w1.ownsRow base 5 1 (B0 (S ⟨g,0,Ax⟩) (n+m) cap) (n+m) (B8 (l++b))->B1 base w w1->wpList X ops Q e (a.put o.dst (B0 (S ⟨g,0,Ax⟩) (n+m) cap)) w1):
  wpList X ops Q (o::e) a (w.alloc (B3 cs 5)):=by
 have⟨E,p,A,B,C⟩:=eC Tryz.info5;refine wpList_append_lies _ j s x 22 u base 5 E (A3 Ed 0) 1 1 underlying22 p A B C rfl Z v n (B8 l) y (c.alloc _) ⟨w.heap.size,0,Ax⟩ m m (B8 b) z (by simp[B8,r])
  (by rw[<-i];exact E2 (fr:=(0,0)) (ay w _)) (by intro L d;simp[B8]at d;obtain⟨K,_,rfl⟩:=d;rfl) t py O byT (w.heap.size+1) I ?_
 intro g cap w1 H k _ _;refine h g cap w1 (by rw[ag0];omega) (((ai base w).alloc f _).grown k byT (λF q=>(c.lt F q).1))
def xD(d:Int):Int:=if d<10 then 48+d else 87+d
def esc(c:Int):List Int:=if c=10 then [92,110] else if c=9 then [92,116] else if c=34\/c=92 then [92,c] else if c<32\/126<c then [92,120,xD (c / 16),xD (c%16)] else [c]
def DG:Bz:=⟨#[48,49,50,51,52,53,54,55,56,57,97,98,99,100,101,102]⟩
def aoq:∀i:Fin 16,((DG[i.val]'(by exact i.isLt)).toNat:Int)=xD (i.val:Int):=Z
theorem anD(d:Int)(a:0<=d)(b:d<16)(h:d.toNat<DG.size):((DG[d.toNat]'h).toNat:Int)=xD d:=by
 have:=aoq ⟨d.toNat,O⟩;grind
def ag1(d:Int)(a:0<=d)(b:d<16)(w:A2):(F1 9 (M ⟨#[48,49,50,51,52,53,54,55,56,57,97,98,99,100,101,102]⟩) (A3 Ed d)).run X w= .ok (A3 Ed (xD d)) w:=by
 have c:=anD d a b (by simp only[DG];show d.toNat<16;omega);go_simp;exact c
theorem atf(c:Int)(a:0<=c)(b:c<256):bits .and Ed c 15=c%16:=by
 have:=bits_mask Ed 8 Z wraps_u8 4 Z c a b;grind
def adv{a:Act}{K:Act->A2->Prop}{E:Prop}(i:o.guard=Ax)(s x:Operand)
  (t:o.op= .call {callee:= .builtin .append,args:=#[s,x],argTypes:=#[22,22]}) (base:Nat) (v:Br) (n:Nat) (l:List Int) (u:a.eval s=v)
  (c:w.ownsRow base 5 1 v n (B8 l)) (e:base<=w.heap.size) (hn:n<=100000) (b:List Int) (m:Nat) (q:Y b=m) (r:0<m) (G:m<=100) (cs:Array Br) (f:cs.toList=B8 b)
  (y:a.eval x= B0 (S ⟨w.heap.size,0,Ax⟩) m m)
  (h:∀g cap w1,w1.ownsRow base 5 1 (B0 (S ⟨g,0,Ax⟩) (n+m) cap) (n+m) (B8 (l++b))->B1 base w w1->K (a.put o.dst (B0 (S ⟨g,0,Ax⟩) (n+m) cap)) w1):
  if Region.wanted o (yielded ops a.tmps)=A0 then Oper.wp X o a (w.alloc (B3 cs 5)).drew K Q else E:=by
 have⟨C,k,z,A,B⟩:=eC Tryz.info5;refine step_append_lies _ i s x 22 t base 5 C (A3 Ed 0) 1 1 underlying22 k z A B rfl Z v n (B8 l) u ((c.alloc _).drew) ⟨w.heap.size,0,Ax⟩ m m (B8 b) y (by simp[B8,q])
  (by rw[<-f];exact E2 (fr:=(0,0)) (ay w _)) (by intro ad d;simp[B8]at d;obtain⟨L,_,rfl⟩:=d;rfl) r py O byT (w.heap.size+1) I ?_
 intro g cap w1 H j _ _;refine h g cap w1 (by rw[ag0];omega) ((((ai base w).alloc e _).drew).grown j byT (λF p=>(c.lt F p).1))
def gL(l:List Int):Bz:=l.foldl (λr n=>r.push (UInt8.ofNat n.toNat)) B4
theorem oF{cap:Nat}{l:List Int}(a:w.ownsRow base 5 1 (B0 (S ⟨g,0,Ax⟩) n cap) n (B8 l)):
  (convert 22 9 (B0 (S ⟨g,0,Ax⟩) n cap)).run X w= .ok (M (gL l)) w:=by
 rw[Ip w 22 9 5 _ _ _ underlying22 underlying5 underlying9];apply run_bytesToString w _ n cap l;rcases a.2 with⟨b,_⟩|⟨j,h,i,d,_,c,_,_,m,o⟩
 .cases b
 .cases d;have:=run_loadCells_list (P:=X) w ⟨g,0,Ax⟩ (B8 l) (λe f k=>by
   apply E2 c e f;grind)
  rw[aop,zD a]at this;exact this
def AB(w:A2)(c:Int):(w.alloc (B3 #[A3 Ed c] 5)).ownsRow w.heap.size 5 1 (B0 (S ⟨w.heap.size,0,Ax⟩) 1 1) 1 (B8 [c]):=
 ⟨rfl,.inr ⟨w.heap.size,1,#[A3 Ed c],rfl,cJ,ay w _,cJ,py,rfl,rfl⟩⟩
theorem ak0(c:Int):Y (esc c)<=4:=by
 unfold esc;grind
def qt(s:Bz)(k:Nat):List Int:=34::(s.data.toList.take k).flatMap λb=>esc (b.toNat:Int)
def Iu(s:Bz)(k:Nat)(h:k<s.size):qt s (k+1)=qt s k++esc (s[k].toNat:Int):=by
 unfold qt;rw[List.take_succ_eq_append_getElem byS];simp only[zr,zv,List.flatMap_nil,dD,dt];rfl
def Ix(s:Bz):∀k,k<=s.size->Y (qt s k)<=1+4*k
 |0,_=>by simp[qt]
 |k+1,h=>by
  have:=Ix s k O;have a:=ak0 (s[k].toNat:Int);rw[Iu s k O,aB];omega
def jl(s:Bz):List Int:=qt s s.size++[34]
structure Cd where
 len:Nat
 cd:Nat->Int
 ok:len<=1048576
 bt:∀i,0<=cd i/\cd i<256
def Code(C:Cd)(base:Nat)(w:A2)(c:Option Addr):Prop:=
 C.len=0\/∃a b,c=S ⟨a,b,Ax⟩/\a<base/\∀i,i<C.len->w.cell? ⟨a,b+i,Ax⟩=S (A3 Ed (C.cd i))
def Code.below{C:Cd}{a:Option Addr}(h:Code C base w a)(g:B1 base w w'):Code C base w' a:=by
 rcases h with h|⟨b,e,f,c,i⟩
 .exact .inl h
 .exact .inr ⟨b,e,f,c,λd j=>(g.cell (p:=⟨b,e+d,Ax⟩) c).trans (i d j)⟩
structure Bs where
 base:Nat
 cb:Nat
 bb:Nat
 a0:Option Addr
 cap:Nat
abbrev cV(E:Bs):Br:= E1 (S ⟨E.cb,0,Ax⟩)
structure Cr where
 p:Int
 q:Int
 r:Int
abbrev cuO(C:Cd)(E:Bs)(c:Cr):Obj:= B3 #[B0 E.a0 C.len E.cap,A3 A5 c.p,A3 H0 c.q,A3 A5 c.r] 38 (0,0)
structure Cu (C:Cd) (E:Bs) (w:A2) (c:Cr):Prop where
 lo:E.base<=E.cb/\E.base<=w.heap.size
 code:Code C E.base w E.a0
 cur:w.heap[E.cb]?=S (cuO C E c)
def rq(w:A2)(b:Nat):w.grownBy w (S b):=⟨rfl,rfl,rfl,cJ,λ_ _ _=>rfl⟩
def vy(h:w0.grownBy w (S b))(n:Nat):w0.grownBy (w.drewN n) (S b):=⟨h.os,h.tape,h.output,h.size,h.block⟩
def AC(h:w0.grownBy w (S b))(i:Nat)(v:Br):w0.grownBy (w.setCell ⟨b,i,Ax⟩ v) (S b):=
 ⟨h.os,h.tape,h.output,by simpa [Ce] using h.size,λe d a=>by rw[az _ _ _ _ (λc=>a (by rw[c]))];exact h.block e d a⟩
def Ky{x:A2}(h:x.grownBy y (S b))(k:y.grownBy z (S b)):x.grownBy z (S b):=
 ⟨k.os.trans h.os,k.tape.trans h.tape,k.output.trans h.output,aK h.size k.size,λd a c=>(k.block d (gF a h.size) c).trans (h.block d a c)⟩
def vz{x:A2}(h:x.grownBy y (S b))(d:base<=b)(a:base<=x.heap.size):B1 base x y:=
 (ai base x).grown h a (λe c=>U)
def afp(base:Nat)(w:A2)(n:Nat):B1 base w (w.drewN n):=⟨rfl,rfl,rfl,cJ,λ_ _=>rfl⟩
def atg(x:Int):0<=wrap64 (bits .and H0 (IntKind.u64.wrap x / 1099511627776) 255)/\wrap64 (bits .and H0 (IntKind.u64.wrap x / 1099511627776) 255)<256:=by
 have i:IntKind.u64.wrap x=x%18446744073709551616:=by rfl
 have d:0<=IntKind.u64.wrap x / 1099511627776:=O;have e:IntKind.u64.wrap x / 1099511627776<2 ^ 24:=O;have f:∀a:Int,0<=a->a<2 ^ 24->IntKind.u64.wrap a=a:=λa g h=>by
  have j:IntKind.u64.wrap a=a%18446744073709551616:=by rfl
  omega
 have:=bits_mask H0 24 Z f 8 Z _ d e;have b:((2:Int) ^ 8-1)=255:=Z;rw[b]at this;have c:((2:Int) ^ 8)=256:=Z;rw[this,c];unfold wrap64;omega
def Rc(C:Cd)(f:FuncId)(a:List Br)(c:Cr)(v:Br)(b:Cr):Prop:=
 ∀ ⦃E:Bs⦄ ⦃w:A2⦄,Cu C E w c->B2 X f (cV E::a).toArray w λe w'=>e= A6 v/\Cu C E w' b/\w.grownBy w' (S E.cb)
section
variable {C : Cd} {E : Bs} {w w' W : World} {c c' : Cr}
def Cu.lt(h:Cu C E w c):E.cb<w.heap.size:=ah h.cur
def Cu.cells(h:Cu C E w c):(w.cell? ⟨E.cb,0,Ax⟩=S (B0 E.a0 C.len E.cap)/\w.cell? ⟨E.cb,1,Ax⟩=S (A3 A5 c.p)/\w.cell? ⟨E.cb,2,Ax⟩=S (A3 H0 c.q)/\w.cell? ⟨E.cb,3,Ax⟩=S (A3 A5 c.r))/\∀i,w.frozen? ⟨E.cb,i,Ax⟩=A9:=by
 have r:=λi=>au w E.cb i _ _ _ h.cur;exact⟨⟨r 0,r 1,r 2,r 3⟩,λi=>cD _ _ _ _ _ h.cur⟩
def Cu.grown(h:Cu C E w c)(g:w.grownBy w' (S E.cb))(b:w'.heap[E.cb]?=S (cuO C E c')):Cu C E w' c':=by
 have a:=vz g h.lo.1 h.lo.2;exact⟨⟨h.lo.1,aK h.lo.2 a.size⟩,h.code.below a,b⟩
def Cu.below(h:Cu C E w c)(a:B1 w.heap.size w w'):Cu C E w' c:=⟨⟨h.lo.1,aK h.lo.2 a.size⟩,h.code.below (a.mono h.lo.2),(a.block _ h.lt).trans h.cur⟩
def Iy(C:Cd)(c:Cr)(l:0<=c.p)(m:c.p<=1000000000):∃z c',(0<=z/\z<256)/\(c'.p=c.p+1/\c'.r=c.r)/\Rc C 63 [] c (A3 A5 z) c':=by
 obtain⟨p,o,r⟩:=c;have y:=C.ok;have l:0<=p:=l;have m:p<=1000000000:=m;by_cases x:p<C.len
 .have⟨z,n⟩:=aw (C.cd p.toNat);have i:=C.bt p.toNat;rw[n]at i;refine⟨z,⟨p+1,IntKind.u64.wrap (IntKind.u64.wrap (IntKind.u64.wrap (o*6364136223846793005)+z)+1442695040888963407),r⟩,i,⟨rfl,rfl⟩,λa h f=>?_⟩;have k:=f.cells;rcases f.code with w|⟨v,E,s,_,t⟩
  .omega
  have q:=t p.toNat O;rw[n]at q;rw[s]at k;have A:=i.1;have B:=i.2;have b:=jB f (λd e g=>AC (AC (vy (rq h a.cb) d) 1 e) 2 g) (λd e g=>aI ((h.drewN d).setCell ⟨a.cb,1,Ax⟩ e) a.cb 2 _ _ g (aI (h.drewN d) a.cb 1 _ _ e f.cur));go_in;go_wp2;go_quiet (fail)
  go_wp2;go_quiet (fail)
  go_wp2;go_ret;exact⟨rfl,b.1.grown (b.2.1 _ _ _) (b.2.2 _ _ _),b.2.1 _ _ _⟩
 .have⟨j,u⟩:=aw (IntKind.u64.wrap (o*6364136223846793005)+1442695040888963407);refine⟨wrap64 (bits .and H0 (IntKind.u64.wrap j / 1099511627776) 255),⟨p+1,IntKind.u64.wrap j,r⟩,atg j,⟨rfl,rfl⟩,λa h f=>?_⟩;subst u;have k:=f.cells;have b:=jB f (λd e g=>AC (AC (vy (rq h a.cb) d) 2 e) 1 g) (λd e g=>aI ((h.drewN d).setCell ⟨a.cb,2,Ax⟩ e) a.cb 1 _ _ g (aI (h.drewN d) a.cb 2 _ _ e f.cur));go_in;go_wp2;go_quiet (fail)
  go_wp2;go_ret;exact⟨rfl,b.1.grown (b.2.1 _ _ _) (b.2.2 _ _ _),b.2.1 _ _ _⟩
end
def zE(w:A2):(convert 22 9 (B0 Ax 0 0)).run X w= .ok (M B4) w:=by
 rw[Ip w 22 9 5 _ _ _ underlying22 underlying5 underlying9];rfl
theorem afq(l:List Int):∀r:Bz,(l.foldl (λr n=>r.push (UInt8.ofNat n.toNat)) r).size=r.size+Y l:=by
 induction l with
 |nil=>grind
 |cons b l a=>intro r;simp only[zB,db];rw[a,ByteArray.size_push];omega
def xk(l:List Int):(gL l).size=Y l:=by
 rw[gL,afq];simp
def aor{size:Nat}(h:w.ownsRow base e size v n xs)(a:b<base):v.ownBlock=Ax\/v.ownBlock≠S b:=by
 right;intro e;have:=(h.lt b e).1;omega
def ag2{x:A2}(h:x.grownBy y (S b))(k:B1 x.heap.size y z):x.grownBy z (S b):=
 ⟨k.os.trans h.os,k.tape.trans h.tape,k.output.trans h.output,aK h.size k.size,λc a d=>(k.block c a).trans (h.block c a d)⟩
structure Cw (C:Cd) (E:Bs) (W w:A2) (c:Cr):Prop where
 cu:Cu C E w c
 gr:W.grownBy w (S E.cb)
section
variable {C : Cd} {E : Bs} {w w' W : World} {c c' : Cr} {v : Value} {ar : List Value} {f : FuncId} {Q : Ending → World → Prop}
def Cu.cw(h:Cu C E w c):Cw C E w w c:=⟨h,rq _ _⟩
def Cw.below(a:Cw C E W w c)(b:B1 w.heap.size w w'):Cw C E W w' c:=⟨a.cu.below b,ag2 a.gr (b.mono a.gr.size)⟩
def Cw.own(a:Cw C E W w c)(b:B1 W.heap.size w w')(d:E.cb<W.heap.size):Cw C E W w' c:=by
 have:=a.cu.lo.1;exact⟨⟨⟨a.cu.lo.1,aK a.cu.lo.2 b.size⟩,a.cu.code.below (b.mono O),(b.block _ d).trans a.cu.cur⟩,ag2 a.gr b⟩
def Cw.al{o:Obj}(a:Cw C E W w c):Cw C E W (w.alloc o) c:=a.below (de w o)
def Cw.run(a:Cw C E W w c)(k:Rc C f ar c v c')(h:∀w',Cw C E W w' c'->w.grownBy w' (S E.cb)->Q (A6 v) w'):B2 X f (cV E::ar).toArray w Q:=
 (k a.cu).mono λd w' b=>b.1 ▸ h w' ⟨b.2.1,Ky a.gr b.2.2⟩ b.2.2
theorem rJ{cs:Array Br}{t:F0}(h:Cu C E w c)(g:(w.alloc (B3 cs t)).grownBy w' (S E.cb))(i:Nat):w'.cell? ⟨w.heap.size,i,Ax⟩=cs[i]?:=
 au w' w.heap.size i _ _ _ ((g.block _ I (λa=>by have:=h.lt;grind)).trans (ay w _))
def gi(C:Cd)(c:Cr)(k:Int)(l:2<=k:=by omega)(m:k<=200:=by omega)(h:0<=c.p:=by omega)(i:c.p<=1000000000:=by omega):∃z c',(0<=z/\z<k)/\(c'.p=c.p+1/\c'.r=c.r)/\Rc C 29 [A3 A5 k] c (A3 A5 z) c':=by
 have⟨z,c',b,g,d⟩:=Iy C c h i;have z0:=b.1;have o:=b.2;refine⟨z%k,c',⟨Int.emod_nonneg _ O,Int.emod_lt_of_pos _ O⟩,g,λj n f=>?_⟩;have e:=f.cw;go_in;go_wp2_with (go_at_call 63;refine e.run d λw1 a _=>?_);go_ret;exact⟨rfl,a.cu,a.gr⟩
theorem anE(C:Cd)(c:Cr)(k:Int)(w:1<=k)(x:k<=1000000000)(g:0<=c.p)(y:c.p<=900000000):∃z c',(0<=z/\z<k)/\(c.p<=c'.p/\c'.p<=c.p+2/\c'.r=c.r)/\Rc C 29 [A3 A5 k] c (A3 A5 z) c':=by
 by_cases n:k=1
 .subst n;refine⟨0,c,Z,O,λh q b=>?_⟩;have a:=b.cw;go_in;go_wp2;go_ret;exact⟨rfl,a.cu,a.gr⟩
 by_cases o:k<=200
 .have⟨z,c',s,t,e⟩:=gi C c k O o g O;grind
 have⟨z,l,F,u,e⟩:=Iy C c g O;have⟨d,m,E,v,i⟩:=Iy C l O O;refine⟨(z*256+d)%k,m,⟨Int.emod_nonneg _ O,Int.emod_lt_of_pos _ O⟩,O,λh q b=>?_⟩;have a:=b.cw;have A:IntKind.i64.wrap (z*256)=z*256:=by rw[bJ];omega
 have B:IntKind.i64.wrap (z*256+d)=z*256+d:=by rw[bJ];omega
 go_in;go_wp2_with fail;refine a.run e λw1 j _=>?_;go_wp2_with fail;refine j.run i λG f _=>?_;go_wp2;go_ret;exact⟨rfl,f.cu,f.gr⟩
inductive Byc (C:Cd):Nat->Cr->List Int->Cr->Prop
 |nil (c:Cr):Byc C 0 c [] c
 |cons {n:Nat}{c c1 c2:Cr}{z:Int}{l:List Int}:(0<=z/\z<256)->Rc C 63 [] c (.int .i64 z) c1->Byc C n c1 l c2->Byc C (n+1) c (z::l) c2
def byc(C:Cd):∀(n:Nat)(c:Cr),n<=100->0<=c.p->c.p<=900000000+100-n->∃l c',Y l=n/\(c'.p=c.p+n/\c'.r=c.r)/\Byc C n c l c':=by
 intro n
 induction n with
 |zero=>exact λc _ _ _=>⟨[],c,rfl,I,.nil c⟩
 |succ n h=>
  intro c o f q;have⟨i,d,g,j,b⟩:=Iy C c f O;have⟨l,e,m,k,a⟩:=h d O O O;exact⟨i::l,e,U,O,.cons g b a⟩
def Iz(C:Cd)(c:Cr)(n:Nat)(hn:n<=100)(am:0<=c.p)(a5:c.p<=900000000):∃s c',s.size=n/\(c'.p=c.p+n/\c'.r=c.r)/\Rc C 31 [A3 A5 n] c (M s) c':=by
 have⟨g,l,K,ad,v⟩:=byc C n c hn am O;refine⟨gL g,l,by rw[xk,K],ad,λy k m=>?_⟩;have q:=m.lt;go_in;go_wp21
 go_loopw [1,5] (λj ap wr=>∃(a d:Nat) (f i:List Int) (h:Cr),j= A3 A5 a/\a+d=n/\wr.ownsRow k.heap.size 5 1 ap d (B8 f)/\Cw C y k wr h/\Byc C a h i l/\f++i=g) (λj _ _=>(D3 j).toNat)
 case atStart=>exact⟨n,0,[],g,c,rfl,rfl,dA _ _ _ _,m.cw,v,rfl⟩
 case round=>
  obtain⟨a,d,f,i,h,rfl,ag,e,b,w,G⟩:=hrel;have af:=zD e;have a6:=b.gr.size;have a2:d<=n:=O;have a4:a<=n:=O;have z:=jB ag af G;cases w with
  |@cons a _ E _ bb ao u A x=>
   have z0:=u.1;have bc:=u.2;have a3:(0:Int)<((a+1:Nat):Int):=O;have a8:IntKind.i64.wrap (((a+1:Nat):Int)-1)=(a:Int):=by rw[bJ];omega
   go_wp2_with (first
    |(go_at_call 63;refine b.run A λw1 B t=>?_;have ak:=e.kept t (aor e q);have a7:=t.size)
    |(at_builtin;apply nB rfl (.tmp 10) (.tmp 14) rfl k.heap.size _ d f rfl ak O O [_] 1 rfl Z Z _ rfl rfl;intro H F ba al L))
   go_roundw
   case rel=>exact⟨a,d+1,_,ao,E,by go_num,O,al,B.own L q,x,U⟩
   case measure=>simp[D3]
  |nil=>
   have⟨av,aL,o⟩:=z.out;rw[dD]at o;subst o;rcases e.2 with⟨rfl,a0⟩|⟨H,F,ar,rfl,a9⟩
   .have an:=zE;go_wp2;go_ret;refine⟨?_,b.cu,b.gr⟩;have:f=[]:=tG O;subst this;rfl
   .have an:=oF e;go_wp2;go_ret;exact⟨rfl,b.cu,b.gr⟩
end
def Ten(n:Nat):Prop:=n=10\/n=20\/n=40\/n=80\/n=160\/n=320\/n=640\/n=1280\/n=2560\/n=5120
def arn:Br->Nat| .string t=>t.size|_=>0
def ic(c:Int):Bool:=decide (c=32\/c=9\/c=13)
def aJ(c:Int):Bool:=decide ((97<=c/\c<=122)\/(65<=c/\c<=90)\/c=95)
def aC(c:Int):Bool:=decide (48<=c/\c<=57)
theorem Kz(c:Int)(w:A2):B2 X 74 #[A3 Ed c] w λe w'=>e= A6 (B5 (ic c))/\w=w':=by
 rcases((O:c=32\/c=9\/c=13\/(c≠32/\c≠9/\c≠13))) with rfl|rfl|rfl|⟨a,b,d⟩
 .go_in;go_wp2;go_ret;exact rr
 .go_in;go_wp2;go_ret;exact rr
 .go_in;go_wp2;go_ret;exact rr
 .have f:(c==32)=A9:=U;have g:(c==9)=A9:=U;have h:(c==13)=A9:=U;have e:ic c=A9:=by simp[ic,a,b,d]
  rw[e];go_in;go_wp2;go_ret
  simp_all
theorem jC(c:Int)(w:A2):B2 X 117 #[A3 Ed c] w λe w'=>e= A6 (B5 (aC c))/\w=w':=by
 rcases((O:c<48\/57<c\/(48<=c/\c<=57))) with h|h|⟨d,b⟩
 .have e:aC c=A9:=by simp[aC];omega
  rw[e];clear e;have a:¬48<=c:=O;go_in;go_wp2;go_ret
  simp_all
 .have e:aC c=A9:=by simp[aC];omega
  rw[e];clear e;have a:¬c<=57:=O;have b:48<=c:=O;go_in;go_wp2;go_ret
  simp_all
 .have e:aC c=A0:=by simp[aC];omega
  rw[e];clear e;go_in;go_wp2;go_ret
  simp_all
theorem nC(c:Int)(w:A2):B2 X 115 #[A3 Ed c] w λe w'=>e= A6 (B5 (aJ c))/\w=w':=by
 rcases((O:(97<=c/\c<=122)\/(65<=c/\c<=90)\/c=95\/c<65\/(90<c/\c<97/\c≠95)\/122<c)) with⟨f,g⟩|⟨f,g⟩|rfl|h|⟨f,g,k⟩|h
 .have e:aJ c=A0:=by simp[aJ];omega
  rw[e];clear e;go_in;go_wp2;go_ret
  simp_all
 .have e:aJ c=A0:=by simp[aJ];omega
  rw[e];clear e;have a:¬97<=c:=O;go_in;go_wp2;go_ret
  simp_all
 .go_in;go_wp2;go_ret;exact rr
 .have e:aJ c=A9:=by simp[aJ];omega
  rw[e];clear e;have a:¬97<=c:=O;have b:¬65<=c:=O;have d:(c==95)=A9:=U;go_in;go_wp2;go_ret
  simp_all
 .have e:aJ c=A9:=by simp[aJ];omega
  rw[e];clear e;have a:¬97<=c:=O;have b:65<=c:=O;have i:¬c<=90:=O;have d:(c==95)=A9:=U;go_in;go_wp2;go_ret
  simp_all
 .have e:aJ c=A9:=by simp[aJ];omega
  rw[e];clear e;have a:97<=c:=O;have b:¬c<=122:=O;have i:65<=c:=O;have j:¬c<=90:=O;have d:(c==95)=A9:=U;go_in;go_wp2;go_ret
  simp_all
def gj(c:Int):Int:=if 48<=c/\c<=57 then c-48 else if 97<=c/\c<=102 then c-87 else -1
def ag3:∀n:Fin 256,Lib.indexByte [48,49,50,51,52,53,54,55,56,57,97,98,99,100,101,102] (n.val.toUInt8)=gj (n.val:Int):=by decide+kernel
theorem ak1(c:Int)(a:0<=c)(b:c<256):Lib.indexByte [48,49,50,51,52,53,54,55,56,57,97,98,99,100,101,102] c.toNat.toUInt8=gj c:=by
 have:=ag3 ⟨c.toNat,O⟩;grind
theorem ag4(c:Int)(a:0<=c)(b:c<256)(w:A2):B2 X 269 #[M ⟨#[48,49,50,51,52,53,54,55,56,57,97,98,99,100,101,102]⟩,A3 Ed c] w λe w'=>e= A6 (A3 A5 (gj c))/\w'=w:=by
 rw[<-ak1 c a b];go_in;go_wp2;rw[ado func277 byR byR byR (e:=Extern.BytealgIndexByte.indexByte) byR,Lib.run_indexByteString];simp only[Result.andThen];rw[Oper.upon_value];go_wp2;go_ret
 simp_all
theorem xl(c:Int)(a:0<=c)(b:c<256)(w:A2):B2 X 251 #[M ⟨#[48,49,50,51,52,53,54,55,56,57,97,98,99,100,101,102]⟩,A3 Ed c] w λe w'=>e= A6 (A3 A5 (gj c))/\w'=w:=by
 go_in;go_wp2_with (go_at_call 269;refine(ag4 c a b _).mono ?_;rintro e w' ⟨rfl,rfl⟩);go_ret
 simp_all
def ae(s:Bz)(i:Nat):Int:=if h:i<s.size then(s[i].toNat:Int) else -1
def gI(h:i<s.size:=by omega):0<=ae s i/\ae s i<256:=by
 rw[ae,pG h];have:=s[i].toNat_lt;omega
theorem di(h:¬i<s.size:=by omega):ae s i= -1:=by unfold ae;grind
def dx(h:i<s.size)(w:A2):(F1 9 (M s) (A3 A5 (i:Int))).run X w= .ok (A3 Ed (ae s i)) w:=by
 rw[ae,pG h];go_simp
theorem zF(h:i+1<s.size)(w:A2):(F1 9 (M s) (A3 A5 ((i:Int)+1))).run X w= .ok (A3 Ed (ae s (i+1))) w:=by
 have:=dx h w;grind
def ov(c:Int):gj c<16:=by unfold gj;omega
def or4(a b:Int)(e:0<=a)(f:a<256)(g:a%16=0)(c:0<=b)(d:b<16):bits .or A5 a b=a+b:=
 bits_join A5 8 Z (λh a b=>by rw[bJ];omega) 4 a b e g f c d O
def or0(b:Int)(a:0<=b)(c:b<16):bits .or A5 0 b=b:=by
 have:=or4 0 b O O O a c;omega
def hexI(s:Bz)(p:Nat):Int×Nat×Bool:=
 if gj (ae s p)<0 then(0,p,A9) else if gj (ae s (p+1))<0 then(0,p+1,A9) else(gj (ae s p)*16+gj (ae s (p+1)),p+1+1,A0)
def ag5(r:Int×Nat×Bool):Br:= B6 #[A3 Ed r.1,A3 A5 (r.2.1:Int),B5 r.2.2]
theorem KA(s:Bz)(v:s.size<=100000)(p:Nat)(j:p+1<s.size)(x a:Int)(d:gj (ae s p)=x)(f:gj (ae s (p+1))=a)(x0:0<=x)(q:0<=a)(w:A2):
  B2 X 228 #[M s,A3 A5 p] w λe w'=>e= A6 (B6 #[A3 Ed (x*16+a),A3 A5 ((p:Int)+1+1),B5 A0])/\w'=w:=by
 have o:x<16:=by rw[<-d];exact ov _
 have r:a<16:=by rw[<-f];exact ov _
 have m:=λw=>dx (s:=s) (i:=p) O w;have n:=λw=>zF (s:=s) (i:=p) O w;have t:=or0 x x0 o;have u:=or4 (x*16) a O O O q r;have b:=gI (s:=s) (i:=p) O;have c:=gI (s:=s) (i:=p+1) j;have⟨g,k⟩:=aw (ae s p);have⟨h,l⟩:=aw (ae s (p+1));rw[k]at d m b;rw[l]at f n c;go_in;go_wp21
 refine rf 3 ?_;rw[jG];go_wp2_with (go_at_call 251;refine(xl g b.1 b.2 _).mono ?_;rintro e w' ⟨rfl,rfl⟩);rw[jG];go_wp2_with (go_at_call 251;refine(xl h c.1 c.2 _).mono ?_;rintro e y ⟨rfl,rfl⟩);rw[jG];go_wp2;go_ret3
 simp_all
theorem Gb(s:Bz)(h:s.size<=100000)(p:Nat)(g:p<s.size)(x:Int)(d:gj (ae s p)=x)(x0:x<0)(w:A2):
  B2 X 228 #[M s,A3 A5 p] w λe w'=>e= A6 (B6 #[A3 Ed 0,A3 A5 (p:Int),B5 A9])/\w'=w:=by
 have f:=λw=>dx (s:=s) (i:=p) O w;have a:=gI (s:=s) (i:=p) O;have⟨b,c⟩:=aw (ae s p);rw[c]at d f a;go_in;go_wp21
 apply rf 1;rw[jG];go_wp2_with (go_at_call 251;apply(xl b a.1 a.2 _).mono;rintro e w' ⟨rfl,rfl⟩);go_ret3
 simp_all
theorem KB(s:Bz)(b:s.size<=100000)(p:Nat)(a:p=s.size)(w:A2):
  B2 X 228 #[M s,A3 A5 p] w λe w'=>e= A6 (B6 #[A3 Ed 0,A3 A5 (p:Int),B5 A9])/\w'=w:=by
 subst a;go_in;go_wp2_with fail;apply rf 1;rw[jG];go_wp2;go_ret3
 simp_all
theorem Dz(s:Bz)(o:s.size<=100000)(p:Nat)(h:p+1<s.size)(x d:Int)(c:gj (ae s p)=x)(l:gj (ae s (p+1))=d)(x0:0<=x)(t:d<0)(w:A2):
  B2 X 228 #[M s,A3 A5 p] w λe w'=>e= A6 (B6 #[A3 Ed 0,A3 A5 ((p:Int)+1),B5 A9])/\w'=w:=by
 have r:x<16:=by rw[<-c];exact ov _
 have m:=λw=>dx (s:=s) (i:=p) O w;have n:=λw=>zF (s:=s) (i:=p) O w;have a:=gI (s:=s) (i:=p) O;have b:=gI (s:=s) (i:=p+1) h;have⟨f,j⟩:=aw (ae s p);have⟨g,k⟩:=aw (ae s (p+1));rw[j]at c m a;rw[k]at l n b;go_in;go_wp21
 apply rf 2;rw[jG];go_wp2_with (go_at_call 251;apply(xl f a.1 a.2 _).mono;rintro e w' ⟨rfl,rfl⟩);rw[jG];go_wp2_with (go_at_call 251;apply(xl g b.1 b.2 _).mono;rintro e q ⟨rfl,rfl⟩);go_ret3
 simp_all
theorem KC(s:Bz)(h:s.size<=100000)(p:Nat)(g:p+1=s.size)(x:Int)(b:gj (ae s p)=x)(x0:0<=x)(w:A2):
  B2 X 228 #[M s,A3 A5 p] w λe w'=>e= A6 (B6 #[A3 Ed 0,A3 A5 ((p:Int)+1),B5 A9])/\w'=w:=by
 have l:x<16:=by rw[<-b];exact ov _
 have f:=λw=>dx (s:=s) (i:=p) O w;have j:((p:Int)+1==(s.size:Int))=A0:=U;have k:p<=100000:=O;have a:=gI (s:=s) (i:=p) O;have⟨c,d⟩:=aw (ae s p);rw[d]at b f a;go_in;go_wp21
 apply rf 2;rw[jG];go_wp2_with (go_at_call 251;apply(xl c a.1 a.2 _).mono;rintro e w' ⟨rfl,rfl⟩);rw[jG];go_wp2;go_ret3
 simp_all
def KD(s:Bz)(a:s.size<=100000)(p:Nat)(h:p<=s.size)(w:A2):
  B2 X 228 #[M s,A3 A5 p] w λe w'=>e= A6 (ag5 (hexI s p))/\w'=w:=by
 have g:gj (-1)= -1:=Z;unfold hexI ag5;by_cases f:p<s.size
 .by_cases c:gj (ae s p)<0
  .rw[ab c];exact Gb s a p f _ rfl c w
  .rw[aa c];by_cases b:p+1<s.size
   .by_cases d:gj (ae s (p+1))<0
    .rw[ab d];exact Dz s a p b _ _ rfl rfl O d w
    .rw[aa d];exact KA s a p b _ _ rfl rfl O O w
   .have e:=di (s:=s) (i:=p+1) b;rw[ab U];exact KC s a p O _ rfl O w
 .have e:=di (s:=s) (i:=p) f;rw[ab U];exact KB s a p O w
def ej(s:Bz)(p:Nat):Int×Nat×Bool:=
 if ae s p=110 then(10,p+1,A0) else if ae s p=116 then(9,p+1,A0) else if ae s p=34\/ae s p=92 then(ae s p,p+1,A0) else if ae s p=120 then hexI s (p+1) else(0,p,A9)
theorem KE(s:Bz)(o:s.size<=100000)(p:Nat)(h:p<=s.size)(w:A2):
  B2 X 187 #[M s,A3 A5 p] w λe w'=>e= A6 (ag5 (ej s p))/\w'=w:=by
 by_cases l:p<s.size
 .have q:=λw=>dx (s:=s) (i:=p) O w;have r:=gI (s:=s) (i:=p) O;have b:=KD s o (p+1) O;have g:((p+1:Nat):Int)=(p:Int)+1:=O;rw[g]at b;unfold ej;have⟨a,m⟩:=aw (ae s p);rw[m]at q r⊢;by_cases c:a=110
  .subst c;go_in;go_wp2;go_ret3
   exact rr
  rw[aa c];have t:(a==110)=A9:=U;by_cases d:a=116
  .subst d;go_in;go_wp2;go_ret3
   exact rr
  rw[aa d];have u:(a==116)=A9:=U;by_cases j:a=34
  .subst j;go_in;go_wp2;go_ret3
   exact rr
  have v:(a==34)=A9:=U;by_cases k:a=92
  .subst k;go_in;go_wp2;go_ret3
   exact rr
  have x:(a==92)=A9:=U;rw[Ga];by_cases f:a=120
  .subst f;rw[ab rfl];unfold ag5 at b⊢;go_in;go_wp2_with (go_at_call 228;refine(b _).mono ?_;rintro e w' ⟨rfl,rfl⟩);go_ret3
   simp_all
  rw[aa f];have y:(a==120)=A9:=U;go_in;go_wp2;go_ret3
  exact rr
 .have e:=di (s:=s) (i:=p) l;have n:ej s p=(0,p,A9):=by unfold ej;grind
  rw[n];obtain rfl:p=s.size:=O;go_in;go_wp2;go_ret3
  exact rr
theorem adw(s:Bz)(p:Nat)(h:p<=s.size):p<=(hexI s p).2.1/\(hexI s p).2.1<=s.size/\0<=(hexI s p).1/\(hexI s p).1<256:=by
 have d:gj (-1)= -1:=Z;have g:=ov (ae s p);have j:=ov (ae s (p+1));unfold hexI;split
 .grind
 .rename_i e;have b:p<s.size:=by
   rcases aH p s.size with h|h
   .exact h
   .have a:=di (s:=s) (i:=p) O;grind
  split
  .grind
  .rename_i f;have c:p+1<s.size:=by
    rcases aH (p+1) s.size with h|h
    .exact h
    .have a:=di (s:=s) (i:=p+1) O;grind
   grind
theorem Db(s:Bz)(p:Nat)(h:p<=s.size:=by omega):p<=(ej s p).2.1/\(ej s p).2.1<=s.size/\0<=(ej s p).1/\(ej s p).1<256:=by
 unfold ej;by_cases a:p<s.size
 .have c:=gI a;split
  .grind
  split
  .grind
  split
  .grind
  split
  .have:=adw s (p+1) O;omega
  grind
 .have b:=di (s:=s) (i:=p) a;grind
def KF(s:Bz)(p:Nat)(h:p<=s.size)(a:(ej s p).2.2=A0):p+1<=(ej s p).2.1:=by
 revert a;unfold ej;split
 .simp
 split
 .simp
 split
 .simp
 split
 .rename_i b;have d:p<s.size:=by
   rcases aH p s.size with h|h
   .exact h
   .have c:=di (s:=s) (i:=p) O;omega
  intro _;exact(adw s (p+1) O).1
 .simp
def ir(b:Nat)(w:A2)(s:Bz)(m:Br)(fr p l:Int)(k:Bool):Prop:=
 w.heap[b]?=S (B3 #[M s,m,A3 A5 fr,A3 A5 p,A3 A5 l,B5 k] 91 (0,0))
def dL(b:Nat)(w:A2)(k f t l n:Int)(x:Bz):Prop:=
 w.heap[b]?=S (B3 #[A3 A5 k,A3 A5 f,A3 A5 t,A3 A5 l,A3 A5 n,M x] 48 (0,0))
def gl(h:ir b w s m fr p l k):
  w.cell? ⟨b,0,Ax⟩=S (M s)/\w.cell? ⟨b,1,Ax⟩=S m/\w.cell? ⟨b,3,Ax⟩=S (A3 A5 p)/\w.cell? ⟨b,4,Ax⟩=S (A3 A5 l)/\w.cell? ⟨b,5,Ax⟩=S (B5 k)/\
  w.frozen? ⟨b,3,Ax⟩=A9/\w.frozen? ⟨b,4,Ax⟩=A9/\w.frozen? ⟨b,5,Ax⟩=A9:=by
 unfold ir at h;exact⟨by rw[au _ _ _ _ _ _ h];rfl,by rw[au _ _ _ _ _ _ h];rfl,by rw[au _ _ _ _ _ _ h];rfl,by rw[au _ _ _ _ _ _ h];rfl,by rw[au _ _ _ _ _ _ h];rfl,cD _ _ _ _ _ h,cD _ _ _ _ _ h,cD _ _ _ _ _ h⟩
def IA(h:ir b w s m fr p l k):w.cell? ⟨b,2,Ax⟩=S (A3 A5 fr)/\w.frozen? ⟨b,2,Ax⟩=A9:=by
 unfold ir at h;exact⟨by rw[au _ _ _ _ _ _ h];rfl,cD _ _ _ _ _ h⟩
def ir.setF(h:ir b w s m fr p l k)(x:Int):ir b (w.setCell ⟨b,2,Ax⟩ (A3 A5 x)) s m x p l k:=aI w b 2 _ _ _ h
def aE{k n:Int}{x:Bz}(h:dL b w k f t l n x):
  w.cell? ⟨b,0,Ax⟩=S (A3 A5 k)/\w.cell? ⟨b,1,Ax⟩=S (A3 A5 f)/\w.cell? ⟨b,2,Ax⟩=S (A3 A5 t)/\w.cell? ⟨b,3,Ax⟩=S (A3 A5 l)/\w.cell? ⟨b,4,Ax⟩=S (A3 A5 n)/\w.cell? ⟨b,5,Ax⟩=S (M x)/\
  (∀j,w.frozen? ⟨b,j,Ax⟩=A9):=by
 unfold dL at h;exact⟨by rw[au _ _ _ _ _ _ h];rfl,by rw[au _ _ _ _ _ _ h];rfl,by rw[au _ _ _ _ _ _ h];rfl,by rw[au _ _ _ _ _ _ h];rfl,by rw[au _ _ _ _ _ _ h];rfl,by rw[au _ _ _ _ _ _ h];rfl,λj=>cD _ _ _ _ _ h⟩
def ir.setP(h:ir b w s m fr p l k)(x:Int):ir b (w.setCell ⟨b,3,Ax⟩ (A3 A5 x)) s m fr x l k:=aI w b 3 _ _ _ h
def ir.setL(h:ir b w s m fr p l k)(x:Int):ir b (w.setCell ⟨b,4,Ax⟩ (A3 A5 x)) s m fr p x k:=aI w b 4 _ _ _ h
def ir.setK(h:ir b w s m fr p l k)(x:Bool):ir b (w.setCell ⟨b,5,Ax⟩ (B5 x)) s m fr p l x:=aI w b 5 _ _ _ h
def ir.other(h:ir b w s m fr p l k)(c:b≠a.block)(v:Br):ir b (w.setCell a v) s m fr p l k:=(az w a b v c).trans h
def ir.drewN(h:ir b w s m fr p l k)(n:Nat):ir b (w.drewN n) s m fr p l k:=h
def ir.below(h:ir b w s m fr p l k)(a:B1 B w w')(c:b<B):ir b w' s m fr p l k:=(a.block b c).trans h
def dL.other{k n:Int}{x:Bz}(h:dL b w k f t l n x)(c:b≠a.block)(v:Br):dL b (w.setCell a v) k f t l n x:=(az w a b v c).trans h
def dL.drewN{k n:Int}{x:Bz}(h:dL b w k f t l n x)(q:Nat):dL b (w.drewN q) k f t l n x:=h
def dL.below{k n:Int}{x:Bz}(h:dL b w k f t l n x)(a:B1 B w w')(c:b<B):dL b w' k f t l n x:=(a.block b c).trans h
def dL.setKind{k n:Int}{x:Bz}(h:dL b w k f t l n x)(a:Int):dL b (w.setCell ⟨b,0,Ax⟩ (A3 A5 a)) a f t l n x:=aI w b 0 _ _ _ h
def dL.setTo{k n:Int}{x:Bz}(h:dL b w k f t l n x)(a:Int):dL b (w.setCell ⟨b,2,Ax⟩ (A3 A5 a)) k f a l n x:=aI w b 2 _ _ _ h
def dL.setNum{k n:Int}{x:Bz}(h:dL b w k f t l n x)(a:Int):dL b (w.setCell ⟨b,4,Ax⟩ (A3 A5 a)) k f t l a x:=aI w b 4 _ _ _ h
def dL.setText{k n:Int}{x:Bz}(h:dL b w k f t l n x)(a:Bz):dL b (w.setCell ⟨b,5,Ax⟩ (M a)) k f t l n a:=aI w b 5 _ _ _ h
def bC(s:Bz):Nat->Nat->List Int->Bool×Nat×List Int
 |0,p,a=>(A9,p,a)
 |f+1,p,a=>if s.size<=p then(A9,p,a) else if ae s p=34 then(A0,p+1,a) else if ae s p=10 then(A9,p,a) else if ae s p=92 then
   (if(ej s (p+1)).2.2=A0 then bC s f (ej s (p+1)).2.1 (a++[(ej s (p+1)).1]) else(A9,(ej s (p+1)).2.1,a))
  else bC s f (p+1) (a++[ae s p])
theorem sE(s:Bz:=by omega):∀(f p:Nat)(a:List Int),p<=s.size->p<=(bC s f p a).2.1/\(bC s f p a).2.1<=s.size/\(bC s f p a).2.2.length<=Y a+(s.size-p)
 |0,p,a,h=>by simp[bC];omega
 |f+1,p,a,h=>by
  unfold bC;split
  .grind
  split
  .grind
  split
  .grind
  split
  .have e:=Db s (p+1);split
   .rename_i b;have:=sE s f (ej s (p+1)).2.1 (a++[(ej s (p+1)).1]) e.2.1;grind
   grind
  .have:=sE s f (p+1) (a++[ae s p]) O;grind
structure sD (b t:Nat) (w w':A2):Prop where
 os:w'.os=w.os
 tape:w'.tape=w.tape
 output:w'.output=w.output
 size:w.heap.size<=w'.heap.size
 block:∀k,k<w.heap.size->k≠b->k≠t->w'.heap[k]?=w.heap[k]?
def sD.refl(b t:Nat)(w:A2):sD b t w w:=⟨rfl,rfl,rfl,cJ,λ_ _ _ _=>rfl⟩
def sD.trans{t:Nat}{x:A2}(h:sD b t x y)(k:sD b t y z):sD b t x z:=
 ⟨k.os.trans h.os,k.tape.trans h.tape,k.output.trans h.output,aK h.size k.size,λe d a c=>(k.block e (gF d h.size) a c).trans (h.block e d a c)⟩
def sD.drewN{t:Nat}{x:A2}(h:sD b t x y)(n:Nat):sD b t x (y.drewN n):=⟨h.os,h.tape,h.output,h.size,h.block⟩
def sD.drew{t:Nat}{x:A2}(h:sD b t x y):sD b t x y.drew:=⟨h.os,h.tape,h.output,h.size,h.block⟩
def sD.setB{t:Nat}{x:A2}(h:sD b t x y)(i:Nat)(v:Br):sD b t x (y.setCell ⟨b,i,Ax⟩ v):=
 ⟨h.os,h.tape,h.output,by simpa [Ce] using h.size,λe d a c=>by rw[az _ _ _ _ a];exact h.block e d a c⟩
def sD.setT{t:Nat}{x:A2}(h:sD b t x y)(i:Nat)(v:Br):sD b t x (y.setCell ⟨t,i,Ax⟩ v):=
 ⟨h.os,h.tape,h.output,by simpa [Ce] using h.size,λe d c a=>by rw[az _ _ _ _ a];exact h.block e d c a⟩
def sD.below{t:Nat}{x:A2}(h:sD b t x y)(k:B1 x.heap.size y z):sD b t x z:=
 ⟨k.os.trans h.os,k.tape.trans h.tape,k.output.trans h.output,aK h.size k.size,λc a d e=>(k.block c a).trans (h.block c a d e)⟩
def sD.to{t:Nat}{x:A2}(h:sD b t x y)(c:base<=b)(ht:base<=t)(e:base<=x.heap.size):B1 base x y:=
 ⟨h.os,h.tape,h.output,h.size,λa d=>h.block a O O O⟩
def adx{c:List Oper}{a:Act}(i:o.guard=Ax)(s x:Operand)
  (q:o.op= .call {callee:= .builtin .append,args:=#[s,x],argTypes:=#[22,22]}) (base:Nat) (v:Br) (n:Nat) (l:List Int) (t:a.eval s=v)
  (r:w.ownsRow base 5 1 v n (B8 l)) (e:base<=w.heap.size) (hn:n<=100000) (b:List Int) (m:Nat) (j:Y b=m) (k:0<m) (p:m<=100) (cs:Array Br) (f:cs.toList=B8 b)
  (H:Nat) (u:a.eval x= B0 (S ⟨H,0,Ax⟩) m m) (d:w.heap.size=H)
  (h:∀g cap w1,w1.ownsRow base 5 1 (B0 (S ⟨g,0,Ax⟩) (n+m) cap) (n+m) (B8 (l++b))->B1 base w w1->wpList X ops Q c (a.put o.dst (B0 (S ⟨g,0,Ax⟩) (n+m) cap)) w1):
  wpList X ops Q (o::c) a (w.alloc (B3 cs 5)):=by
 subst d;exact nB i s x q base v n l t r e hn b m j k p cs f u h
def ag6(w:A2)(n:Nat)(a:Addr)(v:Br):((w.drewN n).setCell a v).heap.size=w.heap.size:=byS
def ath{size:Nat}(h:w.ownsRow base e size v n xs)(c:b<base)(q r:Nat)(x d:Br):((((w.drewN q).setCell ⟨b,3,Ax⟩ x).drewN r).setCell ⟨b,3,Ax⟩ d).ownsRow base e size v n xs:=by
 exact tJ (w:=((w.drewN q).setCell ⟨b,3,Ax⟩ x).drewN r) (a:=⟨b,3,Ax⟩) (tJ (w:=w.drewN q) (a:=⟨b,3,Ax⟩) h c x) c d
def GC(b:Nat)(w:A2):Nat:=match w.cell? ⟨b,3,Ax⟩ with|some (.int _ a)=>a.toNat|_=>0
def vA{p:Nat}(h:ir b w s m fr p l k):GC b w=p:=by
 rw[GC,(gl h).2.2.1];simp
def nJ(b t:Nat)(a:A2)(s:Bz)(m:Br)(fr:Int)(l f c:Int)(R:Bool×Nat×List Int):Prop:=
 if R.1=A0 then ir b a s m fr R.2.1 l A9/\dL t a 4 f 0 c 0 (gL R.2.2) else ir b a s m fr R.2.1 l A0/\dL t a 0 f 0 c 0 B4
theorem nJ.yes{t:Nat}{c:Int}{p:Nat}{a:List Int}(h:(A0,p,a)=R)(d:ir b w' s m fr p l A9)(e:dL t w' 4 f 0 c 0 (gL a)):nJ b t w' s m fr l f c R:=by
 subst h;unfold nJ;grind
theorem nJ.no{t:Nat}{c:Int}{p:Nat}{a:List Int}(h:(A9,p,a)=R)(d:ir b w' s m fr p l A0)(e:dL t w' 0 f 0 c 0 B4):nJ b t w' s m fr l f c R:=by
 subst h;unfold nJ;grind
def ady(p:Nat):((p+1:Nat):Int)=(p:Int)+1:=O
theorem DA(s:Bz)(bg:s.size<=70000)(b t:Nat)(w:A2)(m:Br)(p:Nat)(l f B:Int)(bk:p<s.size)(g:b≠t)(hS:ir b w s m fr p l A9)(ad:dL t w 0 f 0 B 0 B4):
  B2 X 119 #[E1 (S ⟨b,0,Ax⟩),E1 (S ⟨t,0,Ax⟩)] w λe w'=>e= A6 (B6 #[])/\sD b t w w'/\
   nJ b t w' s m fr l f B (bC s (s.size+1) (p+1) []):=by
 have⟨ao,L⟩:=aw (bC s (s.size+1) (p+1) []);rw[L];have x:=ah hS;have al:=ah ad;have⟨ap,ar,av,aL,a0,a1,a2,a3⟩:=gl hS;go_in;go_wp21
 go_loopw [4] (λbc wr=>∃(d q j:Nat) (i:List Int),ir b wr s m fr d l A9/\dL t wr 0 f 0 B 0 B4/\wr.ownsRow w.heap.size 5 1 bc q (B8 i)/\s.size<d+j/\d<=s.size/\q<=d/\Hid (bC s j d i=ao)/\sD b t w wr) (λ_ wr=>s.size-GC b wr)
 case atStart=>exact⟨p+1,0,s.size+1,[],hS.setP _,ad.other (dy g) _,dA _ _ _ _,O,O,O,aj L,(sD.refl b t w).setB _ _⟩
 case round=>
  obtain⟨d,q,j,i,h,k,y,bf,bl,bh,C,n⟩:=hrel;have⟨ap,ar,av,aL,a0,a1,a2,a3⟩:=gl h;have⟨bp,br,bs,bt,bv,bw,bx⟩:=aE k;have bn:=n.size;obtain⟨j,rfl⟩:∃z,j=z+1:=⟨j-1,O⟩;by_cases ak:d<s.size
  .have a9:=gI ak;have a7:=λw=>dx ak w;have c:=C.out;rw[bC,Ga]at c;have⟨u,a6⟩:=aw (ae s d);rw[a6]at a9 a7 c;by_cases G:u=34
   .subst G;rw[ab rfl]at c;have E:=aj c;rcases y.2 with⟨rfl,bj⟩|⟨z,F,bd,rfl,bo⟩
    .have a5:i=[]:=by have:=zD y;grind
     have a8:=zE;go_wp21
     go_quiet (fail)
     go_wp21
     go_quiet (fail)
     go_wp2;apply aD (iI rfl _ _ _) rfl;refine⟨rfl,(((n.drewN _).setB _ _).setT _ _).setT _ _,nJ.yes E (by rw[ady];exact(((h.drewN _).setP _).other g _).other g _) ?_⟩;rw[(aj a5).out];exact(((k.drewN _).other (dy g) _).setKind _).setText _
    .have a8:=λbb=>oF (tJ (w:=wr.drewN bb) (a:=⟨b,3,Ax⟩) y x (A3 A5 ((d:Int)+1)));go_wp21
     go_quiet (fail)
     go_wp21
     go_quiet (fail)
     go_wp2;apply aD (iI rfl _ _ _) rfl;exact⟨rfl,(((n.drewN _).setB _ _).setT _ _).setT _ _,nJ.yes E (by rw[ady];exact(((h.drewN _).setP _).other g _).other g _) ((((k.drewN _).other (dy g) _).setKind _).setText _)⟩
   rw[aa G]at c;by_cases H:u=10
   .subst H;rw[ab rfl]at c;go_wp21
    go_quiet (fail)
    go_wp21
    go_quiet (fail)
    go_wp2;apply aD (iI rfl _ _ _) rfl;exact⟨rfl,(n.drewN _).setB _ _,nJ.no (aj c) ((h.drewN _).setK _) ((k.drewN _).other (dy g) _)⟩
   rw[aa H]at c;by_cases K:u=92
   .subst K;rw[ab rfl]at c;have r:=KE s O (d+1) O;have af:=Db s (d+1);have ag:=KF s (d+1) O;rw[ady]at r;have⟨an,a4⟩:=aw (ej s (d+1));rw[a4]at r af ag c;obtain⟨am,e,ba⟩:=an;simp only at af ag c;unfold ag5 at r;simp only at r;cases ba
    .rw[aa I]at c;go_wp21
     go_quiet (fail)
     go_wp21
     go_quiet (fail)
     go_wp21
     go_quiet ((go_at_call 187;exact Ck (r _)))
     go_wp2;apply aD (iI rfl _ _ _) rfl;exact⟨rfl,(((((n.drewN _).setB _ _).drewN _).setB _ _).setB _ _),nJ.no (aj c) (((((h.drewN _).setP _).drewN _).setP _).setK _) (((((k.drewN _).other (dy g) _).drewN _).other (dy g) _).other (dy g) _)⟩
    .rw[ab rfl]at c;go_wp21
     go_quiet (fail)
     go_wp21
     go_quiet (fail)
     go_wp21
     go_quiet ((go_at_call 187;exact Ck (r _)))
     go_wp2_with (at_builtin;apply adx rfl (.tmp 100) (.tmp 102) rfl w.heap.size _ q i rfl (ath y x _ _ _ _) byS O [am] 1 rfl Z Z _ rfl wr.heap.size rfl byS;intro z F w1 A o);have v:=((((h.drewN _).setP _).drewN _).setP _).below o x;go_roundw
     case rel=>exact⟨e,q+1,j,i++[am],v,((((k.drewN _).other (dy g) _).drewN _).other (dy g) _).below o al,A,O,O,O,aj c,((((n.drewN _).setB _ _).drewN _).setB _ _).below o⟩
     case measure=>rw[vA v,vA h];omega
   rw[aa K]at c;go_wp21
   go_quiet (fail)
   go_wp21
   go_quiet (fail)
   go_wp2_with (at_builtin;apply adx rfl (.tmp 43) (.tmp 45) rfl w.heap.size _ q i rfl (tJ (a:=⟨b,3,Ax⟩) (w:=wr.drewN _) y x _) byS O [u] 1 rfl Z Z _ rfl wr.heap.size rfl (ag6 _ _ _ _);intro z F w1 A o);have v:ir b w1 s m fr ((d+1:Nat):Int) l A9:=by rw[ady];exact((h.drewN _).setP _).below o x
   go_roundw
   case rel=>exact⟨d+1,q+1,j,i++[u],v,((k.drewN _).other (dy g) _).below o al,A,O,O,O,aj c,((n.drewN _).setB _ _).below o⟩
   case measure=>rw[vA v,vA h];omega
  .have c:=C.out;rw[bC,ifp]at c;obtain rfl:d=s.size:=O;go_wp21
   go_quiet (fail)
   go_wp2;go_end0
   exact⟨rfl,(n.drewN _).setB _ _,nJ.no (aj c) ((h.drewN _).setK _) ((k.drewN _).other (dy g) _)⟩
def yp{x:A2}(h:w.grownBy x (S b))(v:Br)(f:w.heap.size<=a.block):w.grownBy (x.setCell a v) (S b):=
 ⟨h.os,h.tape,h.output,by simpa [Ce] using h.size,λe c d=>by rw[az _ _ _ _ O];exact h.block e c d⟩
def aos{x:A2}{t:Nat}(h:B1 w.heap.size w x)(k:sD b t x y)(ht:w.heap.size<=t):w.grownBy y (S b):=
 ⟨k.os.trans h.os,k.tape.trans h.tape,k.output.trans h.output,aK h.size k.size,λc a e=>(k.block c (gF a h.size) (λd=>e (by rw[d])) O).trans (h.block c a)⟩
open Go.Maps Go.WideMaps
def fG:Array Br:=#[M ⟨#[97,110,100]⟩,M ⟨#[98,114,101,97,107]⟩,M ⟨#[99,97,116,99,104]⟩,M ⟨#[99,111,110,115,116]⟩,M ⟨#[100,101,102,101,114]⟩,M ⟨#[101,108,105,102]⟩,M ⟨#[101,108,115,101]⟩,M ⟨#[102,97,108,115,101]⟩,M ⟨#[102,110]⟩,M ⟨#[102,111,114]⟩,M ⟨#[105,102]⟩,M ⟨#[105,110]⟩,M ⟨#[108,101,116]⟩,M ⟨#[110,101,120,116]⟩,M ⟨#[110,105,108]⟩,M ⟨#[110,111,116]⟩,M ⟨#[111,114]⟩,M ⟨#[114,101,116,117,114,110]⟩,M ⟨#[116,104,114,111,119]⟩,M ⟨#[116,114,117,101]⟩,M ⟨#[116,114,121]⟩,M ⟨#[119,104,105,108,101]⟩]
def mw(k:Nat):Bz:=match fG[k]? with|some (.string s)=>s|_=>B4
def ati(k:Nat)(a:k<22)(w:A2):(F1 136 (.agg fG) (A3 A5 (k:Int))).run X w= .ok (M (mw k)) w:=by
 iterate 22 (obtain _|k:=k;· kernel_rfl)
 omega
def KG:∀k:Fin 22,(mw k.val).size<=100:=Z
def zG{H:Type}:Nat->DataW H
 |0=> .map []
 |k+1=>(zG k).put (.string (mw k).data.toList) (.lit (.int .i64 (10+(k:Int))))
def ak2:Keyed X 9:=string_keyed underlying9
theorem rK{H:Type}(w:A2)(fr:Nat×Nat)(d:F0)(f:w.heap[0]?=S (.cells fG d fr)):
  B2 X 34 #[] w λe w'=>e= .returned (.map (S w.heap.size))/\w'.ownsMap X 9 (plainElem (H:=H) X 3) w.heap.size 22 (zG 22)/\B1 w.heap.size w w':=by
 have b:=ah f;have p:∀w:A2,(Instr.makeMap 88 (S (.int .i64 22))).run X w= .ok (.map (S w.heap.size)) (w.alloc (.map #[] 0)):=λw=>by rfl
 have h:(w.alloc (.map #[] 0)).heap[0]?=S (.cells fG d fr):=(dG w _ _ b).trans f;go_in;go_wp2_with (refine wJ rfl 136 _ rfl 0 rfl d _ fr _ h underlying136 rfl byR ?_);go_loopw [6] (λc wr=>∃a:Nat,a<=22/\c= .int .i64 a/\wr.ownsMap X 9 (plainElem (H:=H) X 3) w.heap.size a (zG a)/\B1 w.heap.size w wr) (λc _=>22-(D3 c).toNat)
 case atStart=>exact⟨0,O,rfl,World.ownsMap_made _ _ _ _,(ai _ _).alloc cJ _⟩
 case round=>
  obtain⟨a,o,rfl,k,g⟩:=hrel;by_cases b:a<22
  .have m:=λw=>ati a b w;have r:(mw a).size<=100:=KG ⟨a,b⟩;have j:keyOf X 9 (.string (mw a))=S (.string (mw a).data.toList):=keyOf_string_mk underlying9 py;have l:Hid (zG (H:=H) (a+1)=(zG a).put (.string (mw a).data.toList) (.lit (.int .i64 (10+(a:Int))))):=rfl;go_wp2_with (at_mapUpdate;refine wpList_mapUpdate_own _ rfl _ _ _ 88 rfl 9 3 ak2 underlying88 _ w.heap.size a _ rfl k py _ _ _ rfl rfl j _ [] (plainElem_int underlying3 (WalkArith.wf_i64 O)) ?_;intro w1 q i);go_roundw
   case rel=>exact⟨a+1,O,by go_num,by rw[l.out];omega,g.grown i g.size (λs n=>U)⟩
   case measure=>simp[D3];omega
  .obtain rfl:a=22:=O;go_wp2;go_ret
   simp_all
def DB:Array Br:=#[M ⟨#[]⟩,M ⟨#[43]⟩,M ⟨#[45]⟩,M ⟨#[42]⟩,M ⟨#[47]⟩,M ⟨#[47,47]⟩,M ⟨#[37]⟩,M ⟨#[38]⟩,M ⟨#[124]⟩,M ⟨#[126]⟩,M ⟨#[60,60]⟩,M ⟨#[62,62]⟩,M ⟨#[46,46]⟩,M ⟨#[61,61]⟩,M ⟨#[126,61]⟩,M ⟨#[60]⟩,M ⟨#[60,61]⟩,M ⟨#[62]⟩,M ⟨#[62,61]⟩]
def je:Array Br:=#[M ⟨#[40]⟩,M ⟨#[41]⟩,M ⟨#[123]⟩,M ⟨#[125]⟩,M ⟨#[91]⟩,M ⟨#[93]⟩,M ⟨#[44]⟩,M ⟨#[61]⟩,M ⟨#[46]⟩,M ⟨#[46,46,46]⟩,M ⟨#[35]⟩]
def ju:Array Br:=#[M ⟨#[46,46,46]⟩,M ⟨#[46,46]⟩,M ⟨#[46]⟩,M ⟨#[60,60]⟩,M ⟨#[60,61]⟩,M ⟨#[60]⟩,M ⟨#[62,62]⟩,M ⟨#[62,61]⟩,M ⟨#[62]⟩,M ⟨#[61,61]⟩,M ⟨#[61]⟩,M ⟨#[126,61]⟩,M ⟨#[126]⟩,M ⟨#[47,47]⟩,M ⟨#[47]⟩,M ⟨#[40]⟩,M ⟨#[41]⟩,M ⟨#[123]⟩,M ⟨#[125]⟩,M ⟨#[91]⟩,M ⟨#[93]⟩,M ⟨#[44]⟩,M ⟨#[59]⟩,M ⟨#[35]⟩,M ⟨#[43]⟩,M ⟨#[45]⟩,M ⟨#[42]⟩,M ⟨#[37]⟩,M ⟨#[38]⟩,M ⟨#[124]⟩]
def ak4:(#[M ⟨#[]⟩,M ⟨#[43]⟩,M ⟨#[45]⟩,M ⟨#[42]⟩,M ⟨#[47]⟩,M ⟨#[47,47]⟩,M ⟨#[37]⟩,M ⟨#[38]⟩,M ⟨#[124]⟩,M ⟨#[126]⟩,M ⟨#[60,60]⟩,M ⟨#[62,62]⟩,M ⟨#[46,46]⟩,M ⟨#[61,61]⟩,M ⟨#[126,61]⟩,M ⟨#[60]⟩,M ⟨#[60,61]⟩,M ⟨#[62]⟩,M ⟨#[62,61]⟩]:Array Br)=DB:=rfl
def ak5:(#[M ⟨#[40]⟩,M ⟨#[41]⟩,M ⟨#[123]⟩,M ⟨#[125]⟩,M ⟨#[91]⟩,M ⟨#[93]⟩,M ⟨#[44]⟩,M ⟨#[61]⟩,M ⟨#[46]⟩,M ⟨#[46,46,46]⟩,M ⟨#[35]⟩]:Array Br)=je:=rfl
def bq(V:Array Br)(k:Nat):Bz:=match V[k]? with|some (.string s)=>s|_=>B4
def aot:∀k:Fin 19,DB[k.val]?=S (M (bq DB k.val)):=by
 intro ⟨k,a⟩
 iterate 19 (obtain _|k:=k;· rfl)
 omega
def ag7:∀k:Fin 11,je[k.val]?=S (M (bq je k.val)):=by
 intro ⟨k,a⟩
 iterate 11 (obtain _|k:=k;· rfl)
 omega
def aby:∀k:Fin 30,ju[k.val]?=S (M (bq ju k.val)):=by
 intro ⟨k,a⟩
 iterate 30 (obtain _|k:=k;· rfl)
 omega
def Dc:∀k:Fin 22,fG[k.val]?=S (M (bq fG k.val)):=by
 intro ⟨k,a⟩
 iterate 22 (obtain _|k:=k;· rfl)
 omega
def zj(V:Array Br)(s:Bz):Nat->Nat->Option Nat
 |0,_=>Ax
 |f+1,k=>if((bq V k).toList==s.toList)=A0 then S k else zj V s f (k+1)
def yq(s:Bz):Int:=match zj DB s 18 1 with|some k=>60+(k:Int)|none=>(match zj je s 11 0 with|some k=>40+(k:Int)|none=>5)
def ru(w:A2):B2 X 70 #[] w λe w'=>e= A6 (B0 (S ⟨w.heap.size,0,Ax⟩) 22 22)/\w'=w.alloc (B3 fG 9):=by
 go_in;go_wp2;go_ret;exact rr
def vB(w:A2):B2 X 55 #[] w λe w'=>e= A6 (B0 (S ⟨w.heap.size,0,Ax⟩) 30 30)/\w'=w.alloc (B3 ju 9):=by
 go_in;go_wp2;go_ret;exact rr
theorem yr(s:Bz)(w:A2):B2 X 56 #[M s] w λe w'=>e= A6 (A3 A5 (yq s))/\B1 w.heap.size w w':=by
 go_in;go_wp21
 rw[ak4];have p:=ay w (B3 DB 9);have i:B1 w.heap.size w (w.alloc (B3 DB 9)):=(ai _ w).alloc cJ _;generalize w.alloc (B3 DB 9)=f at p i⊢;have⟨r,v⟩:=aw (zj DB s 18 1);have j:=aj v;go_loop [4] (λc=>∃a:Nat,1<=a/\a<=19/\c= A3 A5 a/\Hid (zj DB s (19-a) a=r)) (λc=>19-(D3 c).toNat)
 case atStart=>grind
 case round=>
  obtain⟨a,B,y,rfl,d⟩:=hrel;by_cases n:a<19
  .have m:f.cell? ⟨w.heap.size,a,Ax⟩=S (M (bq DB a)):=by rw[au _ _ _ _ _ _ p];exact aot ⟨a,n⟩
   have b:=d.out;rw[(O:19-a=(19-(a+1))+1)]at b;unfold zj at b;generalize bq DB a=h at m b;by_cases g:(h.toList==s.toList)=A0
   .rw[ab g]at b;go_wp2;go_ret;refine⟨?_,i⟩;rw[yq,j.out,<-(aj b).out];rfl
   .rw[aa g]at b;have k:=aj b;have z:(h.toList==s.toList)=A9:=U;go_wp2;go_round
    case rel=>grind
    case measure=>simp[D3];omega
  .obtain rfl:a=19:=O;have k:=aj d.out;go_wp21
   rw[ak5];have q:=ay f (B3 je 9);have l:B1 w.heap.size w (f.alloc (B3 je 9)):=i.alloc i.size _;generalize f.alloc (B3 je 9)=u at q l⊢;have⟨t,x⟩:=aw (zj je s 11 0);have o:=aj x;go_loop [26] (λc=>∃a:Nat,a<=11/\c= A3 A5 a/\Hid (zj je s (11-a) a=t)) (λc=>11-(D3 c).toNat)
   case atStart=>grind
   case round=>
    obtain⟨a,y,rfl,d⟩:=hrel;by_cases n:a<11
    .have m:u.cell? ⟨f.heap.size,a,Ax⟩=S (M (bq je a)):=by rw[au _ _ _ _ _ _ q];exact ag7 ⟨a,n⟩
     have b:=d.out;rw[(O:11-a=(11-(a+1))+1)]at b;unfold zj at b;generalize bq je a=h at m b;by_cases g:(h.toList==s.toList)=A0
     .rw[ab g]at b;go_wp2;go_ret;refine⟨?_,l⟩;rw[yq,j.out,<-k.out,o.out,<-(aj b).out];rfl
     .rw[aa g]at b;have A:=aj b;have z:(h.toList==s.toList)=A9:=U;go_wp2;go_round
      case rel=>grind
      case measure=>simp[D3];omega
    .obtain rfl:a=11:=O;go_wp2;go_ret;refine⟨?_,l⟩;rw[yq,j.out,<-k.out,o.out,<-(aj d.out).out];rfl
end Go.Proofs.YtiaechpcebhcdaaGreatDoor
namespace Go.Proofs
open Go.Shelf
def Tryz.lays103_ren:B7:=⟨λ|103=>225|210=>247|206=>114|n=>n,λ|9=>9|4=>4|24=>31|3=>3|n=>n,λ|n=>n⟩
def Tryz.lays103:Go.Proofs.Lays.n103 X Tryz.lays103_ren:={
 mixed:=by kernel_rfl
 f103:=Tryz.func225.trans (congrArg S (by kernel_rfl))
 f206:=Tryz.func114.trans (congrArg S (by kernel_rfl))
 f210:=Tryz.func247.trans (congrArg S (by kernel_rfl))
 t3:=underlying3
 a3:=D4
 z3:=C2
 v3:=zeroValue3
 t4:=underlying4
 a4:=isAgg4
 z4:=sizeOf4
 v4:=zeroValue4
 t9:=underlying9
 a9:=isAgg9
 z9:=sizeOf9
 v9:=zeroValue9
 t24:=underlying31
 a24:=isAgg31
 z24:=sizeOf31
 v24:=zeroValue31}
open Go.RowKit in
def Tryz.strings_CutPrefix(s p:ByteArray)(w:A2):
  B2 X 225 #[M s,M p] w λe w'=>e= A6 (B6 #[M ⟨(Lib.trimPrefix s.data.toList p.data.toList).toArray⟩,B5 (Lib.hasPrefix s.data.toList p.data.toList)])/\w'=w:=Any.strings_CutPrefix Tryz.lays103 s p w
def Tryz.lays104_ren:B7:=⟨λ|104=>240|211=>261|207=>274|n=>n,λ|9=>9|4=>4|24=>31|3=>3|n=>n,λ|n=>n⟩
def Tryz.lays104:Go.Proofs.Lays.n104 X Tryz.lays104_ren:={
 mixed:=by kernel_rfl
 f104:=Tryz.func240.trans (congrArg S (by kernel_rfl))
 f207:=Tryz.func274.trans (congrArg S (by kernel_rfl))
 f211:=Tryz.func261.trans (congrArg S (by kernel_rfl))
 t3:=underlying3
 a3:=D4
 z3:=C2
 v3:=zeroValue3
 t4:=underlying4
 a4:=isAgg4
 z4:=sizeOf4
 v4:=zeroValue4
 t9:=underlying9
 a9:=isAgg9
 z9:=sizeOf9
 v9:=zeroValue9
 t24:=underlying31
 a24:=isAgg31
 z24:=sizeOf31
 v24:=zeroValue31}
open Go.RowKit in
def Tryz.strings_CutSuffix(s p:ByteArray)(w:A2)(a:s.size<=9223372036854775807):
  B2 X 240 #[M s,M p] w λe w'=>e= A6 (B6 #[M ⟨(Lib.trimSuffix s.data.toList p.data.toList).toArray⟩,B5 (Lib.hasSuffix s.data.toList p.data.toList)])/\w'=w:=Any.strings_CutSuffix Tryz.lays104 s p w a
def Tryz.laysM316_ren:B7:=⟨λ|316=>222|n=>n,λ|9=>9|3=>3|4=>4|37=>22|0=>0|127=>266|5=>5|n=>n,λ|n=>n⟩
def Tryz.laysM316:Go.Proofs.LaysM.n316 X Tryz.laysM316_ren:={
 mixed:=by kernel_rfl
 f316:=Tryz.func222.trans (congrArg S (by kernel_rfl))
 t0:=underlying0
 a0:=isAgg0
 z0:=sizeOf0
 v0:=zeroValue0
 t3:=underlying3
 a3:=D4
 z3:=C2
 v3:=zeroValue3
 t4:=underlying4
 a4:=isAgg4
 z4:=sizeOf4
 v4:=zeroValue4
 t9:=underlying9
 a9:=isAgg9
 z9:=sizeOf9
 v9:=zeroValue9
 t37:=underlying22
 a37:=isAgg22
 z37:=sizeOf22
 v37:=zeroValue22
 t127:=underlying266
 a127:=isAgg266
 z127:=sizeOf266
 v127:=zeroValue266
 t5:=underlying5
 a5:=isAgg5
 z5:=sizeOf5
 v5:=zeroValue5
 i0:=by kernel_rfl
 i3:=by kernel_rfl
 i4:=by kernel_rfl
 i5:=by kernel_rfl
 i9:=by kernel_rfl
 i37:=by kernel_rfl
 i127:=by kernel_rfl}
open Go.RowKit in
def Tryz.stringslite_Clone(s:ByteArray)(w:A2)(a:s.size<=281474976710656):
  B2 X 222 #[M s] w λe w'=>e= A6 (M s)/\B1 w.heap.size w w':=Any.stringslite_Clone Tryz.laysM316 s w a
def Tryz.lays321_ren:B7:=⟨λ|321=>263|n=>n,λ|5=>5|n=>n,λ|n=>n⟩
def Tryz.lays321:Go.Proofs.Lays.n321 X Tryz.lays321_ren:={
 mixed:=by kernel_rfl
 f321:=Tryz.func263.trans (congrArg S (by kernel_rfl))
 t5:=underlying5
 a5:=isAgg5
 z5:=sizeOf5
 v5:=zeroValue5}
open Go.RowKit in
def Tryz.internal_strconv_lower(c:Int)(w:A2):
  B2 X 263 #[A3 Ed c] w λe w'=>e= A6 (A3 Ed (bits .or Ed c 32))/\w'=w:=Any.internal_strconv_lower Tryz.lays321 c w
def Tryz.laysC174_ren:B7:=⟨λ|174=>227|247=>250|245=>249|287=>248|279=>265|280=>266|281=>267|282=>268|321=>263|322=>264|316=>222|171=>276|205=>275|243=>280|246=>281|283=>282|284=>283|285=>284|286=>285|129=>287|317=>286|318=>288|319=>289|320=>290|337=>291|338=>292|n=>n,λ|9=>9|3=>3|2=>2|75=>249|85=>252|4=>4|167=>278|5=>5|53=>36|175=>250|46=>190|168=>280|37=>22|0=>0|210=>292|21=>21|127=>266|145=>307|143=>305|171=>311|173=>314|212=>317|51=>270|20=>20|213=>318|232=>321|233=>322|80=>39|n=>n,λ|15=>6|16=>7|17=>9|18=>10|19=>11|n=>n⟩
def Tryz.laysC174:Go.Proofs.LaysC.n174 X Tryz.laysC174_ren:={
 mixed:=by kernel_rfl
 f129:=Tryz.func287.trans (congrArg S (by kernel_rfl))
 f171:=Tryz.func276.trans (congrArg S (by kernel_rfl))
 f174:=Tryz.func227.trans (congrArg S (by kernel_rfl))
 f205:=Tryz.func275.trans (congrArg S (by kernel_rfl))
 f243:=Tryz.func280.trans (congrArg S (by kernel_rfl))
 f245:=Tryz.func249.trans (congrArg S (by kernel_rfl))
 f246:=Tryz.func281.trans (congrArg S (by kernel_rfl))
 f247:=Tryz.func250.trans (congrArg S (by kernel_rfl))
 f279:=Tryz.func265.trans (congrArg S (by kernel_rfl))
 f280:=Tryz.func266.trans (congrArg S (by kernel_rfl))
 f281:=Tryz.func267.trans (congrArg S (by kernel_rfl))
 f282:=Tryz.func268.trans (congrArg S (by kernel_rfl))
 f283:=Tryz.func282.trans (congrArg S (by kernel_rfl))
 f284:=Tryz.func283.trans (congrArg S (by kernel_rfl))
 f285:=Tryz.func284.trans (congrArg S (by kernel_rfl))
 f286:=Tryz.func285.trans (congrArg S (by kernel_rfl))
 f287:=Tryz.func248.trans (congrArg S (by kernel_rfl))
 f316:=Tryz.func222.trans (congrArg S (by kernel_rfl))
 f317:=Tryz.func286.trans (congrArg S (by kernel_rfl))
 f318:=Tryz.func288.trans (congrArg S (by kernel_rfl))
 f319:=Tryz.func289.trans (congrArg S (by kernel_rfl))
 f320:=Tryz.func290.trans (congrArg S (by kernel_rfl))
 f321:=Tryz.func263.trans (congrArg S (by kernel_rfl))
 f322:=Tryz.func264.trans (congrArg S (by kernel_rfl))
 f337:=Tryz.func291.trans (congrArg S (by kernel_rfl))
 f338:=Tryz.func292.trans (congrArg S (by kernel_rfl))
 t0:=underlying0
 a0:=isAgg0
 z0:=sizeOf0
 v0:=zeroValue0
 t2:=underlying2
 a2:=isAgg2
 z2:=sizeOf2
 v2:=zeroValue2
 t3:=underlying3
 a3:=D4
 z3:=C2
 v3:=zeroValue3
 t4:=underlying4
 a4:=isAgg4
 z4:=sizeOf4
 v4:=zeroValue4
 t5:=underlying5
 a5:=isAgg5
 z5:=sizeOf5
 v5:=zeroValue5
 t9:=underlying9
 a9:=isAgg9
 z9:=sizeOf9
 v9:=zeroValue9
 t20:=underlying20
 a20:=isAgg20
 z20:=sizeOf20
 v20:=zeroValue20
 t21:=underlying21
 a21:=isAgg21
 z21:=sizeOf21
 v21:=zeroValue21
 t37:=underlying22
 a37:=isAgg22
 z37:=sizeOf22
 v37:=zeroValue22
 t46:=underlying190
 a46:=isAgg190
 z46:=sizeOf190
 v46:=zeroValue190
 t51:=underlying270
 a51:=isAgg270
 z51:=sizeOf270
 v51:=zeroValue270
 t53:=underlying36
 a53:=isAgg36
 z53:=sizeOf36
 v53:=zeroValue36
 t75:=underlying249
 a75:=isAgg249
 z75:=sizeOf249
 v75:=zeroValue249
 t85:=underlying252
 a85:=isAgg252
 z85:=sizeOf252
 v85:=zeroValue252
 t127:=underlying266
 a127:=isAgg266
 z127:=sizeOf266
 v127:=zeroValue266
 t143:=underlying305
 a143:=isAgg305
 z143:=sizeOf305
 v143:=zeroValue305
 t145:=underlying307
 a145:=isAgg307
 z145:=sizeOf307
 v145:=zeroValue307
 t167:=underlying278
 a167:=isAgg278
 z167:=sizeOf278
 v167:=zeroValue278
 t168:=underlying280
 a168:=isAgg280
 z168:=sizeOf280
 v168:=zeroValue280
 t171:=underlying311
 a171:=isAgg311
 z171:=sizeOf311
 v171:=zeroValue311
 t173:=underlying314
 a173:=isAgg314
 z173:=sizeOf314
 v173:=zeroValue314
 t175:=underlying250
 a175:=isAgg250
 z175:=sizeOf250
 v175:=zeroValue250
 t210:=underlying292
 a210:=isAgg292
 z210:=sizeOf292
 v210:=zeroValue292
 t212:=underlying317
 a212:=isAgg317
 z212:=sizeOf317
 v212:=zeroValue317
 t213:=underlying318
 a213:=isAgg318
 z213:=sizeOf318
 t232:=underlying321
 a232:=isAgg321
 z232:=sizeOf321
 v232:=zeroValue321
 t233:=underlying322
 a233:=isAgg322
 z233:=sizeOf322
 v233:=zeroValue322
 g15:=by kernel_rfl
 g16:=by kernel_rfl
 g17:=by kernel_rfl
 g18:=by kernel_rfl
 g19:=by kernel_rfl
 t80:=underlying39
 a80:=isAgg39
 z80:=sizeOf39
 v80:=zeroValue39
 i0:=by kernel_rfl
 i2:=by kernel_rfl
 i3:=by kernel_rfl
 i4:=by kernel_rfl
 i5:=by kernel_rfl
 i9:=by kernel_rfl
 i20:=by kernel_rfl
 i21:=by kernel_rfl
 i37:=by kernel_rfl
 i46:=by kernel_rfl
 i51:=by kernel_rfl
 i53:=by kernel_rfl
 i75:=by kernel_rfl
 i80:=by kernel_rfl
 i85:=by kernel_rfl
 i127:=by kernel_rfl
 i143:=by kernel_rfl
 i145:=by kernel_rfl
 i167:=by kernel_rfl
 i168:=by kernel_rfl
 i171:=by kernel_rfl
 i173:=by kernel_rfl
 i175:=by kernel_rfl
 i210:=by kernel_rfl
 i212:=by kernel_rfl
 i232:=by kernel_rfl
 i233:=by kernel_rfl
 m15:=by kernel_rfl
 m16:=by kernel_rfl
 m17:=by kernel_rfl
 m18:=by kernel_rfl
 m19:=by kernel_rfl
 c0:=by kernel_rfl
 c2:=by kernel_rfl
 c3:=by kernel_rfl
 c4:=by kernel_rfl
 c5:=by kernel_rfl
 c9:=by kernel_rfl
 c20:=by kernel_rfl
 c21:=by kernel_rfl
 c37:=by kernel_rfl
 c46:=by kernel_rfl
 c51:=by kernel_rfl
 c53:=by kernel_rfl
 c75:=by kernel_rfl
 c80:=by kernel_rfl
 c85:=by kernel_rfl
 c127:=by kernel_rfl
 c143:=by kernel_rfl
 c145:=by kernel_rfl
 c167:=by kernel_rfl
 c168:=by kernel_rfl
 c171:=by kernel_rfl
 c173:=by kernel_rfl
 c175:=by kernel_rfl
 c210:=by kernel_rfl
 c212:=by kernel_rfl
 c213:=by kernel_rfl
 c232:=by kernel_rfl
 c233:=by kernel_rfl}
open Go.RowKit in
def Tryz.strconv_ParseInt_10_at64_ok(s:ByteArray)(a:s.size<=9223372036854775806)(v:Int)(h:Lib.parseIntB 64 s.data.toList= .ok v)(w:A2):
  B2 X 227 #[M s,A3 A5 10,A3 A5 64] w λe w'=>e= A6 (B6 #[A3 A5 v,G0])/\(w'=w\/∃t,w'=Lib.bytesWorld w 5 t):=Any.strconv_ParseInt_10_at64_ok Tryz.laysC174 s a v h w
open Go.RowKit in
def Tryz.strconv_ParseInt_10_at64_syntax(s:ByteArray)(c:s.size<=281474976710656)(h:Lib.parseIntB 64 s.data.toList= .«syntax»)(a:Br)(w:A2)(d:w.cell? ⟨6,0,Ax⟩=S a)(b:a= G0\/∃g f,a= G3 g f):
  B2 X 227 #[M s,A3 A5 10,A3 A5 64] w λe w'=>∃N,e= A6 (B6 #[A3 A5 (0),G3 280 (E1 (S ⟨N,0,Ax⟩))])/\w.heap.size<=N/\w'.heap[N]?=S (B3 #[M ⟨#[80,97,114,115,101,73,110,116]⟩,M s,a] 292 (0,0))/\B1 w.heap.size w w':=Any.strconv_ParseInt_10_at64_syntax Tryz.laysC174 s c h a w d b
open Go.RowKit in
def Tryz.strconv_ParseInt_10_at64_range(s:ByteArray)(c:s.size<=281474976710656)(h:Lib.parseIntB 64 s.data.toList= .range)(a:Br)(w:A2)(d:w.cell? ⟨7,0,Ax⟩=S a)(b:a= G0\/∃g f,a= G3 g f):
  B2 X 227 #[M s,A3 A5 10,A3 A5 64] w λe w'=>∃N,e= A6 (B6 #[A3 A5 (Lib.intSat 64 s.data.toList),G3 280 (E1 (S ⟨N,0,Ax⟩))])/\w.heap.size<=N/\w'.heap[N]?=S (B3 #[M ⟨#[80,97,114,115,101,73,110,116]⟩,M s,a] 292 (0,0))/\B1 w.heap.size w w':=Any.strconv_ParseInt_10_at64_range Tryz.laysC174 s c h a w d b
def Tryz.lays99_ren:B7:=⟨λ|99=>75|206=>114|n=>n,λ|9=>9|4=>4|3=>3|n=>n,λ|n=>n⟩
def Tryz.lays99:Go.Proofs.Lays.n99 X Tryz.lays99_ren:={
 mixed:=by kernel_rfl
 f99:=Tryz.func75.trans (congrArg S (by kernel_rfl))
 f206:=Tryz.func114.trans (congrArg S (by kernel_rfl))
 t3:=underlying3
 a3:=D4
 z3:=C2
 v3:=zeroValue3
 t4:=underlying4
 a4:=isAgg4
 z4:=sizeOf4
 v4:=zeroValue4
 t9:=underlying9
 a9:=isAgg9
 z9:=sizeOf9
 v9:=zeroValue9}
open Go.RowKit Go.Lib in
def Tryz.strings_HasPrefix(s p:ByteArray)(w:A2):
  B2 X 75 #[M s,M p] w λe w'=>e= A6 (B5 (Lib.hasPrefix s.data.toList p.data.toList))/\w'=w:=Any.strings_HasPrefix Tryz.lays99 s p w
def Tryz.lays157_ren:B7:=⟨λ|157=>239|229=>259|199=>260|261=>273|311=>278|312=>279|n=>n,λ|9=>9|31=>97|3=>3|5=>5|4=>4|119=>275|0=>0|40=>277|152=>286|21=>21|154=>288|51=>270|141=>290|196=>297|193=>294|198=>300|49=>298|194=>295|201=>303|226=>308|46=>190|227=>309|n=>n,λ|0=>4|6=>5|n=>n⟩
def Tryz.lays157:Go.Proofs.Lays.n157 X Tryz.lays157_ren:={
 mixed:=by kernel_rfl
 f157:=Tryz.func239.trans (congrArg S (by kernel_rfl))
 f199:=Tryz.func260.trans (congrArg S (by kernel_rfl))
 f229:=Tryz.func259.trans (congrArg S (by kernel_rfl))
 f261:=Tryz.func273.trans (congrArg S (by kernel_rfl))
 f311:=Tryz.func278.trans (congrArg S (by kernel_rfl))
 f312:=Tryz.func279.trans (congrArg S (by kernel_rfl))
 t0:=underlying0
 a0:=isAgg0
 z0:=sizeOf0
 v0:=zeroValue0
 t3:=underlying3
 a3:=D4
 z3:=C2
 v3:=zeroValue3
 t4:=underlying4
 a4:=isAgg4
 z4:=sizeOf4
 v4:=zeroValue4
 t5:=underlying5
 a5:=isAgg5
 z5:=sizeOf5
 v5:=zeroValue5
 t9:=underlying9
 a9:=isAgg9
 z9:=sizeOf9
 v9:=zeroValue9
 t21:=underlying21
 a21:=isAgg21
 z21:=sizeOf21
 v21:=zeroValue21
 t31:=underlying97
 a31:=isAgg97
 z31:=sizeOf97
 v31:=zeroValue97
 t40:=underlying277
 a40:=isAgg277
 z40:=sizeOf277
 v40:=zeroValue277
 t46:=underlying190
 a46:=isAgg190
 z46:=sizeOf190
 v46:=zeroValue190
 t49:=underlying298
 a49:=isAgg298
 z49:=sizeOf298
 v49:=zeroValue298
 t51:=underlying270
 a51:=isAgg270
 z51:=sizeOf270
 v51:=zeroValue270
 t119:=underlying275
 a119:=isAgg275
 z119:=sizeOf275
 t141:=underlying290
 a141:=isAgg290
 z141:=sizeOf290
 v141:=zeroValue290
 t152:=underlying286
 a152:=isAgg286
 z152:=sizeOf286
 v152:=zeroValue286
 t154:=underlying288
 a154:=isAgg288
 z154:=sizeOf288
 v154:=zeroValue288
 t193:=underlying294
 a193:=isAgg294
 z193:=sizeOf294
 v193:=zeroValue294
 t194:=underlying295
 a194:=isAgg295
 z194:=sizeOf295
 v194:=zeroValue295
 t196:=underlying297
 a196:=isAgg297
 z196:=sizeOf297
 v196:=zeroValue297
 t198:=underlying300
 a198:=isAgg300
 z198:=sizeOf300
 v198:=zeroValue300
 t201:=underlying303
 a201:=isAgg303
 z201:=sizeOf303
 v201:=zeroValue303
 t226:=underlying308
 a226:=isAgg308
 z226:=sizeOf308
 v226:=zeroValue308
 t227:=underlying309
 a227:=isAgg309
 z227:=sizeOf309
 v227:=zeroValue309
 g0:=by kernel_rfl
 g6:=by kernel_rfl}
open Go.RowKit Go.Lib in
def Tryz.strings_Fields(s:ByteArray)(w:A2)(c:s.size<4294967281)(a:∀(j:Nat) b,s.data.toList[j]?=S b->b.toNat<128)(d:Lib.TabIs X w "strings.asciiSpace" Ed Lib.asciiSpaceTab):
  B2 X 239 #[M s] w λe w'=>
   e= A6 (B0 (S ⟨w.heap.size,0,Ax⟩) (Y (Lib.fields s.data.toList)) (Y (Lib.fields s.data.toList)))/\w'=w.alloc (B3 ((Lib.fields s.data.toList).map λl=>G2 ⟨l.toArray⟩).toArray 9):=Any.strings_Fields Tryz.lays157 (by kernel_rfl) (by kernel_rfl) s w c a d
end Go.Proofs
namespace Go.Proofs.YtiaechpcebhcdaaGreatDoor
variable{B b base c e g i n:Nat}{Q:Exit->Act->World->Prop}{R:Bool×Nat×List Int}{T s:Bz}{W W' w w' w0 y z:World}{a:Addr}{f fr l p t:Int}{k:Bool}{lo r:List Int}{m v vt:Value}{o:Oper}{ops:Array Oper}{xs:List Value}
def nD(t:Int):Bool:=decide (t=25\/t=50\/t=62\/t=69)
def jm(t:Int):Bool:=decide (t=10\/t=26\/60<t)
def fC(t:Int):Bool:=decide (t=1\/t=2\/t=3\/t=4\/t=24\/t=29\/t=17\/t=49\/t=18\/t=40\/t=42)||nD t
def jv(t:Int):List Int×Bool:=if t=22 then([t,1,104,103],A0) else if t=13 then([t,1,47,119],A0) else if t=18 then([t,1,133],A0) else if t=20 then([t,119,132,105],A0) else if t=31 then([t,119,132],A0) else if t=19 then([t,1,106],A0) else if t=11 then([t],A0) else if t=23 then([t],A0) else if t=27 then([t,108],A0) else if t=30 then([t,132,12,1,109,132],A0) else if t=28 then([t,119],A0) else if t=14 then([t,116],A0) else if t=42 then([132],A0) else if t=1 then([t,110],A0) else if t=40 then([t,119,41,112],A0) else([],A9)
def ry(t a c:Int):List Int:=if t=48 then [t,1,a] else if t=44 then [t,119,45,a] else if t=40 then [t,123,41,c] else []
def KH(t:Int):List Int×Bool:=if nD t=A0 then([t,120],A0) else if t=1 then([t,122],A0) else if t=40 then([t,119,41,122],A0) else if t=42 then([t,129,43],A0) else if t=18 then([t,133],A0) else([t],fC t)
def afr(t:Int):List Int×Bool:=if t=5 then([t,100],A0) else if(jv t).2=A0 then((jv t).1++[101],A0) else([],A0)
def ak6(t:Int):List Int×Bool:=if t=5 then([t,100],A0) else([],A0)
def aro(t:Int):List Int×Bool:=([40,126,41,132],decide (t=40))
def ak7(t:Int):List Int×Bool:=if t=47 then([t,124],A0) else([],A0)
def ak8(t:Int):List Int×Bool:=if t=46 then([t,1,104],A0) else([],A0)
def ag8(t:Int):List Int×Bool:=if t=15 then([t,119,132,105],A0) else if t=16 then([t,132],A0) else([],A0)
def ak9(t:Int):List Int×Bool:=if t=47 then([t,119,46,119,107,132],A0) else([104,21,119,132],decide (t=46\/t=21))
def ala(t:Int):List Int×Bool:=if t=46 then([t,119],A0) else([],A0)
def alb(t:Int):List Int×Bool:=if fC t=A0 then([124],A0) else([],A0)
def alc(t:Int):List Int×Bool:=if t=46 then([t,1],A0) else([],A0)
def ag9(t:Int):List Int×Bool:=if t=48 then([t,1,110],A0) else if t=44 then([t,119,45,110],A0) else if t=40 then([t,123,41,111],A0) else if t=46 then([t,113],A0) else if t=47 then([t,124],A0) else([],A9)
def aou(t:Int):List Int×Bool:=if t=48 then([t,1,110],A0) else if t=44 then([t,119,45,110],A0) else if t=40 then([t,123,41,111],A0) else([],A0)
def aov(t:Int):List Int×Bool:=if t=48 then([t,1,110],A0) else if t=44 then([t,119,45,110],A0) else if t=40 then([t,123,41,111],A0) else([],A9)
def aha(t:Int):List Int×Bool:=if t=1 then([t,114],A0) else if t=40 then([t,119,41,115],A0) else([],A9)
def ahb(t:Int):List Int×Bool:=if t=48 then([t,1,114],A0) else if t=44 then([t,119,45,114],A0) else if t=40 then([t,123,41,115],A0) else if t=46 then([t,113],A0) else if t=47 then([t,124],A0) else([],A9)
def aow(t:Int):List Int×Bool:=if t=48 then([t,1,114],A0) else if t=44 then([t,119,45,114],A0) else if t=40 then([t,123,41,115],A0) else([],A9)
def ahc(t:Int):List Int×Bool:=if t=1 then([t,117],A0) else if t=40 then([t,119,41,117],A0) else([],A9)
def aox(t:Int):List Int×Bool:=if t=48 then([t,1,117],A0) else if t=44 then([t,119,45,117],A0) else if t=40 then([t,123,41,118],A0) else([],A9)
def aoy(t:Int):List Int×Bool:=if t=48 then([t,1,117],A0) else if t=44 then([t,119,45,117],A0) else if t=40 then([t,123,41,118],A0) else([],A0)
def arp(t:Int):List Int×Bool:=([120,121],fC t)
def atj(t:Int):List Int×Bool:=KH t
def ald(t:Int):List Int×Bool:=if jm t=A0 then([t,119],A0) else([],A0)
def ale(t:Int):List Int×Bool:=(ry t 122 122,A0)
def alf(t:Int):List Int×Bool:=if fC t=A0 then([124],A0) else([],A0)
def arq(t:Int):List Int×Bool:=([119,125],fC t)
def alg(t:Int):List Int×Bool:=if t=46 then([t,119,125],A0) else([],A0)
def ahd(t:Int):List Int×Bool:=if t=1 then([t,127],A0) else if t=49 then([t],A0) else([],A0)
def alh(t:Int):List Int×Bool:=if t=46 then([t,128],A0) else([],A0)
def ahe(t:Int):List Int×Bool:=if t=1 then([t,127],A0) else if t=49 then([t],A0) else([],A9)
def ali(t:Int):List Int×Bool:=if fC t=A0 then([131,130],A0) else if t=48 then([131,130],A0) else if t=44 then([131,130],A0) else([],A0)
def alj(t:Int):List Int×Bool:=if t=46 then([t,129],A0) else([],A0)
def ahf(t:Int):List Int×Bool:=if t=48 then([t,1,47,119],A0) else if t=44 then([t,119,45,47,119],A0) else([119],fC t)
def ars(t:Int):List Int×Bool:=([42,100,43],decide (t=42))
def art(t:Int):List Int×Bool:=([40,126,41,132],decide (t=40))
def xE(s t:Int):List Int×Bool:=
 if s=100 then afr t else if s=101 then ak6 t else if s=102 then aro t else if s=103 then ak7 t else if s=104 then ak8 t else if s=105 then ag8 t else if s=106 then ak9 t else if s=107 then ala t else if s=108 then alb t else if s=109 then alc t else if s=110 then ag9 t else if s=111 then aou t else if s=112 then aov t else if s=113 then aha t else if s=114 then ahb t else if s=115 then aow t else if s=116 then ahc t else if s=117 then aox t else if s=118 then aoy t else if s=119 then arp t else if s=120 then atj t else if s=121 then ald t else if s=122 then ale t else if s=123 then alf t else if s=124 then arq t else if s=125 then alg t else if s=126 then ahd t else if s=127 then alh t else if s=128 then ahe t else if s=129 then ali t else if s=130 then alj t else if s=131 then ahf t else if s=132 then ars t else art t
def fi:Nat->List Int->Int->Nat->Option (List Int×Option Bool×Nat)
 |0,_,_,_=>Ax
 |_+1,[],_,n=>S ([],Ax,n)
 |f+1,s::r,t,n=>if s<100 then S (r,S (decide (s=t)),n) else if(xE s t).2=A0 then fi f ((xE s t).1++r) t (n+(xE s t).1.length) else S (r,S A9,n)
def feedL:List Int->Int->List Int×Bool
 |[],_=>([],A9)
 |s::r,t=>if s<100 then(r,decide (s=t)) else if(xE s t).1=[]/\(xE s t).2=A0 then feedL r t else match fi 8 [s] t 0 with|some (lo,some b,_)=>(lo++r,b)|_=>([],A9)
def alk(s t:Int):Bool:=
 (xE s t).1.all (λa=>decide (a<=133))&&(decide ((xE s t).1.length<=7)&&
 (if(xE s t).1=[]/\(xE s t).2=A0 then A0 else match fi 8 [s] t 0 with|some (_,some _,n)=>decide (n<=20)|_=>A9))
def alm:((F2 34).all λs=>(F2 79).all λt=>alk ((s:Int)+100) (t:Int))=A0:=by rfl
theorem ahg{s:Int}(b:100<=s)(c:s<=133)(e:0<=t)(f:t<=78):alk s t=A0:=by
 have a:=List.all_eq_true.1 alm (s-100).toNat U;have d:=List.all_eq_true.1 a t.toNat U;grind
theorem adz{s:Int}(b:100<=s)(c:s<=133)(d:0<=t)(e:t<=78):(∀x∈(xE s t).1,x<=133)/\(xE s t).1.length<=7:=by
 have a:=ahg b c d e;unfold alk at a;grind
theorem vC{s:Int}(c:100<=s)(d:s<=133)(e:0<=t)(f:t<=78)(hn:¬((xE s t).1=[]/\(xE s t).2=A0)):∃lo b n,fi 8 [s] t 0=S (lo,S b,n)/\n<=20:=by
 have a:=ahg c d e f;unfold alk at a;grind
def mA{s:Int}(a:100<=s)(hn:(xE s t).1=[]/\(xE s t).2=A0):feedL (s::r) t=feedL r t:=by
 rw[feedL,Ga,ab hn]
def mC{s:Int}{b:Bool}(c:100<=s)(hn:¬((xE s t).1=[]/\(xE s t).2=A0))(a:fi 8 [s] t 0=S (lo,S b,n)):feedL (s::r) t=(lo++r,b):=by
 rw[feedL,Ga,aa hn,a]
def jw{s:Int}(a:s<100):feedL (s::r) t=(r,decide (s=t)):=by
 rw[feedL,ab a]
theorem lI{s:Int}{b:Option Bool}{f m:Nat}(h:fi (f+1) (s::r) t n=S (lo,b,m))(a:100<=s):((xE s t).2=A0/\fi f ((xE s t).1++r) t (n+(xE s t).1.length)=S (lo,b,m))\/((xE s t).2=A9/\lo=r/\b=S A9/\m=n):=by
 rw[fi,Ga]at h;grind
theorem sF{s:Int}{b:Option Bool}{f m:Nat}(h:fi (f+1) (s::r) t n=S (lo,b,m))(a:s<100):lo=r/\b=S (decide (s=t))/\m=n:=by
 rw[fi,ab a]at h;grind
def yu(st:List Int):Prop:=∀a∈st,a<=133
theorem adA:∀{f:Nat}{st:List Int}{t:Int}{n:Nat}{lo:List Int}{b:Option Bool}{m:Nat},yu st->1<=t->t<=78->fi f st t n=S (lo,b,m)->yu lo
 |0,_,_,_,_,_,_,_,_,_,h=>by simp[fi]at h
 |f+1,[],t,n,lo,b,m,c,_,_,h=>by
  simp only[fi,iL,pA]at h;grind
 |f+1,s::r,t,n,lo,b,m,c,j,g,h=>by
  have e:yu r:=λa hx=>c a (dC _ hx);by_cases i:s<100
  .rw[(sF h i).1];exact e
  .rcases lI h O with⟨_,d⟩|⟨_,d,_⟩
   .refine adA (λa hx=>?_) j g d;rcases List.mem_append.1 hx with hx|hx
    .exact(adz O (c s (bH ..)) O g).1 a hx
    .exact e a hx
   grind
theorem nE:∀{st:List Int}{t:Int},yu st->1<=t->t<=78->yu (feedL st t).1
 |[],t,a,_,_=>by rw[feedL];exact a
 |s::r,t,a,g,e=>by
  have d:yu r:=λb hx=>a b (dC _ hx);by_cases h:s<100
  .rw[jw h];exact d
  .have i:=a s (bH ..);by_cases c:(xE s t).1=[]/\(xE s t).2=A0
   .rw[mA O c];exact nE d g e
   .obtain⟨l,j,m,f,_⟩:=vC O i O e c;rw[mC O c f];intro b hx;rcases List.mem_append.1 hx with hx|hx
    .refine adA (st:=[s]) ?_ g e f b hx;intro n k;grind
    .exact d b hx
open Go.RowKit
structure Nd where
 k:Int
 f:Int
 t:Int
 l:Int
 op:Int
 n:Int
 x:Bz
 nm:List Bz
 ks:List Int
def dv(W:A2)(v:Br)(l:List Bz):Prop:=
 (l=[]/\∃a c,v= B0 a 0 c)\/∃a c,v= B0 (S a) (Y l) c/\∀b s,l[b]?=S s->W.cell? (a.add b)=S (M s)
def dz(W:A2)(v:Br)(l:List Int):Prop:=
 (l=[]/\∃a c,v= B0 a 0 c)\/∃a c,v= B0 (S a) (Y l) c/\∀b z,l[b]?=S z->W.cell? (a.add b)=S (A3 A5 z)
structure abz (W:A2) (a:Addr) (N:Nd) (vn vk:Br):Prop where
 c0:W.cell? a=S (.int .i64 N.k)
 c1:W.cell? ⟨a.block,a.off+1,Ax⟩=S (.int .i64 N.f)
 c2:W.cell? ⟨a.block,a.off+2,Ax⟩=S (.int .i64 N.t)
 c3:W.cell? ⟨a.block,a.off+3,Ax⟩=S (.int .i64 N.l)
 c4:W.cell? ⟨a.block,a.off+4,Ax⟩=S (.int .i64 N.op)
 c5:W.cell? ⟨a.block,a.off+5,Ax⟩=S (.int .i64 N.n)
 c6:W.cell? ⟨a.block,a.off+6,Ax⟩=S (.string N.x)
 c7:W.cell? ⟨a.block,a.off+7,Ax⟩=S vn
 c8:W.cell? ⟨a.block,a.off+8,Ax⟩=S vk
 hn:dv W vn N.nm
 hk:dz W vk N.ks
def fj(W:A2)(v:Br)(ns:List Nd):Prop:=
 (ns=[]/\∃a c,v= B0 a 0 c)\/∃a c,v= B0 (S a) (Y ns) c/\∀i b,ns[i]?=S b->∃e d,abz W (a.add (i*9)) b e d
def Dd(h:W.cell? a=S v):a.block<W.heap.size:=by
 unfold World.cell? at h;rcases aH a.block W.heap.size with g|g
 .exact g
 .rw[adp g]at h;simp at h
def aq(b:B1 W.heap.size W W')(h:W.cell? a=S v):W'.cell? a=S v:=by
 rw[<-h];unfold World.cell?;rw[b.block _ (Dd h)]
def dv.below{l:List Bz}(h:dv W v l)(e:B1 W.heap.size W W'):dv W' v l:=by
 rcases h with h|⟨a,b,c,d⟩
 .exact .inl h
 .exact .inr ⟨a,b,c,λg i f=>aq e (d g i f)⟩
def dz.below{l:List Int}(h:dz W v l)(e:B1 W.heap.size W W'):dz W' v l:=by
 rcases h with h|⟨a,b,c,d⟩
 .exact .inl h
 .exact .inr ⟨a,b,c,λg i f=>aq e (d g i f)⟩
def abz.below{N:Nd}{vn vk:Br}(h:abz W a N vn vk)(b:B1 W.heap.size W W'):abz W' a N vn vk:=
 ⟨aq b h.c0,aq b h.c1,aq b h.c2,aq b h.c3,aq b h.c4,aq b h.c5,aq b h.c6,aq b h.c7,aq b h.c8,h.hn.below b,h.hk.below b⟩
def fj.below{ns:List Nd}(h:fj W v ns)(i:B1 W.heap.size W W'):fj W' v ns:=by
 rcases h with h|⟨b,c,e,f⟩
 .exact .inl h
 .exact .inr ⟨b,c,e,λj a g=>by obtain⟨l,k,d⟩:=f j a g;exact⟨l,k,d.below i⟩⟩
theorem dv.form{l:List Bz}(h:dv W v l):∃a c,v= B0 a (Y l) c:=by
 rcases h with⟨rfl,a,c,h⟩|⟨a,c,b,d⟩;all_goals grind
theorem dz.form{l:List Int}(h:dz W v l):∃a c,v= B0 a (Y l) c:=by
 rcases h with⟨rfl,a,c,h⟩|⟨a,c,b,d⟩;all_goals grind
theorem fj.form{l:List Nd}(h:fj W v l):∃a c,v= B0 a (Y l) c:=by
 rcases h with⟨rfl,a,c,h⟩|⟨a,c,b,d⟩;all_goals grind
theorem dv.get{a:Option Addr}{l:List Bz}(h:dv W (B0 a n c) l){k:Nat}(g:l[k]?=S s):∃b,a=S b/\W.cell? (b.add k)=S (M s):=by
 rcases h with⟨rfl,_⟩|⟨b,d,e,f⟩;all_goals grind
theorem dz.get{a:Option Addr}{l:List Int}(h:dz W (B0 a n c) l){k:Nat}{s:Int}(g:l[k]?=S s):∃b,a=S b/\W.cell? (b.add k)=S (A3 A5 s):=by
 rcases h with⟨rfl,_⟩|⟨b,d,e,f⟩;all_goals grind
theorem fj.get{a:Option Addr}{l:List Nd}(h:fj W (B0 a n c) l){k:Nat}{N:Nd}(g:l[k]?=S N):∃b,a=S b/\∃vn vk,abz W (b.add (k*9)) N vn vk:=by
 rcases h with⟨rfl,_⟩|⟨b,d,e,f⟩;all_goals grind
def bz{size:Nat}(h:w.ownsRow base e size v n xs)(a:B1 w.heap.size w w'):w'.ownsRow base e size v n xs:=
 h.kept (row:=Ax) ⟨a.os,a.tape,a.output,a.size,λc b _=>a.block c b⟩ U
theorem nK{a size:Nat}(h:w.ownsRow base e size v n xs)(i:a<=base:=by omega):w.ownsRow a e size v n xs:=by
 obtain⟨g,b⟩:=h;refine⟨g,?_⟩;rcases b with b|⟨f,c,d,k,j,l⟩
 .grind
 .exact .inr ⟨f,c,d,k,aK i j,l⟩
def dh{α:Type}{l:List α}{k:Nat}(hn:Y l=n)(h:k<n):∃s,l[k]?=S s:=⟨l[k]'(O),bi _⟩
def iu{t:F0}{fr:Nat×Nat}{a c d e f g:Br}(h:W.heap[b]?=S (B3 #[a,c,d,e,f,g] t fr)):W.cell? ⟨b,0,Ax⟩=S a/\W.cell? ⟨b,1,Ax⟩=S c/\W.cell? ⟨b,2,Ax⟩=S d/\W.cell? ⟨b,3,Ax⟩=S e/\W.cell? ⟨b,4,Ax⟩=S f/\W.cell? ⟨b,5,Ax⟩=S g:=by
 refine⟨?_,?_,?_,?_,?_,?_⟩<;>(rw[au _ _ _ _ _ _ h];rfl)
def qm{t:F0}{cs:Array Br}(h:W.heap[b]?=S (B3 cs t (0,0))):W.frozen? ⟨b,0,Ax⟩=A9/\W.frozen? ⟨b,1,Ax⟩=A9/\W.frozen? ⟨b,2,Ax⟩=A9/\W.frozen? ⟨b,3,Ax⟩=A9/\W.frozen? ⟨b,4,Ax⟩=A9/\W.frozen? ⟨b,5,Ax⟩=A9:=
 ⟨cD _ _ _ _ _ h,cD _ _ _ _ _ h,cD _ _ _ _ _ h,cD _ _ _ _ _ h,cD _ _ _ _ _ h,cD _ _ _ _ _ h⟩
def six(W:A2)(b:Nat)(a c d e f g:Br):A2:=((((((W.setCell ⟨b,0,Ax⟩ a).setCell ⟨b,1,Ax⟩ c).setCell ⟨b,2,Ax⟩ d).setCell ⟨b,3,Ax⟩ e).setCell ⟨b,4,Ax⟩ f).setCell ⟨b,5,Ax⟩ g)
def IB{t:F0}{m n o p q r:Br}(h:W.heap[b]?=S (B3 #[m,n,o,p,q,r] t (0,0)))(c d e f g i:Br):(six W b c d e f g i).heap[b]?=S (B3 #[c,d,e,f,g,i] t (0,0)):=by
 have a:=λj k {W l}=>aI W b j l t k;simpa [six] using a 5 i (a 4 g (a 3 f (a 2 e (a 1 d (a 0 c h)))))
def KI{k:Nat}(h:k≠b)(a c d e f g:Br):(six W b a c d e f g).heap[k]?=W.heap[k]?:=by
 rw[six,az _ _ _ _ h,az _ _ _ _ h,az _ _ _ _ h,az _ _ _ _ h,az _ _ _ _ h,az _ _ _ _ h]
def sG(w:A2):w.drew.heap=w.heap:=rfl
def zH{k:Nat}(h:k≠b)(j:Nat)(a c d e f g:Br):(six W b a c d e f g).drew.cell? ⟨k,j,Ax⟩=W.cell? ⟨k,j,Ax⟩:=by
 unfold World.cell?;rw[sG,KI h]
def afs{c:A2}(h:B1 base c W)(a:base<=b)(d e f g i j:Br):B1 base c (six W b d e f g i j):=by
 exact(((((h.setCell a _).setCell a _).setCell a _).setCell a _).setCell a _).setCell a _
def DC(W:A2)(b:Nat)(c d e f g h:Br):W.grownBy (six W b c d e f g h).drew (S b):=by
 have a:=(afs (ai b W) (ix b) c d e f g h).drew;exact⟨a.os,a.tape,a.output,a.size,λl k j=>by rw[sG,KI (λi=>j (by rw[i]))]⟩
def tL:(Tryz.prog.info? 3).map (λi=>(i.zero,i.size,i.bytes))=S (S (A3 A5 0),1,8):=J
theorem KJ{l:List Bz}(h:W.ownsRow base 9 1 (B0 (S ⟨g,0,Ax⟩) n c) n (l.map G2))(hn:Y l=n):dv W (B0 (S ⟨g,0,Ax⟩) n c) l:=by
 subst hn;refine .inr ⟨⟨g,0,Ax⟩,c,rfl,λa f d=>?_⟩;have e:a<Y l:=U;have b:(⟨g,0,Ax⟩:Addr).add a=⟨g,a,Ax⟩:=by unfold Addr.add;grind
 rw[b,h.cellAt a O,dw,d];rfl
theorem KL{l:List Int}(h:W.ownsRow base 3 1 (B0 (S ⟨g,0,Ax⟩) n c) n (l.map (E0 A5)))(hn:Y l=n):dz W (B0 (S ⟨g,0,Ax⟩) n c) l:=by
 subst hn;refine .inr ⟨⟨g,0,Ax⟩,c,rfl,λa f d=>?_⟩;have e:a<Y l:=U;have b:(⟨g,0,Ax⟩:Addr).add a=⟨g,a,Ax⟩:=by unfold Addr.add;grind
 rw[b,h.cellAt a O,dw,d];rfl
def jA(N:Nd)(vn vk:Br):Br:= .agg #[A3 A5 N.k,A3 A5 N.f,A3 A5 N.t,A3 A5 N.l,A3 A5 N.op,A3 A5 N.n,M N.x,vn,vk]
def rA(b:Nat)(W:A2)(t:F0)(N:Nd)(vn vk:Br):Prop:=
 W.heap[b]?=S (B3 #[A3 A5 N.k,A3 A5 N.f,A3 A5 N.t,A3 A5 N.l,A3 A5 N.op,A3 A5 N.n,M N.x,vn,vk] t (0,0))
def co{t:F0}{N:Nd}{vn vk:Br}(h:rA b W t N vn vk):
  W.cell? ⟨b,0,Ax⟩=S (A3 A5 N.k)/\W.cell? ⟨b,1,Ax⟩=S (A3 A5 N.f)/\W.cell? ⟨b,2,Ax⟩=S (A3 A5 N.t)/\W.cell? ⟨b,3,Ax⟩=S (A3 A5 N.l)/\W.cell? ⟨b,4,Ax⟩=S (A3 A5 N.op)/\W.cell? ⟨b,5,Ax⟩=S (A3 A5 N.n)/\W.cell? ⟨b,6,Ax⟩=S (M N.x)/\W.cell? ⟨b,7,Ax⟩=S vn/\W.cell? ⟨b,8,Ax⟩=S vk/\(∀j,W.frozen? ⟨b,j,Ax⟩=A9):=by
 unfold rA at h;exact⟨by rw[au _ _ _ _ _ _ h];rfl,by rw[au _ _ _ _ _ _ h];rfl,by rw[au _ _ _ _ _ _ h];rfl,by rw[au _ _ _ _ _ _ h];rfl,by rw[au _ _ _ _ _ _ h];rfl,by rw[au _ _ _ _ _ _ h];rfl,by rw[au _ _ _ _ _ _ h];rfl,by rw[au _ _ _ _ _ _ h];rfl,by rw[au _ _ _ _ _ _ h];rfl,λj=>cD _ _ _ _ _ h⟩
def zNd:Nd:=⟨0,0,0,0,0,0,⟨#[]⟩,[],[]⟩
def rA.below{t:F0}{N:Nd}{vn vk:Br}(h:rA b W t N vn vk)(a:B1 W.heap.size W W'):rA b W' t N vn vk:=(a.block _ (ah h)).trans h
def mi{a:A2}(h:B1 B a w)(n:Nat):B1 B a (w.drewN n):=⟨h.os,h.tape,h.output,h.size,h.block⟩
def bu{a:A2}(h:B1 B a w):B1 B a w.drew:=⟨h.os,h.tape,h.output,h.size,h.block⟩
def mkT:Nat->Nat->Bz->Bz
 |0,_,o=>o
 |f+1,c,o=>if c=0 then o else mkT f (c / 10) (gL [48+((c%10:Nat):Int)]++o)
def mtI(k:Nat):Bz:=⟨#[109]⟩++mkT k k ⟨#[]⟩
theorem cG{size:Nat}(h:W.ownsRow base e size v n xs):∃a cap,v= B0 a n cap:=by
 rcases h.2 with⟨rfl,d⟩|⟨c,cap,b,rfl,_⟩;all_goals grind
def vD(w:A2)(b:Option Nat):w.grownBy w b:=⟨rfl,rfl,rfl,cJ,λ_ _ _=>rfl⟩
def rB(h:w0.grownBy w (S b))(i:Nat)(v:Br):w0.grownBy (w.setCell ⟨b,i,Ax⟩ v) (S b):=
 ⟨h.os,h.tape,h.output,by simpa [Ce] using h.size,λe d a=>by rw[az _ _ _ _ (λc=>a (by rw[c]))];exact h.block e d a⟩
def mks(K n:Nat):List Bz:=(F2 n).map λa=>mtI (K+a)
theorem bm{size:Nat}(h:W.ownsRow base e size v n xs):(n=0/\v= B0 Ax 0 0)\/∃g cap,v= B0 (S ⟨g,0,Ax⟩) n cap:=by
 rcases h.2 with⟨rfl,b⟩|⟨g,cap,a,rfl,_⟩;all_goals grind
def lJ(w:A2)(r:List Int×Bool)(e:Ending)(b:A2):Prop:=
 ∃a c,e= A6 (B6 #[B0 a (Y r.1) c,B5 r.2])/\b.ownsRow w.heap.size 3 1 (B0 a (Y r.1) c) (Y r.1) (r.1.map (E0 A5))/\B1 w.heap.size w b
def ahh(w:A2)(l:List Int)(n:Nat)(hn:Y l=n)(a:n<=100):(w.alloc (B3 (l.map (E0 A5)).toArray 3)).ownsRow w.heap.size 3 1 (B0 (S ⟨w.heap.size,0,Ax⟩) n n) n (l.map (E0 A5)):=by
 have:=qL (base:=w.heap.size) (e:=3) (size:=1) w (l.map (E0 A5)).toArray n cJ py U;omega
def sH(w:A2)(l:List Int)(b:Bool)(a:Y l<=100):lJ w (l,b) (A6 (B6 #[B0 (S ⟨w.heap.size,0,Ax⟩) (Y l) (Y l),B5 b])) (w.alloc (B3 (l.map (E0 A5)).toArray 3)):=
 ⟨_,_,rfl,ahh w l _ rfl a,de w _⟩
def De(w:A2)(b:Bool):lJ w ([],b) (A6 (B6 #[B0 Ax 0 0,B5 b])) w:=⟨_,_,rfl,dA _ _ _ _,ai _ w⟩
theorem xm(v:Br)(w:A2):B2 X 102 #[v] w λe w'=>e= A6 v/\w'=w:=by
 go_in;go_wp2;go_ret
 simp_all
theorem ub(w:A2)(t:Int):B2 X 163 #[A3 A5 t] w λe w'=>e= A6 (B5 (nD t))/\w'=w:=by
 by_cases a:t=25\/t=50\/t=62\/t=69
 .have e:nD t=A0:=dB a;rw[e];rcases a with rfl|rfl|rfl|rfl;all_goals
   go_in;go_wp2;go_ret
   simp_all
 .have e:nD t=A9:=aG a;rw[e];have b:(t==25)=A9:=beq_eq_false_iff_ne.2 O;have c:(t==50)=A9:=beq_eq_false_iff_ne.2 O;have d:(t==62)=A9:=beq_eq_false_iff_ne.2 O;have f:(t==69)=A9:=beq_eq_false_iff_ne.2 O;go_in;go_wp2;go_ret
  simp_all
theorem BD(w:A2)(t:Int):B2 X 166 #[A3 A5 t] w λe w'=>e= A6 (B5 (jm t))/\w'=w:=by
 by_cases a:t=10\/t=26
 .have e:jm t=A0:=dto;rw[e];rcases a with rfl|rfl;all_goals
   go_in;go_wp2;go_ret
   simp_all
 .have b:¬t=10:=O;have c:(t==10)=A9:=beq_eq_false_iff_ne.2 b;have d:(t==26)=A9:=beq_eq_false_iff_ne.2 O;by_cases f:60<t
  .have e:jm t=A0:=dto;rw[e];go_in;go_wp2;go_ret
   simp_all
  .have e:jm t=A9:=dfo;rw[e];go_in;go_wp2;go_ret
   simp_all
theorem ud(w:A2)(t:Int):B2 X 104 #[A3 A5 t] w λe w'=>e= A6 (B5 (fC t))/\w'=w:=by
 by_cases a:t=1\/t=2\/t=3\/t=4\/t=24\/t=29\/t=17\/t=49\/t=18\/t=40\/t=42
 .have e:fC t=A0:=by unfold fC;grind
  rw[e];rcases a with rfl|rfl|rfl|rfl|rfl|rfl|rfl|rfl|rfl|rfl|rfl;all_goals
   go_in;go_wp2;go_ret;exact rr
 .have e:fC t=nD t:=by unfold fC;grind
  rw[e];simp only[not_or]at a;obtain⟨_,_,_,_,_,_,_,_,_,_,_⟩:=a;have b:=λw=>ub w t;generalize nD t=c at b⊢;go_in;go_wp2_with (go_at_call 163;apply eE (b _));go_ret
  simp_all
def ieq(t c:Int):(t=c)=((t==c)=A0):=I
def abA(w:A2)(t:Int):B2 X 103 #[A3 A5 t] w (lJ w (jv t)):=by
 go_in;go_wp2_with (go_at_call 102;refine eE (xm _ _) ?_);all_goals
  go_ret2;go_tidy
  simp only[jv,ieq, *];simp[*];first|exact sH w _ _ I|exact De w _
def abB(w:A2)(t:Int):B2 X 165 #[A3 A5 t] w (lJ w (KH t)):=by
 have b:=λw=>ub w t;have a:=λw=>ud w t;go_in;go_wp2_with (first|(go_at_call 102;refine eE (xm _ _) ?_)|(go_at_call 163;refine eE (b _) ?_)|(go_at_call 104;refine eE (a _) ?_));all_goals
  go_ret2;go_tidy
  simp only[KH,ieq, *];simp[*];first|exact sH w _ _ I|exact De w _
def io(k:Int):Bool:=decide (20<=k/\k<=37)
def ll(k:Int):Bool:=decide (1<=k/\k<=16)
def BE(k:Int):Bool:=decide (k=26\/k=32\/k=33)
theorem abC(k:Int)(w:A2):B2 X 210 #[A3 A5 k] w λe w'=>e= A6 (B5 (io k))/\w'=w:=by
 unfold io;rcases((O:(20<=k/\k<=37)\/(20<=k/\¬k<=37)\/¬20<=k)) with⟨h1,b⟩|⟨h1,b⟩|h1
 .rw[dB ⟨h1,b⟩];go_in;go_wp2;go_ret
  simp_all
 .rw[aG (λa=>b a.2)];go_in;go_wp2;go_ret
  simp_all
 .rw[aG (λa=>h1 a.1)];go_in;go_wp2;go_ret
  simp_all
theorem DD(k:Int)(w:A2):B2 X 95 #[A3 A5 k] w λe w'=>e= A6 (B5 (ll k))/\w'=w:=by
 unfold ll;rcases((O:(1<=k/\k<=16)\/(1<=k/\¬k<=16)\/¬1<=k)) with⟨h1,b⟩|⟨h1,b⟩|h1
 .rw[dB ⟨h1,b⟩];go_in;go_wp2;go_ret
  simp_all
 .rw[aG (λa=>b a.2)];go_in;go_wp2;go_ret
  simp_all
 .rw[aG (λa=>h1 a.1)];go_in;go_wp2;go_ret
  simp_all
theorem IC(k:Int)(w:A2):B2 X 160 #[A3 A5 k] w λe w'=>e= A6 (B5 (BE k))/\w'=w:=by
 unfold BE;by_cases a:k=26
 .subst a;go_in;go_wp2;go_ret
  simp_all
 have d:(k==26)=A9:=U;by_cases b:k=32
 .subst b;go_in;go_wp2;go_ret
  simp_all
 have f:(k==32)=A9:=U;by_cases c:k=33
 .subst c;go_in;go_wp2;go_ret
  simp_all
 have g:(k==33)=A9:=U;rw[dfo];go_in;go_wp2;go_ret
 simp_all
def aft(w:A2)(g:Br)(ns:List Nd)(N a:Nd)(vn vk:Br)(i:Nat)(z:Nat)(ht:fj w g ns)(hn:dv w vn N.nm)(f:dz w vk N.ks)(p:N.ks[i]?=S (z:Int))(l:ns[z]?=S a)(n:Y ns<=1048576)(o:Y N.ks<=1048576):
  B2 X 156 #[.agg #[g],jA N vn vk,A3 A5 i] w λe w'=>e= A6 (A3 A5 a.k)/\B1 w.heap.size w w':=by
 have m:∀b c,B1 w.heap.size w ((w.alloc b).alloc c):=λb c=>((ai _ w).alloc cJ b).alloc I c;obtain⟨v,A,rfl⟩:=ht.form;obtain⟨x,B,rfl⟩:=hn.form;obtain⟨y,C,rfl⟩:=f.form;obtain⟨an,rfl,ar,ap,h⟩:=ht.get l;obtain⟨ao,rfl,j⟩:=f.get p;have r:z<Y ns:=U;have q:i<Y N.ks:=U;have d:=h.c0;have E:=Dd j;have F:=Dd d;unfold jA;generalize Y ns=G at n r;generalize Y N.ks=t at o q;generalize Y N.nm=s;generalize a.k=u at d;obtain⟨K,H,al,ad,ak,af,am,ag,L⟩:=N;simp only;go_in;go_wp21
 go_quiet (fail)
 go_wp21
 go_ret;exact⟨rfl,mi (m _ _) _⟩
def gq(ns:List Nd)(N:Nd)(j:Nat):Int:=(ns.getD ((N.ks.getD j 0).toNat) zNd).k
def mD(ns:List Nd)(N:Nd):Nat->Nat->Bool
 |0,_=>A0
 |f+1,j=>io (gq ns N j)&&mD ns N f (j+1)
structure aru (ns:List Nd) (N:Nd) (f j:Nat) (R:Bool):Prop where
 out:mD ns N f j=R
structure AD (ns:List Nd) (N:Nd):Prop where
 ok:∀z∈N.ks,0<=z/\z<(Y ns:Int)
theorem AD.get{ns:List Nd}{N:Nd}(h:AD ns N){j:Nat}(b:j<Y N.ks):∃(z:Nat) (a:Nd),N.ks[j]?=S (z:Int)/\ns[z]?=S a/\gq ns N j=a.k/\z<Y ns:=by
 have d:N.ks[j]?=S N.ks[j]:=bi b;have⟨e,f⟩:=h.ok N.ks[j] (xd b);obtain⟨z,g⟩:∃z:Nat,N.ks[j]=(z:Int):=⟨N.ks[j].toNat,O⟩;have c:z<Y ns:=O;refine⟨z,ns[z],U,bi c,?_,c⟩;unfold gq;grind
theorem mE(w:A2)(A:Br)(ns:List Nd)(N:Nd)(vn vk:Br)(i k:Nat)(ht:fj w A ns)(hn:dv w vn N.nm)(y:dz w vk N.ks)(al:AD ns N)(ar:k<=Y N.ks)(an:Y ns<=1048576)(ao:Y N.ks<=1048576):
  B2 X 159 #[.agg #[A],jA N vn vk,A3 A5 i,A3 A5 k] w λe w'=>e= A6 (B5 (mD ns N (k-i) i))/\B1 w.heap.size w w':=by
 have⟨t,x⟩:=aw (mD ns N (k-i) i);rw[x];have a8:∀n o,B1 w.heap.size w ((w.alloc n).alloc o):=λn o=>((ai _ w).alloc cJ n).alloc I o;have d:=fD ht y;obtain⟨C,F,rfl⟩:=ht.form;obtain⟨a0,a4,rfl⟩:=hn.form;obtain⟨E,G,rfl⟩:=y.form;unfold jA;have⟨z,hn⟩:=aw (Y ns);have⟨r,v⟩:=aw (Y N.ks);rw[hn]at d an⊢;rw[v]at d ao ar⊢;generalize Y N.nm=aL;go_in;go_wp2_with fail;generalize am:(w.alloc _).alloc _=f;obtain⟨h,l,u, -⟩:=Da am;replace h:f.cell? ⟨w.heap.size,0,Ax⟩=S (B0 C z F):=(au _ _ _ _ _ _ h).trans rfl;replace l:f.cell? ⟨w.heap.size+1,8,Ax⟩=S (B0 E r G):=(au _ _ _ _ _ _ l).trans rfl;go_loopw [9] (λp wr=>∃(j:Nat),p= A3 A5 j/\i<=j/\(i<=k->j<=k)/\aru ns N (k-j) j t/\B1 f.heap.size f wr) (λp _=>k-(D3 p).toNat)
 case atStart=>exact⟨i,rfl,cJ,λak=>ak,⟨x⟩,ai _ _⟩
 case round=>
  obtain⟨j,rfl,a9,bb,q,g⟩:=hrel;have m:=u.trans (g.mono u.size);by_cases bd:j<k
  .have⟨B,s,H,K,L,ad⟩:=al.get (j:=j) O;rw[(fD hn v).out.1]at ad;obtain⟨bh,rfl,bl,bk,ag⟩:=(d.1.below m).get K;obtain⟨bj,rfl,a7⟩:=(d.2.below m).get H;have a5:=aq g h;have a6:=aq g l;have af:=ag.c0;have a:=q.out;rw[(O:k-j=(k-(j+1))+1),mD,L]at a;have ap:(j:Int)<(k:Int):=O;have bc:(j:Int)<(r:Int):=O;have bg:(B:Int)<(z:Int):=O;have bf:(0:Int)<=(B:Int):=O;have ba:(0:Int)<=(j:Int):=O;have b:=λw=>abC s.k w;generalize s.k=av at af a b;cases hx:io av with
   |true=>
    rw[hx,gK]at a;rw[hx]at b;have c:aru ns N (k-(j+1)) (j+1) t:=⟨a⟩;go_wp2_with fail;go_quiet ((go_at_call 210;exact Ck (b _)))
    go_wp2;exact⟨⟨j+1,by go_num,O,λ_=>O,c,mi g _⟩,by simp[D3];omega⟩
   |false=>
    rw[hx,gJ]at a;rw[hx]at b;have c:=aj a;clear a hx;go_wp2_with fail;go_quiet ((go_at_call 210;exact Ck (b _)))
    go_wp2;go_ret;exact⟨by rw[<-c.out];rfl,mi m _⟩
  .have a:=q.out;rw[(O:k-j=0),mD]at a;have c:=aj a;have ap:¬(j:Int)<(k:Int):=O;go_wp2;go_ret
   simp_all
open Go.Maps Go.WideMaps
def kqf{a b:Int}(h:a=b)(c:Int)(e:(b==c)=A9):(a==c)=A9:=U
def kqt{a b:Int}(h:a=b)(c:Int)(e:(b==c)=A0):(a==c)=A0:=U
def kqs{a b:Int}(h:a=b):(a==b)=A0:=U
open Go.Lib (strCells strCells_length wpList_append_own_string)
def aoz:(Tryz.prog.info? 5).map (λi=>(i.zero,i.size,i.bytes))=S (S (A3 Ed 0),1,1):=J
theorem ID(a b:Bz):strCells (a++b)=strCells a++strCells b:=by
 unfold strCells
 simp_all
structure Kq (b:Nat) (w w':A2):Prop where
 os:w'.os=w.os
 tape:w'.tape=w.tape
 output:w'.output=w.output
 size:w.heap.size<=w'.heap.size
 block:∀k,k<w.heap.size->k≠b->(∀cs fr,w.heap[k]?≠S (.cells cs 5 fr))->w'.heap[k]?=w.heap[k]?
def Kq.refl(b:Nat)(w:A2):Kq b w w:=⟨rfl,rfl,rfl,cJ,λ_ _ _ _=>rfl⟩
theorem Kq.trans{x:A2}(h:Kq b x y)(k:Kq b y z):Kq b x z:=
 ⟨k.os.trans h.os,k.tape.trans h.tape,k.output.trans h.output,aK h.size k.size,λd a c e=>
  (k.block d (gF a h.size) c (λf g=>by rw[h.block d a c e];grind)).trans (h.block d a c e)⟩
def Kq.of_below(h:B1 w.heap.size w w'):Kq b w w':=⟨h.os,h.tape,h.output,h.size,λc a _ _=>h.block c a⟩
structure Pr (w0:A2) (vt:Br) (T:Bz) (tab:Int) (W:A2):Prop where
 bel:B1 w0.heap.size w0 W
 row:∃o,W.heap[w0.heap.size]?=S (.cells #[vt,o,.int .i64 tab] 187 (0,0))/\W.ownsRow (w0.heap.size+1) 5 1 o T.size (strCells T)
theorem Pr.lt{tab:Int}(h:Pr w0 vt T tab W):w0.heap.size<W.heap.size:=by
 have⟨c,a,b⟩:=h.row;grind
def Pr.below{tab:Int}(h:Pr w0 vt T tab W)(a:B1 W.heap.size W W'):Pr w0 vt T tab W':=by
 have⟨d,b,c⟩:=h.row;exact⟨h.bel.trans (a.mono h.bel.size),d,(a.block _ (ah b)).trans b,bz c a⟩
theorem ahi{p:Nat}{o:Br}{cs:Array Br}{t:F0}{fr:Nat×Nat}(i:W.heap[p]?=S (B3 cs t fr))(ht:t≠5)(c:W.ownsRow base 5 1 o n xs)(g:Nat)(a:o.ownBlock=S g):g≠p/\base<=g:=by
 refine⟨?_,(c.lt g a).1⟩;rintro rfl;rcases c.2 with⟨b,_⟩|⟨d,e,f,b,_,h,_⟩
 .rw[b]at a;simp[Fs]at a
 .rw[b]at a;obtain rfl:d=g:=by simpa [Fs] using a
  grind
theorem Pr.put{a W:A2}{f i:Br}{e:Int}(g:B1 a.heap.size a W)(c:W.heap[a.heap.size]?=S (B3 #[f,i,A3 A5 e] 187 (0,0))){o:Br}{T:Bz}(d:W.ownsRow (a.heap.size+1) 5 1 o T.size (strCells T)):Pr a f T e (W.setCell ⟨a.heap.size,1,Ax⟩ o):=
 ⟨g.setCell cJ _,o,aI _ _ 1 _ _ _ c,d.kept (row:=S a.heap.size) ⟨rfl,rfl,rfl,byS,λl k h=>az _ _ _ _ (λb=>h (by rw[b]))⟩ (by
  cases hv:o.ownBlock with
  |none=>grind
  |some j=>exact .inr (λb=>by cases b;exact(ahi c Z d _ hv).1 rfl))⟩
theorem Pr.putTab{g:Int}(h:Pr w0 vt T g W)(e:Int):Pr w0 vt T e (W.setCell ⟨w0.heap.size,2,Ax⟩ (A3 A5 e)):=by
 have⟨d,b,c⟩:=h.row;exact⟨h.bel.setCell cJ _,d,aI _ _ 2 _ _ _ b,c.kept (row:=S w0.heap.size) ⟨rfl,rfl,rfl,byS,λk j f=>az _ _ _ _ (λa=>f (by rw[a]))⟩ (by
  cases hv:d.ownBlock with
  |none=>grind
  |some i=>exact .inr (λa=>by cases a;exact(ahi b Z c _ hv).1 rfl))⟩
def Kq.putP(b:Nat)(W:A2)(i:Nat)(v:Br):Kq b W (W.setCell ⟨b,i,Ax⟩ v):=
 ⟨rfl,rfl,rfl,byS,λd c a _=>az _ _ _ _ a⟩
def Pr.cells{tab:Int}(h:Pr w0 vt T tab W):W.cell? ⟨w0.heap.size,0,Ax⟩=S vt/\W.cell? ⟨w0.heap.size,2,Ax⟩=S (A3 A5 tab)/\∀j,W.frozen? ⟨w0.heap.size,j,Ax⟩=A9:=by
 have⟨c,a,b⟩:=h.row;exact⟨by rw[au _ _ _ _ _ _ a];rfl,by rw[au _ _ _ _ _ _ a];rfl,λj=>cD _ _ _ _ _ a⟩
theorem gw(a:A2)(q:Br)(T s:Bz)(tab:Int)(w:A2)(h:Pr a q T tab w)(y:T.size+s.size<=140737488355328):
  B2 X 111 #[E1 (S ⟨a.heap.size,0,Ax⟩),M s] w λe w'=>e= A6 (B6 #[])/\Pr a q (T++s) tab w'/\Kq a.heap.size w w':=by
 have⟨ao,i,j⟩:=h.row;have⟨f,u⟩:=aw T.size;rw[u]at j y;obtain⟨l,m,rfl⟩:=cG j;have⟨C,E,F,G,H⟩:=eC aoz;have z:=ah i;have K:w.cell? ⟨a.heap.size,1,Ax⟩=S (B0 l f m):=by rw[au _ _ _ _ _ _ i];rfl
 have v:=ahi i Z j;have c:=Dy j i u h.bel;go_in;go_wp2_with (at_builtin;refine wpList_append_own_string _ rfl _ _ 22 9 rfl (a.heap.size+1) 5 C underlying22 underlying9 E F G H _ _ _ rfl c.1 s rfl py O O ?_;intro ap k B b an;obtain⟨r,t,rfl⟩:=cG B;have o:=(b.block _ z (λe=>(v _ e.symm).1 rfl)).trans c.2.1;have ar:k.cell? ⟨a.heap.size,1,Ax⟩=S (B0 l f m):=(by rw[au _ _ _ _ _ _ o];rfl);have af:k.frozen? ⟨a.heap.size,1,Ax⟩=A9:=cD _ _ _ _ _ o);have ak:Pr a q (T++s) tab (k.setCell ⟨a.heap.size,1,Ax⟩ (B0 r (f+s.size) t)):=Pr.put (c.2.2.2.grown b O (λd p=>by have:=(v d p).2;omega)) o (by rw[ax,c.out.2.2.1,ID];omega);have ag:Kq a.heap.size w (k.setCell ⟨a.heap.size,1,Ax⟩ (B0 r (f+s.size) t)):=by
  refine⟨b.os,b.tape,b.output,by simp[Ce];exact b.size,λd p A am=>?_⟩;rw[az _ _ _ _ A];refine b.block d p (λe=>?_);have g:(Value.slice l f m).ownBlock=S d:=e.symm;rcases c.1.2 with⟨n,_⟩|⟨x,L,ad,n,_,al,_⟩
  .rw[n]at g;simp[Fs]at g
  .rw[n]at g;obtain rfl:x=d:=by simpa [Fs] using g
   grind
 go_end0
 grind
end Go.Proofs.YtiaechpcebhcdaaGreatDoor
namespace Go.Proofs.YtiaechpcebhcdaaGreatDoor
open Go.RowKit
variable{B b base c e g i n:Nat}{Q:Exit->Act->World->Prop}{R:Bool×Nat×List Int}{T s:Bz}{W W' w w' w0 y z:World}{a:Addr}{f fr l p t:Int}{k:Bool}{lo r:List Int}{m v vt:Value}{o:Oper}{ops:Array Oper}{xs:List Value}
def DF:Nat->Bz
 |0=>B4
 |n+1=>DF n++⟨#[9]⟩
def mF(t:Nat):Bz:=⟨#[10]⟩++DF t
def AE:∀t,(DF t).size=t
 |0=>rfl
 |t+1=>by rw[DF,ax,AE t];rfl
def ue(t:Nat):(mF t).size=t+1:=by rw[mF,ax,AE];show 1+t=_;omega
def lm:Bz:=⟨#[44,32]⟩
def aln(a:Bool×Bz)(x:Bz):Bool×Bz:=(A0,(if a.1=A0 then a.2++lm else a.2)++x)
def ahj(l:List Bz):Bool×Bz:=l.foldl aln (A9,B4)
def gx(l:List Bz):Bz:=(ahj l).2
theorem GD(l:List Bz)(x:Bz):ahj (l++[x])=aln (ahj l) x:=by unfold ahj;grind
def ahk:∀l:List Bz,(ahj l).1=!l.isEmpty:=by
 intro l;rcases List.eq_nil_or_concat l with rfl|⟨a,b,rfl⟩
 .rfl
 .rw[List.concat_eq_append,GD];unfold aln;simp
theorem qh(l:List Bz)(k:Nat)(x:Bz)(e:l[k]?=S x):gx (l.take (k+1))=(if k=0 then gx (l.take k) else gx (l.take k)++lm)++x:=by
 obtain⟨c,d⟩:=List.getElem?_eq_some_iff.1 e;have a:l.take (k+1)=l.take k++[x]:=by rw[List.take_succ_eq_append_getElem c,d]
 unfold gx;rw[a,GD];unfold aln;simp only;rw[ahk];by_cases b:k=0
 .grind
 .rw[aa b,ab];cases l with
  |nil=>grind
  |cons f g=>simp_all
theorem ahl(l:List Bz)(k:Nat):(gx (l.take k)).size<=(gx (l.take (k+1))).size:=by
 by_cases a:k<Y l
 .rw[qh l k _ (bi a),ax];grind
 .rw[dH O,dH O];omega
theorem Df(l:List Bz)(k:Nat):(gx (l.take k)).size<=(gx l).size:=by
 have b:∀a,(gx (l.take k)).size<=(gx (l.take (k+a))).size:=by
  intro a
  induction a with
  |zero=>grind
  |succ a c=>exact aK c (ahl l (k+a))
 have:=b (Y l)
 rwa [dH (O:Y l<=k+Y l)]at this
def K6(b:A2)(d:Br)(T:Bz)(t:Nat)(w:A2)(h:Pr b d T t w)(ht:t<=1000000)(o:T.size+(t+1)<=140737488355328):
  B2 X 215 #[E1 (S ⟨b.heap.size,0,Ax⟩)] w λe w'=>e= A6 (B6 #[])/\Pr b d (T++mF t) t w'/\Kq b.heap.size w w':=by
 go_in;go_wp2_with (go_at_call 111;apply(gw b d T _ _ _ (aj h) (by show T.size+1<=_;omega)).mono;rintro e w1 ⟨rfl,j,g⟩);go_loopw [2] (λf wr=>∃a:Nat,a<=t/\f= A3 A5 a/\Hid (Pr b d (T++(⟨#[10]⟩++DF a)) t wr/\Kq b.heap.size w wr)) (λf _=>t-(D3 f).toNat)
 case atStart=>exact⟨0,O,rfl,by rw[show(⟨#[10]⟩:Bz)++DF 0=⟨#[10]⟩ from rfl];exact fD j g⟩
 case round=>
  obtain⟨a,n,rfl,c⟩:=hrel;have⟨k,l,m⟩:=c.1.cells;by_cases p:a<t
  .go_wp2_with (go_at_call 111;apply(gw b d _ _ _ _ c.1 (by rw[ax,ax,AE];show T.size+(1+a)+1<=_;omega)).mono;rintro e q ⟨rfl,p2,i⟩);refine⟨⟨a+1,O,by go_num,?_⟩,by simp[D3];omega⟩;refine⟨?_,c.2.trans i⟩;rw[show T++((⟨#[10]⟩:Bz)++DF (a+1))=T++(⟨#[10]⟩++DF a)++⟨#[9]⟩ by rw[DF,dJ,dJ]];exact p2
  .obtain rfl:a=t:=O;go_wp21
   go_end0
   exact⟨rfl,c.1,c.2⟩
theorem afu(b:A2)(d vn:Br)(l:List Bz)(T:Bz)(t:Int)(w:A2)(h:Pr b d T t w)(u:dv b vn l)(hn:Y l<=1048576)(af:T.size+(gx l).size<=140737488355328):
  B2 X 178 #[E1 (S ⟨b.heap.size,0,Ax⟩),vn] w λe w'=>e= A6 (B6 #[])/\Pr b d (T++gx l) t w'/\Kq b.heap.size w w':=by
 have r:=fD h u;obtain⟨H,K,rfl⟩:=u.form;have⟨j,s⟩:=aw (Y l);rw[s]at hn r⊢;go_in;go_wp21
 go_loopw [8] (λm wr=>∃a:Nat,a<=j/\m= A3 A5 a/\Hid (Pr b d (T++gx (l.take a)) t wr/\Kq b.heap.size w wr)) (λm _=>j-(D3 m).toNat)
 case atStart=>exact⟨0,O,rfl,by rw[show T++gx (l.take 0)=T from ByteArray.append_empty];omega,Kq.refl _ _⟩
 case round=>
  obtain⟨a,ad,rfl,c⟩:=hrel;by_cases E:a<j
  .have⟨k,v⟩:=dh (aj s).out E;obtain⟨x,rfl,y⟩:=(r.2.below c.1.bel).get v;have B:=qh l a k v;have C:=Df l (a+1);have q:=fD B C;by_cases A:a=0
   .subst A;have f:gx (l.take (0+1))=gx (l.take 0)++k:=U;have i:=q.2;rw[f,ax]at i;have g:=aj f;have L:wr.cell? x=S (M k):=by simpa [Addr.add] using y
    go_wp2_with (go_at_call 111;apply(gw b d _ _ _ _ c.1 U).mono;rintro e o ⟨rfl,p2,n⟩);refine⟨⟨1,O,by go_num,?_,c.2.trans n⟩,by simp[D3];omega⟩;rw[show(1:Nat)=0+1 from rfl,g.out,<-dJ];exact p2
   .have f:gx (l.take (a+1))=gx (l.take a)++lm++k:=U;have i:=q.2;rw[f,ax,ax]at i;have z:lm.size=2:=rfl;have g:=jB f i z;go_wp21
    apply(gw b d _ _ _ _ c.1 (by have:=g.2;rw[ax];show _+lm.size<=_;omega)).mono;rintro e o ⟨rfl,p2,n⟩;have p:Hid (Pr b d (T++gx (l.take a)++lm) t o/\Kq b.heap.size wr o):=⟨p2,n⟩;go_wp21
    apply(gw b d _ _ _ _ p.1 U).mono;rintro e ag ⟨rfl,G,F⟩;go_wp21
    refine⟨⟨a+1,O,by go_num,?_,(c.2.trans p.2).trans (fD G F).2⟩,by simp[D3];omega⟩;rw[g.out.1,<-dJ,<-dJ];omega
  .obtain rfl:a=j:=O;go_wp21
   go_end0
   refine⟨rfl,?_,c.2⟩;have:=c.1;grind
open Go.ChangeShapes Go.WideShapes Go.ChangeAt Go.WideMaps Go.WideElems Go.Deep
structure ahm (N:Nd):Prop where
 k: -9223372036854775808<=N.k/\N.k<=9223372036854775807
 f: -9223372036854775808<=N.f/\N.f<=9223372036854775807
 t: -9223372036854775808<=N.t/\N.t<=9223372036854775807
 l: -9223372036854775808<=N.l/\N.l<=9223372036854775807
 op: -9223372036854775808<=N.op/\N.op<=9223372036854775807
 n: -9223372036854775808<=N.n/\N.n<=9223372036854775807
 ks:∀z∈N.ks, -9223372036854775808<=z/\z<=9223372036854775807
