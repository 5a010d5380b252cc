import Derived.Test.YthkcmkmkapijkaaGreatDoorh01
import Derived.WalkSpells
import Derived.Deep.RegionHeld3
import Derived.Deep.AppendLies
import Derived.OneCell
import Derived.Shelf.Strings.OnBuilder
import Derived.Shelf.Small.Utf8
import Derived.Shelf.Small.Strs
import Derived.Shelf.Small.Wraps
import Derived.Shelf.Strings.BuilderK
import Derived.Shelf.Strconv.Itoa4
import Derived.Shelf.Strconv.ErrVarParseInt
import Derived.Shelf.Pu.ErrVarParseUint
import Derived.Shelf.Strings.Shaped
import Derived.Shelf.Strings.LastIndex
import Derived.Shelf.Strings.Fields
import Derived.Shelf.Bits.Mul64
import Derived.Shelf.Unicode.DecodeSlow
import Derived.Shelf.Unicode.IsSpaceAny
import Derived.Shelf.Unicode.ExclAny
import Derived.ProofKit
import Derived.RangeFuncBox
set_option linter.all false
set_option maxRecDepth 100000
set_option maxHeartbeats 6400000
open Go.Proofs.Tryz
open Go.Value renaming string->M,bool->A9,slice->B1,tuple->B2,int->C2,agg->D2,nilIface->E0,string->E2,iface->E3
open Go.Proofs.Tryz renaming prog->S
open Go.Ending renaming returned->T
open List renaming length->V,range->Fs
open Bool renaming false->X,true->Y
open Option renaming some->Ax,none->Br
open Go renaming World->A0,Calls->A1,Value->A3,TypeId->D1
open Go.RowKit renaming Below->A2,intOf->B3,Hid->E1
open Go.Obj renaming cells->A5
open ByteArray renaming empty->B0
open Go.Shelf renaming Ren->B4
open Go.Calls renaming quiet_of_same->B5
open Go.Instr renaming index->B6
open Go.World renaming setCell->B7,news_of_block->B9
namespace Go.Proofs.YthkcmkmkapijkaaGreatDoor
open Go.RowKit
variable{B b base c g i n size:Nat}{Q:Exit->Act->World->Prop}{W W' w w' w0 y:World}{a:Addr}{f fr l p t:Int}{k:Bool}{m v vk vn:Value}{o:Oper}{ops:Array Oper}{r:zLI}{s:Bz}{xs:zLV}
def Tryz.info5:(S.info? 5).map (λi=>(i.zero,i.size,i.bytes))=Ax (Ax<|zU 0,1,1):=J
def B8(l:zLI):zLV:=l.map zU
def akv(a b):B8 (a++b)=B8 a++B8 b:=by simp[B8]
def akw(a):V (B8 a)=V a:=by simp[B8]
def zq{l}(h:w.ownsRow base 5 1 v n (B8 l)):V l=n:=by
 simpa [B8] using h.1
def js{f a}(k:o.guard=Br)(s x)
  (t:o.op= .call {callee:= .builtin .append,args:=#[s,x],argTypes:=#[22,22]}) (b) (v) (n) (l) (u:a.eval s=v)
  (e:w.ownsRow b 5 1 v n (B8 l)) (i:b<=w.heap.size) (z:n<=100000) (c:zLI) (m) (q:V c=m) (r:0<m) (p:m<=100) (cs:zAV) (j:cs.toList=B8 c)
  (y:a.eval x=bI w.heap.size m m)
  (h:∀g d w1,w1.ownsRow b 5 1 (bI g (n+m) d) (n+m) (B8<|l++c)->A2 b w w1->wpList S ops Q f (a.put o.dst<|bI g (n+m) d) w1):
  wpList S ops Q (o::f) a (w.alloc<|A5 cs 5):=by
 have⟨_,p,z,A,B⟩:=dw Tryz.info5;apply wpList_append_lies _ k s x _ t _ 5 _ _ 1 1 underlying22 p z A B R Z v n _ u (e.alloc _) _ m m (B8 c) y (by simp[B8,q])
  (by rw[<-j];exact B9<|au w _) (by intro _ b;simp[B8]at b;obtain⟨_,_,rfl⟩:=b;rfl) r byM O lr (w.heap.size+1) I
 intro g d w1 _ b _ _;refine h g _ _ (by rw[akv];omega)<|((ay _ w).alloc i _).grown b lr (λr j=>(e.lt r j).1)
def ny(d:Int):Int:=ite (d<10) (48+d)<|87+d
def esc(c:Int):zLI:=ite (c=10) ([92,110])<|ite (c=9) ([92,116])<|ite (c=34\/c=92) ([92,c])<|ite (c<32\/126<c) ([92,120,ny<|c / 16,ny<|c%16])<|[c]
def awu(v n a l w)(h:w.ownsRow a 5 1 v n (B8 l))(d:a<=w.heap.size)(f:n<=100000):
  A1 S 258 #[v,zU 10] w λe w'=>∃g b,e=T (bI g (n+2) b)/\
   w'.ownsRow a 5 1 (bI g (n+2) b) (n+2) (B8<|l++[92,110])/\A2 a w w':=by
 go_in;go_wp2_with (at_builtin;apply js R _ _ R _ v n l R h d f [92,110] 2 R Z Z _ R R;intro g b w1 i c);go_wp2;go_ret;exact⟨g,_,R,i,c⟩
def ati(v n a l w)(h:w.ownsRow a 5 1 v n (B8 l))(d:a<=w.heap.size)(f:n<=100000):
  A1 S 258 #[v,zU 9] w λe w'=>∃g b,e=T (bI g (n+2) b)/\
   w'.ownsRow a 5 1 (bI g (n+2) b) (n+2) (B8<|l++[92,116])/\A2 a w w':=by
 go_in;go_wp2_with (at_builtin;apply js R _ _ R _ v n l R h d f [92,116] 2 R Z Z _ R R;intro g b w1 i c);go_wp2;go_ret;exact⟨g,_,R,i,c⟩
def atj(v n a l c)(k:c=34\/c=92)(w)(j:w.ownsRow a 5 1 v n (B8 l))(h:a<=w.heap.size)(i:n<=100000):
  A1 S 258 #[v,zU c] w λe w'=>∃g b,e=T (bI g (n+2) b)/\
   w'.ownsRow a 5 1 (bI g (n+2) b) (n+2) (B8<|l++[92,c])/\A2 a w w':=by
 obtain rfl|rfl:=k
 .go_in;go_wp2_with (at_builtin;apply js R _ _ R _ v n l R j h i [92,34] 2 R Z Z _ R R;intro g b w1 f d);go_wp2;go_ret;exact⟨g,_,R,f,d⟩
 .go_in;go_wp2_with (at_builtin;apply js R _ _ R _ v n l R j h i [92,92] 2 R Z Z _ R R;intro g b w1 f d);go_wp2;go_ret;exact⟨g,_,R,f,d⟩
def apj(v n a l c)(k:32<=c)(m:c<=126)(o:(c==34)=X)(p:(c==92)=X)(w)(i:w.ownsRow a 5 1 v n (B8 l))(f:a<=w.heap.size)(h:n<=100000):
  A1 S 258 #[v,zU c] w λe w'=>∃g b,e=T (bI g (n+1) b)/\
   w'.ownsRow a 5 1 (bI g (n+1) b) (n+1) (B8<|l++[c])/\A2 a w w':=by
 go_in;go_wp2_with (at_builtin;apply js R _ _ R _ v n l R i f h [c] 1 R Z Z _ R R;intro g b w1 j d);go_wp2;go_ret;exact⟨g,_,R,j,d⟩
def DG:Bz:=⟨#[48,49,50,51,52,53,54,55,56,57,97,98,99,100,101,102]⟩
def atk:∀i:Fin 16,((DG[i.val]'(by exact i.isLt)).toNat:Int)=ny (i.val:Int):=Z
theorem ast(d)(a:0<=d)(b:d<16)(h):((DG[d.toNat]'h).toNat:Int)=ny d:=by
 have:=atk ⟨d.toNat,O⟩;grind
def Dv(d)(a:0<=d)(b:d<16)(w):(B6 9 (M ⟨#[48,49,50,51,52,53,54,55,56,57,97,98,99,100,101,102]⟩)<|zU d).run S w= .ok (zU<|ny d) w:=by
 have c:=ast d a b (by simp[DG];show d.toNat<16;omega);go_simp;exact c
theorem atl(c)(a:0<=c)(b:c<256):bits .and .u8 c 15=c%16:=by
 have:=bits_mask _ 8 Z wraps_u8 4 Z c a b;grind
def Ga{a K E}(j:o.guard=Br)(s x)
  (r:o.op= .call {callee:= .builtin .append,args:=#[s,x],argTypes:=#[22,22]}) (b) (v) (n) (l) (t:a.eval s=v)
  (e:w.ownsRow b 5 1 v n (B8 l)) (f:b<=w.heap.size) (y:n<=100000) (c:zLI) (m) (p:V c=m) (q:0<m) (k:m<=100) (cs:zAV) (i:cs.toList=B8 c)
  (u:a.eval x=bI w.heap.size m m)
  (h:∀g d w1,w1.ownsRow b 5 1 (bI g (n+m) d) (n+m) (B8<|l++c)->A2 b w w1->K (a.put o.dst<|bI g (n+m) d) w1):
  ite (Region.wanted o (yielded ops a.tmps)=Y) (Oper.wp S o a (w.alloc<|A5 cs 5).drew K Q) E:=by
 have⟨_,k,y,z,A⟩:=dw Tryz.info5;apply step_append_lies _ j s x _ r _ 5 _ _ 1 1 underlying22 k y z A R Z v n _ t ((e.alloc _).drew) _ m m (B8 c) u (by simp[B8,p])
  (by rw[<-i];exact B9<|au w _) (by intro _ b;simp[B8]at b;obtain⟨_,_,rfl⟩:=b;rfl) q byM O lr (w.heap.size+1) I
 intro g d w1 _ b _ _;refine h g _ _ (by rw[akv];omega)<|(((ay _ w).alloc f _).drew).grown b lr (λq i=>(e.lt q i).1)
def atm(v n a l c)(d:0<=c)(p:c<32)(q:(c==10)=X)(r:(c==9)=X)(s:(c==34)=X)(t:(c==92)=X)(w)(i:w.ownsRow a 5 1 v n (B8 l))(f:a<=w.heap.size)(h:n<=100000):
  A1 S 258 #[v,zU c] w λe w'=>∃g b,e=T (bI g (n+4) b)/\
   w'.ownsRow a 5 1 (bI g (n+4) b) (n+4) (B8<|l++[92,120,ny<|c / 16,ny<|c%16])/\A2 a w w':=by
 have x:=Dv (c / 16) O O;have y:=Dv (c%16) O O;have u:bits .and .u8 c 15=c%16:=atl c d O;have j:0<=c / 16:=O;have k:c / 16<16:=O;have m:0<=c%16:=O;have o:c%16<16:=O;go_in;go_wp2_with fail;go_region_held3 (λw'=>True) (trivial) ((apply Ga byR _ _ byR _ v n l byR i f h [92,120,_,_] 4 byR Z Z _ byR byR;intro g b w1 _ _))
 all_goals
  go_wp2;go_ret;exact⟨_,_,R,O,O⟩
def akx(v n a l c)(p:126<c)(d:c<256)(q:(c==10)=X)(r:(c==9)=X)(s:(c==34)=X)(t:(c==92)=X)(w)(i:w.ownsRow a 5 1 v n (B8 l))(f:a<=w.heap.size)(h:n<=100000):
  A1 S 258 #[v,zU c] w λe w'=>∃g b,e=T (bI g (n+4) b)/\
   w'.ownsRow a 5 1 (bI g (n+4) b) (n+4) (B8<|l++[92,120,ny<|c / 16,ny<|c%16])/\A2 a w w':=by
 have x:=Dv (c / 16) O O;have y:=Dv (c%16) O O;have u:bits .and .u8 c 15=c%16:=atl c O d;have j:0<=c / 16:=O;have k:c / 16<16:=O;have m:0<=c%16:=O;have o:c%16<16:=O;go_in;go_wp2_with fail;go_region_held3 (λw'=>True) (trivial) ((apply Ga byR _ _ byR _ v n l byR i f h [92,120,_,_] 4 byR Z Z _ byR byR;intro g b w1 _ _))
 all_goals
  go_wp2;go_ret;exact⟨_,_,R,O,O⟩
theorem atn(v n i l c)(k:0<=c)(m:c<256)(w)(h:w.ownsRow i 5 1 v n (B8 l))(d:i<=w.heap.size)(f:n<=100000):
  A1 S 258 #[v,zU c] w λe w'=>∃g a,e=T (bI g (n+V (esc c)) a)/\
   w'.ownsRow i 5 1 (bI g (n+V (esc c)) a) (n+V (esc c)) (B8<|l++esc c)/\A2 i w w':=by
 by_cases a:c=10
 .subst a;exact awu v n _ l w h d f
 by_cases b:c=9
 .subst b;exact ati v n _ l w h d f
 by_cases j:c=34\/c=92
 .have:esc c=[92,c]:=by unfold esc;rw[aa a,aa b,ae j]
  rw[this];exact atj v n _ l c j w h d f
 by_cases e4:c<32\/126<c
 .have:esc c=[92,120,ny<|c / 16,ny<|c%16]:=by unfold esc;rw[aa a,aa b,aa j,ae e4]
  rw[this];obtain e4|e4:=e4
  .exact atm v n _ l c k e4 (by simp[a]) (by simp[b]) U U w h d f
  .exact akx v n _ l c e4 m (by simp[a]) (by simp[b]) U U w h d f
 .have:esc c=[c]:=by unfold esc;rw[aa a,aa b,aa j,aa e4]
  rw[this];exact apj v n _ l c O O U U w h d f
def dK(l:zLI):Bz:=l.foldl (λr n=>r.push<|UInt8.ofNat n.toNat) B0
theorem lK{a l}(b:w.ownsRow base 5 1 (bI g n a) n (B8 l)):
  (convert 22 9<|bI g n a).run S w= .ok (M<|dK l) w:=by
 rw[Lp w _ 9 5 _ _ _ underlying22 underlying5 underlying9];apply run_bytesToString w _ n _ l;obtain⟨c,_⟩|⟨_,_,_,e,_,d,_,_,_,_⟩:=b.2
 .cases c
 .cases e;have:=run_loadCells_list (P:=S) w _ (B8 l) (λf h _=>by
   apply B9 d f h;grind)
  rw[akw,zq b]at this;exact this
def uy(w:A0)(c):(w.alloc<|A5 #[zU c] 5).ownsRow w.heap.size 5 1 (bI w.heap.size 1 1) 1 (B8 [c]):=
 ⟨R,.inr ⟨w.heap.size,1,#[zU c],R,eE,au w _,eE,byM,R,R⟩⟩
theorem apk(c):V (esc c)<=4:=by
 unfold esc;grind
def qt(s:Bz)(k:Nat):zLI:=34::(s.data.toList.take k).flatMap λb=>esc (b.toNat:Int)
def apl(s):qt s 0=[34]:=rfl
theorem vL(s k h):qt s (k+1)=qt s k++esc (s[k].toNat:Int):=by
 unfold qt;rw[List.take_succ_eq_append_getElem byS];simp only[BI,Cb,List.flatMap_nil,fp,fh];rfl
def GC(s):∀k,k<=s.size->V (qt s k)<=1+4*k
 |0,_=>by simp[qt]|k+1,h=>by
  have:=GC s k O;have a:=apk<|s[k].toNat;rw[vL s k O,aG];omega
def eJ(s:Bz):zLI:=qt s s.size++[34]
def J3(s:Bz)(t:s.size<=4000)(w):
  A1 S 159 #[M s] w λe w'=>e=T (M<|dK<|eJ s)/\A2 w.heap.size w w':=by
 go_in;go_wp2;go_loopw [3,11] (λm h wr=>∃a b:Nat,a<=s.size/\h=zI a/\wr.ownsRow w.heap.size 5 1 m b (B8<|qt s a)/\A2 w.heap.size w wr) (λ_ h _=>s.size-(B3 h).toNat)
 .exact⟨0,1,O,R,uy w _,blR.alloc O _⟩
 .
  obtain⟨a,b,k,rfl,f,c⟩:=hrel;have o:=zq f;have r:=GC s a k;have q:b<=20000:=O;by_cases p:a<s.size
  .have l:E1 (qt s (a+1)=qt s a++esc (s[a].toNat:Int)):=vL s a _;have n:(s[a].toNat:Int)<256:=by have:=s[a].toNat_lt;omega
   go_wp2_with (go_at_call 258;apply(atn _ b _ _ _ O O _ f c.size O).mono;rintro e w' ⟨j,i,rfl,g,d⟩);go_roundw
   .exact⟨a+1,_,O,by go_num,by rw[l.out];exact g,c.trans d⟩
   simp[B3];omega
  .have l:a=s.size:=O;subst l;go_wp2_with (at_builtin;apply js R _ _ R _ _ b _ R f c.size O [34] 1 R Z Z _ R R;intro j i w1 g d;have n:=lK g);go_ret;exact⟨R,c.trans d⟩
structure Cd where
 len:Nat
 cd:Nat->Int
 ok:len<=1048576
 bt:∀i,0<=cd i/\cd i<256
def Code(C:Cd)(d:Nat)(w:A0)(c:zOA):Prop:=
 C.len=0\/∃a b,c=Ax (aj a b)/\a<d/\∀i,i<C.len->w.cell? (aj a<|b+i)=Ax (zU<|C.cd i)
def Code.below{C a}(h:Code C base w a)(d:A2 base w w'):Code C base w' a:=by
 obtain h|⟨_,_,c,b,e⟩:=h
 .exact .inl h
 .exact .inr ⟨_,_,c,b,λg f=>(d.cell b).trans<|e g f⟩
structure Bs where
 base:Nat
 cb:Nat
 bb:Nat
 a0:zOA
 cap:Nat
abbrev cV(E:Bs):A3:=be E.cb 0
structure Cr where
 p:Int
 q:Int
 r:Int
abbrev cuO(C:Cd)(E:Bs)(c:Cr):Obj:=A5 #[B1 E.a0 C.len E.cap,zI c.p,C2 .u64 c.q,zI c.r] 42 (0,0)
structure Cu (C:Cd) (E:Bs) (w:A0) (c:Cr):Prop where
 lo:E.base<=E.cb/\E.base<=w.heap.size
 code:Code C E.base w E.a0
 cur:w.heap[E.cb]?=Ax (cuO C E c)
def tA(w:A0)(b):w.grownBy w (Ax b):=⟨R,R,R,eE,λ_ _ _=>rfl⟩
def xB(h:w0.grownBy w (Ax b))(n):w0.grownBy (w.drewN n) (Ax b):=⟨h.os,h.tape,h.output,h.size,h.block⟩
theorem Dw(h:w0.grownBy w (Ax b))(i v):w0.grownBy (w.setCell (aj b i) v) (Ax b):=
 ⟨h.os,h.tape,h.output,by simpa [B7] using h.size,λd a c=>by rw[jg U];exact h.block d a c⟩
def abH{x z:A0}(h:x.grownBy y (Ax b))(k:y.grownBy z (Ax b)):x.grownBy z (Ax b):=
 ⟨k.os.trans h.os,k.tape.trans h.tape,k.output.trans h.output,bK h.size k.size,λd a c=>(k.block d (jm a h.size) c).trans<|h.block d a c⟩
theorem xC{x}(h:x.grownBy y (Ax b))(c:base<=b)(a:base<=x.heap.size):A2 base x y:=
 (ay base x).grown h a (λ_ _=>U)
def aiy(a w n):A2 a w (w.drewN n):=⟨R,R,R,eE,λ_ _=>rfl⟩
def ay1(x):0<=wrap64 (bits .and .u64 (IntKind.u64.wrap x / 1099511627776) 255)/\wrap64 (bits .and .u64 (IntKind.u64.wrap x / 1099511627776) 255)<256:=by
 have g:IntKind.u64.wrap x=x%18446744073709551616:=by rfl
 have d:0<=IntKind.u64.wrap x / 1099511627776:=O;have e:IntKind.u64.wrap x / 1099511627776<2 ^ 24:=O;have f:∀a:Int,0<=a->a<2 ^ 24->IntKind.u64.wrap a=a:=λa _ _=>by
  have b:IntKind.u64.wrap a=a%18446744073709551616:=by rfl
  omega
 have:=bits_mask _ _ Z f 8 Z _ d e;have b:((2:Int) ^ 8-1)=255:=Z;rw[b]at this;have c:((2:Int) ^ 8)=256:=Z;rw[this,c];unfold wrap64;omega
def Cq(C:Cd)(E:Bs)(w:A0)(m:Nat):Prop:=∃c,Cu C E w c/\0<=c.p/\c.p+m<=1000000000000
def Rq(f:FuncId)(a:zLV)(k:Nat)(P:A3->Prop):Prop:=
 ∀ ⦃C:Cd⦄ ⦃E:Bs⦄ ⦃w:A0⦄ ⦃m:Nat⦄,Cq C E w m->k<=m->A1 S f (cV E::a).toArray w λb w'=>∃v,b=T v/\P v/\Cq C E w' (m-k)/\w.grownBy w' (Ax E.cb)
abbrev PIn(a b:Int)(v:A3):Prop:=∃c,v=zI c/\a<=c/\c<b
abbrev PS(n:Nat)(v:A3):Prop:=∃t:Bz,v=M t/\t.size<=n
section
variable {C : Cd} {E : Bs} {w w' W : World} {c c' : Cr} {m : Nat}
def Cu.lt(h:Cu C E w c):E.cb<w.heap.size:=ai h.cur
theorem Cu.cells(h:Cu C E w c):(w.cell? (aj E.cb 0)=Ax (B1 E.a0 C.len E.cap)/\w.cell? (aj E.cb 1)=Ax (zI c.p)/\w.cell? (aj E.cb 2)=Ax (C2 .u64 c.q)/\w.cell? (aj E.cb 3)=Ax (zI c.r))/\∀i,w.frozen? (aj E.cb i)=X:=by
 have r:=λi=>yL w _ i _ _ _ h.cur;exact⟨U,λi=>frR h.cur⟩
def Cu.grown(h:Cu C E w c)(g:w.grownBy w' (Ax E.cb))(b:w'.heap[E.cb]?=Ax (cuO C E c')):Cu C E w' c':=by
 have a:=xC g h.lo.1 h.lo.2;exact⟨⟨h.lo.1,bK h.lo.2 a.size⟩,h.code.below a,b⟩
def Cu.below(h:Cu C E w c)(a:A2 w.heap.size w w'):Cu C E w' c:=⟨⟨h.lo.1,bK h.lo.2 a.size⟩,h.code.below<|a.mono h.lo.2,(a.block _ h.lt).trans h.cur⟩
def aky:Rq 116 [] 1 (PIn 0 256):=by
 rintro g j i p ⟨⟨b,_,q⟩,f,n,m⟩ l;replace n:0<=b:=n;have m:b+p<=1000000000000:=m;have x:=g.ok;have t:=f.cells;have k:E1 (0<=b+1/\(b+1)+((p-1:Nat):Int)<=1000000000000):=by show _/\_;omega
 by_cases w:b<g.len
 .have⟨v,o⟩:=aw<|g.cd b.toNat;have h:=g.bt b.toNat;rw[o]at h;obtain _|⟨_,_,s,_,u⟩:=f.code
  .omega
  have r:=u b.toNat O;rw[o]at r;rw[s]at t;have y:=h.1;have z:=h.2;have a:=jG f (λc d e=>Dw (Dw (xB (tA i j.cb) c) 1 d) 2 e) (λc d e=>aD _ _ 2 _ _ e<|aD (i.drewN c) _ 1 _ _ d f.cur);clear l;go_in;go_wp2;go_quiet (fail)
  go_wp2;go_quiet (fail)
  go_wp2;go_ret;exact⟨_,R,⟨v,R,h⟩,⟨⟨_,_,q⟩,a.1.grown (a.2.1 _ _ _)<|a.2.2 _ _ _,k⟩,a.2.1 _ _ _⟩
 .have a:=jG f (λc d e=>Dw (Dw (xB (tA i j.cb) c) 2 d) 1 e) (λc d e=>aD _ _ 1 _ _ e<|aD (i.drewN c) _ 2 _ _ d f.cur);have h:=ah ay1;clear l;go_in;go_wp2;go_quiet (fail)
  go_wp2;go_ret;exact⟨_,R,⟨_,R,h _⟩,⟨⟨_,_,q⟩,a.1.grown (a.2.1 _ _ _)<|a.2.2 _ _ _,k⟩,a.2.1 _ _ _⟩
end
def Ch(w):(convert 22 9 fe).run S w= .ok (M B0) w:=by
 rw[Lp w _ 9 5 _ _ _ underlying22 underlying5 underlying9];rfl
theorem aiz(l:zLI):∀r:Bz,(l.foldl (λr n=>r.push<|UInt8.ofNat n.toNat) r).size=r.size+V l:=by
 induction l with
 |nil=>grind|cons b l a=>intro r;simp[dD];rw[a,ByteArray.size_push];omega
theorem zr(l):(dK l).size=V l:=by
 rw[dK,aiz];simp
def ato{e:Nat}(h:w.ownsRow base e size v n xs)(a:b<base):v.ownBlock=Br\/v.ownBlock≠Ax b:=by
 right;intro e;have:=(h.lt b e).1;omega
def akz{x z:A0}(h:x.grownBy y (Ax b))(k:A2 x.heap.size y z):x.grownBy z (Ax b):=
 ⟨k.os.trans h.os,k.tape.trans h.tape,k.output.trans h.output,bK h.size k.size,λc a d=>(k.block c a).trans<|h.block c a d⟩
structure Cw (C:Cd) (E:Bs) (W w:A0) (m:Nat):Prop where
 cu:Cq C E w m
 gr:W.grownBy w (Ax E.cb)
section
variable {C : Cd} {E : Bs} {w w' W : World} {v : Value} {ar : zLV} {f : FuncId} {Q : Ending → World → Prop} {P : Value → Prop} {m k : Nat}
def Cq.lt(h:Cq C E w m):E.cb<w.heap.size:=h.elim λ_ h=>h.1.lt
def Cq.lo(h:Cq C E w m):E.base<=E.cb/\E.base<=w.heap.size:=h.elim λ_ h=>h.1.lo
def Cq.cur(h:Cq C E w m):∃c,w.heap[E.cb]?=Ax (cuO C E c):=h.elim λc h=>⟨c,h.1.cur⟩
def Cq.keep(h:Cq C E w m)(a:A2 E.base w w')(b:∀{c},w.heap[E.cb]?=Ax (cuO C E c)->w'.heap[E.cb]?=Ax (cuO C E c)):Cq C E w' m:=h.elim λc h=>⟨c,⟨⟨h.1.lo.1,bK h.1.lo.2 a.size⟩,h.1.code.below a,b h.1.cur⟩,h.2⟩
def Cq.cw(h:Cq C E w m):Cw C E w w m:=⟨h,tA _ _⟩
def Cq.below(h:Cq C E w m)(b:A2 w.heap.size w w'):Cq C E w' m:=h.elim λa h=>⟨a,h.1.below b,h.2⟩
def Cq.le(h:Cq C E w m)(b:k<=m):Cq C E w k:=h.elim λa h=>⟨a,h.1,O⟩
def Cw.below(a:Cw C E W w m)(b:A2 w.heap.size w w'):Cw C E W w' m:=⟨a.cu.below b,akz a.gr<|b.mono a.gr.size⟩
def Cw.own(a:Cw C E W w m)(b:A2 W.heap.size w w')(f:E.cb<W.heap.size):Cw C E W w' m:=by
 obtain⟨⟨c,a,d⟩,e⟩:=a;have:=a.lo.1;exact⟨⟨c,⟨⟨a.lo.1,bK a.lo.2 b.size⟩,a.code.below<|b.mono O,(b.block _ f).trans a.cur⟩,d⟩,akz e b⟩
def Cw.al{o}(a:Cw C E W w m):Cw C E W (w.alloc o) m:=a.below<|dj w o
def Cw.run(a:Cw C E W w m)(h:Rq f ar k P)(H:∀v w',P v->Cw C E W w' (m-k)->w.grownBy w' (Ax E.cb)->Q (T v) w')(d:k<=m:=by omega):A1 S f (cV E::ar).toArray w Q:=
 (h a.cu d).mono λ_ w' ⟨v,g,e,c,b⟩=>g ▸ H v w' e ⟨c,abH a.gr b⟩ b
def Cw.le(a:Cw C E W w m)(b:k<=m:=by omega):Cw C E W w k:=⟨a.cu.le b,a.gr⟩
def Cw.fin(a:Cw C E W w m)(b:k<=m):Cq C E w k/\W.grownBy w (Ax E.cb):=⟨a.cu.le b,a.gr⟩
theorem atp{cs:zAV}{t}(h:E.cb<w.heap.size)(g:(w.alloc<|A5 cs t).grownBy w' (Ax E.cb))(i):w'.cell? (aj w.heap.size i)=cs[i]?:=
 yL w' w.heap.size i _ _ _ ((g.block _ I (λ_=>U)).trans<|au w _)
def gc{k}(h:1<=k:=by omega)(i:k<=1000000000:=by omega):Rq 38 [zI k] 2 (PIn 0 k):=by
 intro _ _ g _ c _;have a:=c.cw;have d:E1 (∀b:Int,0<=b%k/\b%k<k):=λb=>⟨Int.emod_nonneg _ O,Int.emod_lt_of_pos _ O⟩;clear c;obtain rfl|⟨e,f⟩|⟨e,f⟩:k=1\/(1<k/\¬200<k)\/(200<k/\1<k):=O;all_goals
  go_in
  repeat (go_wp2_with fail;refine Cw.run a aky ?_;clear a;rintro _ g ⟨_,rfl,_,_⟩ a -)
  go_wp2;go_ret;exact⟨_,R,⟨_,R,by first|decide|exact d _⟩,a.fin O⟩
def Gb(C:n<=100:=by omega):Rq 40 [zI n] n (PS n):=by
 intro m o l f h v;have i:=h.lt;go_in;go_wp21
 go_loopw [1,5] (λg z wr=>∃(a c:Nat) (e:_),g=zI a/\a+c=n/\wr.ownsRow l.heap.size 5 1 z c (B8 e)/\Cw m o l wr (f-n+a)) (λg _ _=>(B3 g).toNat)
 .exact⟨n,0,[],R,R,onN,by rw[Nat.sub_add_cancel v];exact h.cw⟩
 .
  obtain⟨a,c,e,rfl,w,b,d⟩:=hrel;have u:=zq b;have E:=d.gr.size;have p:=fs w u;by_cases k:0<a
  .have k:(0:Int)<(a:Int):=O;have G:IntKind.i64.wrap ((a:Int)-1)=((a-1:Nat):Int):=by rw[du];omega
   have B:c<=n:=O;have A:a<=n:=O;go_wp2_with (first
    |(go_at_call 116;apply d.run aky;rintro _ w1 ⟨_,rfl,_,_⟩ q j;have x:=b.kept j<|ato b i;have F:=j.size)
    |(at_builtin;apply js R _ _ R _ _ c e R x O O [_] 1 R Z Z _ R R;intro s r _ y t))
   go_roundw
   .exact⟨_,_,_,by go_num,O,y,by rw[(O:f-n+(a-1)=f-n+a-1)];exact q.own t i⟩
   simp[B3];omega
  .have k:¬(0:Int)<(a:Int):=O;have⟨_,_⟩:=p.out;obtain⟨rfl,_⟩|⟨s,r,_,rfl,_⟩:=b.2
   .have j:=Ch;go_wp2;go_ret;exact⟨_,R,⟨_,R,leZ⟩,d.fin O⟩
   .have j:=lK b;go_wp2;go_ret;exact⟨_,R,⟨_,R,by rw[zr];omega⟩,d.fin O⟩
end
def Ten(n:Nat):Prop:=n=10\/n=20\/n=40\/n=80\/n=160\/n=320\/n=640\/n=1280\/n=2560\/n=5120
def aiA{t:Bz}(h:Ten t.size)(a:t.size<4000):Ten (t++t).size:=by
 rw[az];unfold Ten at *;omega
def apm(h:Ten n)(a:¬n<4000):4001<=n:=by unfold Ten at h;omega
def apn(h:Ten n):10<=n:=by unfold Ten at h;omega
def awv:A3->Nat| .string t=>t.size|_=>0
def jD(c:Int):Bool:=decide (c=32\/c=9\/c=13)
def bi(c:Int):Bool:=decide ((97<=c/\c<=122)\/(65<=c/\c<=90)\/c=95)
def co(c:Int):Bool:=decide (48<=c/\c<=57)
theorem abI(c w):A1 S 141 #[zU c] w λe w'=>e=T (A9<|jD c)/\w=w':=by
 obtain rfl|rfl|rfl|⟨a,b,d⟩:c=32\/c=9\/c=13\/(c≠32/\c≠9/\c≠13):=O
 .go_in;exact gwR
 .go_in;exact gwR
 .go_in;exact gwR
 .have f:(c==32)=X:=U;have g:(c==9)=X:=U;have h:(c==13)=X:=U;have e:jD c=X:=by simp[jD,a,b,d]
  rw[e];exact giS
def kL(c w):A1 S 236 #[zU c] w λe w'=>e=T (A9<|co c)/\w=w':=by
 obtain h|h|⟨_,b⟩:c<48\/57<c\/(48<=c/\c<=57):=O
 .have e:co c=X:=by simp[co];omega
  rw[e];clear e;have a:¬48<=c:=O;exact giS
 .have e:co c=X:=by simp[co];omega
  rw[e];clear e;have a:¬c<=57:=O;have b:48<=c:=O;exact giS
 .have e:co c=Y:=by simp[co];omega
  rw[e];clear e;exact giS
theorem pi(c w):A1 S 234 #[zU c] w λe w'=>e=T (A9<|bi c)/\w=w':=by
 obtain⟨f,g⟩|⟨f,g⟩|rfl|h|⟨f,g,_⟩|h:(97<=c/\c<=122)\/(65<=c/\c<=90)\/c=95\/c<65\/(90<c/\c<97/\c≠95)\/122<c:=O
 .have e:bi c=Y:=by simp[bi];omega
  rw[e];clear e;exact giS
 .have e:bi c=Y:=by simp[bi];omega
  rw[e];clear e;have a:¬97<=c:=O;exact giS
 .go_in;exact gwR
 .have e:bi c=X:=by simp[bi];omega
  rw[e];clear e;have a:¬97<=c:=O;have b:¬65<=c:=O;have d:(c==95)=X:=U;exact giS
 .have e:bi c=X:=by simp[bi];omega
  rw[e];clear e;have a:¬97<=c:=O;have b:65<=c:=O;have i:¬c<=90:=O;have d:(c==95)=X:=U;exact giS
 .have e:bi c=X:=by simp[bi];omega
  rw[e];clear e;have a:97<=c:=O;have b:¬c<=122:=O;have i:65<=c:=O;have j:¬c<=90:=O;have d:(c==95)=X:=U;exact giS
def ix(c:Int):Int:=ite (48<=c/\c<=57) (c-48)<|ite (97<=c/\c<=102) (c-87) (-1)
def akA:∀n:Fin 256,Lib.indexByte [48,49,50,51,52,53,54,55,56,57,97,98,99,100,101,102] (n.val.toUInt8)=ix (n.val:Int):=by decide+kernel
theorem apo(c)(a:0<=c)(b:c<256):Lib.indexByte [48,49,50,51,52,53,54,55,56,57,97,98,99,100,101,102] c.toNat.toUInt8=ix c:=by
 have:=akA ⟨c.toNat,O⟩;grind
def akB(c)(a:0<=c)(b:c<256)(w):A1 S 316 #[M ⟨#[48,49,50,51,52,53,54,55,56,57,97,98,99,100,101,102]⟩,zU c] w λe w'=>e=T (zI<|ix c)/\w'=w:=by
 rw[<-apo c a b];go_in;go_wp2;rw[nI func350 byR byR byR byR,Lib.run_indexByteString];simp only[Result.andThen];rw[Oper.upon_value];exact gwS
theorem zt(c)(a:0<=c)(b:c<256)(w):A1 S 365 #[M ⟨#[48,49,50,51,52,53,54,55,56,57,97,98,99,100,101,102]⟩,zU c] w λe w'=>e=T (zI<|ix c)/\w'=w:=by
 go_in;go_wp2_with (go_at_call 316;apply(akB c a b _).mono;rintro e w' ⟨rfl,rfl⟩);go_ret
 simp_all
def aq(s:Bz)(i:Nat):Int:=if h:i<s.size then(s[i].toNat:Int) else -1
def ll(h:i<s.size:=by omega):0<=aq s i/\aq s i<256:=by
 rw[aq,pc h];have:=s[i].toNat_lt;omega
theorem dH(h:¬i<s.size:=by omega):aq s i= -1:=by unfold aq;grind
def dy(h:i<s.size)(w):(B6 9 (M s)<|zI (i:Int)).run S w= .ok (zU<|aq s i) w:=by
 rw[aq,pc h];go_simp
theorem Ci(h:i+1<s.size)(w):(B6 9 (M s)<|zI<|(i:Int)+1).run S w= .ok (zU<|aq s<|i+1) w:=by
 have:=dy h w;grind
def qu(c):ix c<16:=by unfold ix;omega
def or4(a b)(e:0<=a)(f:a<256)(g:a%16=0)(c:0<=b)(d:b<16):bits .or .i64 a b=a+b:=
 bits_join .i64 8 Z (λ_ a b=>by rw[du];omega) 4 a b e g f c d O
def or0(b)(a:0<=b)(c:b<16):bits .or .i64 0 b=b:=by
 have:=or4 0 b O O O a c;omega
def hexI(s:Bz)(p:Nat):Int×Nat×Bool:=
 ite (ix (aq s p)<0) (0,p,X) (ite (ix (aq s<|p+1)<0) (0,p+1,X) (ix (aq s p)*16+ix (aq s<|p+1),p+1+1,Y))
def akC(r:Int×Nat×Bool):A3:=B2 #[zU r.1,zI (r.2.1:Int),A9 r.2.2]
theorem abJ(s)(v:s.size<=100000)(p)(j:p+1<s.size)(x a)(d:ix (aq s p)=x)(f:ix (aq s<|p+1)=a)(x0:0<=x)(q:0<=a)(w):
  A1 S 341 #[M s,zI p] w λe w'=>e=T (B2 #[zU<|x*16+a,zI<|(p:Int)+1+1,A9 Y])/\w'=w:=by
 have o:x<16:=by rw[<-d];exact qu _
 have r:a<16:=by rw[<-f];exact qu _
 have m:=λw=>dy (s:=s) (i:=p) O w;have n:=λw=>Ci O w;have t:=or0 x x0 o;have u:=or4 (x*16) a O O O q r;have b:=ll (s:=s) (i:=p) O;have c:=ll j;have⟨g,k⟩:=aw<|aq s p;have⟨h,l⟩:=aw<|aq s<|p+1;rw[k]at d m b;rw[l]at f n c;go_in;go_wp21
 apply ql 3;rw[jw];go_wp2_with (go_at_call 365;apply(zt g b.1 b.2 _).mono;rintro e w' ⟨rfl,rfl⟩);rw[jw];go_wp2_with (go_at_call 365;apply(zt h c.1 c.2 _).mono;rintro e _ ⟨rfl,rfl⟩);rw[jw];go_wp2;go_ret3
 simp_all
theorem Jm(s)(h:s.size<=100000)(p)(g:p<s.size)(x)(d:ix (aq s p)=x)(x0:x<0)(w):
  A1 S 341 #[M s,zI p] w λe w'=>e=T (B2 #[zU 0,zI (p:Int),A9 X])/\w'=w:=by
 have f:=λw=>dy O w;have a:=ll O;have⟨b,c⟩:=aw<|aq s p;rw[c]at d f a;go_in;go_wp21
 apply ql 1;rw[jw];go_wp2_with (go_at_call 365;apply(zt b a.1 a.2 _).mono;rintro e w' ⟨rfl,rfl⟩);go_ret3
 simp_all
theorem abK(s:Bz)(b:s.size<=100000)(p)(a:p=s.size)(w):
  A1 S 341 #[M s,zI p] w λe w'=>e=T (B2 #[zU 0,zI (p:Int),A9 X])/\w'=w:=by
 subst a;go_in;go_wp2_with fail;apply ql 1;rw[jw];go_wp2;go_ret3
 simp_all
theorem GD(s)(o:s.size<=100000)(p)(h:p+1<s.size)(x d)(c:ix (aq s p)=x)(l:ix (aq s<|p+1)=d)(x0:0<=x)(r:d<0)(w):
  A1 S 341 #[M s,zI p] w λe w'=>e=T (B2 #[zU 0,zI<|(p:Int)+1,A9 X])/\w'=w:=by
 have q:x<16:=by rw[<-c];exact qu _
 have m:=λw=>dy (s:=s) (i:=p) O w;have n:=λw=>Ci O w;have a:=ll (s:=s) (i:=p) O;have b:=ll h;have⟨f,j⟩:=aw<|aq s p;have⟨g,k⟩:=aw<|aq s<|p+1;rw[j]at c m a;rw[k]at l n b;go_in;go_wp21
 apply ql 2;rw[jw];go_wp2_with (go_at_call 365;apply(zt f a.1 a.2 _).mono;rintro e w' ⟨rfl,rfl⟩);rw[jw];go_wp2_with (go_at_call 365;apply(zt g b.1 b.2 _).mono;rintro e _ ⟨rfl,rfl⟩);go_ret3
 simp_all
theorem abL(s)(h:s.size<=100000)(p)(g:p+1=s.size)(x)(b:ix (aq s p)=x)(x0:0<=x)(w):
  A1 S 341 #[M s,zI p] w λe w'=>e=T (B2 #[zU 0,zI<|(p:Int)+1,A9 X])/\w'=w:=by
 have l:x<16:=by rw[<-b];exact qu _
 have f:=λw=>dy (s:=s) (i:=p) O w;have j:((p:Int)+1==(s.size:Int))=Y:=U;have k:p<=100000:=O;have a:=ll (s:=s) (i:=p) O;have⟨c,d⟩:=aw<|aq s p;rw[d]at b f a;go_in;go_wp21
 apply ql 2;rw[jw];go_wp2_with (go_at_call 365;apply(zt c a.1 a.2 _).mono;rintro e w' ⟨rfl,rfl⟩);rw[jw];go_wp2;go_ret3
 simp_all
theorem ab0(s:Bz)(a:s.size<=100000)(p)(h:p<=s.size)(w):
  A1 S 341 #[M s,zI p] w λe w'=>e=T (akC<|hexI s p)/\w'=w:=by
 have g:ix (-1)= -1:=Z;unfold hexI akC;by_cases f:p<s.size
 .by_cases c:ix (aq s p)<0
  .rw[ae c];exact Jm s a p f _ R c w
  .rw[aa c];by_cases b:p+1<s.size
   .by_cases d:ix (aq s<|p+1)<0
    .rw[ae d];exact GD s a p b _ _ R R O d w
    .rw[aa d];exact abJ s a p b _ _ R R O O w
   .have e:=dH b;rw[ae U];exact abL s a p O _ R O w
 .have e:=dH f;rw[ae U];exact abK s a p O w
def jt(s:Bz)(p:Nat):Int×Nat×Bool:=
 ite (aq s p=110) (10,p+1,Y) (ite (aq s p=116) (9,p+1,Y)<|ite (aq s p=34\/aq s p=92) (aq s p,p+1,Y)<|ite (aq s p=120) (hexI s<|p+1) (0,p,X))
theorem ab1(s:Bz)(m:s.size<=100000)(p)(h:p<=s.size)(w):
  A1 S 298 #[M s,zI p] w λe w'=>e=T (akC<|jt s p)/\w'=w:=by
 by_cases k:p<s.size
 .have n:=λw=>dy O w;have o:=ll O;have b:=ab0 s m (p+1) O;have g:((p+1:Nat):Int)=(p:Int)+1:=O;rw[g]at b;unfold jt;have⟨a,l⟩:=aw<|aq s p;rw[l]at n o⊢;by_cases c:a=110
  .subst c;go_in;go_wp2;go_ret3
   exact rr
  rw[aa c];have q:(a==110)=X:=U;by_cases d:a=116
  .subst d;go_in;go_wp2;go_ret3
   exact rr
  rw[aa d];have r:(a==116)=X:=U;by_cases i:a=34
  .subst i;go_in;go_wp2;go_ret3
   exact rr
  have t:(a==34)=X:=U;by_cases j:a=92
  .subst j;go_in;go_wp2;go_ret3
   exact rr
  have u:(a==92)=X:=U;rw[Bw];by_cases f:a=120
  .subst f;rw[ae rfl];unfold akC at b⊢;go_in;go_wp2_with (go_at_call 341;apply(b _).mono;rintro e w' ⟨rfl,rfl⟩);go_ret3
   simp_all
  rw[aa f];have v:(a==120)=X:=U;go_in;go_wp2;go_ret3
  exact rr
 .have e:=dH k;have a:jt s p=(0,p,X):=by unfold jt;grind
  rw[a];obtain rfl:p=s.size:=O;go_in;go_wp2;go_ret3
  exact rr
theorem agt(s p)(h:p<=s.size):p<=(hexI s p).2.1/\(hexI s p).2.1<=s.size/\0<=(hexI s p).1/\(hexI s p).1<256:=by
 have d:ix (-1)= -1:=Z;have g:=qu<|aq s p;have j:=qu<|aq s<|p+1;unfold hexI;split
 .grind
 .rename_i e;have b:p<s.size:=by
   obtain h|h:=cG p s.size
   .exact h
   .have a:=dH (s:=s) (i:=p) O;grind
  split
  .grind
  .rename_i f;have c:p+1<s.size:=by
    obtain h|h:=cG (p+1) s.size
    .exact h
    .have a:=dH (s:=s) (i:=p+1) O;grind
   grind
theorem agu(s p)(h:p<=s.size:=by omega):p<=(jt s p).2.1/\(jt s p).2.1<=s.size/\0<=(jt s p).1/\(jt s p).1<256:=by
 unfold jt;by_cases a:p<s.size
 .have b:=ll a;split
  .grind
  split
  .grind
  split
  .grind
  split
  .have:=agt s (p+1) O;omega
  grind
 .have b:=dH a;grind
def akD(s p)(h:p<=s.size)(a:(jt s p).2.2=Y):p+1<=(jt s p).2.1:=by
 revert a;unfold jt;split
 .simp
 split
 .simp
 split
 .simp
 split
 .rename_i b;have d:p<s.size:=by
   obtain h|h:=cG p s.size
   .exact h
   .have c:=dH (s:=s) (i:=p) O;omega
  intro _;exact(agt s _ O).1
 .simp
def ja(b:Nat)(w:A0)(s:Bz)(m:A3)(fr p l:Int)(k:Bool):Prop:=
 w.heap[b]?=Ax (A5 #[M s,m,zI fr,zI p,zI l,A9 k] 119 (0,0))
def eK(b:Nat)(w:A0)(k f t l n:Int)(x:Bz):Prop:=
 w.heap[b]?=Ax (A5 #[zI k,zI f,zI t,zI l,zI n,M x] 58 (0,0))
def ie(h:ja b w s m fr p l k):
  w.cell? (aj b 0)=Ax (M s)/\w.cell? (aj b 1)=Ax m/\w.cell? (aj b 3)=Ax (zI p)/\w.cell? (aj b 4)=Ax (zI l)/\w.cell? (aj b 5)=Ax (A9 k)/\
  w.frozen? (aj b 3)=X/\w.frozen? (aj b 4)=X/\w.frozen? (aj b 5)=X:=by
 unfold ja at h;exact⟨crV h,crV h,crV h,crV h,crV h,frR h,frR h,frR h⟩
def Ly(h:ja b w s m fr p l k):w.cell? (aj b 2)=Ax (zI fr)/\w.frozen? (aj b 2)=X:=by
 unfold ja at h;exact⟨crV h,frR h⟩
def ja.setF(h:ja b w s m fr p l k)(x):ja b (w.setCell (aj b 2)<|zI x) s m x p l k:=aD w b 2 _ _ _ h
def aJ{k n x}(h:eK b w k f t l n x):
  w.cell? (aj b 0)=Ax (zI k)/\w.cell? (aj b 1)=Ax (zI f)/\w.cell? (aj b 2)=Ax (zI t)/\w.cell? (aj b 3)=Ax (zI l)/\w.cell? (aj b 4)=Ax (zI n)/\w.cell? (aj b 5)=Ax (M x)/\
  (∀j,w.frozen? (aj b j)=X):=by
 unfold eK at h;exact⟨crV h,crV h,crV h,crV h,crV h,crV h,λj=>frR h⟩
def ja.setP(h:ja b w s m fr p l k)(x):ja b (w.setCell (aj b 3)<|zI x) s m fr x l k:=aD w b 3 _ _ _ h
def ja.setL(h:ja b w s m fr p l k)(x):ja b (w.setCell (aj b 4)<|zI x) s m fr p x k:=aD w b 4 _ _ _ h
def ja.setK(h:ja b w s m fr p l k)(x):ja b (w.setCell (aj b 5)<|A9 x) s m fr p l x:=aD w b 5 _ _ _ h
def ja.other(h:ja b w s m fr p l k)(c:b≠a.block)(v):ja b (w.setCell a v) s m fr p l k:=(za w a b v c).trans h
def ja.drewN(h:ja b w s m fr p l k)(n):ja b (w.drewN n) s m fr p l k:=h
def ja.below(h:ja b w s m fr p l k)(a:A2 B w w')(c:b<B):ja b w' s m fr p l k:=(a.block b c).trans h
def eK.other{k n x}(h:eK b w k f t l n x)(c:b≠a.block)(v):eK b (w.setCell a v) k f t l n x:=(za w a b v c).trans h
def eK.drewN{k n x}(h:eK b w k f t l n x)(q):eK b (w.drewN q) k f t l n x:=h
def eK.below{k n x}(h:eK b w k f t l n x)(a:A2 B w w')(c:b<B):eK b w' k f t l n x:=(a.block b c).trans h
def eK.setKind{k n x}(h:eK b w k f t l n x)(a):eK b (w.setCell (aj b 0)<|zI a) a f t l n x:=aD w b 0 _ _ _ h
def eK.setTo{k n x}(h:eK b w k f t l n x)(a):eK b (w.setCell (aj b 2)<|zI a) k f a l n x:=aD w b 2 _ _ _ h
def eK.setNum{k n x}(h:eK b w k f t l n x)(a):eK b (w.setCell (aj b 4)<|zI a) k f t l a x:=aD w b 4 _ _ _ h
def eK.setText{k n x}(h:eK b w k f t l n x)(a:Bz):eK b (w.setCell (aj b 5)<|M a) k f t l n a:=aD w b 5 _ _ _ h
def gy(s:Bz):Nat->Nat->zLI->Bool×Nat×zLI
 |0,p,a=>(X,p,a)|f+1,p,a=>if s.size<=p then(X,p,a) else if aq s p=34 then(Y,p+1,a) else if aq s p=10 then(X,p,a) else if aq s p=92 then
   (if(jt s<|p+1).2.2=Y then gy s f (jt s<|p+1).2.1 (a++[(jt s<|p+1).1]) else(X,(jt s<|p+1).2.1,a))
  else gy s f (p+1) (a++[aq s p])
theorem xD(s:Bz:=by omega):∀(f p)(a),p<=s.size->p<=(gy s f p a).2.1/\(gy s f p a).2.1<=s.size/\(gy s f p a).2.2.length<=V a+(s.size-p)
 |0,p,a,h=>by simp[gy];omega|f+1,p,a,h=>by
  unfold gy;split
  .grind
  split
  .grind
  split
  .grind
  split
  .have e:=agu s<|p+1;split
   .rename_i b;have:=xD s f _ (a++[(jt s<|p+1).1]) e.2.1;grind
   grind
  .have:=xD s f (p+1) (a++[aq s p]) O;grind
structure vG (b t:Nat) (w w':A0):Prop where
 os:w'.os=w.os
 tape:w'.tape=w.tape
 output:w'.output=w.output
 size:w.heap.size<=w'.heap.size
 block:∀k,k<w.heap.size->k≠b->k≠t->w'.heap[k]?=w.heap[k]?
def vG.refl(b t w):vG b t w w:=⟨R,R,R,eE,λ_ _ _ _=>rfl⟩
def vG.trans{t x z}(h:vG b t x y)(k:vG b t y z):vG b t x z:=
 ⟨k.os.trans h.os,k.tape.trans h.tape,k.output.trans h.output,bK h.size k.size,λe d a c=>(k.block e (jm d h.size) a c).trans<|h.block e d a c⟩
def vG.drewN{t x}(h:vG b t x y)(n):vG b t x (y.drewN n):=⟨h.os,h.tape,h.output,h.size,h.block⟩
def vG.drew{t x}(h:vG b t x y):vG b t x y.drew:=⟨h.os,h.tape,h.output,h.size,h.block⟩
def vG.setB{t x}(h:vG b t x y)(i v):vG b t x (y.setCell (aj b i) v):=
 ⟨h.os,h.tape,h.output,by simpa [B7] using h.size,λe d a c=>by rw[jg a];exact h.block e d a c⟩
def vG.setT{t x}(h:vG b t x y)(i v):vG b t x (y.setCell (aj t i) v):=
 ⟨h.os,h.tape,h.output,by simpa [B7] using h.size,λe d c a=>by rw[jg a];exact h.block e d c a⟩
def vG.below{t x z}(h:vG b t x y)(k:A2 x.heap.size y z):vG b t x z:=
 ⟨k.os.trans h.os,k.tape.trans h.tape,k.output.trans h.output,bK h.size k.size,λc a d e=>(k.block c a).trans<|h.block c a d e⟩
def agv{e a}(k:o.guard=Br)(s x)
  (u:o.op= .call {callee:= .builtin .append,args:=#[s,x],argTypes:=#[22,22]}) (b) (v) (n) (l) (z:a.eval s=v)
  (y:w.ownsRow b 5 1 v n (B8 l)) (i:b<=w.heap.size) (t:n<=100000) (c:zLI) (m) (p:V c=m) (q:0<m) (r:m<=100) (cs:zAV) (j:cs.toList=B8 c)
  (H) (A:a.eval x=bI H m m) (f:w.heap.size=H)
  (h:∀g d w1,w1.ownsRow b 5 1 (bI g (n+m) d) (n+m) (B8<|l++c)->A2 b w w1->wpList S ops Q e (a.put o.dst<|bI g (n+m) d) w1):
  wpList S ops Q (o::e) a (w.alloc<|A5 cs 5):=by
 subst f;exact js k s x u _ v n l z y i t _ m p q r _ j A h
theorem akE(w:A0)(n a v):((w.drewN n).setCell a v).heap.size=w.heap.size:=byS
def ay2{e:Nat}(h:w.ownsRow base e size v n xs)(a:b<base)(q r x c):((((w.drewN q).setCell ⟨b,3,Br⟩ x).drewN r).setCell ⟨b,3,Br⟩ c).ownsRow base e size v n xs:=by
 exact jo (jo h a x) a c
def J4(b:Nat)(w:A0):Nat:=match w.cell? (aj b 3) with|some (.int _ a)=>a.toNat|_=>0
def xF{p:Nat}(h:ja b w s m fr p l k):J4 b w=p:=by
 rw[J4,(ie h).2.2.1];simp
def pI(b t:Nat)(a:A0)(s:Bz)(m:A3)(fr:Int)(l f c:Int)(R1:Bool×Nat×zLI):Prop:=
 ite (R1.1=Y) (ja b a s m fr R1.2.1 l X/\eK t a 4 f 0 c 0 (dK R1.2.2)) (ja b a s m fr R1.2.1 l Y/\eK t a 0 f 0 c 0 B0)
theorem pI.yes{t c R1}{p:Nat}{a}(h:(Y,p,a)=R1)(d:ja b w' s m fr p l X)(e:eK t w' 4 f 0 c 0 (dK a)):pI b t w' s m fr l f c R1:=by
 subst h;unfold pI;grind
theorem pI.no{t c R1}{p:Nat}{a}(h:(X,p,a)=R1)(d:ja b w' s m fr p l Y)(e:eK t w' 0 f 0 c 0 B0):pI b t w' s m fr l f c R1:=by
 subst h;unfold pI;grind
def agw(p):((p+1:Nat):Int)=(p:Int)+1:=O
theorem GF(s:Bz)(ba:s.size<=70000)(b t w m p l f B)(bb:p<s.size)(d:b≠t)(hS:ja b w s m fr p l X)(L:eK t w 0 f 0 B 0 B0):
  A1 S 238 #[be b 0,be t 0] w λe w'=>e=T (B2 #[])/\vG b t w w'/\
   pI b t w' s m fr l f B (gy s (s.size+1) (p+1) []):=by
 have⟨an,K⟩:=aw<|gy s (s.size+1) (p+1) [];rw[K];have r:=ai hS;have al:=ai L;have⟨ao,ap,ar,av,ax,a0,a1,a2⟩:=ie hS;go_in;go_wp21
 go_loopw [4] (λa8 wr=>∃(g v n:Nat) (x:_),ja b wr s m fr g l X/\eK t wr 0 f 0 B 0 B0/\wr.ownsRow w.heap.size 5 1 a8 v (B8 x)/\s.size<g+n/\g<=s.size/\v<=g/\E1 (gy s n g x=an)/\vG b t w wr) (λ_ wr=>s.size-J4 b wr)
 .exact⟨p+1,0,_,_,hS.setP _,L.other (dG d) _,onN,O,O,O,ah K,(vG.refl b t w).setB _ _⟩
 .
  obtain⟨g,v,n,x,h,i,u,_,_,_,C,j⟩:=hrel;have⟨ao,ap,ar,av,ax,a0,a1,a2⟩:=ie h;have⟨_,_,_,_,_,_,_⟩:=aJ i;have bc:=j.size;obtain⟨n,rfl⟩:∃z,n=z+1:=⟨n-1,O⟩;by_cases ak:g<s.size
  .have a6:=ll ak;have a5:=λw=>dy ak w;have c:=C.out;rw[gy,Bw]at c;have⟨y,a4⟩:=aw<|aq s g;rw[a4]at a6 a5 c;by_cases F:y=34
   .subst F;rw[ae rfl]at c;have k:=ah c;obtain⟨rfl,_⟩|⟨z,E,_,rfl,_⟩:=u.2
    .have o:x=[]:=by have:=zq u;grind
     have q:=Ch;go_wp21
     go_quiet (fail)
     go_wp21
     go_quiet (fail)
     go_wp2;apply aA (fE R _ _ _) R;refine⟨R,(((j.drewN _).setB _ _).setT _ _).setT _ _,pI.yes k (by rw[agw];exact(((h.drewN _).setP _).other d _).other d _) ?_⟩;rw[(ah o).out];exact(((i.drewN _).other (dG d) _).setKind _).setText _
    .have q:=λo=>lK<|jo (w:=wr.drewN o) (a:=⟨b,3,Br⟩) u r<|zI<|g+1;go_wp21
     go_quiet (fail)
     go_wp21
     go_quiet (fail)
     go_wp2;apply aA (fE R _ _ _) R;exact⟨R,(((j.drewN _).setB _ _).setT _ _).setT _ _,pI.yes k (by rw[agw];exact(((h.drewN _).setP _).other d _).other d _)<|(((i.drewN _).other (dG d) _).setKind _).setText _⟩
   rw[aa F]at c;by_cases G:y=10
   .subst G;rw[ae rfl]at c;go_wp21
    go_quiet (fail)
    go_wp21
    go_quiet (fail)
    go_wp2;apply aA (fE R _ _ _) R;exact⟨R,(j.drewN _).setB _ _,pI.no O ((h.drewN _).setK _)<|(i.drewN _).other (dG d) _⟩
   rw[aa G]at c;by_cases H:y=92
   .subst H;rw[ae rfl]at c;have o:=ab1 s O (g+1) O;have ad:=agu s<|g+1;have af:=akD s (g+1) O;rw[agw]at o;have⟨am,a3⟩:=aw<|jt s<|g+1;rw[a3]at o ad af c;obtain⟨a9,e,a7⟩:=am;simp at ad af c;unfold akC at o;simp at o;cases a7
    .rw[aa I]at c;go_wp21
     go_quiet (fail)
     go_wp21
     go_quiet (fail)
     go_wp21
     go_quiet ((go_at_call 298;exact B5<|o _))
     go_wp2;apply aA (fE R _ _ _) R;exact⟨R,(((((j.drewN _).setB _ _).drewN _).setB _ _).setB _ _),pI.no O (((((h.drewN _).setP _).drewN _).setP _).setK _)<|((((i.drewN _).other (dG d) _).drewN _).other (dG d) _).other (dG d) _⟩
    .rw[ae rfl]at c;go_wp21
     go_quiet (fail)
     go_wp21
     go_quiet (fail)
     go_wp21
     go_quiet ((go_at_call 298;exact B5<|o _))
     go_wp2_with (at_builtin;apply agv R _ _ R _ _ v _ R (ay2 u r _ _ _ _) byS O [a9] 1 R Z Z _ R _ R byS;intro z E w1 A k);have q:=((((h.drewN _).setP _).drewN _).setP _).below k r;go_roundw
     .exact⟨e,_,_,_,q,((((i.drewN _).other (dG d) _).drewN _).other (dG d) _).below k al,A,O,O,O,ah c,((((j.drewN _).setB _ _).drewN _).setB _ _).below k⟩
     rw[xF q,xF h];omega
   rw[aa H]at c;go_wp21
   go_quiet (fail)
   go_wp21
   go_quiet (fail)
   go_wp2_with (at_builtin;apply agv R _ _ R _ _ v _ R (jo u r _) byS O [y] 1 R Z Z _ R _ R<|akE _ _ _ _;intro z E w1 A k);have q:ja b w1 s m fr ((g+1:Nat):Int) l X:=by rw[agw];exact((h.drewN _).setP _).below k r
   go_roundw
   .exact⟨_,_,_,_,q,((i.drewN _).other (dG d) _).below k al,A,O,O,O,ah c,((j.drewN _).setB _ _).below k⟩
   rw[xF q,xF h];omega
  .have c:=C.out;rw[gy,ifp]at c;obtain rfl:g=s.size:=O;go_wp21
   go_quiet (fail)
   go_wp2;go_end0
   exact⟨R,(j.drewN _).setB _ _,pI.no O ((h.drewN _).setK _)<|(i.drewN _).other (dG d) _⟩
def AC{x}(h:w.grownBy x (Ax b))(v)(f:w.heap.size<=a.block):w.grownBy (x.setCell a v) (Ax b):=
 ⟨h.os,h.tape,h.output,by simpa [B7] using h.size,λe c d=>by rw[jg O];exact h.block e c d⟩
def atq{x t}(h:A2 w.heap.size w x)(k:vG b t x y)(f:w.heap.size<=t):w.grownBy y (Ax b):=
 ⟨k.os.trans h.os,k.tape.trans h.tape,k.output.trans h.output,bK h.size k.size,λc a e=>(k.block c (jm a h.size) (λd=>e (by rw[d])) O).trans<|h.block c a⟩
open Go.Maps Go.WideMaps
def iA:zAV:=#[M ⟨#[97,110,100]⟩,M ⟨#[98,114,101,97,107]⟩,M ⟨#[99,97,116,99,104]⟩,M ⟨#[99,111,110,115,116]⟩,M ⟨#[100,101,102,101,114]⟩,M ⟨#[101,108,105,102]⟩,M ⟨#[101,108,115,101]⟩,M ⟨#[102,97,108,115,101]⟩,M ⟨#[102,110]⟩,M ⟨#[102,111,114]⟩,M ⟨#[105,102]⟩,M ⟨#[105,110]⟩,M ⟨#[108,101,116]⟩,M ⟨#[110,101,120,116]⟩,M ⟨#[110,105,108]⟩,M ⟨#[110,111,116]⟩,M ⟨#[111,114]⟩,M ⟨#[114,101,116,117,114,110]⟩,M ⟨#[116,104,114,111,119]⟩,M ⟨#[116,114,117,101]⟩,M ⟨#[116,114,121]⟩,M ⟨#[119,104,105,108,101]⟩]
def og(k:Nat):Bz:=match iA[k]? with|some (.string s)=>s|_=>B0
def ay3(k:Nat)(a:k<22)(w):(B6 186 (D2 iA)<|zI (k:Int)).run S w= .ok (M<|og k) w:=by
 iterate 22 (obtain _|k:=k;· kernel_rfl)
 omega
def ab2:∀k:Fin 22,(og k.val).size<=100:=Z
def Dt{H:Type}:Nat->DataW H|0=> .map []|k+1=>(Dt k).put (.string (og k).data.toList)<|.lit<|.int .i64<|10+(k:Int)
def apq:Keyed S 9:=string_keyed underlying9
theorem uf{H}(w fr d)(f:w.heap[2]?=Ax (.cells iA d fr)):
  A1 S 48 #[] w λe w'=>e= .returned (.map<|Ax w.heap.size)/\w'.ownsMap S 9 (plainElem (H:=H) S 3) w.heap.size 22 (Dt 22)/\A2 w.heap.size w w':=by
 have b:=ai f;have n:∀w:A0,(Instr.makeMap 116<|Ax<|zI 22).run S w= .ok (.map<|Ax w.heap.size) (w.alloc<|.map #[] 0):=λw=>by rfl
 have h:(w.alloc<|.map #[] 0).heap[2]?=Ax (.cells iA d fr):=(zb w _ _ b).trans f;go_in;go_wp2_with (refine zk R 186 _ R 2 R d _ fr _ h underlying186 R byR ?_);go_loopw [6] (λc wr=>∃a:Nat,a<=22/\c=zI a/\wr.ownsMap S 9 (plainElem (H:=H) S 3) w.heap.size a (Dt a)/\A2 w.heap.size w wr) (λc _=>22-(B3 c).toNat)
 .exact⟨0,O,R,World.ownsMap_made _ _ _ _,blR.alloc O _⟩
 .
  obtain⟨a,_,rfl,k,g⟩:=hrel;by_cases b:a<22
  .have m:=λw=>ay3 a b w;have o:(og a).size<=100:=ab2 ⟨a,b⟩;have j:keyOf S 9 (.string<|og a)=Ax (.string (og a).data.toList):=keyOf_string_mk underlying9 byM;have l:E1 (Dt (H:=H) (a+1)=(Dt a).put (.string (og a).data.toList) (.lit<|.int .i64<|10+(a:Int))):=rfl;go_wp2_with (at_mapUpdate;refine wpList_mapUpdate_own _ R _ _ _ _ R 9 3 apq underlying116 _ _ a _ R k byM _ _ _ R R j _ _ (plainElem_int underlying3<|WalkArith.wf_i64 O) ?_;intro w1 _ i);go_roundw
   .exact⟨a+1,O,by go_num,by rw[l.out];omega,g.grown i g.size U⟩
   simp[B3];omega
  .obtain rfl:a=22:=O;exact gwS
def GG:zAV:=#[nh,M ⟨#[43]⟩,M ⟨#[45]⟩,M ⟨#[42]⟩,M ⟨#[47]⟩,M ⟨#[47,47]⟩,M ⟨#[37]⟩,M ⟨#[38]⟩,M ⟨#[124]⟩,M ⟨#[126]⟩,M ⟨#[60,60]⟩,M ⟨#[62,62]⟩,M ⟨#[46,46]⟩,M ⟨#[61,61]⟩,M ⟨#[126,61]⟩,M ⟨#[60]⟩,M ⟨#[60,61]⟩,M ⟨#[62]⟩,M ⟨#[62,61]⟩]
def jH:zAV:=#[M ⟨#[40]⟩,M ⟨#[41]⟩,M ⟨#[123]⟩,M ⟨#[125]⟩,M ⟨#[91]⟩,M ⟨#[93]⟩,M ⟨#[44]⟩,M ⟨#[61]⟩,M ⟨#[46]⟩,M ⟨#[46,46,46]⟩,M ⟨#[35]⟩]
def lE:zAV:=#[M ⟨#[46,46,46]⟩,M ⟨#[46,46]⟩,M ⟨#[46]⟩,M ⟨#[60,60]⟩,M ⟨#[60,61]⟩,M ⟨#[60]⟩,M ⟨#[62,62]⟩,M ⟨#[62,61]⟩,M ⟨#[62]⟩,M ⟨#[61,61]⟩,M ⟨#[61]⟩,M ⟨#[126,61]⟩,M ⟨#[126]⟩,M ⟨#[47,47]⟩,M ⟨#[47]⟩,M ⟨#[40]⟩,M ⟨#[41]⟩,M ⟨#[123]⟩,M ⟨#[125]⟩,M ⟨#[91]⟩,M ⟨#[93]⟩,M ⟨#[44]⟩,M ⟨#[59]⟩,M ⟨#[35]⟩,M ⟨#[43]⟩,M ⟨#[45]⟩,M ⟨#[42]⟩,M ⟨#[37]⟩,M ⟨#[38]⟩,M ⟨#[124]⟩]
def apr:(#[nh,M ⟨#[43]⟩,M ⟨#[45]⟩,M ⟨#[42]⟩,M ⟨#[47]⟩,M ⟨#[47,47]⟩,M ⟨#[37]⟩,M ⟨#[38]⟩,M ⟨#[124]⟩,M ⟨#[126]⟩,M ⟨#[60,60]⟩,M ⟨#[62,62]⟩,M ⟨#[46,46]⟩,M ⟨#[61,61]⟩,M ⟨#[126,61]⟩,M ⟨#[60]⟩,M ⟨#[60,61]⟩,M ⟨#[62]⟩,M ⟨#[62,61]⟩]:zAV)=GG:=rfl
def aps:(#[M ⟨#[40]⟩,M ⟨#[41]⟩,M ⟨#[123]⟩,M ⟨#[125]⟩,M ⟨#[91]⟩,M ⟨#[93]⟩,M ⟨#[44]⟩,M ⟨#[61]⟩,M ⟨#[46]⟩,M ⟨#[46,46,46]⟩,M ⟨#[35]⟩]:zAV)=jH:=rfl
def bB(a:zAV)(k:Nat):Bz:=match a[k]? with|some (.string s)=>s|_=>B0
def atr:∀k:Fin 19,GG[k.val]?=Ax (M<|bB GG k.val):=by
 intro ⟨k,_⟩
 iterate 19 (obtain _|k:=k;· rfl)
 omega
def akF:∀k:Fin 11,jH[k.val]?=Ax (M<|bB jH k.val):=by
 intro ⟨k,_⟩
 iterate 11 (obtain _|k:=k;· rfl)
 omega
def akG:∀k:Fin 30,lE[k.val]?=Ax (M<|bB lE k.val):=by
 intro ⟨k,_⟩
 iterate 30 (obtain _|k:=k;· rfl)
 omega
def Lz:∀k:Fin 22,iA[k.val]?=Ax (M<|bB iA k.val):=by
 intro ⟨k,_⟩
 iterate 22 (obtain _|k:=k;· rfl)
 omega
def Cj(a:zAV)(s:Bz):Nat->Nat->zON|0,_=>Br|f+1,k=>if((bB a k).toList==s.toList)=Y then Ax k else Cj a s f (k+1)
def Ck(s:Bz):Int:=match Cj GG s 18 1 with|some k=>60+(k:Int)|none=>(match Cj jH s 11 0 with|some k=>40+(k:Int)|none=>5)
def tB(w):A1 S 123 #[] w λe w'=>e=T (bI w.heap.size 22 22)/\w'=w.alloc (A5 iA 9):=by
 exact giR
def xG(w):A1 S 124 #[] w λe w'=>e=T (bI w.heap.size 30 30)/\w'=w.alloc (A5 lE 9):=by
 exact giR
theorem AD(s:Bz)(w):A1 S 206 #[M s] w λe w'=>e=T (zI<|Ck s)/\A2 w.heap.size w w':=by
 go_in;go_wp21
 rw[apr];have p:=au w<|A5 GG 9;have i:A2 w.heap.size w (w.alloc<|A5 GG 9):=(ay _ w).alloc O _;generalize w.alloc (A5 GG 9)=f at p i⊢;have⟨r,v⟩:=aw<|Cj GG s 18 1;have j:=ah v;go_loop [4] (λc=>∃a:Nat,1<=a/\a<=19/\c=zI a/\E1 (Cj GG s (19-a) a=r)) (λc=>19-(B3 c).toNat)
 .grind
 .
  obtain⟨a,_,y,rfl,d⟩:=hrel;by_cases n:a<19
  .have m:f.cell? (aj w.heap.size a)=Ax (M<|bB GG a):=by rw[oe p];exact atr ⟨a,n⟩
   have b:=d.out;rw[(O:19-a=(19-(a+1))+1)]at b;unfold Cj at b;generalize bB GG a=h at m b;by_cases g:(h.toList==s.toList)=Y
   .rw[ae g]at b;go_wp2;go_ret;refine⟨?_,i⟩;rw[Ck,j.out,<-(ah b).out];rfl
   .rw[aa g]at b;have k:=ah b;have z:(h.toList==s.toList)=X:=U;go_wp2;go_round
    .grind
    simp[B3];omega
  .obtain rfl:a=19:=O;have k:=ah d.out;go_wp21
   rw[aps];have q:=au f<|A5 jH 9;have l:A2 w.heap.size w (f.alloc<|A5 jH 9):=i.alloc i.size _;generalize f.alloc (A5 jH 9)=u at q l⊢;have⟨t,x⟩:=aw<|Cj jH s 11 0;have o:=ah x;go_loop [26] (λc=>∃a:Nat,a<=11/\c=zI a/\E1 (Cj jH s (11-a) a=t)) (λc=>11-(B3 c).toNat)
   .grind
   .
    obtain⟨a,y,rfl,d⟩:=hrel;by_cases n:a<11
    .have m:u.cell? (aj f.heap.size a)=Ax (M<|bB jH a):=by rw[oe q];exact akF ⟨a,n⟩
     have b:=d.out;rw[(O:11-a=(11-(a+1))+1)]at b;unfold Cj at b;generalize bB jH a=h at m b;by_cases g:(h.toList==s.toList)=Y
     .rw[ae g]at b;go_wp2;go_ret;refine⟨?_,l⟩;rw[Ck,j.out,<-k.out,o.out,<-(ah b).out];rfl
     .rw[aa g]at b;have A:=ah b;have z:(h.toList==s.toList)=X:=U;go_wp2;go_round
      .grind
      simp[B3];omega
    .obtain rfl:a=11:=O;go_wp2;go_ret;refine⟨?_,l⟩;rw[Ck,j.out,<-k.out,o.out,<-(ah d.out).out];rfl
def asu:Bz:=⟨#[59]⟩
def aww:Bz:=⟨#[10]⟩
def LA:Bz:=zE0
def aem(kind:Int):Nat->Nat->Bz|0,_=>LA|f+1,k=>ite (Ck (bB lE k)=kind) (bB lE k)<|aem kind f<|k+1
def rK(kind:Int):Bz:=ite (kind=5) asu<|ite (10<=kind/\kind<32) (bB iA (kind-10).toNat)<|aem kind 30 0
def oh:zAV:=#[M ⟨#[43]⟩,M ⟨#[45]⟩,M ⟨#[42]⟩,M ⟨#[47]⟩,M ⟨#[47,47]⟩,M ⟨#[37]⟩,M ⟨#[38]⟩,M ⟨#[124]⟩,M ⟨#[126]⟩,M ⟨#[60,60]⟩,M ⟨#[62,62]⟩,M ⟨#[46,46]⟩,M ⟨#[61,61]⟩,M ⟨#[126,61]⟩,M ⟨#[60]⟩,M ⟨#[60,61]⟩,M ⟨#[62]⟩,M ⟨#[62,61]⟩]
def ats:∀k:Fin 18,oh[k.val]?=Ax (M<|bB oh k.val):=by
 intro ⟨k,_⟩
 iterate 18 (obtain _|k:=k;· rfl)
 omega
structure uz (w:A0):Prop where
 word:∃tt fr,w.heap[2]?=Ax (.cells iA tt fr)
 mark:∃tt fr,w.heap[5]?=Ax (.cells jH tt fr)
 bin:∃tt fr,w.heap[6]?=Ax (.cells oh tt fr)
theorem uz.below(h:uz w)(a:A2 B w w')(e:w.heap.size<=B):uz w':=by
 obtain⟨⟨_,_,b⟩,⟨_,_,c⟩,⟨_,_,d⟩⟩:=h;exact⟨⟨_,_,(a.block _ U).trans b⟩,⟨_,_,(a.block _ U).trans c⟩,⟨_,_,(a.block _ U).trans d⟩⟩
def di(kind:Int):Bz:=ite (kind=5) asu<|ite (kind=7) aww<|ite (10<=kind/\kind<=31) (bB iA (kind-10).toNat)<|ite (40<=kind/\kind<=50) (bB jH (kind-40).toNat)<|ite (61<=kind/\kind<=78) (bB oh (kind-61).toNat) LA
theorem ug(kind)(r: -9223372036854775808<=kind)(s:kind<=9223372036854775807)(w)(k:uz w):A1 S 184 #[zI kind] w λe w'=>e=T (M<|di kind)/\w'=w:=by
 obtain⟨⟨_,_,o⟩,⟨_,_,n⟩,⟨_,_,l⟩⟩:=k;unfold di;by_cases d:kind=5
 .subst d;exact giR
 by_cases f:kind=7
 .subst f;exact giR
 rw[aa d,aa f];have p:(kind==5)=X:=U;have q:(kind==7)=X:=U;by_cases b:10<=kind/\kind<=31
 .rw[ae b];obtain⟨a,g⟩:∃a:Nat,kind=10+a:=⟨(kind-10).toNat,O⟩;subst g;rw[(O:((10+(a:Int))-10).toNat=a)];have c:a<22:=O;have j:w.cell? (aj 2 a)=Ax (M<|bB iA a):=by rw[oe o];exact Lz ⟨a,c⟩
  clear b d f;exact giS
 by_cases c:40<=kind/\kind<=50
 .rw[aa b,ae c];obtain⟨a,g⟩:∃a:Nat,kind=40+a:=⟨(kind-40).toNat,O⟩;subst g;rw[(O:((40+(a:Int))-40).toNat=a)];have i:a<11:=O;have j:w.cell? (aj 5 a)=Ax (M<|bB jH a):=by rw[oe n];exact akF ⟨a,i⟩
  clear b c d f;exact giS
 by_cases i:61<=kind/\kind<=78
 .rw[aa b,aa c,ae i];obtain⟨a,g⟩:∃a:Nat,kind=61+a:=⟨(kind-61).toNat,O⟩;subst g;rw[(O:((61+(a:Int))-61).toNat=a)];have m:a<18:=O;have j:w.cell? (aj 6<|61+a-60-1)=Ax (M<|bB oh a):=by rw[(O:61+a-60-1=a),oe l];exact ats ⟨a,m⟩
  clear b c i d f;exact giS
 rw[aa b,aa c,aa i];obtain h|⟨h,a⟩|⟨h,a⟩|h:kind<10\/(31<kind/\kind<40)\/(50<kind/\kind<=60)\/78<kind:=O;all_goals
  clear b c i d f;exact giR
theorem GH(kind w):A1 S 192 #[zI kind] w λe w'=>e=T (M<|rK kind)/\A2 w.heap.size w w':=by
 unfold rK;by_cases u:kind=5
 .subst u;exact giX blR
 rw[aa u];by_cases y:10<=kind/\kind<32
 .rw[ae y];obtain⟨a,v⟩:∃a:Nat,kind=10+a:=⟨(kind-10).toNat,O⟩;subst v;have c:((10+(a:Int))-10).toNat=a:=O;rw[c];have k:A2 w.heap.size w (w.alloc<|A5 iA 9):=(ay _ w).alloc O _;have q:(w.alloc<|A5 iA 9).cell? ⟨w.heap.size,a,Br⟩=Ax (M<|bB iA a):=by rw[oe<|au w _];exact Lz ⟨a,O⟩
  obtain⟨b,f⟩:∃b,b=w.alloc (A5 iA 9):=⟨_,R⟩;rw[<-f]at q k;have s:A1 S 123 #[] w λe w'=>e=T (bI w.heap.size 22 22)/\b=w':=by rw[f];exact(tB w).mono λe w' d=>⟨d.1,d.2.symm⟩
  clear f;go_in;go_wp2_with (go_at_call 123;apply s.mono;rintro e w1 ⟨rfl,rfl⟩);go_ret
  simp_all
 .rw[aa y];obtain⟨b,f⟩:∃b,b=w.alloc (A5 iA 9):=⟨_,R⟩;have s:A1 S 123 #[] w λe w'=>e=T (bI w.heap.size 22 22)/\b=w':=by rw[f];exact(tB w).mono λe w' d=>⟨d.1,d.2.symm⟩
  have k:A2 w.heap.size w b:=by rw[f];exact(ay _ w).alloc O _
  clear f;obtain⟨g,i⟩:∃g,g=b.alloc (A5 lE 9):=⟨_,R⟩;have L:A1 S 124 #[] b λe w'=>e=T (bI b.heap.size 30 30)/\g=w':=by rw[i];exact(xG _).mono λe w' d=>⟨d.1,d.2.symm⟩
  have E:g.heap[b.heap.size]?=Ax (A5 lE 9 (0,0)):=by rw[i];exact au _ _
  have C:A2 b.heap.size b g:=by rw[i];exact blR.alloc O _
  clear i;have⟨A,o⟩:=aw<|aem kind 30 0;rw[o];have z:=ah o;clear o;have H:=k.size;obtain B|⟨_,B⟩:¬10<=kind\/(10<=kind/\¬kind<10+22):=O;all_goals
   go_in;go_wp2_with (first|(go_at_call 123;apply s.mono;rintro e w1 ⟨rfl,rfl⟩)|(go_at_call 124;apply L.mono;rintro e _ ⟨rfl,rfl⟩));go_loopw [25] (λr wr=>∃a:Nat,a<=30/\r=zI a/\E1 (aem kind (30-a) a=A)/\wr.heap[b.heap.size]?=Ax (A5 lE 9 (0,0))/\A2 w.heap.size w wr) (λr _=>30-(B3 r).toNat)
   .exact⟨0,O,R,z,E,k.trans<|C.mono H⟩
   .
    obtain⟨a,v,rfl,t,p,l⟩:=hrel;have x:=l.size;by_cases G:a<30
    .have q:wr.cell? (aj b.heap.size a)=Ax (M<|bB lE a):=by rw[oe p];exact akG ⟨a,G⟩
     have c:=t.out;rw[(O:30-a=(30-(a+1))+1)]at c;unfold aem at c;have F:=ai p;generalize bB lE a=h at q c;by_cases m:Ck h=kind
     .rw[ae m]at c;have n:=ah c;have K:(Ck h==kind)=Y:=U;clear c m;go_wp2_with (go_at_call 206;apply(AD h _).mono;rintro e ad ⟨rfl,j⟩);go_ret;exact⟨by rw[<-n.out];rfl,l.trans<|j.mono x⟩
     .rw[aa m]at c;have n:=ah c;have K:(Ck h==kind)=X:=U;clear c m;go_wp2_with (go_at_call 206;apply(AD h _).mono;rintro e ad ⟨rfl,j⟩);go_roundw
      .exact⟨_,O,by go_num,n,(j.block _ F).trans p,l.trans<|j.mono x⟩
      simp[B3];omega
    .obtain rfl:a=30:=O;go_wp2;go_ret;exact⟨by rw[<-(ah t.out).out];rfl,l⟩
def Ev(c w):A1 S 203 #[zU c] w λe w'=>e=T (A9<|co c)/\w=w':=by
 obtain h|h|⟨_,b⟩:c<48\/57<c\/(48<=c/\c<=57):=O
 .have e:co c=X:=by simp[co];omega
  rw[e];clear e;have a:¬48<=c:=O;exact giS
 .have e:co c=X:=by simp[co];omega
  rw[e];clear e;have a:¬c<=57:=O;have b:48<=c:=O;exact giS
 .have e:co c=Y:=by simp[co];omega
  rw[e];clear e;exact giS
theorem rp(c w):A1 S 201 #[zU c] w λe w'=>e=T (A9<|bi c)/\w=w':=by
 obtain⟨f,g⟩|⟨f,g⟩|rfl|h|⟨f,g,_⟩|h:(97<=c/\c<=122)\/(65<=c/\c<=90)\/c=95\/c<65\/(90<c/\c<97/\c≠95)\/122<c:=O
 .have e:bi c=Y:=by simp[bi];omega
  rw[e];clear e;exact giS
 .have e:bi c=Y:=by simp[bi];omega
  rw[e];clear e;have a:¬97<=c:=O;exact giS
 .go_in;exact gwR
 .have e:bi c=X:=by simp[bi];omega
  rw[e];clear e;have a:¬97<=c:=O;have b:¬65<=c:=O;have d:(c==95)=X:=U;exact giS
 .have e:bi c=X:=by simp[bi];omega
  rw[e];clear e;have a:¬97<=c:=O;have b:65<=c:=O;have i:¬c<=90:=O;have d:(c==95)=X:=U;exact giS
 .have e:bi c=X:=by simp[bi];omega
  rw[e];clear e;have a:97<=c:=O;have b:¬c<=122:=O;have i:65<=c:=O;have j:¬c<=90:=O;have d:(c==95)=X:=U;exact giS
def lk(s:Bz)(p:Nat):Int:=ite (p<s.size) (aq s p) 0
def agx(s p):0<=lk s p/\lk s p<256:=by
 unfold lk;split
 .rename_i a;exact ll a
 .omega
def apt(s p):bi (lk s p)=bi (aq s p):=by
 unfold lk;split
 .rfl
 .rename_i a;rw[dH];decide
def rL(s p):co (lk s p)=co (aq s p):=by
 unfold lk;split
 .rfl
 .rename_i a;rw[dH];decide
def GI(s:Bz)(d:s.size<=1100000)(p:Nat)(w):A1 S 200 #[M s,zI p] w λe w'=>e=T (zU<|lk s p)/\w=w':=by
 unfold lk;by_cases a:p<s.size
 .rw[ae a];have b:=λw=>dy a w;generalize aq s p=c at b;exact giS
 .rw[aa a];exact giS
def pJ(s:Bz):Nat->Nat->Nat|0,p=>p|f+1,p=>ite (bi (aq s p)=Y\/co (aq s p)=Y) (pJ s f<|p+1) p
theorem GJ{p}(h:¬p<s.size:=by omega):¬(bi (aq s p)=Y\/co (aq s p)=Y):=by
 rw[dH];decide
theorem xH(s):∀f p,p<=s.size->p<=pJ s f p/\pJ s f p<=s.size
 |0,p,h=>⟨eE,h⟩|f+1,p,h=>by
  unfold pJ;split
  .rename_i a;have b:p<s.size:=by
    obtain h1|h1:=cG p s.size
    .exact h1
    .exact absurd a (GJ)
   have:=xH s f (p+1) O;omega
  omega
theorem Ew(s:Bz)(x:s.size<=1100000)(p)(y:p<=s.size)(w):A1 S 294 #[M s,zI p] w λe w'=>e=T (zI<|pJ s (s.size+1) p)/\w'=w:=by
 have⟨r,n⟩:=aw<|pJ s (s.size+1) p;rw[n];have v:=ah n;go_in;go_wp21
 go_loop [1] (λk=>∃b d,b<=s.size/\s.size<b+d/\k=zI b/\E1 (pJ s d b=r)) (λk=>s.size-(B3 k).toNat)
 .grind
 .
  obtain⟨b,d,_,_,rfl,q⟩:=hrel;obtain⟨d,rfl⟩:∃t,d=t+1:=⟨d-1,O⟩;have a:=q.out;unfold pJ at a;by_cases o:b<s.size
  .have u:=λw=>dy o w;generalize aq s b=c at u a;have f:=λw=>pi c w;have h:=λw=>kL c w;by_cases i:bi c=Y
   .rw[ae<|.inl i]at a;have g:=ah a;rw[i]at f;go_wp2_with (go_at_call 234;apply(f _).mono;rintro e w' ⟨rfl,rfl⟩);go_round
    .grind
    simp[B3];omega
   .have l:bi c=X:=U;rw[l]at f;by_cases j:co c=Y
    .rw[ae<|.inr j]at a;have g:=ah a;rw[j]at h;go_wp2_with (first|(go_at_call 234;apply(f _).mono;rintro e w' ⟨rfl,rfl⟩)|(go_at_call 236;apply(h _).mono;rintro e w' ⟨rfl,rfl⟩));go_round
     .grind
     simp[B3];omega
    .have m:co c=X:=U;rw[aa U]at a;have g:=ah a;clear a;rw[m]at h;clear i l j m;go_wp2_with (first|(go_at_call 234;apply(f _).mono;rintro e w' ⟨rfl,rfl⟩)|(go_at_call 236;apply(h _).mono;rintro e w' ⟨rfl,rfl⟩));go_ret;exact⟨by rw[<-g.out];rfl,R⟩
  .rw[aa<|GJ o]at a;have g:=ah a;exact gwS
def xq(s:Bz):Bool:=(Cj iA s 22 0).isSome
def AE(k):bB iA k=og k:=rfl
theorem xI(a s):∀f k j,Cj a s f k=Ax j->k<=j/\j<k+f/\(bB a j).toList=s.toList
 |0,k,j,h=>by simp[Cj]at h|f+1,k,j,h=>by
  unfold Cj at h;split at h
  .grind
  .have:=xI a s f _ j h;grind
theorem ab3(a s):∀f k,Cj a s f k=Br->∀j,k<=j->j<k+f->(bB a j).toList≠s.toList
 |0,k,h=>λj b c=>O|f+1,k,h=>λj b c=>by
  unfold Cj at h;split at h
  .cases h
  .rename_i d;obtain rfl|h3:=jx b
   .grind
   .exact ab3 a s f _ h j h3 O
def GK{H}:∀n,IsMap<|Dt (H:=H) n
 |0=>isMap_empty|n+1=>(GK n).put _ _
theorem agy{H}(l):∀n,(∀j,j<n->(og j).data.toList≠l)->Maps.has (Dt (H:=H) n) (.string l)=X
 |0,_=>rfl|n+1,h=>by
  show Maps.has ((Dt n).put _ _) _=X;rw[has_put_other U];exact agy l n λj _=>h j O
theorem agz{H}(l j)(a:(og j).data.toList=l):∀n,j<n->Maps.has (Dt (H:=H) n) (.string l)=Y
 |0,h=>O|n+1,h=>by
  show Maps.has ((Dt n).put _ _) _=Y;by_cases e:(og n).data.toList=l
  .rw[e];exact has_put_same (GK n) (by trivial) _
  .rw[has_put_other U];obtain rfl|h3:=jx<|Nat.le_of_lt_succ h
   .grind
   .exact agz l j a n h3
def ab4{H}(s):Maps.has (Dt (H:=H) 22) (.string s.data.toList)=xq s:=by
 unfold xq;cases h:Cj iA s 22 0 with
 |none=>
  exact agy _ _ λb _ a=>(ab3 _ s _ 0 h) b O O (by rw[AE,iH,iH];exact a)|some b=>
  have⟨_,_,a⟩:=xI _ s _ 0 b h;rw[AE,iH,iH]at a;exact agz _ b a _ O
def apu:∀i j:Fin 22,i≠j->(og i.val).data.toList≠(og j.val).data.toList:=by decide+kernel
theorem J5{H}(j):∀n,n<=22->j<n->(Dt (H:=H) n).atKey (.string (og j).data.toList) (.lit<|.int .i64 0)= .lit (.int .i64<|10+(j:Int))
 |0,_,h=>O|n+1,b,h=>by
  show((Dt n).put _ _).atKey _ _=_;by_cases e:n=j
  .subst e;exact atKey_put_same (GK n) (by trivial) _ _
  .rw[atKey_put_other (by intro a;injection a with a;exact apu ⟨j,O⟩ ⟨n,O⟩ U a)];exact J5 j n O O
def awx{H}(k:Fin 22):(Dt (H:=H) 22).atKey (.string (og k.val).data.toList) (.lit<|.int .i64 0)= .lit (.int .i64<|10+(k.val:Int)):=J5 k.val 22 O k.isLt
def apv{H}(s k)(h:Cj iA s 22 0=Ax k):(Dt (H:=H) 22).atKey (.string s.data.toList) (.lit<|.int .i64 0)= .lit (.int .i64<|10+(k:Int)):=by
 have⟨_,_,a⟩:=xI _ s _ 0 k h;rw[AE,iH,iH]at a;rw[<-a];exact awx ⟨k,O⟩
theorem aen{H}(s:Bz)(q:s.size<=1100000)(b w)(t:w.ownsMap S 9 (plainElem (H:=H) S 3) b 22 (Dt 22)):A1 S 352 #[.string s,.map<|Ax b] w λe w'=>e= .returned (.bool<|decide (bi (aq s 0)=Y/\pJ s (s.size+1) 0=s.size/\xq s=X))/\w'=w:=by
 have o:keyOf S 9 (.string s)=Ax (.string s.data.toList):=keyOf_string_mk underlying9 byM;by_cases l:0<s.size
 .have r:(s.toList==[])=X:=by
   have:V s.toList=s.size:=by rw[iH];simp
   grind
  have u:∀w,(B6 9 (.string s)<|zI 0).run S w= .ok (zU<|aq s 0) w:=λw=>dy l w;have c:=λw=>pi (aq s 0) w;have k:=xH s (s.size+1) 0 O;have h:=λw=>Ew s q 0 O w;generalize aq s 0=d at u c;generalize pJ s (s.size+1) 0=f at h k;by_cases g:bi d=Y
  .rw[g]at c;by_cases m:f=s.size
   .subst m;have p:¬(s.size:Int)<(s.size:Int):=O;have⟨i,j⟩:=aw<|xq s;have n:Maps.has (Dt (H:=H) 22) (.string s.data.toList)=i:=by rw[ab4,j]
    have a:decide (bi d=Y/\s.size=s.size/\xq s=X)=!i:=U;rw[a];clear a j g;go_in;go_wp2_with (first|(go_at_call 234;apply(c _).mono;rintro e w' ⟨rfl,rfl⟩)|(go_at_call 294;apply(h _).mono;rintro e w' ⟨rfl,rfl⟩)|(at_lookup;refine wpList_lookup_own_ok_int _ R _ _ _ R 9 3 _ apq underlying116 underlying3 J b _ _ R t _ _ R o ?_;intro _ _ _;rw[n]));go_ret
    simp_all
   .have p:(f:Int)<(s.size:Int):=O;have a:decide (bi d=Y/\f=s.size/\xq s=X)=X:=U;rw[a];clear a g;go_in;go_wp2_with (first|(go_at_call 234;apply(c _).mono;rintro e w' ⟨rfl,rfl⟩)|(go_at_call 294;apply(h _).mono;rintro e w' ⟨rfl,rfl⟩));go_ret
    simp_all
  .have i:bi d=X:=U;rw[i]at c;have a:decide (bi d=Y/\f=s.size/\xq s=X)=X:=U;rw[a];clear a g i;go_in;go_wp2_with (first|(go_at_call 234;apply(c _).mono;rintro e w' ⟨rfl,rfl⟩)|(go_at_call 294;apply(h _).mono;rintro e w' ⟨rfl,rfl⟩));go_ret
   simp_all
 .have c:s.toList=[]:=by
   simp_all
  have r:(s.toList==[])=Y:=U;have a:decide (bi (aq s 0)=Y/\pJ s (s.size+1) 0=s.size/\xq s=X)=X:=by rw[dH];rfl
  rw[a];clear a c;exact giS
def wdT(s:Bz)(p:Nat):A3:=
 match Cj iA (s.extract p<|pJ s (s.size+1) p) 22 0 with
 |some k=> D2 #[zI<|10+(k:Int),zI p,zI<|pJ s (s.size+1) p,zI 0,zI 0,nh]|none=> D2 #[zI 1,zI p,zI<|pJ s (s.size+1) p,zI 0,zI 0,M<|s.extract p<|pJ s (s.size+1) p]
theorem aeo(s:Bz)(bf:s.size<=1100000)(p)(bh:p<=s.size)(w):A1 S 202 #[M s,D2 #[zI 0,zI p,zI 0,zI 0,zI 0,nh]] w λe w'=>e=T (B2 #[wdT s p,zI (-1)])/\A2 w.heap.size w w':=by
 unfold wdT;have⟨B,H⟩:=aw<|pJ s (s.size+1) p;have a6:=xH s (s.size+1) p bh;rw[H]at a6⊢;have a2:=ah H;have⟨a4,K⟩:=aw<|Cj iA (s.extract p B) 22 0;rw[K];have bj:=ah K;go_in;go_wp21
 generalize a9:(w.alloc _).alloc _=q;obtain⟨a,a5,G, -⟩:=Eu a9;have y:eK w.heap.size q 0 p 0 0 0 zE0:=a;have L:eK (w.heap.size+1) q 0 0 0 0 0 zE0:=a5;go_loop [6] (λi=>∃b j,b<=s.size/\s.size<b+j/\i=zI b/\E1 (pJ s j b=B)) (λi=>s.size-(B3 i).toNat)
 .grind
 .
  obtain⟨b,j,_,_,rfl,k⟩:=hrel;obtain⟨j,rfl⟩:∃a7,j=a7+1:=⟨j-1,O⟩;have c:=k.out;unfold pJ at c;have n:=λw=>GI s bf b w;have f:=λw=>rp (lk s b) w;have g:=λw=>Ev (lk s b) w;have h:bi (aq s b)=Y\/co (aq s b)=Y->b<s.size:=by
   intro d;obtain h1|h1:=cG b s.size
   .exact h1
   .exact absurd d (GJ)
  rw[apt]at f;rw[rL]at g;generalize lk s b=bk at n f g;generalize aq s b=r at c f g h;by_cases h1:bi r=Y
  .rw[ae<|.inl h1]at c;have C:=ah c;have d:=h<|.inl h1;rw[h1]at f;go_wp2_with (first|(go_at_call 200;apply(n _).mono;rintro e w' ⟨rfl,rfl⟩)|(go_at_call 201;apply(f _).mono;rintro e w' ⟨rfl,rfl⟩));go_round
   .grind
   simp[B3];omega
  .have x:bi r=X:=U;rw[x]at f;by_cases l:co r=Y
   .rw[ae<|.inr l]at c;have C:=ah c;have d:=h<|.inr l;clear c h;rw[l]at g;clear h1 x l;go_wp2_with (first|(go_at_call 200;apply(n _).mono;rintro e w' ⟨rfl,rfl⟩)|(go_at_call 201;apply(f _).mono;rintro e w' ⟨rfl,rfl⟩)|(go_at_call 203;apply(g _).mono;rintro e w' ⟨rfl,rfl⟩));go_round
    .grind
    simp[B3];omega
   .have F:co r=X:=U;rw[aa U]at c;rw[F]at g;clear h1 x l F h k a2;subst c;have⟨ad,af,ak,al,am,an,ao⟩:=aJ y;have u:=(y.setKind 1).setTo b;have v:=(L.other (a:=⟨w.heap.size,0,Br⟩) I<|zI 1).other (a:=⟨w.heap.size,2,Br⟩) I<|zI b;have t:A2 w.heap.size w ((q.setCell (aj w.heap.size 0)<|zI 1).setCell ⟨w.heap.size,2,Br⟩<|zI (b:Int)):=(G.setCell I _).setCell I _;have⟨E,z⟩:=aw<|(q.setCell (aj w.heap.size 0)<|zI 1).setCell ⟨w.heap.size,2,Br⟩<|zI b;rw[z]at u v t;have a3:=ah z;clear z;go_wp2_with (first|(go_at_call 200;apply(n _).mono;rintro e w' ⟨rfl,rfl⟩)|(go_at_call 201;apply(f _).mono;rintro e w' ⟨rfl,rfl⟩)|(go_at_call 203;apply(g _).mono;rintro e w' ⟨rfl,rfl⟩));rw[a3.out];apply(tB _).mono;rintro e o ⟨rfl,m⟩;have a8:eK w.heap.size o 1 p b 0 0 zE0:=by rw[m];exact(alO<|ai u).trans u
    have ba:eK (w.heap.size+1) o 0 0 0 0 0 zE0:=by rw[m];exact(alO<|ai v).trans v
    have bl:A2 w.heap.size w o:=by rw[m];exact t.alloc t.size _
    have bb:o.heap[E.heap.size]?=Ax (A5 iA 9 (0,0)):=by rw[m];exact au _ _
    clear m u v t y L G ad af ak al am an ao n f g;go_wp21
    have⟨ad,af,ak,al,am,an,ao⟩:=aJ a8;have⟨z0,ar,av,ax,a0,a1,_⟩:=aJ ba;go_loop [34] (λi=>∃d:Nat,d<=22/\i=zI d/\E1 (Cj iA (s.extract p b) (22-d) d=a4)) (λi=>22-(B3 i).toNat)
    .grind
    .
     obtain⟨d,_,rfl,k⟩:=hrel;by_cases h:d<22
     .have bc:o.cell? (aj E.heap.size d)=Ax (M<|bB iA d):=by rw[oe bb];exact Lz ⟨d,h⟩
      have c:=k.out;rw[(O:22-d=(22-(d+1))+1)]at c;unfold Cj at c;generalize bB iA d=ap at bc c;by_cases A:(ap.toList==(s.extract p b).toList)=Y
      .rw[ae A]at c;subst c;go_wp2;refine aA (by simp[results,go_sem,z0,ar,av,ax,a0,a1]) R ⟨R,?_⟩
       iterate 7 refine gE ?_ I _
       omega
      .rw[aa A]at c;have C:=ah c;have bn:(ap.toList==(s.extract p b).toList)=X:=U;clear c A;go_wp2;go_round
       .grind
       simp[B3];omega
     .obtain rfl:d=22:=O;have c:=k.out;simp[Cj]at c;subst c;go_wp2;refine aA (by simp[results,go_sem,z0,ar,av,ax,a0,a1]) R ⟨R,?_⟩
      iterate 7 refine gE ?_ I _
      omega
def pK{c}(h:bi c=Y):65<=c/\c<=122:=by simp[bi]at h;omega
def lC{c}(h:co c=Y):48<=c/\c<=57:=by simpa [co] using h
theorem akH(s p):∃(k:Int) (x:Bz),wdT s p=D2 #[zI k,zI p,zI<|pJ s (s.size+1) p,zI 0,zI 0,M x]/\((k==1)=!(xq<|s.extract p<|pJ s (s.size+1) p)):=by
 unfold wdT xq;cases h:Cj iA (s.extract p<|pJ s (s.size+1) p) 22 0 with
 |none=>grind|some k=>grind
theorem Ey(s)(o:s.size<=1100000)(p)(q:p<s.size)(f:bi (aq s p)=Y)(w):A1 S 127 #[M s,zI p] w λe w'=>e=T (B2 #[wdT s p,zI (-1)])/\A2 w.heap.size w w':=by
 have t:=λw=>dy q w;have a:=λw=>rp (aq s p) w;have b:=λw=>aeo s o p O w;have r:=pK f;rw[f]at a;generalize aq s p=i at t a r;have⟨_,_,k,n⟩:=akH s p;rw[k]at b⊢;generalize pJ s (s.size+1) p=B at b n;have C:(i==10)=X:=U;go_in;go_wp2_with (first|(go_at_call 201;apply(a _).mono;rintro e w' ⟨rfl,rfl⟩));generalize l:(w.alloc _).alloc _=g;obtain⟨h, -,j,_⟩:=Eu l;have m:eK w.heap.size g 0 0 0 0 0 zE0:=h;apply(b _).mono;rintro e u ⟨rfl,d⟩;have c:=m.below d O;have E:=j.trans<|d.mono O;have⟨z0,v,x,y,z,A,_⟩:=aJ c;have F:w.heap.size<u.heap.size:=ai c;go_wp2;refine aA (by simp[results,go_sem,z0,v,x,y,z,A]) R ⟨R,?_⟩
 iterate 6 refine gE ?_ I _
 omega
theorem tC(s:Bz):s.extract 0 s.size=s:=by
 simp
def lL(s:Bz):Bool:=decide (s.size<=40/\bi (aq s 0)=Y/\pJ s (s.size+1) 0=s.size/\xq s=X)
theorem Cl(s:Bz)(p:s.size<=1100000)(w):A1 S 231 #[M s] w λe w'=>e=T (A9<|lL s)/\A2 w.heap.size w w':=by
 unfold lL;by_cases i:0<s.size
 .have q:((s.size:Int)==0)=X:=U;by_cases u:s.size<=40
  .have r:¬(40:Int)<(s.size:Int):=O;have n:∀w,(B6 9 (M s)<|zI 0).run S w= .ok (zU<|aq s 0) w:=λw=>dy i w;have a:=λw=>rp (aq s 0) w;by_cases c:bi (aq s 0)=Y
   .have d:∀w,A1 S 127 #[M s,zI 0] w λe w'=>e=T (B2 #[wdT s 0,zI (-1)])/\A2 w.heap.size w w':=λw=>Ey s p 0 i c w;rw[c]at a;have⟨g,_,j,k⟩:=akH s 0;rw[j]at d;generalize pJ s (s.size+1) 0=f at d k;generalize aq s 0=h at n a c;have m:decide (s.size<=40/\bi h=Y/\f=s.size/\xq s=X)=((g==1)&&((f:Int)==(s.size:Int))):=by
     by_cases b:f=s.size
     .simp_all
     grind
    rw[m];clear m k j c;by_cases l:g=1
    .subst l;go_in;go_wp2_with (first|(go_at_call 201;apply(a _).mono;rintro e w' ⟨rfl,rfl⟩)|(go_at_call 127;apply(d _).mono;rintro e t ⟨rfl,b⟩));go_ret;exact⟨I,b.alloc b.size _⟩
    .have o:(g==1)=X:=U;clear l;go_in;go_wp2_with (first|(go_at_call 201;apply(a _).mono;rintro e w' ⟨rfl,rfl⟩)|(go_at_call 127;apply(d _).mono;rintro e t ⟨rfl,b⟩));go_ret;exact⟨by simp[o],b.alloc b.size _⟩
   .have b:bi (aq s 0)=X:=U;rw[(U:decide (s.size<=40/\bi (aq s 0)=Y/\pJ s (s.size+1) 0=s.size/\xq s=X)=X)];rw[b]at a;generalize aq s 0=h at n a;go_in;go_wp2_with (first|(go_at_call 201;apply(a _).mono;rintro e w' ⟨rfl,rfl⟩));go_ret;exact⟨R,blR⟩
  .have r:(40:Int)<(s.size:Int):=O;rw[(U:decide (s.size<=40/\bi (aq s 0)=Y/\pJ s (s.size+1) 0=s.size/\xq s=X)=X)];exact giX blR
 .have q:((s.size:Int)==0)=Y:=U;rw[show decide (s.size<=40/\bi (aq s 0)=Y/\pJ s (s.size+1) 0=s.size/\xq s=X)=X by rw[dH];simp[bi]];exact giX blR
end Go.Proofs.YthkcmkmkapijkaaGreatDoor
namespace Go.Proofs
open Go.Shelf
def Tryz.sh{p:Prop}(h:p:=by repeat' first|kernel_rfl|decide|(intros;kernel_rfl)|constructor):p:=h
def Tryz.lays103_ren:B4:=⟨λ|103=>338|210=>361|206=>233|n=>n,λ|9=>9|4=>4|24=>297|3=>3|n=>n,λ|n=>n⟩
def Tryz.lays103:Go.Proofs.Lays.n103 S Tryz.lays103_ren:=Tryz.sh
open Go.RowKit in
def Tryz.strings_CutPrefix(s p w):
  A1 S 338 #[M s,M p] w λe w'=>e=T (B2 #[M ⟨(Lib.trimPrefix s.data.toList p.data.toList).toArray⟩,A9<|Lib.hasPrefix s.data.toList p.data.toList])/\w'=w:=Any.strings_CutPrefix Tryz.lays103 s p w
def Tryz.lays104_ren:B4:=⟨λ|104=>325|211=>357|207=>371|n=>n,λ|9=>9|4=>4|24=>297|3=>3|n=>n,λ|n=>n⟩
def Tryz.lays104:Go.Proofs.Lays.n104 S Tryz.lays104_ren:=Tryz.sh
open Go.RowKit in
def Tryz.strings_CutSuffix(s p w)(a:s.size<=9223372036854775807):
  A1 S 325 #[M s,M p] w λe w'=>e=T (B2 #[M ⟨(Lib.trimSuffix s.data.toList p.data.toList).toArray⟩,A9<|Lib.hasSuffix s.data.toList p.data.toList])/\w'=w:=Any.strings_CutSuffix Tryz.lays104 s p w a
def Tryz.laysM173_ren:B4:=⟨λ|173=>158|246=>257|283=>311|284=>312|285=>313|286=>314|129=>345|317=>344|318=>346|319=>347|320=>348|337=>368|338=>369|n=>n,λ|2=>2|3=>3|9=>9|4=>4|171=>319|0=>0|53=>40|37=>22|5=>5|173=>322|212=>336|51=>289|20=>20|213=>337|46=>265|232=>361|233=>362|n=>n,λ|17=>7|18=>10|19=>11|n=>n⟩
def Tryz.laysM173:Go.Proofs.LaysM.n173 S Tryz.laysM173_ren:=Tryz.sh
open Go.RowKit Go.Sort Go.Lib in
def Tryz.strconv_FormatInt_10(n:Int)(a: -9223372036854775808<=n)(b:n<=9223372036854775807)(w:A0)(c:Lib.TabIs S w "internal/strconv.uint64pow10" .u64 Lib.pow10Tab):
  A1 S 158 #[C2 .i64 n,C2 .i64 10] w λe w'=>e=T (M ⟨(Lib.itoa n).toArray⟩)/\∃k d,w'=grow (w.drewN k) d:=Any.strconv_FormatInt_10 Tryz.laysM173 n a b w c
def Tryz.laysM316_ren:B4:=⟨λ|316=>335|n=>n,λ|9=>9|3=>3|4=>4|37=>22|0=>0|127=>225|5=>5|n=>n,λ|n=>n⟩
def Tryz.laysM316:Go.Proofs.LaysM.n316 S Tryz.laysM316_ren:=Tryz.sh
open Go.RowKit in
def Tryz.stringslite_Clone(s w)(a:s.size<=281474976710656):
  A1 S 335 #[M s] w λe w'=>e=T (M s)/\A2 w.heap.size w w':=Any.stringslite_Clone Tryz.laysM316 s w a
def Tryz.lays321_ren:B4:=⟨λ|321=>372|n=>n,λ|5=>5|n=>n,λ|n=>n⟩
def Tryz.lays321:Go.Proofs.Lays.n321 S Tryz.lays321_ren:=Tryz.sh
open Go.RowKit in
def Tryz.internal_strconv_lower(c w):
  A1 S 372 #[C2 .u8 c] w λe w'=>e=T (C2 .u8<|bits .or .u8 c 32)/\w'=w:=Any.internal_strconv_lower Tryz.lays321 c w
def Tryz.laysC174_ren:B4:=⟨λ|174=>340|247=>364|245=>363|287=>362|279=>374|280=>375|281=>376|282=>377|321=>372|322=>373|316=>335|171=>66|205=>381|243=>169|246=>257|283=>311|284=>312|285=>313|286=>314|129=>345|317=>344|318=>346|319=>347|320=>348|337=>368|338=>369|n=>n,λ|9=>9|3=>3|2=>2|75=>67|85=>332|4=>4|167=>356|5=>5|53=>40|175=>330|46=>265|168=>358|37=>22|0=>0|210=>375|21=>21|127=>225|145=>381|143=>379|171=>319|173=>322|212=>336|51=>289|20=>20|213=>337|232=>361|233=>362|80=>43|n=>n,λ|15=>12|16=>13|17=>7|18=>10|19=>11|n=>n⟩
def Tryz.laysC174:Go.Proofs.LaysC.n174 S Tryz.laysC174_ren:=Tryz.sh
open Go.RowKit in
def Tryz.strconv_ParseInt_10_at64_ok(s)(a:s.size<=9223372036854775806)(v)(h:Lib.parseIntB 64 s.data.toList= .ok v)(w):
  A1 S 340 #[M s,C2 .i64 10,C2 .i64 64] w λe w'=>e=T (B2 #[C2 .i64 v,E0])/\(w'=w\/∃t,w'=Lib.bytesWorld w 5 t):=Any.strconv_ParseInt_10_at64_ok Tryz.laysC174 s a v h w
open Go.RowKit in
def Tryz.strconv_ParseInt_10_at64_syntax(s)(c:s.size<=281474976710656)(h:Lib.parseIntB 64 s.data.toList= .«syntax»)(a w)(d:w.cell? ⟨12,0,Br⟩=Ax a)(b:a=E0\/∃g f,a=E3 g f):
  A1 S 340 #[M s,C2 .i64 10,C2 .i64 64] w λe w'=>∃N,e=T (B2 #[C2 .i64<|0,E3 358<|.pointer<|Ax ⟨N,0,Br⟩])/\w.heap.size<=N/\w'.heap[N]?=Ax (A5 #[M ⟨#[80,97,114,115,101,73,110,116]⟩,M s,a] 375 (0,0))/\A2 w.heap.size w w':=Any.strconv_ParseInt_10_at64_syntax Tryz.laysC174 s c h a w d b
open Go.RowKit in
def Tryz.strconv_ParseInt_10_at64_range(s)(c:s.size<=281474976710656)(h:Lib.parseIntB 64 s.data.toList= .range)(a w)(d:w.cell? ⟨13,0,Br⟩=Ax a)(b:a=E0\/∃g f,a=E3 g f):
  A1 S 340 #[M s,C2 .i64 10,C2 .i64 64] w λe w'=>∃N,e=T (B2 #[C2 .i64<|Lib.intSat 64 s.data.toList,E3 358<|.pointer<|Ax ⟨N,0,Br⟩])/\w.heap.size<=N/\w'.heap[N]?=Ax (A5 #[M ⟨#[80,97,114,115,101,73,110,116]⟩,M s,a] 375 (0,0))/\A2 w.heap.size w w':=Any.strconv_ParseInt_10_at64_range Tryz.laysC174 s c h a w d b
def Tryz.lays99_ren:B4:=⟨λ|99=>142|206=>233|n=>n,λ|9=>9|4=>4|3=>3|n=>n,λ|n=>n⟩
def Tryz.lays99:Go.Proofs.Lays.n99 S Tryz.lays99_ren:=Tryz.sh
open Go.RowKit Go.Lib in
def Tryz.strings_HasPrefix(s p w):
  A1 S 142 #[M s,M p] w λe w'=>e=T (A9<|Lib.hasPrefix s.data.toList p.data.toList)/\w'=w:=Any.strings_HasPrefix Tryz.lays99 s p w
def Tryz.lays157_ren:B4:=⟨λ|157=>324|229=>355|199=>356|261=>370|311=>379|312=>380|n=>n,λ|9=>9|31=>34|3=>3|5=>5|4=>4|119=>344|0=>0|40=>346|152=>351|21=>21|154=>353|51=>289|141=>355|196=>366|193=>363|198=>369|49=>367|194=>364|201=>372|226=>377|46=>265|227=>378|n=>n,λ|0=>8|6=>9|n=>n⟩
def Tryz.lays157:Go.Proofs.Lays.n157 S Tryz.lays157_ren:=Tryz.sh
open Go.RowKit Go.Lib in
def Tryz.strings_Fields(s w)(c:s.size<4294967281)(a:∀(j:Nat) b,s.data.toList[j]?=Ax b->b.toNat<128)(d:Lib.TabIs S w "strings.asciiSpace" .u8 Lib.asciiSpaceTab):
  A1 S 324 #[M s] w λe w'=>
   e=T (B1 (Ax ⟨w.heap.size,0,Br⟩) (V<|Lib.fields s.data.toList)<|V<|Lib.fields s.data.toList)/\w'=w.alloc (A5 ((Lib.fields s.data.toList).map λl=>E2 ⟨l.toArray⟩).toArray 9):=Any.strings_Fields Tryz.lays157 (by kernel_rfl) (by kernel_rfl) s w c a d
end Go.Proofs
namespace Go.Proofs.YthkcmkmkapijkaaGreatDoor
variable{B b base c g i n size:Nat}{Q:Exit->Act->World->Prop}{W W' w w' w0 y:World}{a:Addr}{f fr l p t:Int}{k:Bool}{m v vk vn:Value}{o:Oper}{ops:Array Oper}{r:zLI}{s:Bz}{xs:zLV}
def lm(t:Int):Bool:=decide (t=25\/t=50\/t=62\/t=69)
def gg(t:Int):Bool:=decide (t=10\/t=26\/60<t)
def dv(t:Int):Bool:=decide (t=1\/t=2\/t=3\/t=4\/t=24\/t=29\/t=17\/t=49\/t=18\/t=40\/t=42)||lm t
def jL(t:Int):zLI×Bool:=ite (t=22) ([t,1,104,103],Y)<|ite (t=13) ([t,1,47,119],Y)<|ite (t=18) ([t,1,133],Y)<|ite (t=20) ([t,119,132,105],Y)<|ite (t=31) ([t,119,132],Y)<|ite (t=19) ([t,1,106],Y)<|ite (t=11) ([t],Y)<|ite (t=23) ([t],Y)<|ite (t=27) ([t,108],Y)<|ite (t=30) ([t,132,12,1,109,132],Y)<|ite (t=28) ([t,119],Y)<|ite (t=14) ([t,116],Y)<|ite (t=42) ([132],Y)<|ite (t=1) ([t,110],Y)<|ite (t=40) ([t,119,41,112],Y) ([],X)
def rq(t a c:Int):zLI:=ite (t=48) ([t,1,a])<|ite (t=44) ([t,119,45,a])<|ite (t=40) ([t,123,41,c])<|[]
def Cm(t:Int):zLI×Bool:=ite (lm t=Y) ([t,120],Y)<|ite (t=1) ([t,122],Y)<|ite (t=40) ([t,119,41,122],Y)<|ite (t=42) ([t,129,43],Y)<|ite (t=18) ([t,133],Y) ([t],dv t)
def aiB(t:Int):zLI×Bool:=ite (t=5) ([t,100],Y)<|ite ((jL t).2=Y) ((jL t).1++[101],Y) ([],Y)
def apw(t:Int):zLI×Bool:=ite (t=5) ([t,100],Y) ([],Y)
def awy(t:Int):zLI×Bool:=([40,126,41,132],decide (t=40))
def akI(t:Int):zLI×Bool:=ite (t=47) ([t,124],Y) ([],Y)
def akJ(t:Int):zLI×Bool:=ite (t=46) ([t,1,104],Y) ([],Y)
def aiC(t:Int):zLI×Bool:=ite (t=15) ([t,119,132,105],Y)<|ite (t=16) ([t,132],Y) ([],Y)
def apx(t:Int):zLI×Bool:=ite (t=47) ([t,119,46,119,107,132],Y) ([104,21,119,132],decide (t=46\/t=21))
def apy(t:Int):zLI×Bool:=ite (t=46) ([t,119],Y) ([],Y)
def aiD(t:Int):zLI×Bool:=ite (dv t=Y) ([124],Y) ([],Y)
def apz(t:Int):zLI×Bool:=ite (t=46) ([t,1],Y) ([],Y)
def akK(t:Int):zLI×Bool:=ite (t=48) ([t,1,110],Y)<|ite (t=44) ([t,119,45,110],Y)<|ite (t=40) ([t,123,41,111],Y)<|ite (t=46) ([t,113],Y)<|ite (t=47) ([t,124],Y) ([],X)
def att(t:Int):zLI×Bool:=ite (t=48) ([t,1,110],Y)<|ite (t=44) ([t,119,45,110],Y)<|ite (t=40) ([t,123,41,111],Y) ([],Y)
def atu(t:Int):zLI×Bool:=ite (t=48) ([t,1,110],Y)<|ite (t=44) ([t,119,45,110],Y)<|ite (t=40) ([t,123,41,111],Y) ([],X)
def akL(t:Int):zLI×Bool:=ite (t=1) ([t,114],Y)<|ite (t=40) ([t,119,41,115],Y) ([],X)
def ak0(t:Int):zLI×Bool:=ite (t=48) ([t,1,114],Y)<|ite (t=44) ([t,119,45,114],Y)<|ite (t=40) ([t,123,41,115],Y)<|ite (t=46) ([t,113],Y)<|ite (t=47) ([t,124],Y) ([],X)
def atv(t:Int):zLI×Bool:=ite (t=48) ([t,1,114],Y)<|ite (t=44) ([t,119,45,114],Y)<|ite (t=40) ([t,123,41,115],Y) ([],X)
def ak1(t:Int):zLI×Bool:=ite (t=1) ([t,117],Y)<|ite (t=40) ([t,119,41,117],Y) ([],X)
def atw(t:Int):zLI×Bool:=ite (t=48) ([t,1,117],Y)<|ite (t=44) ([t,119,45,117],Y)<|ite (t=40) ([t,123,41,118],Y) ([],X)
def atx(t:Int):zLI×Bool:=ite (t=48) ([t,1,117],Y)<|ite (t=44) ([t,119,45,117],Y)<|ite (t=40) ([t,123,41,118],Y) ([],Y)
def awz(t:Int):zLI×Bool:=([120,121],dv t)
def ay4(t:Int):zLI×Bool:=Cm t
def aiE(t:Int):zLI×Bool:=ite (gg t=Y) ([t,119],Y) ([],Y)
def ak2(t:Int):zLI×Bool:=(rq t 122 122,Y)
def ak4(t:Int):zLI×Bool:=ite (dv t=Y) ([124],Y) ([],Y)
def awA(t:Int):zLI×Bool:=([119,125],dv t)
def ak5(t:Int):zLI×Bool:=ite (t=46) ([t,119,125],Y) ([],Y)
def ak6(t:Int):zLI×Bool:=ite (t=1) ([t,127],Y)<|ite (t=49) ([t],Y) ([],Y)
def apA(t:Int):zLI×Bool:=ite (t=46) ([t,128],Y) ([],Y)
def ak7(t:Int):zLI×Bool:=ite (t=1) ([t,127],Y)<|ite (t=49) ([t],Y) ([],X)
def ak8(t:Int):zLI×Bool:=ite (dv t=Y) ([131,130],Y)<|ite (t=48) ([131,130],Y)<|ite (t=44) ([131,130],Y) ([],Y)
def apB(t:Int):zLI×Bool:=ite (t=46) ([t,129],Y) ([],Y)
def aiF(t:Int):zLI×Bool:=ite (t=48) ([t,1,47,119],Y)<|ite (t=44) ([t,119,45,47,119],Y) ([119],dv t)
def awB(t:Int):zLI×Bool:=([42,100,43],decide (t=42))
def awC(t:Int):zLI×Bool:=([40,126,41,132],decide (t=40))
def xE(s t:Int):zLI×Bool:=
 ite (s=100) (aiB t) (ite (s=101) (apw t)<|ite (s=102) (awy t)<|ite (s=103) (akI t)<|ite (s=104) (akJ t)<|ite (s=105) (aiC t)<|ite (s=106) (apx t)<|ite (s=107) (apy t)<|ite (s=108) (aiD t)<|ite (s=109) (apz t)<|ite (s=110) (akK t)<|ite (s=111) (att t)<|ite (s=112) (atu t)<|ite (s=113) (akL t)<|ite (s=114) (ak0 t)<|ite (s=115) (atv t)<|ite (s=116) (ak1 t)<|ite (s=117) (atw t)<|ite (s=118) (atx t)<|ite (s=119) (awz t)<|ite (s=120) (ay4 t)<|ite (s=121) (aiE t)<|ite (s=122) (ak2 t)<|ite (s=123) (ak4 t)<|ite (s=124) (awA t)<|ite (s=125) (ak5 t)<|ite (s=126) (ak6 t)<|ite (s=127) (apA t)<|ite (s=128) (ak7 t)<|ite (s=129) (ak8 t)<|ite (s=130) (apB t)<|ite (s=131) (aiF t)<|ite (s=132) (awB t)<|awC t)
def fJ:Nat->zLI->Int->Nat->Option (zLI×Option Bool×Nat)|0,_,_,_=>Br|_+1,[],_,n=>Ax ([],Br,n)|f+1,s::r,t,n=>ite (s<100) (Ax (r,Ax<|decide (s=t),n))<|ite ((xE s t).2=Y) (fJ f ((xE s t).1++r) t<|n+(xE s t).1.length)<|Ax (r,Ax X,n)
def feedL:zLI->Int->zLI×Bool|[],_=>([],X)|s::r,t=>if s<100 then(r,decide (s=t)) else if(xE s t).1=[]/\(xE s t).2=Y then feedL r t else match fJ 8 [s] t 0 with|some (a,some b,_)=>(a++r,b)|_=>([],X)
def apD(s t:Int):Bool:=
 (xE s t).1.all (λa=>decide (a<=133))&&(decide ((xE s t).1.length<=7)&&
 (if(xE s t).1=[]/\(xE s t).2=Y then Y else match fJ 8 [s] t 0 with|some (_,some _,n)=>decide (n<=20)|_=>X))
def apE:((Fs 34).all λs=>(Fs 79).all λt=>apD ((s:Int)+100) (t:Int))=Y:=by rfl
theorem ak9{s}(b:100<=s)(c:s<=133)(e:0<=t)(f:t<=78):apD s t=Y:=by
 have a:=fH.1 apE (s-100).toNat U;have d:=fH.1 a t.toNat U;grind
theorem ab5{s}(a:100<=s)(b:s<=133)(c:0<=t)(d:t<=78):(∀x∈(xE s t).1,x<=133)/\(xE s t).1.length<=7:=by
 have e:=ak9 a b c d;grind [apD]
theorem uh{s}(a:100<=s)(c:s<=133)(e:0<=t)(f:t<=78)(h:¬((xE s t).1=[]/\(xE s t).2=Y)):∃d b n,fJ 8 [s] t 0=Ax (d,Ax b,n)/\n<=20:=by
 have g:=ak9 a c e f;grind [apD]
theorem kC{s}(b:100<=s)(a:(xE s t).1=[]/\(xE s t).2=Y):feedL (s::r) t=feedL r t:=by
 rw[feedL,Bw,ae a]
def lD{s a b}(e:100<=s)(c:¬((xE s t).1=[]/\(xE s t).2=Y))(d:fJ 8 [s] t 0=Ax (a,Ax b,n)):feedL (s::r) t=(a++r,b):=by
 rw[feedL,Bw,aa c,d]
theorem iK{s}(a:s<100):feedL (s::r) t=(r,decide (s=t)):=by
 rw[feedL,ae a]
theorem kF{s a b f m}(h:fJ (f+1) (s::r) t n=Ax (a,b,m))(c:100<=s):((xE s t).2=Y/\fJ f ((xE s t).1++r) t (n+(xE s t).1.length)=Ax (a,b,m))\/((xE s t).2=X/\a=r/\b=Ax X/\m=n):=by
 rw[fJ,Bw]at h;grind
theorem qx{s a b f m}(h:fJ (f+1) (s::r) t n=Ax (a,b,m))(c:s<100):a=r/\b=Ax (decide (s=t))/\m=n:=by
 simp_all [fJ]
def By(a:zLI):Prop:=∀b∈a,b<=133
theorem agA:∀{f}{g}{t}{n}{a}{b}{m},By g->1<=t->t<=78->fJ f g t n=Ax (a,b,m)->By a
 |0,_,_,_,_,_,_,_,_,_,h=>by simp[fJ]at h|f+1,[],t,n,a,b,m,d,_,_,h=>by
  grind [fJ,Option.some.injEq,Prod.mk.injEq]|f+1,s::r,t,n,a,b,m,d,k,i,h=>by
  have j:By r:=λc hx=>d c U;by_cases l:s<100
  .grind [qx]
  .rcases kF h O with⟨_,e⟩|⟨_,e,_⟩
   .refine agA (λc hx=>?_) k i e;obtain hx|hx:=dg.1 hx
    .exact(ab5 O (d s U) O i).1 c hx
    .exact j c hx
   grind
theorem se:∀{g}{t},By g->1<=t->t<=78->By (feedL g t).1
 |[],t,c,_,_=>by grind [feedL]|s::r,t,c,h,d=>by
  have f:By r:=λa hx=>c a U;by_cases j:s<100
  .grind [iK]
  .have i:=c s U;by_cases b:(xE s t).1=[]/\(xE s t).2=Y
   .rw[kC O b];exact se f h d
   .obtain⟨_,_,_,e,_⟩:=uh O i O d b;rw[lD O b e];intro a hx;obtain hx|hx:=dg.1 hx
    .refine agA ?_ h d e a hx;intro _ _;grind
    .exact f a hx
open Go.RowKit
structure Nd where
 k:Int
 f:Int
 t:Int
 l:Int
 op:Int
 n:Int
 x:Bz
 nm:zLB
 ks:zLI
abbrev Jn(N:Nd)(a b:A3):Array A3:=#[zI N.k,zI N.f,zI N.t,zI N.l,zI N.op,zI N.n,M N.x,a,b]
abbrev zLD:=List Nd
def bv(W:A0)(v:A3)(l:zLB):Prop:=
 (l=[]/\∃a c,v=B1 a 0 c)\/∃a c,v=B1 (Ax a) (V l) c/\∀b s,l[b]?=Ax s->W.cell? (a.add b)=Ax (M s)
def dt(W:A0)(v:A3)(l:zLI):Prop:=
 (l=[]/\∃a c,v=B1 a 0 c)\/∃a c,v=B1 (Ax a) (V l) c/\∀b d,l[b]?=Ax d->W.cell? (a.add b)=Ax (zI d)
structure aiG (W:A0) (a:Addr) (N:Nd) (vn vk:A3):Prop where
 c0:W.cell? a=Ax (zI N.k)
 c1:W.cell? (aj a.block<|a.off+1)=Ax (zI N.f)
 c2:W.cell? (aj a.block<|a.off+2)=Ax (zI N.t)
 c3:W.cell? (aj a.block<|a.off+3)=Ax (zI N.l)
 c4:W.cell? (aj a.block<|a.off+4)=Ax (zI N.op)
 c5:W.cell? (aj a.block<|a.off+5)=Ax (zI N.n)
 c6:W.cell? (aj a.block<|a.off+6)=Ax (.string N.x)
 c7:W.cell? (aj a.block<|a.off+7)=Ax vn
 c8:W.cell? (aj a.block<|a.off+8)=Ax vk
 hn:bv W vn N.nm
 hk:dt W vk N.ks
def dE(W:A0)(v:A3)(b:zLD):Prop:=
 (b=[]/\∃a c,v=B1 a 0 c)\/∃a c,v=B1 (Ax a) (V b) c/\∀i d,b[i]?=Ax d->∃vn vk,aiG W (a.add<|i*9) d vn vk
def Cn(h:W.cell? a=Ax v):a.block<W.heap.size:=by
 unfold World.cell? at h;obtain g|g:=cG a.block W.heap.size
 .exact g
 .rw[Lf g]at h;simp at h
def ag(b:A2 W.heap.size W W')(h:W.cell? a=Ax v):W'.cell? a=Ax v:=by
 rw[<-h];unfold World.cell?;rw[b.block _<|Cn h]
def bv.below{l}(h:bv W v l)(e:A2 W.heap.size W W'):bv W' v l:=by
 obtain h|⟨a,b,c,d⟩:=h
 .exact .inl h
 .exact .inr ⟨a,b,c,λg i f=>ag e<|d g i f⟩
def dt.below{l}(h:dt W v l)(e:A2 W.heap.size W W'):dt W' v l:=by
 obtain h|⟨a,b,c,d⟩:=h
 .exact .inl h
 .exact .inr ⟨a,b,c,λg i f=>ag e<|d g i f⟩
def aiG.below{N}(h:aiG W a N vn vk)(b:A2 W.heap.size W W'):aiG W' a N vn vk:=
 ⟨ag b h.c0,ag b h.c1,ag b h.c2,ag b h.c3,ag b h.c4,ag b h.c5,ag b h.c6,ag b h.c7,ag b h.c8,h.hn.below b,h.hk.below b⟩
def dE.below{a}(h:dE W v a)(j:A2 W.heap.size W W'):dE W' v a:=by
 obtain h|⟨c,d,f,g⟩:=h
 .exact .inl h
 .exact .inr ⟨c,d,f,λk b i=>by obtain⟨_,_,e⟩:=g k b i;exact⟨_,_,e.below j⟩⟩
theorem bv.form{l}(h:bv W v l):∃a c,v=B1 a (V l) c:=by
 obtain⟨rfl,a,c,h⟩|⟨a,c,_,_⟩:=h;all_goals grind
theorem dt.form{l}(h:dt W v l):∃a c,v=B1 a (V l) c:=by
 obtain⟨rfl,a,c,h⟩|⟨a,c,_,_⟩:=h;all_goals grind
theorem dE.form{l}(h:dE W v l):∃a c,v=B1 a (V l) c:=by
 obtain⟨rfl,a,c,h⟩|⟨a,c,_,_⟩:=h;all_goals grind
theorem bv.get{a:zOA}{l}(h:bv W (B1 a n c) l){k}(d:l[k]?=Ax s):∃b,a=Ax b/\W.cell? (b.add k)=Ax (M s):=by
 obtain⟨rfl,_⟩|⟨b,_,_,_⟩:=h;all_goals grind
theorem dt.get{a:zOA}{l}(h:dt W (B1 a n c) l){k s}(d:l[k]?=Ax s):∃b,a=Ax b/\W.cell? (b.add k)=Ax (zI s):=by
 obtain⟨rfl,_⟩|⟨b,_,_,_⟩:=h;all_goals grind
theorem dE.get{a:zOA}{l}(h:dE W (B1 a n c) l){k N}(d:l[k]?=Ax N):∃b,a=Ax b/\∃vn vk,aiG W (b.add<|k*9) N vn vk:=by
 obtain⟨rfl,_⟩|⟨b,_,_,_⟩:=h;all_goals grind
theorem cj{e:Nat}(h:w.ownsRow base e size v n xs)(a:A2 w.heap.size w w'):w'.ownsRow base e size v n xs:=
 h.kept (row:=Br) ⟨a.os,a.tape,a.output,a.size,λc b _=>a.block c b⟩ U
theorem pL{a e:Nat}(h:w.ownsRow base e size v n xs)(i:a<=base:=by omega):w.ownsRow a e size v n xs:=by
 obtain⟨d,b⟩:=h;refine⟨d,?_⟩;obtain b|⟨c,_,_,f,_,g⟩:=b
 .grind
 .exact .inr ⟨c,_,_,f,O,g⟩
def bg{α:Type}{l:List α}{k}(a:V l=n)(h:k<n):∃s,l[k]?=Ax s:=⟨l[k]'(O),bm _⟩
def jb{t fr a c d e f g}(h:W.heap[b]?=Ax (A5 #[a,c,d,e,f,g] t fr)):W.cell? (aj b 0)=Ax a/\W.cell? (aj b 1)=Ax c/\W.cell? (aj b 2)=Ax d/\W.cell? (aj b 3)=Ax e/\W.cell? (aj b 4)=Ax f/\W.cell? (aj b 5)=Ax g:=by
 refine⟨?_,?_,?_,?_,?_,?_⟩<;>(rw[oe h];rfl)
def sf{t}{cs:zAV}(h:W.heap[b]?=Ax (A5 cs t (0,0))):W.frozen? (aj b 0)=X/\W.frozen? (aj b 1)=X/\W.frozen? (aj b 2)=X/\W.frozen? (aj b 3)=X/\W.frozen? (aj b 4)=X/\W.frozen? (aj b 5)=X:=
 ⟨frR h,frR h,frR h,frR h,frR h,frR h⟩
def six(W:A0)(b:Nat)(a c d e f g:A3):A0:=((((((W.setCell (aj b 0) a).setCell ⟨b,1,Br⟩ c).setCell ⟨b,2,Br⟩ d).setCell ⟨b,3,Br⟩ e).setCell ⟨b,4,Br⟩ f).setCell ⟨b,5,Br⟩ g)
def LB{t m n o p q r}(h:W.heap[b]?=Ax (A5 #[m,n,o,p,q,r] t (0,0)))(c d e f g i):(six W b c d e f g i).heap[b]?=Ax (A5 #[c,d,e,f,g,i] t (0,0)):=by
 have a:=λj k {W l}=>aD W b j l t k;simpa [six] using a 5 _ (a 4 _<|a 3 _<|a 2 _<|a 1 _<|a 0 _ h)
def ab6{k}(h:k≠b)(a c d e f g):(six W b a c d e f g).heap[k]?=W.heap[k]?:=by
 rw[six,jg h,jg h,jg h,jg h,jg h,jg h]
def uA(w:A0):w.drew.heap=w.heap:=rfl
def Co{k}(h:k≠b)(j a c d e f g):(six W b a c d e f g).drew.cell? (aj k j)=W.cell? (aj k j):=by
 unfold World.cell?;rw[uA,ab6 h]
def aiH{c}(h:A2 base c W)(a:base<=b)(d e f g i j):A2 base c (six W b d e f g i j):=by
 exact(((((h.setCell a _).setCell a _).setCell a _).setCell a _).setCell a _).setCell a _
theorem GL(W:A0)(b c d e f g h):W.grownBy (six W b c d e f g h).drew (Ax b):=by
 have a:=(aiH (ay b W) (fG b) c d e f g h).drew;exact⟨a.os,a.tape,a.output,a.size,λ_ _ _=>by rw[uA,ab6 U]⟩
def apF:(S.info? 9).map (λi=>(i.zero,i.size,i.bytes))=Ax (Ax nh,1,16):=J
def tD:(S.info? 3).map (λi=>(i.zero,i.size,i.bytes))=Ax (Ax<|zI 0,1,8):=J
theorem ala{l:zLB}(h:W.ownsRow base 9 1 (bI g n c) n (l.map E2))(d:V l=n):bv W (bI g n c) l:=by
 subst d;refine .inr ⟨_,c,R,λa _ e=>?_⟩;have f:a<V l:=U;have b:(⟨g,0,Br⟩:Addr).add a=⟨g,a,Br⟩:=by unfold Addr.add;grind
 rw[b,h.cellAt a O,cJ,e];rfl
theorem alb{l:zLI}(h:W.ownsRow base 3 1 (bI g n c) n (l.map zI))(d:V l=n):dt W (bI g n c) l:=by
 subst d;refine .inr ⟨_,c,R,λa _ e=>?_⟩;have f:a<V l:=U;have b:(⟨g,0,Br⟩:Addr).add a=⟨g,a,Br⟩:=by unfold Addr.add;grind
 rw[b,h.cellAt a O,cJ,e];rfl
def aiI:zLB->Nat|[]=>0|s::l=>s.size+aiI l
def alc(l:zLB):Nat:=V l+aiI l
def ab7(N:Nd):Nat:=N.x.size+(alc N.nm+V N.ks)
def jq(N:Nd)(b a:A3):A3:=D2<|Jn N b a
def nA(b:Nat)(W:A0)(t:D1)(N:Nd)(c a:A3):Prop:=
 W.heap[b]?=Ax (A5 (Jn N c a) t (0,0))
def aE{t N}(h:nA b W t N vn vk):
  W.cell? (aj b 0)=Ax (zI N.k)/\W.cell? (aj b 1)=Ax (zI N.f)/\W.cell? (aj b 2)=Ax (zI N.t)/\W.cell? (aj b 3)=Ax (zI N.l)/\W.cell? (aj b 4)=Ax (zI N.op)/\W.cell? (aj b 5)=Ax (zI N.n)/\W.cell? (aj b 6)=Ax (M N.x)/\W.cell? (aj b 7)=Ax vn/\W.cell? (aj b 8)=Ax vk/\(∀j,W.frozen? (aj b j)=X):=by
 unfold nA at h;exact⟨crV h,crV h,crV h,crV h,crV h,crV h,crV h,crV h,crV h,λj=>frR h⟩
def zNd:Nd:=⟨0,0,0,0,0,0,zE0,[],[]⟩
def nA.below{t N}(h:nA b W t N vn vk)(a:A2 W.heap.size W W'):nA b W' t N vn vk:=(a.block _<|ai h).trans h
def ab8(W:A0)(b:Nat)(N:Nd)(c a:A3):A0:=(((((((((W.setCell (aj b 0)<|zI N.k).setCell ⟨b,1,Br⟩<|zI N.f).setCell ⟨b,2,Br⟩<|zI N.t).setCell ⟨b,3,Br⟩<|zI N.l).setCell ⟨b,4,Br⟩<|zI N.op).setCell ⟨b,5,Br⟩<|zI N.n).setCell ⟨b,6,Br⟩<|M N.x).setCell ⟨b,7,Br⟩<|c).setCell ⟨b,8,Br⟩<|a)
def apH{t e j i}(h:nA b W t e j i)(N d c):nA b (ab8 W b N d c) t N d c:=by
 have a:=λf g {W k}=>aD W b f k t g;simpa [ab8,nA] using a 8 _ (a 7 _<|a 6 _<|a 5 _<|a 4 _<|a 3 _<|a 2 _<|a 1 _<|a 0 _ h)
def ab9{e:Nat}(h:W.ownsRow base e size v n xs)(a:b<base)(N d c):(ab8 W b N d c).ownsRow base e size v n xs:=by
 unfold ab8
 iterate 9 refine jo ?_ a _
 exact h
def aep(h:A2 base w W)(a:base<=b)(N d c):A2 base w (ab8 W b N d c):=by
 unfold ab8
 iterate 9 refine gE ?_ a _
 exact h
def nB{a}(h:A2 B a w)(n):A2 B a (w.drewN n):=⟨h.os,h.tape,h.output,h.size,h.block⟩
def eC{a}(h:A2 B a w):A2 B a w.drew:=⟨h.os,h.tape,h.output,h.size,h.block⟩
theorem aF{e:Nat}(h:W.ownsRow base e size v n xs):∃a b,v=B1 a n b:=by
 obtain⟨rfl,_⟩|⟨_,b,_,rfl,_⟩:=h.2;all_goals grind
def si(w:A0)(b:zON):w.grownBy w b:=⟨R,R,R,eE,λ_ _ _=>rfl⟩
theorem qv(h:w0.grownBy w (Ax b))(i v):w0.grownBy (w.setCell (aj b i) v) (Ax b):=
 ⟨h.os,h.tape,h.output,by simpa [B7] using h.size,λd a c=>by rw[jg U];exact h.block d a c⟩
theorem aC{e:Nat}(h:W.ownsRow base e size v n xs):(n=0/\v=fe)\/∃g a,v=bI g n a:=by
 obtain⟨rfl,_⟩|⟨g,a,_,rfl,_⟩:=h.2;all_goals grind
def mF(w:A0)(r:zLI×Bool)(e:Ending)(b:A0):Prop:=
 ∃a c,e=T (B2 #[B1 a (V r.1) c,A9 r.2])/\b.ownsRow w.heap.size 3 1 (B1 a (V r.1) c) (V r.1) (r.1.map zI)/\A2 w.heap.size w b
theorem ald(w:A0)(l:zLI)(n)(b:V l=n)(a:n<=100):(w.alloc<|A5 (l.map zI).toArray 3).ownsRow w.heap.size 3 1 (bI w.heap.size n n) n (l.map zI):=by
 have:=zg (e:=3) (size:=1) w (l.map zI).toArray n eE (by grind [maxLen]) U;omega
def uB(w)(l:zLI)(b)(a:V l<=100):mF w (l,b) (T<|B2 #[bI w.heap.size (V l)<|V l,A9 b]) (w.alloc<|A5 (l.map zI).toArray 3):=
 ⟨_,_,R,ald w l _ R a,dj w _⟩
def LD(w b):mF w ([],b) (T<|B2 #[fe,A9 b]) w:=⟨_,_,R,onN,ay _ w⟩
def zu(v w):A1 S 208 #[v] w λe w'=>e=T v/\w'=w:=by
 exact giS
theorem we(w t):A1 S 288 #[zI t] w λe w'=>e=T (A9<|lm t)/\w'=w:=by
 by_cases a:t=25\/t=50\/t=62\/t=69
 .have e:lm t=Y:=eI a;rw[e];obtain rfl|rfl|rfl|rfl:=a;all_goals
   exact giS
 .have e:lm t=X:=bq a;rw[e];have b:(t==25)=X:=U;have c:(t==50)=X:=U;have d:(t==62)=X:=U;have f:(t==69)=X:=U;exact giS
theorem Ez(w t):A1 S 291 #[zI t] w λe w'=>e=T (A9<|gg t)/\w'=w:=by
 by_cases a:t=10\/t=26
 .have e:gg t=Y:=dto;rw[e];obtain rfl|rfl:=a;all_goals
   exact giS
 .have d:¬t=10:=O;have b:(t==10)=X:=U;have c:(t==26)=X:=U;by_cases f:60<t
  .have e:gg t=Y:=dto;rw[e];exact giS
  .have e:gg t=X:=dfo;rw[e];exact giS
theorem wg(w t):A1 S 210 #[zI t] w λe w'=>e=T (A9<|dv t)/\w'=w:=by
 by_cases a:t=1\/t=2\/t=3\/t=4\/t=24\/t=29\/t=17\/t=49\/t=18\/t=40\/t=42
 .have e:dv t=Y:=by grind [dv]
  rw[e];obtain rfl|rfl|rfl|rfl|rfl|rfl|rfl|rfl|rfl|rfl|rfl:=a;all_goals
   exact giR
 .have e:dv t=lm t:=by grind [dv]
  rw[e];simp[not_or]at a;obtain⟨_,_,_,_,_,_,_,_,_,_,_⟩:=a;have b:=λw=>we w t;generalize lm t=c at b⊢;go_in;go_wp2_with (go_at_call 288;apply ez<|b _);go_ret
  simp_all
def gh(k:Int):Bool:=decide (20<=k/\k<=37)
def jE(k:Int):Bool:=decide (1<=k/\k<=16)
def xj(k:Int):Bool:=decide (k=26\/k=32\/k=33)
def aeq(k w):A1 S 293 #[zI k] w λe w'=>e=T (A9<|gh k)/\w'=w:=by
 unfold gh;obtain⟨h1,a⟩|⟨h1,a⟩|h1:(20<=k/\k<=37)\/(20<=k/\¬k<=37)\/¬20<=k:=O
 .rw[eI O];exact giS
 .rw[bq O];exact giS
 .rw[bq O];exact giS
def G1(k w):A1 S 135 #[zI k] w λe w'=>e=T (A9<|jE k)/\w'=w:=by
 unfold jE;obtain⟨h1,a⟩|⟨h1,a⟩|h1:(1<=k/\k<=16)\/(1<=k/\¬k<=16)\/¬1<=k:=O
 .rw[eI O];exact giS
 .rw[bq O];exact giS
 .rw[bq O];exact giS
theorem LF(k w):A1 S 229 #[zI k] w λe w'=>e=T (A9<|xj k)/\w'=w:=by
 unfold xj;by_cases a:k=26
 .subst a;exact giS
 have d:(k==26)=X:=U;by_cases b:k=32
 .subst b;exact giS
 have f:(k==32)=X:=U;by_cases c:k=33
 .subst c;exact giS
 have g:(k==33)=X:=U;rw[dfo];exact giS
theorem aiJ(w m a N b l j)(i:Nat)(z:Nat)(f:dE w m a)(v:bv w l N.nm)(d:dt w j N.ks)(t:N.ks[i]?=Ax (z:Int))(p:a[z]?=Ax b)(r:V a<=1048576)(s:V N.ks<=1048576):
  A1 S 225 #[D2 #[m],jq N l j,zI i] w λe w'=>e=T (zI b.k)/\A2 w.heap.size w w':=by
 have q:∀g h,A2 w.heap.size w ((w.alloc g).alloc h):=λg h=>((ay _ w).alloc O _).alloc I _;obtain⟨_,_,rfl⟩:=f.form;obtain⟨_,_,rfl⟩:=v.form;obtain⟨_,_,rfl⟩:=d.form;obtain⟨_,rfl,_,_,n⟩:=f.get p;obtain⟨_,rfl,o⟩:=d.get t;have x:z<V a:=U;have u:i<V N.ks:=U;have c:=n.c0;have C:=Cn o;have E:=Cn c;unfold jq;generalize V a=F at r x;generalize V N.ks=A at s u;generalize V N.nm=y;generalize b.k=B at c;obtain⟨_,_,_,_,_,_,_,_,_⟩:=N;unfold Jn;simp only;go_in;go_wp21
 go_quiet (fail)
 go_wp21
 go_ret;exact⟨R,nB (q _ _) _⟩
def gC(a:zLD)(N:Nd)(j:Nat):Int:=(a.getD ((N.ks.getD j 0).toNat) zNd).k
def mK(a:zLD)(N:Nd):Nat->Nat->Bool|0,_=>Y|f+1,j=>gh (gC a N j)&&mK a N f (j+1)
structure awD (ns:zLD) (N:Nd) (f j:Nat) (R1:Bool):Prop where
 out:mK ns N f j=R1
structure Dx (ns:zLD) (N:Nd):Prop where
 ok:∀z∈N.ks,0<=z/\z<(V ns:Int)
theorem Dx.get{a N}(h:Dx a N){j}(d:j<V N.ks):∃(z:Nat) (b:Nd),N.ks[j]?=Ax (z:Int)/\a[z]?=Ax b/\gC a N j=b.k/\z<V a:=by
 have e:N.ks[j]?=Ax N.ks[j]:=U;have⟨_,_⟩:=h.ok _<|pd d;obtain⟨z,_⟩:∃z:Nat,N.ks[j]=z:=⟨N.ks[j].toNat,O⟩;have c:z<V a:=O;refine⟨z,_,U,bm c,?_,c⟩;unfold gC;grind
def oz(w G b N F E)(i k:Nat)(z:dE w G b)(l:bv w F N.nm)(y:dt w E N.ks)(ar:Dx b N)(a5:k<=V N.ks)(ax:V b<=1048576)(a0:V N.ks<=1048576):
  A1 S 228 #[D2 #[G],jq N F E,zI i,zI k] w λe w'=>e=T (A9<|mK b N (k-i) i)/\A2 w.heap.size w w':=by
 have⟨t,x⟩:=aw<|mK b N (k-i) i;rw[x];have ba:∀B C,A2 w.heap.size w ((w.alloc B).alloc C):=λB C=>((ay _ w).alloc O _).alloc I _;have f:=fs z y;obtain⟨K,ad,rfl⟩:=z.form;obtain⟨_,_,rfl⟩:=l.form;obtain⟨L,af,rfl⟩:=y.form;unfold jq;have⟨A,l⟩:=aw<|V b;have⟨r,v⟩:=aw<|V N.ks;rw[l]at f ax⊢;rw[v]at f a0 a5⊢;generalize V N.nm=a7;go_in;go_wp2_with fail;generalize av:(w.alloc _).alloc _=g;obtain⟨m,n,u, -⟩:=Eu av;replace m:g.cell? (aj w.heap.size 0)=Ax (B1 K A ad):=crV m;replace n:g.cell? (aj (w.heap.size+1) 8)=Ax (B1 L r af):=crV n;go_loopw [9] (λp wr=>∃(j:Nat),p=zI j/\i<=j/\(i<=k->j<=k)/\awD b N (k-j) j t/\A2 g.heap.size g wr) (λp _=>k-(B3 p).toNat)
 .exact⟨i,R,O,λa=>a,⟨x⟩,blR⟩
 .
  obtain⟨j,rfl,_,_,q,h⟩:=hrel;have o:=u.trans<|h.mono u.size;by_cases bd:j<k
  .have⟨H,s,ak,al,am,an⟩:=ar.get (j:=j) O;rw[(fs l v).out.1]at an;obtain⟨_,rfl,_,_,ap⟩:=(f.1.below o).get al;obtain⟨_,rfl,_⟩:=(f.2.below o).get ak;have a8:=ag h m;have a9:=ag h n;have ao:=ap.c0;have a:=q.out;rw[(O:k-j=(k-(j+1))+1),mK,am]at a;have a4:(j:Int)<(k:Int):=O;have bc:(j:Int)<(r:Int):=O;have bh:(H:Int)<(A:Int):=O;have bf:(0:Int)<=(H:Int):=O;have bb:(0:Int)<=(j:Int):=O;have c:=λw=>aeq s.k w;generalize s.k=a6 at ao a c;cases hx:gh a6 with
   |true=>
    rw[hx,gK]at a;rw[hx]at c;have d:awD b N (k-(j+1)) (j+1) t:=⟨a⟩;go_wp2_with fail;go_quiet ((go_at_call 293;exact B5<|c _))
    go_wp2;exact⟨⟨_,by go_num,O,λ_=>O,d,nB h _⟩,by simp[B3];omega⟩|false=>
    rw[hx,gJ]at a;rw[hx]at c;have d:=ah a;clear a hx;go_wp2_with fail;go_quiet ((go_at_call 293;exact B5<|c _))
    go_wp2;go_ret;exact⟨by rw[<-d.out];rfl,nB o _⟩
  .have a:=q.out;rw[(O:k-j=0),mK]at a;have d:=ah a;have a4:¬(j:Int)<(k:Int):=O;exact gwS
open Go.Maps Go.WideMaps
theorem kqf{a b}(h:a=b)(c:Int)(e:(b==c)=X):(a==c)=X:=U
theorem kqt{a b}(h:a=b)(c:Int)(e:(b==c)=Y):(a==c)=Y:=U
theorem kqs{a b:Int}(h:a=b):(a==b)=Y:=U
def wB:Nat->Bz|0=>⟨#[115,116,97,116]⟩|1=>⟨#[98,108,111,99,107]⟩|2=>⟨#[101,108,115,101]⟩|3=>⟨#[101,120,112,114]⟩|4=>⟨#[98,97,115,101]⟩|5=>⟨#[116,97,114,103,101,116]⟩|6=>⟨#[99,97,108,108]⟩|7=>⟨#[109,97,110,121]⟩|8=>⟨#[102,110]⟩|_=>⟨#[101,110,116,114,121]⟩
def ms:Nat->Int->Bool|0,k=>jE k|1,k=>k==1|2,k=>k==1||k==7|3,k=>gh k|4,k=>gh k&&k !=27|5,k=>k==26||k==32||k==33|6,k=>k==34|7,k=>k==34||k==27|8,k=>k==36|_,k=>decide (40<=k/\k<=42)
def G4(k w):A1 S 358 #[zI k] w λe w'=>e=T (A9<|gh k)/\w'=w:=by
 unfold gh;obtain⟨h1,a⟩|⟨h1,a⟩|h1:(20<=k/\k<=37)\/(20<=k/\¬k<=37)\/¬20<=k:=O
 .rw[eI O];exact giS
 .rw[bq O];exact giS
 .rw[bq O];exact giS
def aiK(k w):A1 S 326 #[M ⟨#[115,116,97,116]⟩,zI k] w λe w'=>e=T (A9<|ms 0 k)/\w'=w:=by
 obtain⟨h0,a⟩|⟨h0,a⟩|h0:(1<=k/\k<=16)\/(1<=k/\¬k<=16)\/(¬1<=k):=O
 .rw[show ms 0 k=Y from dto];exact giS
 .rw[show ms 0 k=X from dfo];exact giS
 .rw[show ms 0 k=X from dfo];exact giS
def aiL(k w):A1 S 326 #[M ⟨#[98,108,111,99,107]⟩,zI k] w λe w'=>e=T (A9<|ms 1 k)/\w'=w:=by
 unfold ms;exact giS
def ai0(k w):A1 S 326 #[M ⟨#[101,108,115,101]⟩,zI k] w λe w'=>e=T (A9<|ms 2 k)/\w'=w:=by
 unfold ms;obtain rfl|rfl|⟨_,_⟩:(k=1)\/(k=7)\/(¬k=1/\¬k=7):=O
 .go_in;exact gwS
 .go_in;exact gwS
 .go_in;exact gwS
theorem ai1(k w):A1 S 326 #[M ⟨#[101,120,112,114]⟩,zI k] w λe w'=>e=T (A9<|ms 3 k)/\w'=w:=by
 have a:=λw=>G4 k w;have⟨_,b⟩:=aw<|gh k;show A1 _ _ _ _ λe w'=>e=T (A9<|gh k)/\w'=w;rw[b]at a⊢;go_in;go_wp2_with (go_at_call 358;apply ez<|a _);go_ret
 simp_all
theorem ai2(k w):A1 S 326 #[M ⟨#[98,97,115,101]⟩,zI k] w λe w'=>e=T (A9<|ms 4 k)/\w'=w:=by
 have a:=λw=>G4 k w;have⟨b,c⟩:=aw<|gh k;show A1 _ _ _ _ λe w'=>e=T (A9<|gh k&&k !=27)/\w'=w;rw[c]at a⊢;cases b
 .rw[gJ];go_in;go_wp2_with (go_at_call 358;apply ez<|a _);go_ret
  simp_all
 .rw[gK];go_in;go_wp2_with (go_at_call 358;apply ez<|a _);go_ret
  simp_all
def ai3(k w):A1 S 326 #[M ⟨#[116,97,114,103,101,116]⟩,zI k] w λe w'=>e=T (A9<|ms 5 k)/\w'=w:=by
 unfold ms;obtain rfl|rfl|rfl|⟨_,_,_⟩:(k=26)\/(k=32)\/(k=33)\/(¬k=26/\¬k=32/\¬k=33):=O
 .go_in;exact gwS
 .go_in;exact gwS
 .go_in;exact gwS
 .go_in;exact gwS
def ai4(k w):A1 S 326 #[M ⟨#[99,97,108,108]⟩,zI k] w λe w'=>e=T (A9<|ms 6 k)/\w'=w:=by
 unfold ms;exact giS
def ai5(k w):A1 S 326 #[M ⟨#[109,97,110,121]⟩,zI k] w λe w'=>e=T (A9<|ms 7 k)/\w'=w:=by
 unfold ms;obtain rfl|rfl|⟨_,_⟩:(k=34)\/(k=27)\/(¬k=34/\¬k=27):=O
 .go_in;exact gwS
 .go_in;exact gwS
 .go_in;exact gwS
def ai6(k w):A1 S 326 #[M ⟨#[102,110]⟩,zI k] w λe w'=>e=T (A9<|ms 8 k)/\w'=w:=by
 unfold ms;exact giS
def ai7(k w):A1 S 326 #[M ⟨#[101,110,116,114,121]⟩,zI k] w λe w'=>e=T (A9<|ms 9 k)/\w'=w:=by
 obtain⟨h0,a⟩|⟨h0,a⟩|h0:(40<=k/\k<=42)\/(40<=k/\¬k<=42)\/(¬40<=k):=O
 .rw[show ms 9 k=Y from dto];exact giS
 .rw[show ms 9 k=X from dfo];exact giS
 .rw[show ms 9 k=X from dfo];exact giS
def LG(i)(a:i<10)(k w):A1 S 326 #[M<|wB i,zI k] w λe w'=>e=T (A9<|ms i k)/\w'=w:=by
 match i,a with
 |0,_=>exact aiK k w|1,_=>exact aiL k w|2,_=>exact ai0 k w|3,_=>exact ai1 k w|4,_=>exact ai2 k w|5,_=>exact ai3 k w|6,_=>exact ai4 k w|7,_=>exact ai5 k w|8,_=>exact ai6 k w|9,_=>exact ai7 k w
