import Derived.Test.YthboboahkkhopaaGreatDoorHRo12
set_option linter.all false
set_option maxRecDepth 100000
set_option maxHeartbeats 12800000
open Option renaming some->M,none->U
open Go.Proofs.Tryz renaming prog->O
open Go.Value renaming int->Q,pointer->T,string->Y,bool->Z,slice->A2,iface->B0,tuple->B1,string->B4
open Go.IntKind renaming i64->S
open Go.Lib renaming repeatL->V,asciiSpaceTab->A9,TabIs->B6
open Go renaming World->X,Calls->Ax,Value->A0
open Go.RowKit renaming intOf->A5,Hid->B7
open Bool renaming false->Br,true->B2
open Go.Obj renaming cells->B3
namespace Go.Proofs.YthboboahkkhopaaGreatDoor
open Go.RowKit Go.Maps Go.WideMaps
variable{W W':World}{ks:List Int}
def aoE(k:Int):dF k=0\/dF k=1\/dF k=2\/dF k=3\/dF k=4\/dF k=5\/dF k=6:=by
 unfold dF
 (repeat' split)
 all_goals simp
def Hd(w:X)(b:Nat)(N:Nd)(i y:A0)(z:Int)(u:∃a n c,i= A2 a n c)(h:ic w b N i z y):
  Ax O 92 #[gB N.k b] w (gy w (jG (py N (dF N.k)) (vf i (dF N.k)) (A2 U 0 0))):=by
 obtain⟨A,I,B,rfl⟩:=u;unfold ic at h;unfold gB;have H:=λw=>amv b w;have C:=λw=>asT b w;have E:=λw=>asF b w;have x:=λw=>dw b w;have F:=ai h;have G:b<w.heap.size+1:=by omega
 have s:∀e g,be w ((w.alloc e).alloc g).drew:=λe g=>aw (((ah _ w).alloc (af _) e).alloc (by simp) g);have c:=λv=>aj w b v _ _ _ h;have j:=c 0;have m:=c 1;have o:=c 2;have p:=c 3;have q:=c 6;have r:=c 7;clear c h;unfold jG;rcases aoE N.k with hc|hc|hc|hc|hc|hc|hc;all_goals
  simp only[hc,exT,lH,py,vf,ed,dI]at j m o p q r⊢;simp at j m o p q r;go_in;go_wp2_with (go_at_call 330;refine iI (x _) ?_);all_goals
   go_region_held3 (λd=>d.cell? ⟨b,0,U⟩=M (Q S N.k)/\d.cell? ⟨b,1,U⟩=M (Q S N.f)/\d.cell? ⟨b,2,U⟩=M (Q S N.t)/\d.cell? ⟨b,3,U⟩=M (Q S N.l)) (go_keep) (fail)
   go_wp2_with fail;all_goals exact bH (iF rfl _ _ w.heap.size _ _ _ _ rfl ((fp _ _ _ (by simp)).trans (aB w _)) Tryz.underlying61 rfl (by kernel_rfl)) rfl ⟨by simp[*],s _ _⟩
structure Lk (W:X) (lb mb:Nat) (vs:A0):Prop where
 b:W.heap[lb]?=M (.cells #[.map (M mb),vs] 94 (0,0))
 m:W.ownsMap O 9 (plainElem (H:=Unit) O 3) mb 22 (Ai 22)
 e:pH W
def uB{mb n:Nat}{D:DataW Unit}(h:W.ownsMap O 9 (plainElem (H:=Unit) O 3) mb n D)(c:W'.heap[mb]?=W.heap[mb]?):W'.ownsMap O 9 (plainElem (H:=Unit) O 3) mb n D:=by
 obtain⟨b,a,d,e⟩:=h;exact⟨b,a,c.trans d,e⟩
def pH.keep(h:pH W)(a:be W W'):pH W':=by
 obtain⟨⟨b,c,f⟩,⟨d,e,g⟩⟩:=h;exact⟨⟨b,c,ag a f⟩,⟨d,e,ag a g⟩⟩
def Lk.below{lb mb:Nat}{c:A0}(h:Lk W lb mb c)(a:be W W'):Lk W' lb mb c:=
 ⟨(a.block _ (ai h.b)).trans h.b,uB h.m (a.block _ h.m.lt),h.e.keep a⟩
def wy(w:X)(lb mb:Nat)(j:A0)(s:ByteArray)(i:s.size<=1100000)(h:Lk w lb mb j):
  Ax O 218 #[T (M ⟨lb,0,U⟩),Y s] w (kL w (Z (jf s))):=by
 have l:w.cell? ⟨lb,0,U⟩=M (.map (M mb)):=by rw[aj _ _ _ _ _ _ h.b];rfl
 have d:=aa9 s i mb w h.m;by_cases f:s.size<=40
 .have a:decide (cD (aA s 0)=B2/\rv s (s.size+1) 0=s.size/\uk s=Br)=jf s:=by
   unfold jf;by_cases c:cD (aA s 0)=B2/\rv s (s.size+1) 0=s.size/\uk s=Br
   .rw[aI c,aI ⟨f,c⟩]
   .rw[aE c,aE (λe=>c e.2)]
  rw[a]at d;generalize jf s=k at d⊢;clear a h;have g:(s.size:Int)<=40:=by omega
  go_in;go_wp2_with (go_at_call 252;refine d.mono ?_;rintro a n ⟨rfl,rfl⟩);go_ret;exact⟨rfl,rfl⟩
 .have a:jf s=Br:=by unfold jf;rw[aE (λe=>f e.1)]
  rw[a];have g:¬(s.size:Int)<=40:=by omega
  clear d;go_in;go_wp2;go_ret;exact⟨rfl,rfl⟩
def zG(w:X)(lb mb:Nat)(q:A0)(p:A0)(l:List ByteArray)(h:Lk w lb mb q)(m:bi w p l)(y:l.length<=1048576)(o:∀s∈l,s.size<=1048576):
  Ax O 168 #[T (M ⟨lb,0,U⟩),p] w (kL w (Z (tj l l.length 0))):=by
 have e:=mo m o h;obtain⟨B,C,rfl⟩:=m.form;have⟨j,f⟩:=aJ (tj l l.length 0);rw[f];have⟨b,k⟩:=aJ l.length;have t:=am k;rw[k]at e y f⊢;have u:Gz l b 0 j:=⟨f⟩;clear k m o h f;go_in;go_wp2;go_loop [9] (λn=>∃(a:Nat),n= Q S a/\a<=b/\Gz l (b-a) a j) (λn=>b-(A5 n).toNat)
 case atStart=>exact⟨0,rfl,by omega,u⟩
 case round=>
  obtain⟨a,rfl,F,r⟩:=hrel;have c:=r.out;by_cases z:a<b
  .obtain⟨s,g⟩:=cA t.out z;have H:=e.2.1 s (cG g);obtain⟨I,rfl,E⟩:=e.1.get g;rw[show b-a=(b-(a+1))+1 by omega,tj,aD,g,ie]at c;have x:(a:Int)<(b:Int):=by omega
   have G:(0:Int)<=(a:Int):=by omega
   have i:=wy w lb mb q s (by omega) e.2.2;clear g;cases hx:jf s with
   |true=>
    rw[hx,gE]at c;rw[hx]at i;have d:Gz l (b-(a+1)) (a+1) j:=⟨c⟩;clear c hx;go_wp2_with (go_at_call 218;refine i.mono ?_;rintro v A ⟨rfl,rfl⟩);go_round
    case rel=>exact⟨a+1,by go_num,by omega,d⟩
    case measure=>simp[A5];omega
   |false=>
    rw[hx,fw]at c;rw[hx]at i;have d:=am c;clear c hx;go_wp2_with (go_at_call 218;refine i.mono ?_;rintro v A ⟨rfl,rfl⟩);go_ret;exact⟨by rw[<-d.out];rfl,rfl⟩
  .rw[show b-a=0 by omega,tj]at c;have d:=am c;have x:¬(a:Int)<(b:Int):=by omega
   clear c;go_wp2;go_ret;exact⟨by rw[<-d.out];rfl,rfl⟩
def txB(k:Int)(x:ByteArray):Bool:=if k=24 then fok x else if k=25 then decide ((x.size:Int)<=4000) else jf x
def Js(w:X)(lb mb:Nat)(g:A0)(k:Int)(s:ByteArray)(f:s.size<=1100000)(h:Lk w lb mb g):
  Ax O 169 #[T (M ⟨lb,0,U⟩),Q S k,Y s] w (gy w (Z (txB k s))):=by
 have b:=wy w lb mb g s f h;have a:=LL s f w h.e;unfold txB;by_cases c:k=24
 .subst c;rw[ae rfl];unfold fok;by_cases e:s.size<=40
  .have m:(s.size:Int)<=40:=by omega
   rw[aI e,gE];generalize qD s=i at a⊢;clear b h;go_in;go_wp2_with (go_at_call 219;refine a.mono ?_;rintro j n ⟨rfl,l⟩);go_ret;exact⟨rfl,l⟩
  .have m:¬(s.size:Int)<=40:=by omega
   rw[aE e,fw];clear b a h;go_in;go_wp2;go_ret;exact⟨rfl,ah _ _⟩
 by_cases d:k=25
 .subst d;rw[aa (by decide),ae rfl];clear b a h c;go_in;go_wp2;go_ret;exact⟨rfl,ah _ _⟩
 rw[aa c,aa d];generalize jf s=i at b⊢;clear a h;go_in;go_wp2_with (go_at_call 218;refine b.mono ?_;rintro j n ⟨rfl,rfl⟩);go_ret;exact⟨rfl,ah _ _⟩
def EK(k:Int):Int:=if k=2\/k=10 then 200 else if k=14 then 2 else 1
def Cn(k:Int)(w:X):Ax O 167 #[Q S k] w (kL w (B1 #[Q S 1,Q S (EK k)])):=by
 unfold EK;rcases(show k=2\/k=10\/k=14\/(¬k=2/\¬k=10/\¬k=14) by omega) with rfl|rfl|rfl|⟨b,c,a⟩
 .rw[ae (by decide)];go_in;go_wp2;go_ret2;exact⟨rfl,rfl⟩
 .rw[ae (by decide)];go_in;go_wp2;go_ret2;exact⟨rfl,rfl⟩
 .rw[aa (by decide),ae rfl];go_in;go_wp2;go_ret2;exact⟨rfl,rfl⟩
 .rw[aa (by omega),aa a];go_in;go_wp2;go_ret2;exact⟨rfl,rfl⟩
def ff0(w:X)(lb mb:Nat)(n:A0)(h:Lk w lb mb n)(b:Nat)(nk u x v y:Int)(z:A0)(e:A0)(l:List ByteArray)(k:bi w e l)(j:l.length<=1048576)(t:∀s∈l,s.size<=1048576)
  (i:w.heap[b]?=M (B3 #[Q S nk,Q S u,Q S x,Q S v,Q S y,z,e] 200 (0,0))):
  Ax O 112 #[T (M ⟨lb,0,U⟩),B0 198 (T (M ⟨b,0,U⟩))] w (kL w (Z (decide (1<=(l.length:Int)/\(l.length:Int)<=EK nk)&&tj l l.length 0))):=by
 have E:=λw=>asT b w;have F:=λw=>asF b w;have a:=λw=>Cn nk w;have d:=zG w lb mb n e l h k j t;obtain⟨p,r,rfl⟩:=k.form;have B:w.cell? ⟨b,0,U⟩=M (Q S nk):=by rw[aj _ _ _ _ _ _ i];rfl
 have q:w.cell? ⟨b,6,U⟩=M (A2 p l.length r):=by rw[aj _ _ _ _ _ _ i];rfl
 generalize tj l l.length 0=A at d⊢;generalize l.length=m at j d q⊢;generalize EK nk=o at a⊢;by_cases f:1<=(m:Int)
 .by_cases g:(m:Int)<=o
  .rw[aI ⟨f,g⟩,gE];go_in;go_wp2_with (first|(go_at_call 167;refine iI (a _) ?_)|(go_at_call 168;refine d.mono ?_;rintro C G ⟨rfl,rfl⟩));go_ret;exact⟨rfl,rfl⟩
  .rw[aE (λc=>g c.2),fw];go_in;go_wp2_with (go_at_call 167;refine iI (a _) ?_);go_ret;exact⟨rfl,rfl⟩
 .rw[aE (λc=>f c.1),fw];go_in;go_wp2_with (go_at_call 167;refine iI (a _) ?_);go_ret;exact⟨rfl,rfl⟩
def ff1(w:X)(lb:Nat)(b:Nat)(nk i k j l a:Int)(f:Option Addr)(L ck:Nat)(n:L<=1048576)
  (g:w.heap[b]?=M (B3 #[Q S nk,Q S i,Q S k,Q S j,Q S l,A2 f L ck,Q S a] 153 (0,0))):
  Ax O 112 #[T (M ⟨lb,0,U⟩),B0 150 (T (M ⟨b,0,U⟩))] w (gy w (Z (decide (1<=a/\a<(L:Int))))):=by
 have o:=λw=>asT b w;have q:=λw=>asF b w;have c5:w.cell? ⟨b,5,U⟩=M (A2 f L ck):=by rw[aj _ _ _ _ _ _ g];rfl
 have m:w.cell? ⟨b,6,U⟩=M (Q S a):=by rw[aj _ _ _ _ _ _ g];rfl
 by_cases d:1<=a
 .by_cases e:a<(L:Int)
  .rw[aI ⟨d,e⟩];go_in;go_wp2_with fail;go_quiet (fail)
   go_wp2;go_ret;exact⟨rfl,mG (ah _ _) _⟩
  .rw[aE (λc=>e c.2)];have h:=am e;go_in;go_wp2_with fail;go_quiet (fail)
   go_wp2;go_ret;exact⟨by show Ending.returned (Z (decide (a<(L:Int))))=_;rw[aE (by have:=h.out;omega)],mG (ah _ _) _⟩
 .rw[aE (λc=>d c.1)];have p:decide ((1:Int)<=a)=Br:=aE d;go_in;go_wp2_with fail;go_quiet (fail)
  go_wp2;go_ret;exact⟨rfl,mG (ah _ _) _⟩
def ff2(w:X)(lb:Nat)(b:Nat):
  Ax O 112 #[T (M ⟨lb,0,U⟩),B0 159 (T (M ⟨b,0,U⟩))] w (kL w (Z B2)):=by
 have a:=λw=>asT b w;have c:=λw=>asF b w;go_in;go_wp2;go_ret;exact⟨rfl,rfl⟩
def ff6(w:X)(lb:Nat)(b:Nat):
  Ax O 112 #[T (M ⟨lb,0,U⟩),B0 129 (T (M ⟨b,0,U⟩))] w (kL w (Z B2)):=by
 have a:=λw=>asT b w;have c:=λw=>asF b w;go_in;go_wp2;go_ret;exact⟨rfl,rfl⟩
def ff3(w:X)(lb mb:Nat)(e:A0)(h:Lk w lb mb e)(b:Nat)(nk k m l n:Int)(o:A0)(x:ByteArray)(j:x.size<=1100000)
  (c:w.heap[b]?=M (B3 #[Q S nk,Q S k,Q S m,Q S l,Q S n,o,Y x] 161 (0,0))):
  Ax O 112 #[T (M ⟨lb,0,U⟩),B0 162 (T (M ⟨b,0,U⟩))] w (gy w (Z (txB nk x))):=by
 have r:=λw=>asT b w;have s:=λw=>asF b w;have d:=Js w.drew lb mb e nk x j (h.below (aw (ah _ w)));have g:w.cell? ⟨b,0,U⟩=M (Q S nk):=by rw[aj _ _ _ _ _ _ c];rfl
 have i:w.cell? ⟨b,6,U⟩=M (Y x):=by rw[aj _ _ _ _ _ _ c];rfl
 generalize txB nk x=p at d⊢;go_in;go_wp2_with fail;go_region_held3 (λf=>f.cell? ⟨b,0,U⟩=M (Q S nk)/\f.cell? ⟨b,6,U⟩=M (Y x)) (first|go_keep|exact⟨ag a g,ag a i⟩) ((go_at_call 169;refine d.mono ?_;rintro q t ⟨rfl,a⟩))
 go_wp2;go_ret;exact⟨rfl,(aw (ah _ w)).trans a⟩
def ff4(w:X)(lb:Nat)(b:Nat)(nk f h g i a:Int)(j:A0)
  (d:w.heap[b]?=M (B3 #[Q S nk,Q S f,Q S h,Q S g,Q S i,j,Q S a] 171 (0,0))):
  Ax O 112 #[T (M ⟨lb,0,U⟩),B0 169 (T (M ⟨b,0,U⟩))] w (kL w (Z (if nk=30 then(decide ((19:Int)<=a)&&decide (a<=22)) else(decide ((1:Int)<=a)&&decide (a<=18))))):=by
 have m:=λw=>asT b w;have n:=λw=>asF b w;have k:w.cell? ⟨b,0,U⟩=M (Q S nk):=by rw[aj _ _ _ _ _ _ d];rfl
 have l:w.cell? ⟨b,6,U⟩=M (Q S a):=by rw[aj _ _ _ _ _ _ d];rfl
 by_cases e:nk=30
 .rw[ae e];by_cases c:(19:Int)<=a
  .rw[aI c,gE];go_in;go_wp2;go_ret;exact⟨rfl,rfl⟩
  .rw[aE c,fw];go_in;go_wp2;go_ret;exact⟨rfl,rfl⟩
 .rw[aa e];by_cases c:(1:Int)<=a
  .rw[aI c,gE];go_in;go_wp2;go_ret;exact⟨rfl,rfl⟩
  .rw[aE c,fw];go_in;go_wp2;go_ret;exact⟨rfl,rfl⟩
def ff5(w:X)(lb mb:Nat)(f:A0)(h:Lk w lb mb f)(b:Nat)(nk n p o q:Int)(r:A0)(c:A0)(br:Bool)(l:List ByteArray)(e:bi w c l)(d:l.length<=1048576)(m:∀s∈l,s.size<=1048576)
  (k:w.heap[b]?=M (B3 #[Q S nk,Q S n,Q S p,Q S o,Q S q,r,c,Z br] 203 (0,0))):
  Ax O 112 #[T (M ⟨lb,0,U⟩),B0 201 (T (M ⟨b,0,U⟩))] w (kL w (Z (tj l l.length 0))):=by
 have v:=λw=>asT b w;have x:=λw=>asF b w;have a:=zG w lb mb f c l h e d m;obtain⟨g,j,rfl⟩:=e.form;have i:w.cell? ⟨b,6,U⟩=M (A2 g l.length j):=by rw[aj _ _ _ _ _ _ k];rfl
 generalize tj l l.length 0=t at a⊢;generalize l.length=y at d a i⊢;go_in;go_wp2_with (go_at_call 168;refine a.mono ?_;rintro u z ⟨rfl,rfl⟩);go_ret;exact⟨rfl,rfl⟩
def E4(k:Int):dF k=0\/dF k=1\/dF k=2\/dF k=3\/dF k=4\/dF k=5\/dF k=6:=by
 unfold dF
 (repeat' split)
 all_goals simp
def tF(k:Int)(b:Nat)(w:X):(method 438 (lH (dF k)) (T (M ⟨b,0,U⟩)) "loop.example/warp/impl.head").run O w= .ok (330,T (M ⟨b,0,U⟩)) w:=tr _ b w
def BF(i f:Nat):List UInt8:=(wB i).data.toList++(if f=1 then [42] else if f=2 then [63] else [])
def wS(i f:Nat):ByteArray:=⟨(BF i f).toArray⟩
def wS1(i f:Nat):ByteArray:=⟨((wB i).data.toList++(if f=2 then [63] else [])).toArray⟩
def asz:∀i f,i<10->f<3->(⟨(Lib.trimSuffix (wS i f).data.toList [42]).toArray⟩:ByteArray)=wS1 i f/\Lib.hasSuffix (wS i f).data.toList [42]=(f==1)
 |0,0,_,_=>⟨rfl,rfl⟩
 |0,1,_,_=>⟨rfl,rfl⟩
 |0,2,_,_=>⟨rfl,rfl⟩
 |1,0,_,_=>⟨rfl,rfl⟩
 |1,1,_,_=>⟨rfl,rfl⟩
 |1,2,_,_=>⟨rfl,rfl⟩
 |2,0,_,_=>⟨rfl,rfl⟩
 |2,1,_,_=>⟨rfl,rfl⟩
 |2,2,_,_=>⟨rfl,rfl⟩
 |3,0,_,_=>⟨rfl,rfl⟩
 |3,1,_,_=>⟨rfl,rfl⟩
 |3,2,_,_=>⟨rfl,rfl⟩
 |4,0,_,_=>⟨rfl,rfl⟩
 |4,1,_,_=>⟨rfl,rfl⟩
 |4,2,_,_=>⟨rfl,rfl⟩
 |5,0,_,_=>⟨rfl,rfl⟩
 |5,1,_,_=>⟨rfl,rfl⟩
 |5,2,_,_=>⟨rfl,rfl⟩
 |6,0,_,_=>⟨rfl,rfl⟩
 |6,1,_,_=>⟨rfl,rfl⟩
 |6,2,_,_=>⟨rfl,rfl⟩
 |7,0,_,_=>⟨rfl,rfl⟩
 |7,1,_,_=>⟨rfl,rfl⟩
 |7,2,_,_=>⟨rfl,rfl⟩
 |8,0,_,_=>⟨rfl,rfl⟩
 |8,1,_,_=>⟨rfl,rfl⟩
 |8,2,_,_=>⟨rfl,rfl⟩
 |9,0,_,_=>⟨rfl,rfl⟩
 |9,1,_,_=>⟨rfl,rfl⟩
 |9,2,_,_=>⟨rfl,rfl⟩
def asA:∀i f,i<10->f<3->(⟨(Lib.trimSuffix (wS1 i f).data.toList [63]).toArray⟩:ByteArray)=wB i/\Lib.hasSuffix (wS1 i f).data.toList [63]=(f==2)
 |0,0,_,_=>⟨rfl,rfl⟩
 |0,1,_,_=>⟨rfl,rfl⟩
 |0,2,_,_=>⟨rfl,rfl⟩
 |1,0,_,_=>⟨rfl,rfl⟩
 |1,1,_,_=>⟨rfl,rfl⟩
 |1,2,_,_=>⟨rfl,rfl⟩
 |2,0,_,_=>⟨rfl,rfl⟩
 |2,1,_,_=>⟨rfl,rfl⟩
 |2,2,_,_=>⟨rfl,rfl⟩
 |3,0,_,_=>⟨rfl,rfl⟩
 |3,1,_,_=>⟨rfl,rfl⟩
 |3,2,_,_=>⟨rfl,rfl⟩
 |4,0,_,_=>⟨rfl,rfl⟩
 |4,1,_,_=>⟨rfl,rfl⟩
 |4,2,_,_=>⟨rfl,rfl⟩
 |5,0,_,_=>⟨rfl,rfl⟩
 |5,1,_,_=>⟨rfl,rfl⟩
 |5,2,_,_=>⟨rfl,rfl⟩
 |6,0,_,_=>⟨rfl,rfl⟩
 |6,1,_,_=>⟨rfl,rfl⟩
 |6,2,_,_=>⟨rfl,rfl⟩
 |7,0,_,_=>⟨rfl,rfl⟩
 |7,1,_,_=>⟨rfl,rfl⟩
 |7,2,_,_=>⟨rfl,rfl⟩
 |8,0,_,_=>⟨rfl,rfl⟩
 |8,1,_,_=>⟨rfl,rfl⟩
 |8,2,_,_=>⟨rfl,rfl⟩
 |9,0,_,_=>⟨rfl,rfl⟩
 |9,1,_,_=>⟨rfl,rfl⟩
 |9,2,_,_=>⟨rfl,rfl⟩
def ad0:∀i f,i<10->f<3->(wS i f).size<=10/\(wS1 i f).size<=10
 |0,0,_,_=>by decide
 |0,1,_,_=>by decide
 |0,2,_,_=>by decide
 |1,0,_,_=>by decide
 |1,1,_,_=>by decide
 |1,2,_,_=>by decide
 |2,0,_,_=>by decide
 |2,1,_,_=>by decide
 |2,2,_,_=>by decide
 |3,0,_,_=>by decide
 |3,1,_,_=>by decide
 |3,2,_,_=>by decide
 |4,0,_,_=>by decide
 |4,1,_,_=>by decide
 |4,2,_,_=>by decide
 |5,0,_,_=>by decide
 |5,1,_,_=>by decide
 |5,2,_,_=>by decide
 |6,0,_,_=>by decide
 |6,1,_,_=>by decide
 |6,2,_,_=>by decide
 |7,0,_,_=>by decide
 |7,1,_,_=>by decide
 |7,2,_,_=>by decide
 |8,0,_,_=>by decide
 |8,1,_,_=>by decide
 |8,2,_,_=>by decide
 |9,0,_,_=>by decide
 |9,1,_,_=>by decide
 |9,2,_,_=>by decide
def asB(i f:Nat)(b:i<10)(a:f<3)(w:X):Ax O 226 #[Y (wS i f),Y ⟨#[42]⟩] w (kL w (B1 #[Y (wS1 i f),Z (f==1)])):=by
 refine iI (Tryz.strings_CutSuffix (wS i f) ⟨#[42]⟩ w (by have:=(ad0 i f b a).1;omega)) ?_;have⟨c,d⟩:=asz i f b a;refine⟨?_,rfl⟩;rw[<-c,<-d]
def asC(i f:Nat)(b:i<10)(a:f<3)(w:X):Ax O 226 #[Y (wS1 i f),Y ⟨#[63]⟩] w (kL w (B1 #[Y (wB i),Z (f==2)])):=by
 refine iI (Tryz.strings_CutSuffix (wS1 i f) ⟨#[63]⟩ w (by have:=(ad0 i f b a).2;omega)) ?_;have⟨c,d⟩:=asA i f b a;refine⟨?_,rfl⟩;rw[<-c,<-d]
def jy(W:X)(v:A0)(ks:List Int):Prop:=
 (ks=[]/\∃a b,v= A2 a 0 b)\/∃a b,v= A2 (M a) ks.length b/\ks.length<=b/\∀e c,ks[e]?=M c->∃d,W.cell? (a.add e)=M (gB c d)/\W.cell? ⟨d,0,U⟩=M (Q S c)
def jy.below{v:A0}(h:jy W v ks)(a:be W W'):jy W' v ks:=by
 rcases h with h|⟨b,d,g,i,j⟩
 .exact .inl h
 .exact .inr ⟨b,d,g,i,λl m k=>by obtain⟨c,e,f⟩:=j l m k;exact⟨c,ag a e,ag a f⟩⟩
def jy.form{v:A0}(h:jy W v ks):∃a c,v= A2 a ks.length c:=by
 rcases h with⟨rfl,a,c,h⟩|⟨a,c,b,d⟩
 .exact⟨a,c,h⟩
 .exact⟨_,_,b⟩
def jy.get{a:Option Addr}{n c:Nat}(h:jy W (A2 a n c) ks){j:Nat}{k:Int}(e:ks[j]?=M k):∃d b,a=M d/\W.cell? (d.add j)=M (gB k b)/\W.cell? ⟨b,0,U⟩=M (Q S k):=by
 rcases h with⟨rfl,_⟩|⟨d,m,f,_,l⟩
 .simp at e
 .cases f;obtain⟨b,g,i⟩:=l j k e;exact⟨d,b,rfl,g,i⟩
def Kb(i f:Nat)(ks:List Int):Nat:=if f=1 then(ks.takeWhile (ms i)).length else min 1 (ks.takeWhile (ms i)).length
def gH:List (Nat×Nat)->List Int->Bool
 |[],ks=>ks.isEmpty
 |(i,f)::a,ks=>if Kb i f ks=0/\f=0 then Br else gH a (ks.drop (Kb i f ks))
structure E5 (ws:List (Nat×Nat)) (ks:List Int) (R:Bool):Prop where
 out:gH ws ks=R
def aij(p:Int->Bool):∀(ks:List Int)(t:Nat),t<=(ks.takeWhile p).length->(t<(ks.takeWhile p).length↔∃k,ks[t]?=M k/\p k=B2)
 |[],t,h=>by simp at h;subst h;simp
 |a::r,t,h=>by
  cases hp:p a with
  |false=>
   rw[Ht (by simp[hp])]at h⊢;simp at h;subst h;simp[hp]
  |true=>
   rw[Hu (by simp[hp])]at h⊢;cases t with
   |zero=>simp[hp]
   |succ t=>
    simp only[bB]at h⊢;have b:=aij p r t (by omega);rw[show(t+1<(r.takeWhile p).length+1)↔t<(r.takeWhile p).length by omega,b];simp
def aqy(p:Int->Bool)(ks:List Int):(ks.takeWhile p).length<=ks.length:=(List.takeWhile_sublist p).length_le
def aoF(i f:Nat)(ks:List Int):Kb i f ks<=ks.length:=by
 have:=aqy (ms i) ks;unfold Kb;split<;>omega
def aoG(i f:Nat)(ks:List Int)(t:Nat)(h:t<=Kb i f ks):t<Kb i f ks↔(f=1\/t=0)/\∃k,ks[t]?=M k/\ms i k=B2:=by
 unfold Kb at h⊢;by_cases a:f=1
 .rw[ae a]at h⊢;rw[aij _ ks t h];simp[a]
 .rw[aa a]at h⊢;by_cases b:t=0
  .subst b;have:=aij (ms i) ks 0 (aH _);rw[show(0<min 1 (ks.takeWhile (ms i)).length)↔0<(ks.takeWhile (ms i)).length by omega,this];simp
  .constructor
   .intro h2;omega
   .rintro ⟨h2|h2,_⟩
    .exact absurd h2 a
    .exact absurd h2 b
def pC{i f:Nat}{a:List (Nat×Nat)}{R:Bool}(h:E5 ((i,f)::a) ks R)(b:¬(Kb i f ks=0/\f=0)):E5 a (ks.drop (Kb i f ks)) R:=by
 have:=h.out;rw[gH,aa b]at this;exact⟨this⟩
def BG{i f:Nat}{b:List (Nat×Nat)}{R:Bool}(h:E5 ((i,f)::b) ks R)(a:Kb i f ks=0/\f=0):R=Br:=by
 have:=h.out;rw[gH,ae a]at this;exact this.symm
def afy{α:Type}{L:List α}{k:Nat}{x:α}(h:L[k]?=M x):L.drop k=x::L.drop (k+1):=by
 have a:=(List.getElem?_eq_some_iff.1 h);rw[mI a.1,a.2]
def jy.sl{a:Option Addr}{L c t:Nat}(h:jy W (A2 a L c) ks)(g:ks.length=L)(ht:t<=L):jy W (A2 (if c=t then a else Option.map (λx=>x.add t) a) (L-t) (c-t)) (ks.drop t):=by
 subst g;rcases h with⟨rfl,b,f,d⟩|⟨b,f,d,l,i⟩
 .exact .inl ⟨by simp,_,_,by rw[show([]:List Int).length-t=0 by simp]⟩
 .cases d;by_cases m:t=ks.length
  .exact .inl ⟨by rw[ma (by omega)],_,_,by rw[show ks.length-t=0 by omega]⟩
  .refine .inr ⟨b.add t,c-t,?_,by rw[fJ];omega,λj k e=>?_⟩
   .rw[aa (by omega),fJ];rfl
   .rw[rj]at e;rw[Addr.add_add];exact i (t+j) k e
def xF(w:X)(row:ByteArray)(m:List (Nat×Nat))(v:A0)(ks:List Int)(b8:Lib.fields row.data.toList=m.map λx=>BF x.1 x.2)(cc:∀x∈m,x.1<10/\x.2<3)(b9:row.size<4294967281)(b2:∀(j:Nat) b,row.data.toList[j]?=M b->b.toNat<128)(ca:B6 O w "strings.asciiSpace" .u8 A9)(bt:jy w v ks)(b4:ks.length<=1048576)(cb:m.length<=1048576):
  Ax O 171 #[Y row,v] w (gy w (Z (gH m ks))):=by
 have a7:=Tryz.strings_Fields row w b9 b2 ca;rw[b8]at a7;have⟨H,bp⟩:=aJ (gH m ks);rw[bp];have b0:E5 m ks H:=⟨bp⟩;have ar:be w (w.alloc (B3 ((m.map λx=>BF x.1 x.2).map λa3=>B4 ⟨a3.toArray⟩).toArray 9)):=(ah _ w).alloc (af _) _;have bo:=bt.below ar;have bn:∀f i p,m[f]?=M (i,p)->(w.alloc (B3 ((m.map λx=>BF x.1 x.2).map λa3=>B4 ⟨a3.toArray⟩).toArray 9)).cell? ⟨w.heap.size,f,U⟩=M (Y (wS i p)):=λf i p bv=>by
  rw[aj _ _ _ _ _ _ (aB w _)];simp[bv,wS]
 have⟨a4,bd⟩:=aJ m.length;have bk:=am bd;have b1:=am cc;have b5:(m.map λx=>BF x.1 x.2).length=a4:=by rw[bC,bd]
 rw[b5]at a7;rw[bd]at cb;obtain⟨cm,cn,rfl⟩:=bt.form;have bF:=am b4;generalize w.alloc (B3 ((m.map λx=>BF x.1 x.2).map λa3=>B4 ⟨a3.toArray⟩).toArray 9)=cl at a7 ar bo bn;have bE:=am bn;have bj:=am bo;generalize cq:ks.length=lk at bj⊢;go_in;go_wp21
 refine a7.mono ?_;rintro k bD ⟨rfl,rfl⟩;go_wp21
 go_loop [1,14] (λcd bh=>∃(f:Nat) (d:List Int),f<=a4/\bh= Q S f/\B7 (jy bD cd d/\d.length<=1048576)/\E5 (m.drop f) d H) (λ_ bh=>a4-(A5 bh).toNat)
 case atStart=>exact⟨0,ks,aH _,rfl,⟨bj,bF⟩,b0⟩
 case round=>
  obtain⟨f,d,bv,rfl,a8,a9⟩:=hrel;obtain⟨I,J,rfl⟩:=a8.1.form;by_cases b6:f<a4
  .have cp:(0:Int)<=(f:Int):=by omega
   obtain⟨⟨i,p⟩,bf⟩:=cA bk.out b6;obtain⟨a6,bc⟩:=b1.out _ (cG bf);simp only at a6 bc;have b3:=bE.out f i p bf;have ad:B7 (E5 ((i,p)::m.drop (f+1)) d H):=by rw[afy bf]at a9;exact a9
   have a2:=λw=>asB i p a6 bc w;have kB:=λw=>asC i p a6 bc w;have L:=λc w=>IB i a6 c w;have⟨e,au⟩:=aJ d.length;have A:=am au;have bb:=a8.2;rw[au]at bb;have z:B7 (jy bD (A2 I e J) d):=by rw[<-au];exact a8.1
   rw[au];have bA:=aoF i p d;have bx:=aoG i p d;have⟨C,br⟩:=aJ (Kb i p d);rw[br]at bA bx;rw[au]at bA;have B:=am br;have ba:=am bx;generalize wS i p=ce at b3 a2;generalize wS1 i p=cf at a2 kB;generalize wB i=ck at kB L;rcases(show p=0\/p=1\/p=2 by omega) with rfl|rfl|rfl
   .go_wp21
    refine(a2 _).mono ?_;rintro k q ⟨rfl,rfl⟩;go_wp2_with fail;refine(kB _).mono ?_;rintro k q ⟨rfl,rfl⟩;go_wp2;go_loop [10] (λG=>∃a:Nat,G= Q S a/\a<=C) (λG=>C-(A5 G).toNat)
    case atStart=>exact⟨0,rfl,aH _⟩
    case round=>
     obtain⟨a,rfl,ax⟩:=hrel;have K:=ba.out a ax;have bw:(0:Int)<=(a:Int):=by omega
     by_cases av:a<C
     .obtain⟨a5,c,n,t⟩:=K.1 av;obtain⟨o,b,rfl,g,an⟩:=z.get n;have E:(a:Int)<(e:Int):=by omega
      obtain rfl:a=0:=by rcases a5 with h|h;exact absurd h (by decide);exact h
      rw[show o.add 0=o from by unfold Addr.add;rw[ae rfl]]at g;have l:=λw=>L c w;rw[t]at l;have u:=λw=>tF c b w;have y:=λw=>dw b w;unfold gB at g;generalize lH (dF c)=ao at g u;go_wp2_with (first|(go_at_call 227;refine(l _).mono ?_;rintro k q ⟨rfl,rfl⟩)|(go_at_call 330;refine(y _).mono ?_;rintro k q ⟨rfl,rfl⟩));go_round
      case rel=>exact⟨0+1,by go_num,by omega⟩
      case measure=>simp[A5];omega
     .obtain rfl:a=C:=by omega
      by_cases ap:a=0
      .subst ap;by_cases E:0<e
       .have F:(0:Int)<(e:Int):=by omega
        have⟨c,n⟩:=cA A.out E;have t:ms i c=Br:=by
         cases h:ms i c
         .rfl
         .exact absurd (K.2 ⟨.inr rfl,c,n,h⟩) (by omega)
        have⟨o,b,ak,g,an⟩:=z.get n;subst ak;rw[show o.add 0=o from by unfold Addr.add;rw[ae rfl]]at g;have l:=λw=>L c w;rw[t]at l;have u:=λw=>tF c b w;have y:=λw=>dw b w;unfold gB at g;generalize lH (dF c)=ao at g u;go_wp2_with (first|(go_at_call 227;refine(l _).mono ?_;rintro k al ⟨rfl,rfl⟩)|(go_at_call 330;refine(y _).mono ?_;rintro k al ⟨rfl,rfl⟩));go_ret;exact⟨by rw[BG ad.out ⟨B.out,rfl⟩];rfl,ar⟩
       .have F:¬(0:Int)<(e:Int):=by omega
        go_wp2;go_ret;exact⟨by rw[BG ad.out ⟨B.out,rfl⟩];rfl,ar⟩
      .have s:B7 (E5 (m.drop (f+1)) (d.drop a) H):=by
        have h:=pC ad.out (by rw[B.out];omega);rw[B.out]at h;exact h
       have r:B7 (jy q (A2 (if J=a then I else Option.map (λx=>x.add a) I) (e-a) (J-a)) (d.drop a)/\(d.drop a).length<=1048576):=⟨z.sl A (by omega),by rw[fJ,A.out];omega⟩;by_cases E:a<e
       .have F:(a:Int)<(e:Int):=by omega
        go_wp2;exact⟨⟨f+1,d.drop a,by omega,by go_num,r,s⟩,by simp[A5];omega⟩
       .have F:¬(a:Int)<(e:Int):=by omega
        go_wp2;exact⟨⟨f+1,d.drop a,by omega,by go_num,r,s⟩,by simp[A5];omega⟩
   .go_wp2_with fail;refine(a2 _).mono ?_;rintro k q ⟨rfl,rfl⟩;go_wp2_with fail;refine(kB _).mono ?_;rintro k q ⟨rfl,rfl⟩;go_wp2;go_loop [10] (λG=>∃a:Nat,G= Q S a/\a<=C) (λG=>C-(A5 G).toNat)
    case atStart=>exact⟨0,rfl,aH _⟩
    case round=>
     obtain⟨a,rfl,ax⟩:=hrel;have K:=ba.out a ax;have bw:(0:Int)<=(a:Int):=by omega
     by_cases av:a<C
     .obtain⟨a5,c,n,t⟩:=K.1 av;obtain⟨o,b,rfl,g,an⟩:=z.get n;have E:(a:Int)<(e:Int):=by omega
      have l:=λw=>L c w;rw[t]at l;have u:=λw=>tF c b w;have y:=λw=>dw b w;unfold gB at g;generalize lH (dF c)=ao at g u;go_wp2_with (first|(go_at_call 227;refine(l _).mono ?_;rintro k q ⟨rfl,rfl⟩)|(go_at_call 330;refine(y _).mono ?_;rintro k q ⟨rfl,rfl⟩));go_round
      case rel=>exact⟨a+1,by go_num,by omega⟩
      case measure=>simp[A5];omega
     .obtain rfl:a=C:=by omega
      by_cases ap:a=0
      .subst ap;have s:B7 (E5 (m.drop (f+1)) d H):=by
        have h:=pC ad.out (by rw[B.out];omega);rw[B.out,ga]at h;exact h
       have r:B7 (jy q (A2 I e J) d/\d.length<=1048576):=⟨z.out,by rw[A.out];exact bb⟩;by_cases E:0<e
       .have F:(0:Int)<(e:Int):=by omega
        have⟨c,n⟩:=cA A.out E;have t:ms i c=Br:=by
         cases h:ms i c
         .rfl
         .exact absurd (K.2 ⟨.inl (by first|rfl|trivial),c,n,h⟩) (by omega)
        have⟨o,b,ak,g,an⟩:=z.get n;subst ak;rw[show o.add 0=o from by unfold Addr.add;rw[ae rfl]]at g;have l:=λw=>L c w;rw[t]at l;have u:=λw=>tF c b w;have y:=λw=>dw b w;unfold gB at g;generalize lH (dF c)=ao at g u;go_wp2_with (first|(go_at_call 227;refine(l _).mono ?_;rintro k al ⟨rfl,rfl⟩)|(go_at_call 330;refine(y _).mono ?_;rintro k al ⟨rfl,rfl⟩));exact⟨⟨f+1,d,by omega,by go_num,r,s⟩,by simp[A5];omega⟩
       .have F:¬(0:Int)<(e:Int):=by omega
        go_wp2;exact⟨⟨f+1,d,by omega,by go_num,r,s⟩,by simp[A5];omega⟩
      .have s:B7 (E5 (m.drop (f+1)) (d.drop a) H):=by
        have h:=pC ad.out (by rw[B.out];omega);rw[B.out]at h;exact h
       have r:B7 (jy q (A2 (if J=a then I else Option.map (λx=>x.add a) I) (e-a) (J-a)) (d.drop a)/\(d.drop a).length<=1048576):=⟨z.sl A (by omega),by rw[fJ,A.out];omega⟩;by_cases E:a<e
       .have F:(a:Int)<(e:Int):=by omega
        have⟨c,n⟩:=cA A.out E;have t:ms i c=Br:=by
         cases h:ms i c
         .rfl
         .exact absurd (K.2 ⟨.inl (by first|rfl|trivial),c,n,h⟩) (by omega)
        have⟨o,b,ak,g,an⟩:=z.get n;subst ak;have l:=λw=>L c w;rw[t]at l;have u:=λw=>tF c b w;have y:=λw=>dw b w;unfold gB at g;generalize lH (dF c)=ao at g u;go_wp2_with (first|(go_at_call 227;refine(l _).mono ?_;rintro k al ⟨rfl,rfl⟩)|(go_at_call 330;refine(y _).mono ?_;rintro k al ⟨rfl,rfl⟩));exact⟨⟨f+1,d.drop a,by omega,by go_num,r,s⟩,by simp[A5];omega⟩
       .have F:¬(a:Int)<(e:Int):=by omega
        go_wp2;exact⟨⟨f+1,d.drop a,by omega,by go_num,r,s⟩,by simp[A5];omega⟩
   .go_wp2_with fail;refine(a2 _).mono ?_;rintro k q ⟨rfl,rfl⟩;go_wp2_with fail;refine(kB _).mono ?_;rintro k q ⟨rfl,rfl⟩;go_wp2;go_loop [10] (λG=>∃a:Nat,G= Q S a/\a<=C) (λG=>C-(A5 G).toNat)
    case atStart=>exact⟨0,rfl,aH _⟩
    case round=>
     obtain⟨a,rfl,ax⟩:=hrel;have K:=ba.out a ax;have bw:(0:Int)<=(a:Int):=by omega
     by_cases av:a<C
     .obtain⟨a5,c,n,t⟩:=K.1 av;obtain⟨o,b,rfl,g,an⟩:=z.get n;have E:(a:Int)<(e:Int):=by omega
      obtain rfl:a=0:=by rcases a5 with h|h;exact absurd h (by decide);exact h
      rw[show o.add 0=o from by unfold Addr.add;rw[ae rfl]]at g;have l:=λw=>L c w;rw[t]at l;have u:=λw=>tF c b w;have y:=λw=>dw b w;unfold gB at g;generalize lH (dF c)=ao at g u;go_wp2_with (first|(go_at_call 227;refine(l _).mono ?_;rintro k q ⟨rfl,rfl⟩)|(go_at_call 330;refine(y _).mono ?_;rintro k q ⟨rfl,rfl⟩));go_round
      case rel=>exact⟨0+1,by go_num,by omega⟩
      case measure=>simp[A5];omega
     .obtain rfl:a=C:=by omega
      by_cases ap:a=0
      .subst ap;have s:B7 (E5 (m.drop (f+1)) d H):=by
        have h:=pC ad.out (by rw[B.out];omega);rw[B.out,ga]at h;exact h
       have r:B7 (jy q (A2 I e J) d/\d.length<=1048576):=⟨z.out,by rw[A.out];exact bb⟩;by_cases E:0<e
       .have F:(0:Int)<(e:Int):=by omega
        have⟨c,n⟩:=cA A.out E;have t:ms i c=Br:=by
         cases h:ms i c
         .rfl
         .exact absurd (K.2 ⟨.inr rfl,c,n,h⟩) (by omega)
        have⟨o,b,ak,g,an⟩:=z.get n;subst ak;rw[show o.add 0=o from by unfold Addr.add;rw[ae rfl]]at g;have l:=λw=>L c w;rw[t]at l;have u:=λw=>tF c b w;have y:=λw=>dw b w;unfold gB at g;generalize lH (dF c)=ao at g u;go_wp2_with (first|(go_at_call 227;refine(l _).mono ?_;rintro k al ⟨rfl,rfl⟩)|(go_at_call 330;refine(y _).mono ?_;rintro k al ⟨rfl,rfl⟩));exact⟨⟨f+1,d,by omega,by go_num,r,s⟩,by simp[A5];omega⟩
       .have F:¬(0:Int)<(e:Int):=by omega
        go_wp2;exact⟨⟨f+1,d,by omega,by go_num,r,s⟩,by simp[A5];omega⟩
      .have s:B7 (E5 (m.drop (f+1)) (d.drop a) H):=by
        have h:=pC ad.out (by rw[B.out];omega);rw[B.out]at h;exact h
       have r:B7 (jy q (A2 (if J=a then I else Option.map (λx=>x.add a) I) (e-a) (J-a)) (d.drop a)/\(d.drop a).length<=1048576):=⟨z.sl A (by omega),by rw[fJ,A.out];omega⟩;by_cases E:a<e
       .have F:(a:Int)<(e:Int):=by omega
        go_wp2;exact⟨⟨f+1,d.drop a,by omega,by go_num,r,s⟩,by simp[A5];omega⟩
       .have F:¬(a:Int)<(e:Int):=by omega
        go_wp2;exact⟨⟨f+1,d.drop a,by omega,by go_num,r,s⟩,by simp[A5];omega⟩
  .obtain rfl:f=a4:=by omega
   have bs:=a9.out;rw[ma (by rw[bk.out];exact af _),gH]at bs;have b7:((d.length:Int)==0)=H:=by
    rw[<-bs];cases d with
    |nil=>rfl
    |cons x cr=>simp;omega
   have bl:=am b7;generalize d.length=e at bl⊢;go_wp2;go_ret;exact⟨by rw[<-bl.out];rfl,ar⟩
def xm:Int->ByteArray
 |1=>⟨#[115,116,97,116,42]⟩
 |2=>⟨#[101,120,112,114,42]⟩
 |3=>⟨#[101,120,112,114]⟩
 |4=>⟨#[102,110]⟩
 |6=>⟨#[99,97,108,108]⟩
 |7=>⟨#[101,120,112,114,32,98,108,111,99,107,32,101,108,115,101,63]⟩
 |8=>⟨#[101,120,112,114,32,98,108,111,99,107]⟩
 |9=>⟨#[101,120,112,114,32,101,120,112,114,32,101,120,112,114,63,32,98,108,111,99,107]⟩
 |10=>⟨#[101,120,112,114,32,98,108,111,99,107]⟩
 |11=>⟨#[]⟩
 |12=>⟨#[]⟩
 |13=>⟨#[101,120,112,114,42]⟩
 |14=>⟨#[98,108,111,99,107,32,98,108,111,99,107]⟩
 |15=>⟨#[101,120,112,114]⟩
 |16=>⟨#[99,97,108,108]⟩
 |20=>⟨#[]⟩
 |21=>⟨#[]⟩
 |22=>⟨#[]⟩
 |23=>⟨#[]⟩
 |24=>⟨#[]⟩
 |25=>⟨#[]⟩
 |26=>⟨#[]⟩
 |27=>⟨#[]⟩
 |28=>⟨#[101,120,112,114,32,101,120,112,114]⟩
 |29=>⟨#[101,120,112,114,32,101,120,112,114]⟩
 |30=>⟨#[101,120,112,114]⟩
 |31=>⟨#[101,120,112,114,32,101,120,112,114]⟩
 |32=>⟨#[98,97,115,101,32,101,120,112,114]⟩
 |33=>⟨#[98,97,115,101]⟩
 |34=>⟨#[98,97,115,101,32,101,120,112,114,42]⟩
 |35=>⟨#[101,110,116,114,121,42]⟩
 |36=>⟨#[98,108,111,99,107]⟩
 |37=>⟨#[109,97,110,121]⟩
 |40=>⟨#[101,120,112,114]⟩
 |41=>⟨#[101,120,112,114,32,101,120,112,114]⟩
 |42=>⟨#[101,120,112,114]⟩
 |_=>⟨#[]⟩
def acb:Int->Option (List (Nat×Nat))
 |1=>M [(0,1)]
 |2=>M [(3,1)]
 |3=>M [(3,0)]
 |4=>M [(8,0)]
 |6=>M [(6,0)]
 |7=>M [(3,0),(1,0),(2,2)]
 |8=>M [(3,0),(1,0)]
 |9=>M [(3,0),(3,0),(3,2),(1,0)]
 |10=>M [(3,0),(1,0)]
 |11=>M []
 |12=>M []
 |13=>M [(3,1)]
 |14=>M [(1,0),(1,0)]
 |15=>M [(3,0)]
 |16=>M [(6,0)]
 |20=>M []
 |21=>M []
 |22=>M []
 |23=>M []
 |24=>M []
 |25=>M []
 |26=>M []
 |27=>M []
 |28=>M [(3,0),(3,0)]
 |29=>M [(3,0),(3,0)]
 |30=>M [(3,0)]
 |31=>M [(3,0),(3,0)]
 |32=>M [(4,0),(3,0)]
 |33=>M [(4,0)]
 |34=>M [(4,0),(3,1)]
 |35=>M [(9,1)]
 |36=>M [(1,0)]
 |37=>M [(7,0)]
 |40=>M [(3,0)]
 |41=>M [(3,0),(3,0)]
 |42=>M [(3,0)]
 |_=>U
def oK:List Int:=[1,2,3,4,6,7,8,9,10,11,12,13,14,15,16,20,21,22,23,24,25,26,27,28,29,30,31,32,33,34,35,36,37,40,41,42]
def Jt(k:Int)(h:k ∉ oK):acb k=U/\xm k=⟨#[]⟩:=by
 simp only[oK,pd,rh,rm,not_or]at h;obtain⟨a,j,v,F,J,K,L,ad,b,c,d,e,f,g,i,l,m,n,o,p,q,r,s,t,u,w,x,y,z,A,B,C,E,G,H,I⟩:=h;constructor
 .unfold acb;split<;>first|rfl|contradiction
 .unfold xm;split<;>first|rfl|contradiction
def aat(k:Int)(h:k∈oK):∃a,acb k=M a/\Lib.fields (xm k).data.toList=a.map (λx=>BF x.1 x.2)/\(∀x∈a,x.1<10/\x.2<3)/\(xm k).size<100/\(∀(j:Nat) b,(xm k).data.toList[j]?=M b->b.toNat<128)/\a.length<10:=by
 have d:∀(c:List UInt8),(c.all λb=>decide (b.toNat<128))=B2->∀(j:Nat) b,c[j]?=M b->b.toNat<128:=λc f j b e=>by simpa using List.all_eq_true.1 f b (cG e)
 simp only[oK,pd,rh,rm]at h;rcases h with rfl|rfl|rfl|rfl|rfl|rfl|rfl|rfl|rfl|rfl|rfl|rfl|rfl|rfl|rfl|rfl|rfl|rfl|rfl|rfl|rfl|rfl|rfl|rfl|rfl|rfl|rfl|rfl|rfl|rfl|rfl|rfl|rfl|rfl|rfl|rfl;all_goals exact⟨_,rfl,rfl,by decide,by decide,d _ (by decide),by decide⟩
def aik(k:Int)(w:X)(h:k=1\/k=2\/k=3\/k=4\/k=6\/k=7\/k=8\/k=9\/k=10):Ax O 172 #[Q S k] w (kL w (B1 #[Y (xm k),Z B2])):=by
 rcases h with rfl|rfl|rfl|rfl|rfl|rfl|rfl|rfl|rfl;all_goals
  simp only[xm];go_in;go_wp2;go_ret2;exact⟨rfl,rfl⟩
def ail(k:Int)(w:X)(h:k=11\/k=12\/k=13\/k=14\/k=15\/k=16\/k=20\/k=21\/k=22):Ax O 172 #[Q S k] w (kL w (B1 #[Y (xm k),Z B2])):=by
 rcases h with rfl|rfl|rfl|rfl|rfl|rfl|rfl|rfl|rfl;all_goals
  simp only[xm];go_in;go_wp2;go_ret2;exact⟨rfl,rfl⟩
def aim(k:Int)(w:X)(h:k=23\/k=24\/k=25\/k=26\/k=27\/k=28\/k=29\/k=30\/k=31):Ax O 172 #[Q S k] w (kL w (B1 #[Y (xm k),Z B2])):=by
 rcases h with rfl|rfl|rfl|rfl|rfl|rfl|rfl|rfl|rfl;all_goals
  simp only[xm];go_in;go_wp2;go_ret2;exact⟨rfl,rfl⟩
def ain(k:Int)(w:X)(h:k=32\/k=33\/k=34\/k=35\/k=36\/k=37\/k=40\/k=41\/k=42):Ax O 172 #[Q S k] w (kL w (B1 #[Y (xm k),Z B2])):=by
 rcases h with rfl|rfl|rfl|rfl|rfl|rfl|rfl|rfl|rfl;all_goals
  simp only[xm];go_in;go_wp2;go_ret2;exact⟨rfl,rfl⟩
def afz(k:Int)(w:X)(h:k ∉ oK):Ax O 172 #[Q S k] w (kL w (B1 #[Y ⟨#[]⟩,Z Br])):=by
 simp only[oK,pd,rh,rm,not_or]at h;obtain⟨a,j,v,G,K,L,ad,ak,b,c,d,e,f,g,i,l,m,n,o,p,q,r,s,t,u,x,y,z,A,B,C,E,F,H,I,J⟩:=h;go_in;go_wp2;go_ret2;exact⟨rfl,rfl⟩
def aau(k:Int)(w:X):Ax O 172 #[Q S k] w (kL w (B1 #[Y (xm k),Z (acb k).isSome])):=by
 by_cases h:k∈oK
 .obtain⟨c,a,_⟩:=aat k h;rw[a,Option.isSome_some];simp only[oK,pd,rh,rm]at h;rcases(show(k=1\/k=2\/k=3\/k=4\/k=6\/k=7\/k=8\/k=9\/k=10)\/(k=11\/k=12\/k=13\/k=14\/k=15\/k=16\/k=20\/k=21\/k=22)\/(k=23\/k=24\/k=25\/k=26\/k=27\/k=28\/k=29\/k=30\/k=31)\/(k=32\/k=33\/k=34\/k=35\/k=36\/k=37\/k=40\/k=41\/k=42) by omega) with h|h|h|h
  .exact aik k w h
  .exact ail k w h
  .exact aim k w h
  .exact ain k w h
 .obtain⟨a,b⟩:=Jt k h;rw[a,b];exact afz k w h
def Gb(n:Nat):List (Nat×Nat):=List.replicate n (5,0)++[(3,0),(3,1)]
def setB(n:Nat):ByteArray:=⟨(V [116,97,114,103,101,116,32] n).toArray⟩++⟨#[101,120,112,114,32,101,120,112,114,42]⟩
def Bc(n:Nat):(setB n).data.toList=V [116,97,114,103,101,116,32] n++[101,120,112,114,32,101,120,112,114,42]:=by
 unfold setB;rw[lm];simp
def BH:∀n,Lib.fields (V [116,97,114,103,101,116,32] n++[101,120,112,114,32,101,120,112,114,42])=(Gb n).map λx=>BF x.1 x.2
 |0=>by decide
 |n+1=>by
  have b:=BH n;have a:Lib.fields (V [116,97,114,103,101,116,32] (n+1)++[101,120,112,114,32,101,120,112,114,42])=[116,97,114,103,101,116]::Lib.fields (V [116,97,114,103,101,116,32] n++[101,120,112,114,32,101,120,112,114,42]):=by
   rw[V];rfl
  rw[a,b];rfl
def acd(n:Nat):∀(j:Nat) b,(setB n).data.toList[j]?=M b->b.toNat<128:=by
 rw[Bc];have c:∀(a:List UInt8),(a.all λb=>decide (b.toNat<128))=B2->∀b∈a,b.toNat<128:=λa d b hb=>by simpa using List.all_eq_true.1 d b hb
 have e:∀n,∀b∈V [116,97,114,103,101,116,32] n,b.toNat<128:=by
  intro n
  induction n with
  |zero=>intro b hb;simp[V]at hb
  |succ n f=>
   intro b hb;rw[V]at hb;rcases List.mem_append.1 hb with hb|hb
   .exact c _ (by decide) b hb
   .exact f b hb
 intro j b hb;rcases List.mem_append.1 (cG hb) with h|h
 .exact e n b h
 .exact c _ (by decide) b h
def afA(n:Nat):(setB n).size=7*n+10:=by
 have a:=congrArg List.length (Bc n);rw[bm,Lib.repeatL_length]at a;simp at a;omega
def alo(n:Nat):∀x∈Gb n,x.1<10/\x.2<3:=by
 intro x hx;unfold Gb at hx;rcases List.mem_append.1 hx with hx|hx
 .rw[(List.mem_replicate.1 hx).2];decide
 .simp at hx;rcases hx with rfl|rfl<;>decide
def aav(w:X)(b:Nat)(nk t v u x:Int)(n:Nat)(p:n<=200)(e:A0)(ks:List Int)(h:jy w e ks)(o:ks.length<=1048576)(r:∀W,be w W->B6 O W "strings.asciiSpace" .u8 A9)
  (g:w.heap[b]?=M (B3 #[Q S nk,Q S t,Q S v,Q S u,Q S x,e,Q S (n:Int)] 153 (0,0))):
  Ax O 113 #[B0 150 (T (M ⟨b,0,U⟩))] w (gy w (Z (gH (Gb n) ks))):=by
 have E:=λw=>asT b w 150 (by decide);have i:=abd n w p;have a:=λW (f:be w W)=>xF W (setB n) (Gb n) e ks (by rw[Bc];exact BH n) (alo n) (by rw[afA];omega) (acd n) (r W f) (h.below f) o (by unfold Gb;rw[bm,List.length_replicate];simp;omega);obtain⟨k,l,rfl⟩:=h.form;have c5:w.cell? ⟨b,5,U⟩=M (A2 k ks.length l):=by rw[aj _ _ _ _ _ _ g];rfl
 have C:w.cell? ⟨b,6,U⟩=M (Q S (n:Int)):=by rw[aj _ _ _ _ _ _ g];rfl
 have q:((⟨(V [116,97,114,103,101,116,32] n).toArray⟩:ByteArray)).size=7*n:=by
  have d:((⟨(V [116,97,114,103,101,116,32] n).toArray⟩:ByteArray)).size=(V [116,97,114,103,101,116,32] n).length:=by simp[ByteArray.size]
  rw[d,Lib.repeatL_length];simp;omega
 unfold setB at a;generalize gH (Gb n) ks=A at a⊢;generalize ks.length=z at a c5;generalize (⟨(V [116,97,114,103,101,116,32] n).toArray⟩:ByteArray)=B at a i q;have j:=am c5;go_in;go_wp21
 refine i.mono ?_;rintro d y ⟨rfl,c⟩;have c5:=ag c j.out;have s:=a y c;go_wp21
 refine s.mono ?_;rintro d F ⟨rfl,m⟩;go_wp21
 go_ret;exact⟨rfl,c.trans (m.mono c.size)⟩
def asS(k:Int)(h:dF k≠1)(b:Nat)(w:X):(Instr.typeAssert (B0 (lH (dF k)) (T (M ⟨b,0,U⟩))) 44 150 B2).run O w= .ok (B1 #[T U,Z Br]) w:=by
 have a:=h;rcases E4 k with g|g|g|g|g|g|g<;>rw[g]at a⊢;all_goals first|exact absurd rfl a|exact asF b w _ _ (by decide) (by decide) (by decide)
def rkB(k:Int)(ks:List Int):Bool:=match acb k with|some a=>gH a ks|none=>Br
def aaw(w:X)(b:Nat)(k:Int)(q:dF k≠1)(f:A0)(ks:List Int)(h:jy w f ks)(r:ks.length<=1048576)(s:B6 O w "strings.asciiSpace" .u8 A9)
  (z:w.cell? ⟨b,0,U⟩=M (Q S k)) (c5:w.cell? ⟨b,5,U⟩=M f):
  Ax O 113 #[gB k b] w (gy w (Z (rkB k ks))):=by
 have g:=λw=>asS k q b w;have j:=λw=>tF k b w;have l:=λw=>dw b w;have a:=λw=>aau k w;unfold gB rkB;by_cases i:k∈oK
 .obtain⟨m,c,e,n,C,o,E⟩:=aat k i;have d:=xF w (xm k) m f ks e n (by omega) o s h r (by omega);rw[c]at a⊢;simp only[Option.isSome_some]at a⊢;obtain⟨y,A,rfl⟩:=h.form;generalize ks.length=u at d c5;generalize gH m ks=v at d⊢;generalize xm k=x at d a;generalize lH (dF k)=t at g j⊢;go_in;go_wp2_with (first|(go_at_call 330;refine iI (l _) ?_)|(go_at_call 172;refine iI (a _) ?_)|(go_at_call 171;refine d.mono ?_;rintro B F ⟨rfl,p⟩));go_ret;exact⟨rfl,p⟩
 .obtain⟨c,e⟩:=Jt k i;rw[c,e]at a;rw[c];simp only[Option.isSome_none]at a⊢;generalize lH (dF k)=t at g j⊢;go_in;go_wp2_with (first|(go_at_call 330;refine iI (l _) ?_)|(go_at_call 172;refine iI (a _) ?_));go_ret;exact⟨rfl,ah _ _⟩
def ffB(N:Nd)(L:Nat):Nat->Bool
 |0=>decide (1<=(N.nm.length:Int)/\(N.nm.length:Int)<=EK N.k)&&tj N.nm N.nm.length 0
 |1=>decide (1<=N.n/\N.n<(L:Int))
 |2=>B2
 |3=>txB N.k N.x
 |4=>if N.k=30 then(decide ((19:Int)<=N.op)&&decide (N.op<=22)) else(decide ((1:Int)<=N.op)&&decide (N.op<=18))
 |5=>tj N.nm N.nm.length 0
 |_=>B2
def Gc(w:X)(lb mb:Nat)(g:A0)(h:Lk w lb mb g)(b:Nat)(N:Nd)(e:A0)(c:Int)(j:Option Addr)(L ck:Nat)(u:L<=1048576)(o:bi w e N.nm)(m:N.nm.length<=1048576)(p:∀s∈N.nm,s.size<=1048576)(z:N.x.size<=1048576)(a:ic w b N e c (A2 j L ck)):
  Ax O 112 #[T (M ⟨lb,0,U⟩),gB N.k b] w (gy w (Z (ffB N L (dF N.k)))):=by
 unfold ic at a;unfold gB;have d:∀{i:Bool},(Ax O 112 #[T (M ⟨lb,0,U⟩),B0 (lH (dF N.k)) (T (M ⟨b,0,U⟩))] w (kL w (Z i)))->(Ax O 112 #[T (M ⟨lb,0,U⟩),B0 (lH (dF N.k)) (T (M ⟨b,0,U⟩))] w (gy w (Z i))):=λv=>v.mono λy A ⟨q,r⟩=>⟨q,r ▸ ah _ _⟩;rcases E4 N.k with hc|hc|hc|hc|hc|hc|hc
 .refine d ?_;rw[hc]at a⊢;exact ff0 w lb mb g h b N.k N.f N.t N.l c _ e N.nm o m p a
 .rw[hc]at a⊢;exact ff1 w lb b N.k N.f N.t N.l c N.n j L ck u a
 .refine d ?_;rw[hc]at a⊢;exact ff2 w lb b
 .rw[hc]at a⊢;exact ff3 w lb mb g h b N.k N.f N.t N.l c _ N.x (by omega) a
 .refine d ?_;rw[hc]at a⊢;exact ff4 w lb b N.k N.f N.t N.l c N.op _ a
 .refine d ?_;rw[hc]at a⊢;exact ff5 w lb mb g h b N.k N.f N.t N.l c _ e (decide (N.op=1)) N.nm o m p a
 .refine d ?_;rw[hc]at a⊢;exact ff6 w lb b
def ic.cells{b:Nat}{N:Nd}{d a:A0}{c:Int}(h:ic W b N d c a):W.cell? ⟨b,0,U⟩=M (Q S N.k)/\W.cell? ⟨b,1,U⟩=M (Q S N.f)/\W.cell? ⟨b,2,U⟩=M (Q S N.t)/\W.cell? ⟨b,4,U⟩=M (Q S c)/\W.cell? ⟨b,5,U⟩=M a/\∀j,W.frozen? ⟨b,j,U⟩=Br:=by
 unfold ic at h;refine⟨?_,?_,?_,?_,?_,λj=>cC _ _ _ _ _ h⟩
 .rw[aj _ _ _ _ _ _ h];simp
 .rw[aj _ _ _ _ _ _ h];simp
 .rw[aj _ _ _ _ _ _ h];simp
 .rw[aj _ _ _ _ _ _ h];simp
 .rw[aj _ _ _ _ _ _ h];simp
def kfB(N:Nd)(ks:List Int):Bool:=if dF N.k=1 then gH (Gb N.n.toNat) ks else rkB N.k ks
def aax(w:X)(b:Nat)(N:Nd)(p d:A0)(i:Int)(ks:List Int)(e:jy w d ks)(g:ks.length<=1048576)(h:∀W,be w W->B6 O W "strings.asciiSpace" .u8 A9)(c:ic w b N p i d)(o:dF N.k=1->0<=N.n/\N.n<=200):
  Ax O 113 #[gB N.k b] w (gy w (Z (kfB N ks))):=by
 unfold kfB;by_cases a:dF N.k=1
 .rw[ae a];have⟨q,r⟩:=o a;unfold ic at c;unfold gB;rw[a]at c⊢;have m:N.n=((N.n.toNat:Nat):Int):=by omega
  refine aav w b N.k N.f N.t N.l i N.n.toNat (by omega) d ks e g h ?_;rw[<-m];exact c
 .rw[aa a];have⟨j,_,_,_,c5,_⟩:=c.cells;exact aaw w b N.k a d ks e g (h w (ah _ _)) j c5
