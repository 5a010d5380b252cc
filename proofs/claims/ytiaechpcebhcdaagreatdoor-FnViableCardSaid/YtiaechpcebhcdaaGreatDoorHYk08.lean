import Derived.Test.YtiaechpcebhcdaaGreatDoorHYk04
import Derived.Test.YtiaechpcebhcdaaGreatDoorHYk03
import Derived.Test.YtiaechpcebhcdaaGreatDoorHYk07
import Derived.Lib.Repeat
import Derived.Sort.LoopGhostIn
set_option linter.all false
set_option maxRecDepth 100000
set_option maxHeartbeats 6400000
open Go.Proofs.Tryz
open Go.Proofs.Tryz renaming prog->Y,sizeOf3->E2,isAgg3->Fs
open List renaming length->Ax,range->F1
open Go.Value renaming int->A0,string->B0,pointer->B1,slice->B6,tuple->Ce,agg->F2,bool->G0,nilIface->G2
open Go.IntKind renaming i64->A2
open Option renaming some->A3,none->A6
open Go.Ending renaming returned->A5
open ByteArray renaming empty->A9
open Go renaming World->Br,Value->B4,Calls->B5,TypeId->F0
open Go.Lib renaming decDigits->B2,hasPrefix->D3,repeatL->Ed
open Go.RowKit renaming Below->B3,intOf->E0,Hid->E1
open Bool renaming false->B7,true->Ck
open Go.Instr renaming index->C2
open Go.Obj renaming cells->D4
namespace Go.Proofs.YtiaechpcebhcdaaGreatDoor
open Go.RowKit Go.Maps Go.WideMaps
variable{N:Nd}{T:Bz}{W w w' w0:World}{l:List Int}{ns:List Nd}{t:Int}{vt:Value}
def hxd(u:Nat)(j:Nat):Int:=xD ((u / 16 ^ j%16:Nat):Int)
def hxO(u:Nat):Nat->Bz
 |0=>⟨#[48,120]⟩
 |r+1=>hxO u r++gL [hxd u (15-r)]
def Nat.pow_mul_two16(k:Nat):(2:Int) ^ (4*k)=(16:Int) ^ k:=by rw[Int.pow_mul];rfl
def vJ(u:Nat):∀r,(hxO u r).size=r+2
 |0=>rfl
 |r+1=>by show(hxO u r++gL [hxd u (15-r)]).size=_;rw[ax,vJ u r];rfl
def ahH(d:Int)(b:0<=d)(c:d<16)(w:Br):(C2 9 (B0 ⟨#[48,49,50,51,52,53,54,55,56,57,97,98,99,100,101,102]⟩) (A0 .u64 d)).run Y w= .ok (A0 .u8 (xD d)) w:=by
 have a:d.toNat<DG.size:=by simp only[DG];show d.toNat<16;omega
 have e:=anD d b c a;go_simp;exact e
theorem arB(c:Int)(a:0<=c)(b:c<18446744073709551616):bits .and .u64 c 15=c%16:=by
 have:=bits_mask .u64 64 Z (λf d e=>by rw[IntKind.wrap_u64];omega) 4 Z c a b;grind
theorem afI(n:Int)(z: -9223372036854775808<=n)(A:n<0)(w:Br):B5 Y 65 #[A0 A2 n] w λe w'=>e= A5 (B0 (hxO (n+18446744073709551616).toNat 16))/\B3 w.heap.size w w':=by
 obtain⟨c,x⟩:∃c:Nat,(c:Int)=n+18446744073709551616:=⟨(n+18446744073709551616).toNat,O⟩;rw[(O:(n+18446744073709551616).toNat=c)];obtain⟨d,m⟩:∃d:Int,d=(c:Int):=⟨_,rfl⟩;have ag:IntKind.u64.wrap n=d:=by rw[IntKind.wrap_u64];omega
 have ad:0<=d:=O;have af:d<18446744073709551616:=O;have j:=aj m;have G:¬0<=n:=O;clear m x;go_in;go_wp2;go_loopw [4,5] (λy h wr=>∃b:Nat,b<=16/\h= A0 A2 (60-4*(b:Int))/\y= B0 (hxO c b)/\B3 w.heap.size w wr) (λ_ h _=>(E0 h+4).toNat)
 case atStart=>exact⟨0,O,rfl,rfl,ai _ _⟩
 case round=>
  obtain⟨b,H,rfl,rfl,p⟩:=hrel;by_cases B:b<16
  .obtain⟨f,g⟩:∃f:Int,60-4*(b:Int)=f:=⟨_,rfl⟩;have E:0<=f:=O;have F:f<=60:=O;obtain⟨a,r⟩:∃a:Int,d / 2 ^ f.toNat=a:=⟨_,rfl⟩;have o:a=((c / 16 ^ (15-b):Nat):Int):=by
    rw[<-r,j.out,(O:f.toNat=4*(15-b)),Nat.pow_mul_two16,Int.natCast_ediv];rfl
   have s:0<=a:=U;have t:a<18446744073709551616:=by
    rw[o];have:=Nat.div_le_self c (16 ^ (15-b));have:=j.out;omega
   have k:0<=a%16:=O;have l:a%16<16:=O;have u:bits .and .u64 a 15=a%16:=arB a s t;have v:=λw=>ahH (a%16) k l w;have i:E1 (gL [xD (a%16)]=gL [hxd c (15-b)]):=by
    show _=_;unfold hxd;grind
   generalize a%16=D at k l u v i;have C:=λw=>oF (AB w (xD D));have K:=vJ c b;have L:(gL [xD D]).size=1:=rfl;have q:=aj g;rw[g];clear o g;go_wp2;go_roundw
   case rel=>exact⟨b+1,O,by have:=q.out;grind,by rw[i.out];rfl,p.alloc p.size _⟩
   case measure=>simp[E0];omega
  .obtain rfl:b=16:=O;go_wp2;go_ret
   simp_all
theorem p2(w:Br):B5 Y 289 #[A0 A2 16] w λe w'=>e= A5 (G0 Ck)/\w'=w:=by
 have a:bits .and A2 16 15=0:=by rfl
 go_in;go_wp2;go_ret
 simp_all
structure Rw (B:Nat) (w:Br) (u r:Nat):Prop where
 ex:∃arr,w.heap[B]?=A3 (.cells arr 318 (0,0))/\arr.size=65/\∀j,j<r->arr[64-j]?=A3 (.int .u8 (hxd u j))
theorem Rw.step{B:Nat}{w:Br}{u r:Nat}(h:Rw B w u r)(f:r<65)(x:Int)(g:x=hxd u r):Rw B (w.setCell ⟨B,64-r,A6⟩ (A0 .u8 x)) u (r+1):=by
 have⟨b,a,c,d⟩:=h.ex;refine⟨_,aI w B (64-r) _ _ _ a,U,λi e=>?_⟩;grind
theorem Rw.conv{B:Nat}{u:Nat}(h:Rw B w u 16):(convert 22 9 (B6 (A3 ⟨B,49,A6⟩) 16 16)).run Y w= .ok (B0 (gL ((F1 16).map λj=>hxd u (15-j)))) w:=by
 have⟨f,c,i,k⟩:=h.ex;rw[Ip w 22 9 5 _ _ _ underlying22 underlying5 underlying9];refine run_bytesToString w _ 16 16 _ ?_;have:=run_loadCells_list (P:=Y) w ⟨B,49,A6⟩ (B8 ((F1 16).map λj=>hxd u (15-j))) (λj e a=>by
  have d:j<16:=by
   rcases aH j 16 with g|g
   .exact g
   .rw[CH (by simpa [B8] using g)]at a;cases a
  have b:e= A0 .u8 (hxd u (15-j)):=by
   simp[B8,d]at a;grind
  subst b;rw[show(⟨B,49,A6⟩:Addr).add j=⟨B,49+j,A6⟩ by unfold Addr.add;grind,au _ _ _ _ _ _ c];grind)
 exact this
theorem Ly(a b:List Int):gL (a++b)=gL a++gL b:=by
 have h:∀(c:List Int)(e:Bz),c.foldl (λd f=>d.push (UInt8.ofNat f.toNat)) e=e++c.foldl (λd f=>d.push (UInt8.ofNat f.toNat)) A9:=by
  intro c
  induction c with
  |nil=>simp_all
  |cons a d g=>
   intro e;rw[zB,zB,g (e.push _),g (ByteArray.empty.push _)];apply mq;simp[ByteArray.push,wD]
 unfold gL;grind
def Ab(d:List UInt8):List Int:=d.map λa=>(a.toNat:Int)
theorem AL(d:List UInt8):gL (Ab d)=⟨d.toArray⟩:=by
 have e:∀(d:List UInt8)(a:Bz),(Ab d).foldl (λb f=>b.push (UInt8.ofNat f.toNat)) a=⟨a.data++d.toArray⟩:=by
  intro d
  induction d with
  |nil=>intro a;rfl
  |cons c b g=>
   intro a;show(Ab b).foldl _ (a.push (UInt8.ofNat ((c.toNat:Int)).toNat))=_
   simp_all
 have:=e d A9;unfold gL
 simp_all
def pre(c:Nat):List Int:=if c=0 then [] else Ab (B2 c)
theorem ahI(c:Nat)(h:c≠0):pre c=pre (c / 10)++[48+((c%10:Nat):Int)]:=by
 have d:∀a,a<10->(((UInt8.ofNat (48+a)).toNat:Nat):Int)=48+(a:Int):=λa e=>by
  rw[UInt8.toNat_ofNat',Nat.mod_eq_of_lt O];omega
 unfold pre;rw[aa h];by_cases b:c<10
 .rw[ab O,B2,pG b,Nat.mod_eq_of_lt b];show [(((UInt8.ofNat (48+c)).toNat:Nat):Int)]=_;grind
 .rw[aa O,B2,dif_neg b];show List.map _ (_++_)=_;rw[fy];show Ab (B2 (c / 10))++[(((UInt8.ofNat (48+c%10)).toNat:Nat):Int)]=_;grind
theorem Gh(N:Nat)(bh:N≠0)(bj:N<=9223372036854775807)(w:Br):B5 Y 112 #[A0 A2 (N:Int)] w λe w'=>e= A5 (B0 ⟨(B2 N).toArray⟩)/\B3 w.heap.size w w':=by
 obtain⟨f,E⟩:∃f:Int,(N:Int)=f:=⟨_,rfl⟩;rw[E];have bD:0<f:=O;have a5:f<=9223372036854775807:=O;have b0:(f==0)=B7:=U;have bE:¬f<0:=O;have ba:=aj E;go_in;go_wp2;go_loopw [0,4,5] (λr a8 b1 wr=>∃(c:Int) (a:List Int),r= A0 A2 c/\0<=c/\c<=9223372036854775807/\E1 (c.toNat<10 ^ (19-Ax a)/\Ax a<=19/\Ab (B2 N)=pre c.toNat++a.reverse)/\wr.ownsRow w.heap.size 5 1 a8 (Ax a) (B8 a)/\B3 w.heap.size w wr) (λr _ _ _=>(E0 r).toNat)
 case atStart=>
  refine⟨f,[],rfl,O,a5,⟨?_,I,?_⟩,dA _ _ _ _,ai _ _⟩
  .grind
  .rw[(O:f.toNat=N)];unfold pre;grind
 case round=>
  obtain⟨c,a,rfl,bb,bc,l,F,j⟩:=hrel;by_cases ao:c=0
  .subst ao;have⟨_,C,ar⟩:=l.out;have A:Ab (B2 N)=a.reverse:=ar;have o:0<Ax a:=by
    have e:=congrArg Ax A;rw[List.length_reverse]at e;have:0<Ax (Ab (B2 N)):=by
     rw[B2];split<;>simp[Ab]
    omega
   have K:E1 (gL a.reverse=⟨(B2 N).toArray⟩):=by show _=_;rw[<-A,AL]
   rcases F.2 with⟨bg,bA⟩|⟨n,af,bd,H,bp,B,_,bs,G,bx⟩
   .have:a=[]:=by
     omega
    rw[this]at o;simp at o
   .have z:∀i,i<Ax a->wr.cell? ⟨n,i,A6⟩=A3 (A0 .u8 (a.getD i 0)):=λi a0=>by
     rw[au _ _ _ _ _ _ B];have x:(B8 a)[i]?=A3 (A0 .u8 (a.getD i 0)):=by simp[B8,a0,List.getD]
     grind
    have av:n<wr.heap.size:=ah B;have⟨d,y⟩:=aw (Ax a);rw[y]at o C z H;subst H;have a1:∀b,b<d->a.reverse.take (b+1)=a.reverse.take b++[a.getD (d-1-b) 0]:=λb p=>by
     have e:a.reverse[b]?=A3 (a.getD (d-1-b) 0):=by
      grind
     rw[il,e];rfl
    have G:∀b,b<=d->(gL (a.reverse.take b)).size=b:=λb p=>by
     have:∀h:List Int,(gL h).size=Ax h:=by
      intro h
      induction h with
      |nil=>rfl
      |cons u v a4=>rw[show u::v=[u]++v from rfl,Ly,ax,a4,aB];rfl
     grind
    have ad:=aj a1;have a9:=aj y;go_wp2;go_loopw [6,7] (λa7 q wq=>∃b:Nat,b<=d/\q= A0 A2 ((d:Int)-1-(b:Int))/\a7= B0 (gL (a.reverse.take b))/\B3 wr.heap.size wr wq) (λ_ q _=>(E0 q+1).toNat)
    case atStart=>exact⟨0,O,U,rfl,ai _ _⟩
    case round=>
     obtain⟨b,p,rfl,rfl,k⟩:=hrel;have a2:=G b p;by_cases a3:b<d
     .obtain⟨g,am⟩:∃g:Nat,d-1-b=g:=⟨_,rfl⟩;have ap:=(ug k av).trans (z g O);have t:=ad.out b a3;rw[am]at t;have m:E1 (gL (a.reverse.take b)++gL [a.getD g 0]=gL (a.reverse.take (b+1))):=by show _=_;rw[t,Ly]
      generalize a.getD g 0=h at ap m;have bn:=λw=>oF (AB w h);have bw:(gL [h]).size=1:=rfl;have aL:(d:Int)-1-(b:Int)=(g:Int):=O;have bk:g<d:=O;generalize gL (a.reverse.take b)=a6 at a2 m⊢;rw[aL];go_wp2;go_roundw
      case rel=>exact⟨b+1,O,U,by rw[m.out],k.alloc k.size _⟩
      case measure=>simp[E0]
     .obtain rfl:b=d:=O;have bt:¬(0:Int)<=(b:Int)-1-(b:Int):=O;rw[dH U];have s:=K.out;generalize gL a.reverse=a6 at s⊢;subst s;go_wp2;go_ret;exact⟨rfl,j.trans (k.mono j.size)⟩
  .have bo:(c==0)=B7:=U;have bl:(c !=0)=Ck:=U;have br:¬c%10<0:=O;have C:Ax a<=18:=by
    have⟨x,ag,_⟩:=l.out;grind
   have L:E1 ((c / 10).toNat<10 ^ (19-Ax (a++[48+c%10]))/\Ax (a++[48+c%10])<=19/\Ab (B2 N)=pre (c / 10).toNat++(a++[48+c%10]).reverse):=by
    have⟨x,ag,ak⟩:=l.out;have al:Ax (a++[48+c%10])=Ax a+1:=I;refine⟨?_,O,?_⟩
    .rw[al];have bf:10 ^ (19-Ax a)=10 ^ (19-(Ax a+1))*10:=by rw[<-Nat.pow_succ];grind
     omega
    .rw[ak,ahI c.toNat O,(O:(c / 10).toNat=c.toNat / 10),(O:((c.toNat%10:Nat):Int)=c%10)];simp
   go_wp2_with (at_builtin;refine nB rfl (.tmp 20) (.tmp 24) rfl w.heap.size u4 (Ax a) a rfl F j.size O [48+c%10] 1 rfl Z Z _ rfl rfl ?_;intro n af w1 bv an);go_roundw
   case rel=>exact⟨c / 10,a++[48+c%10],U,O,O,L,U,j.trans (an.mono O)⟩
   case measure=>simp[E0];omega
structure Kv (w:Br):Prop where
 tabs:sJ w
 errs:oH w
 pow:Lib.TabIs Y w "internal/strconv.uint64pow10" .u64 Lib.pow10Tab
 brj:w.cell? ⟨11,15,A6⟩=A3 (.int .u8 4)
theorem A1{P:Program}{B:Nat}{n:String}{cs:Array B4}(h:w.var? P n=A3 cs)(c:B3 B w w')(b:w.heap.size<=B):w'.var? P n=A3 cs:=by
 unfold World.var? at h⊢;cases hg:P.globalNamed n with
 |none=>grind
 |some a=>
  simp only[hg,Ih]at h⊢;have d:a<w.heap.size:=by
   grind
  rw[c.block a (gF d b)];exact h
def Kv.below{B:Nat}(h:Kv w)(b:B3 B w w')(a:w.heap.size<=B):Kv w':=
 ⟨h.tabs.below b a,h.errs.below b a,A1 h.pow b a,(ug b (gF (C5 w _ h.brj) a)).trans h.brj⟩
def Lz(n:Int):Bz:=if n<0 then hxO (n+18446744073709551616).toNat 16 else⟨(B2 n.toNat).toArray⟩
def afJ(N:Nat)(b:N<=9223372036854775807)(w:Br):B5 Y 112 #[A0 A2 (N:Int)] w λe w'=>e= A5 (B0 ⟨(B2 N).toArray⟩)/\B3 w.heap.size w w':=by
 by_cases a:N=0
 .subst a;have e:(⟨(B2 0).toArray⟩:Bz)=⟨#[48]⟩:=by rw[B2,pG O];rfl
  rw[e];show B5 Y 112 #[A0 A2 0] w _;go_in;go_wp2;go_ret;exact⟨rfl,ai _ _⟩
 .exact Gh N a b w
theorem G7(n:Int)(c: -9223372036854775808<=n)(f:n<=9223372036854775807)(w:Br):B5 Y 65 #[A0 A2 n] w λe w'=>e= A5 (B0 (Lz n))/\B3 w.heap.size w w':=by
 unfold Lz;by_cases a:n<0
 .rw[ab a];exact afI n c a w
 .rw[aa a];have b:∀w,B5 Y 112 #[A0 A2 n] w λe w'=>e= A5 (B0 ⟨(B2 n.toNat).toArray⟩)/\B3 w.heap.size w w':=λw=>by
   have:=afJ n.toNat O w;rw[(O:((n.toNat:Nat):Int)=n)]at this;exact this
  generalize (⟨(B2 n.toNat).toArray⟩:Bz)=d at b;have h:0<=n:=O;go_in;go_wp2_with (go_at_call 112;refine(b _).mono ?_;rintro e w' ⟨rfl,g⟩);go_ret
  simp_all
def ao1:∀k:Fin 30,5<=yq (bq ju k.val)/\yq (bq ju k.val)<=78:=by decide+kernel
theorem LA(kind:Int)(h:kind<5\/78<kind):∀(f k:Nat),k+f<=30->Ge kind f k=abH
 |0,k,_=>rfl
 |f+1,k,a=>by
  have:=ao1 ⟨k,O⟩;unfold Ge;rw[aa U];exact LA kind h f (k+1) O
def LB:∀k:Fin 79,k.val≠7->eI (k.val:Int)=fJ (k.val:Int):=by decide+kernel
theorem ut(kind:Int)(b:kind≠7):eI kind=fJ kind:=by
 by_cases a:0<=kind/\kind<=78
 .have:=LB ⟨kind.toNat,O⟩ U;grind
 .unfold eI fJ;rw[aa O,aa O,aa O,aa O,aa O,aa O,aa O];exact LA kind O 30 0 O
theorem G8(s:Bz)(c:s.size<=1100000)(w:Br):B5 Y 184 #[B0 s] w λe w'=>e= A5 (B0 s)/\B3 w.heap.size w w':=by
 have a:=λw=>Tryz.stringslite_Clone s w O;go_in;go_wp2_with (go_at_call 222;refine(a _).mono ?_;rintro e w' ⟨rfl,b⟩);go_ret
 simp_all
def vK(s:Bz)(p:Nat):Int×Bz:=match zj fG (s.extract p (mh s (s.size+1) p)) 22 0 with|some a=>(10+(a:Int),⟨#[]⟩)|none=>(1,s.extract p (mh s (s.size+1) p))
theorem arC(s:Bz)(p:Nat):wdT s p= F2 #[A0 A2 (vK s p).1,A0 A2 p,A0 A2 (mh s (s.size+1) p),A0 A2 0,A0 A2 0,B0 (vK s p).2]:=by
 unfold wdT vK;grind
def adJ{b t mb n:Nat}{D:DataW Unit}(h:w.ownsMap Y 9 (plainElem (H:=Unit) Y 3) mb n D)(g:sD b t w w')(e:mb≠b)(f:mb≠t):w'.ownsMap Y 9 (plainElem (H:=Unit) Y 3) mb n D:=by
 obtain⟨d,c,a,i⟩:=h;exact⟨d,c,(g.block mb (ah a) e f).trans a,i⟩
theorem I4{fr:Int}(s:Bz)(bp:s.size<=70000)(b t mb:Nat)(w:Br)(p:Nat)(l u:Int)(an:p<s.size)(i:b≠t)(bc:mb≠b)(bf:mb≠t)(hS:ir b w s (.map (A3 mb)) fr p l B7)(o:dL t w 0 p 0 u 0 A9)(a8:w.ownsMap Y 9 (plainElem (H:=Unit) Y 3) mb 22 (zG 22)):
  B5 Y 116 #[.pointer (A3 ⟨b,0,A6⟩),.pointer (A3 ⟨t,0,A6⟩)] w λe w'=>e= .returned (.tuple #[])/\sD b t w w'/\ir b w' s (.map (A3 mb)) fr (mh s (s.size+1) p:Int) l B7/\dL t w' (vK s p).1 p 0 u 0 (vK s p).2:=by
 have bo:b<w.heap.size:=ah hS;have br:t<w.heap.size:=ah o;have a7:=sa s (s.size+1) p (fs an);have ar:=λw=>BG s O p (fs an) w;have⟨z,A,B,E,F,G,K,L⟩:=gl hS;have⟨av,aL,a0,a1,a2,a3,a4⟩:=aE o;unfold vK;generalize mh s (s.size+1) p=a at ar a7;have⟨a6,ad⟩:=aw (zj fG (s.extract p a) 22 0);rw[ad];have x:=aj ad;go_in;go_upto_region 0 with fail
 go_cut [16] from 7 (λbn v=>bn= .int .i64 (a:Int)/\sD b t w v/\ir b v s (.map (A3 mb)) fr a l B7/\dL t v 0 p 0 u 0 A9)
 case first=>
  go_region_with (first|(go_at_call 183;refine(ar _).mono ?_;rintro e w' ⟨rfl,bg⟩;obtain rfl:=bg.symm))
  all_goals
   go_wp2_with fail;go_meet
   case rel=>exact⟨rfl,((sD.refl b t w).setB 3 _).drew,hS.setP _,o.other (dy i) _⟩
 case rest=>
  obtain⟨rfl,am,af,ag⟩:=hcut;have a9:=adJ a8 am bc bf;have⟨z,A,B,E,F,G,K,L⟩:=gl af;have⟨av,aL,a0,a1,a2,a3,a4⟩:=aE ag;go_upto_region 1 with fail
  go_quiet (fail)
  have c:=af.drewN nq;have d:=ag.drewN nq;have j:=am.drewN nq;have n:(wc.drewN nq).ownsMap Y 9 (plainElem (H:=Unit) Y 3) mb 22 (zG 22):=a9;generalize wc.drewN nq=y at c d j n⊢;have⟨z,A,B,E,F,G,K,L⟩:=gl c;have⟨av,aL,a0,a1,a2,a3,a4⟩:=aE d;have bj:b<y.heap.size:=ah c;have bk:t<y.heap.size:=ah d;have ao:(s.extract p a).size<=70000:=by rw[im];omega
  have m:keyOf Y 9 (.string (s.extract p a))=A3 (.string (s.extract p a).data.toList):=keyOf_string_mk underlying9 py;have k:=La (H:=Unit) (s.extract p a);have r:=λw=>G8 (s.extract p a) O w;unfold vE at k;rw[x.out]at k;cases a6 with
  |some ap=>
   have al:=als (H:=Unit) (s.extract p a) ap x;have f:Maps.has (zG (H:=Unit) 22) (.string (s.extract p a).data.toList)=Ck:=k;generalize s.extract p a=bl at m al f r ao⊢;go_wp2_with (at_lookup;refine wpList_lookup_own_ok_int _ rfl _ _ 88 rfl 9 3 .i64 ak2 underlying88 underlying3 byR mb 22 _ rfl n _ _ rfl m ?_;intro C ak bh;rw[f];rw[al]at ak;obtain rfl:10+(ap:Int)=C:=by grind);refine aD (iI rfl _ _ _) rfl ?_;exact⟨rfl,j.setT 0 _,c.other i _,d.setKind _⟩
  |none=>
   have f:Maps.has (zG (H:=Unit) 22) (.string (s.extract p a).data.toList)=B7:=k;obtain⟨bl,q⟩:=aw (s.extract p a);rw[q]at m f r ao⊢;have a5:=aj q;clear q;go_wp2_with (first|(at_lookup;refine wpList_lookup_own_ok_int _ rfl _ _ 88 rfl 9 3 .i64 ak2 underlying88 underlying3 byR mb 22 _ rfl n _ _ rfl m ?_;intro C ak bh;rw[f])|(go_at_call 184;refine(r _).mono ?_;rintro e bs ⟨rfl,h⟩;have ba:=c.below h bj;have g:=d.below h bk;have bb:=j.below (h.mono j.size);have tf3:=(aE g).2.2.2.2.2.2;have bt:=(aE g).1;have bv:=(aE g).2.2.2.2.2.1;clear h));go_end0
   exact⟨rfl,(bb.setT 0 _).setT 5 _,(ba.other i _).other i _,by rw[a5.out];exact(g.setKind _).setText _⟩
theorem eu(s:Bz)(a b i:Nat)(d:b<=s.size)(e:a+i<b:=by omega):ae (s.extract a b) i=ae s (a+i):=by
 rw[uh,uh];have c:(s.extract a b).data.toList=(s.data.toList.drop a).take (b-a):=byS;grind
theorem ey(s:Bz)(a b:Nat)(c:b<=s.size):(s.extract a b).size=b-a:=byS
def adK(s:Bz)(a b p:Nat)(c:b<=s.size):∀n,a+p+n<=b->tF (s.extract a b) p n=tF s (a+p) n
 |0,_=>rfl
 |n+1,h=>by
  rw[tF,tF,adK s a b p c n O,eu s a b (p+n) c,eH]
def adL(s:Bz)(a b p:Nat)(c:b<=s.size):∀n,a+p+n<=b->qu (s.extract a b) p n=qu s (a+p) n
 |0,_=>rfl
 |n+1,h=>by
  rw[qu,qu,adL s a b p c n O,eu s a b (p+n) c,eH]
def th(s:Bz)(p:Nat):Int×Int×Bz:=
 if ae s p=48/\ae s (p+1)=120 then(2,wrap64 (tF s (p+2) ((ci s p).1-(p+2)):Int),⟨#[]⟩)
 else match (if F8 s p=Ck then A6 else qu s p ((ci s p).1-p)) with
  |some a=>(2,(a:Int),⟨#[]⟩)
  |none=>(3,0,s.extract p (ci s p).1)
theorem ao2(s:Bz)(p:Nat)(a:(ci s p).2=Ck):Cn s p= F2 #[A0 A2 (th s p).1,A0 A2 p,A0 A2 ((ci s p).1:Int),A0 A2 0,A0 A2 (th s p).2.1,B0 (th s p).2.2]/\AH s p= -1:=by
 unfold Cn AH th;by_cases c:ae s p=48/\ae s (p+1)=120
 .have b:ci s p=lh s (p+2):=by unfold ci;grind
  rw[b]at a⊢;simp only[ab c];unfold hxA hxF;grind
 .have b:ci s p=mu s (nA1 s (nA0 s p)):=by unfold ci;grind
  rw[b]at a⊢;simp only[aa c];unfold nmA nmF;rw[ab a,ab a];cases F8 s p with
  |true=>grind
  |false=>
   simp only[aa (I:¬B7=Ck)];cases qu s p ((mu s (nA1 s (nA0 s p))).1-p)<;>exact⟨rfl,by trivial⟩
theorem LD(s:Bz)(p:Nat)(b:(ci s p).2=B7):AH s p=((ci s p).1:Int):=by
 unfold AH;by_cases c:ae s p=48/\ae s (p+1)=120
 .have a:ci s p=lh s (p+2):=by unfold ci;grind
  rw[a]at b⊢;rw[ab c];unfold hxF;grind
 .have a:ci s p=mu s (nA1 s (nA0 s p)):=by unfold ci;grind
  rw[a]at b⊢;rw[aa c];unfold nmF;grind
theorem afK(s:Bz)(p:Nat)(g:p<s.size)(l:aC (ae s p)=Ck)(v:¬(ae s p=48/\ae s (p+1)=120)):AF (s.extract p (ci s p).1)=Option.map (λu:Nat=>(u:Int)) (if F8 s p=Ck then A6 else qu s p ((ci s p).1-p)):=by
 have b:=kG s p g;have n:=ey s p (ci s p).1 b.2;have e:∀a,p+a<(ci s p).1->ae (s.extract p (ci s p).1) a=ae s (p+a):=λa f=>eu s p _ a b.2 f;have c:aC (ae (s.extract p (ci s p).1) 0)=Ck:=U;have k:ci s p=mu s (nA1 s (nA0 s p)):=by unfold ci;grind
 have i:=uj s p g;have j:=uk s _ i.2;have o:=IJ s _ j.2;cases hk:F8 s p with
 |false=>
  have⟨r,d⟩:=IK s p l hk;have q:(ci s p).1=nA0 s p:=U;rw[Lh _ O (λa f=>U)];rw[n,adL s p _ 0 b.2 _ O,du];simp
 |true=>
  simp only[nA,Option.map_none];unfold F8 at hk;rcases be hk with h|h
  .have m:nA0 s p<(ci s p).1:=by
    have:nA0 s p<nA1 s (nA0 s p):=by
     unfold nA1;rw[ab h];have:=lL s (nA0 s p+1) (by have:=qr h.2;omega);omega
    grind
   exact zL _ c (nA0 s p-p) O (by rw[e _ O,(O:p+(nA0 s p-p)=nA0 s p),h.1];decide)
  .have m:nA1 s (nA0 s p)<(ci s p).1:=by
    have d:=ahy s _ h;have t:=lL s _ d.2;rw[k];unfold mu;grind
   exact zL _ c (nA1 s (nA0 s p)-p) O (by rw[e _ O,(O:p+(nA1 s (nA0 s p)-p)=nA1 s (nA0 s p)),h];decide)
theorem LF(s:Bz)(C:s.size<=1100000)(p:Nat)(f:p<s.size)(k:aC (ae s p)=Ck)(E:(ci s p).2=Ck)(w:Br)(i:oH w):
  B5 Y 186 #[B0 (s.extract p (ci s p).1)] w λe w'=>(((th s p).1=2/\e= A5 (Ce #[A0 A2 (th s p).2.1,G0 Ck])/\(th s p).2.2=⟨#[]⟩)\/((th s p).1=3/\(∃x,e= A5 (Ce #[A0 A2 x,G0 B7]))/\(th s p).2.1=0/\(th s p).2.2=s.extract p (ci s p).1))/\B3 w.heap.size w w':=by
 have b:=kG s p f;have r:=ey s p (ci s p).1 b.2;have A:∀a,p+a<(ci s p).1->ae (s.extract p (ci s p).1) a=ae s (p+a):=λa m=>eu s p _ a b.2 m;by_cases o:ae s p=48/\ae s (p+1)=120
 .have e:ci s p=lh s (p+2):=by unfold ci;grind
  have l:lh s (p+2)=((ci s p).1,Ck):=U;have⟨u,v,y,z⟩:=Li l;refine(GK _ U U O O (λa h c=>U) w).mono ?_;rintro g w' ⟨rfl,d⟩;rw[r,adK s p _ 2 b.2 _ O];have j:th s p=(2,wrap64 (tF s (p+2) ((ci s p).1-(p+2)):Int),⟨#[]⟩):=by unfold th;grind
  grind
 .have q:¬(ae (s.extract p (ci s p).1) 0=48/\ae (s.extract p (ci s p).1) 1=120):=by
   rintro ⟨h,c⟩;have B:=aF c;grind
  refine(GL _ O q w i).mono ?_;rintro g w' ⟨⟨x,rfl,n⟩,d⟩;rw[afK s p f k o]at n⊢;refine⟨?_,d⟩;have j:th s p=match (if F8 s p=Ck then A6 else qu s p ((ci s p).1-p)) with|some t=>(2,(t:Int),⟨#[]⟩)|none=>(3,0,s.extract p (ci s p).1):=by unfold th;grind
  grind
theorem Eb{fr:Int}(s:Bz)(bt:s.size<=70000)(b t:Nat)(w:Br)(m:B4)(p:Nat)(l H:Int)(G:p<s.size)(bc:aC (ae s p)=Ck)(d:b≠t)(hS:ir b w s m fr p l B7)(o:dL t w 0 p 0 H 0 A9)(E:oH w)(bp:12<=b)(br:12<=t):
  B5 Y 118 #[B1 (A3 ⟨b,0,A6⟩),B1 (A3 ⟨t,0,A6⟩)] w λe w'=>e= A5 (Ce #[])/\sD b t w w'/\
   (if(ci s p).2=Ck then ir b w' s m fr ((ci s p).1:Int) l B7/\dL t w' (th s p).1 p 0 H (th s p).2.1 (th s p).2.2 else ir b w' s m fr ((ci s p).1:Int) l Ck/\dL t w' 0 p 0 H 0 A9):=by
 have bs:b<w.heap.size:=ah hS;have bv:t<w.heap.size:=ah o;have L:=kG s p G;have z:=λw=>yd s O p G w;have y:=λbg w E=>LF s O p G bc bg w E;have⟨a3,a4,a5,a6,a7,a8,a9,ba⟩:=gl hS;have⟨ao,A,B,ap,ar,av,aL⟩:=aE o;generalize th s p=a2 at y;obtain⟨bw,bx,bA⟩:=a2;generalize ci s p=a1 at z L y;obtain⟨c,bn⟩:=a1;simp only at z L y⊢;cases bn with
 |false=>
  simp only[C3,if_false];go_in;go_upto_region 0 with fail
  go_quiet ((go_at_call 185;exact Calls.quiet_of_same (z _)))
  have g:=(hS.drewN nq).setP (c:Int);have h:=(o.drewN nq).other (a:=⟨b,3,A6⟩) (dy d) (A0 A2 (c:Int));have v:=((sD.refl b t w).drewN nq).setB 3 (A0 A2 (c:Int));go_wp2;refine aD (iI rfl _ _ _) rfl ?_;exact⟨rfl,v.setB 5 _,g.setK _,h.other (dy d) _⟩
 |true=>
  simp only[nA];have bl:=y rfl;go_in;go_upto_region 0 with fail
  go_quiet ((go_at_call 185;exact Calls.quiet_of_same (z _)))
  have g:=(hS.drewN nq).setP (c:Int);have h:=(o.drewN nq).other (a:=⟨b,3,A6⟩) (dy d) (A0 A2 (c:Int));have v:=((sD.refl b t w).drewN nq).setB 3 (A0 A2 (c:Int));have F:oH ((w.drewN nq).setCell ⟨b,3,A6⟩ (A0 A2 (c:Int))):=by
   obtain⟨⟨A,bo,ad⟩,⟨B,p2,af⟩⟩:=E;refine⟨⟨A,bo,?_⟩,⟨B,p2,?_⟩⟩
   .unfold World.cell? at ad⊢;rw[az _ _ _ _ U];exact ad
   .unfold World.cell? at af⊢;rw[az _ _ _ _ U];exact af
  go_upto_region 4 with fail
  generalize (w.drewN nq).setCell ⟨b,3,A6⟩ (A0 A2 (c:Int))=K at g h v F⊢;have⟨a3,a4,a5,a6,a7,a8,a9,ba⟩:=gl g;have⟨ao,A,B,ap,ar,av,aL⟩:=aE h;go_quiet (fail)
  have k:=g.drewN nq;have q:=h.drewN nq;have j:=v.drewN nq;have ag:oH (K.drewN nq):=⟨F.syn,F.rng⟩;generalize K.drewN nq=C at k q j ag⊢;have ak:b<C.heap.size:=ah k;have al:t<C.heap.size:=ah q;have bk:(s.extract p c).size<=70000:=by rw[im];omega
  have am:=λw=>G8 (s.extract p c) O w;have an:=bl C ag;generalize s.extract p c=bD at am an bk⊢;go_wp2_with fail;refine an.mono ?_;rintro e a0 ⟨(⟨rfl,rfl,rfl⟩|⟨rfl,⟨b0,rfl⟩,rfl,rfl⟩),f⟩
  .have n:=k.below f ak;have i:=q.below f al;have x:=j.below (f.mono j.size);have⟨ao,A,B,ap,ar,av,aL⟩:=aE i;go_wp2;refine aD (iI rfl _ _ _) rfl ?_;exact⟨rfl,(x.setT 0 _).setT 4 _,(n.other d _).other d _,(i.setKind _).setNum _⟩
  .have n:=k.below f ak;have i:=q.below f al;have x:=j.below (f.mono j.size);have bh:b<a0.heap.size:=ah n;have bj:t<a0.heap.size:=ah i;go_wp2_with (go_at_call 184;refine(am _).mono ?_;rintro e bE ⟨rfl,u⟩;have bb:=n.below u bh;have r:=i.below u bj;have bf:=x.below (u.mono x.size);have tf4:=(aE r).2.2.2.2.2.2;have b1:=(aE r).1;have b2:=(aE r).2.2.2.2.2.1;clear u);go_end0
   exact⟨rfl,(bf.setT 0 _).setT 5 _,(bb.other d _).other d _,(r.setKind _).setText _⟩
def atp(k:Nat)(a:k<11)(w:Br):(C2 231 (F2 je) (A0 A2 (k:Int))).run Y w= .ok (B0 (bq je k)) w:=by
 iterate 11 (obtain _|k:=k;· kernel_rfl)
 omega
def atq(k:Nat)(a:k<18)(w:Br):(C2 232 (F2 lK) (A0 A2 (k:Int))).run Y w= .ok (B0 (bq lK k)) w:=by
 iterate 18 (obtain _|k:=k;· kernel_rfl)
 omega
def osz:∀k:Fin 11,(bq je k.val).size<=3:=Z
def bsz:∀k:Fin 18,(bq lK k.val).size<=3:=Z
def xG(V:Array B4)(base:Int)(r:Bz):Nat->Nat->Int×Nat->Int×Nat
 |0,_,a=>a
 |f+1,i,a=>xG V base r f (i+1) (if a.2<(bq V i).size/\D3 r.data.toList (bq V i).data.toList=Ck then(base+(i:Int),(bq V i).size) else a)
structure Gi (V:Array B4) (base:Int) (r:Bz) (f i:Nat) (a R:Int×Nat):Prop where
 out:xG V base r f i a=R
def lH(r:Bz):Int:=if ae r 0=59 then 5 else if ae r 0=10 then 7 else(xG lK 61 r 18 0 (xG je 40 r 11 0 (0,0))).1
theorem I5(r:Bz)(a7:r.size<=70000)(aL:0<r.size)(w:Br)(a0:sJ w):B5 Y 188 #[B0 r] w λe w'=>e= A5 (A0 A2 (lH r))/\w'=w:=by
 unfold lH;have H:∀w,(C2 9 (B0 r) (A0 A2 0)).run Y w= .ok (A0 .u8 (ae r 0)) w:=λw=>dx aL w;by_cases z:ae r 0=59
 .rw[ab z];rw[z]at H;go_in;go_wp2;go_ret
  simp_all
 rw[aa z];by_cases y:ae r 0=10
 .rw[ab y];rw[y]at H;go_in;go_wp2;go_ret
  simp_all
 rw[aa y];have av:(ae r 0==59)=B7:=U;have ar:(ae r 0==10)=B7:=U;generalize ae r 0=a6 at H av ar;clear z y;obtain⟨-,⟨a2,ao,ak⟩,⟨a3,ap,ag⟩⟩:=a0;have al:=λa s w=>atp a s w;have a1:=λa s w=>atq a s w;obtain⟨x,A⟩:∃x:Array B4,je=x:=⟨_,rfl⟩;obtain⟨v,C⟩:∃v:Array B4,lK=v:=⟨_,rfl⟩;have an:E1 (∀a:Nat,a<11->∀w,(C2 231 (F2 x) (A0 A2 (a:Int))).run Y w= .ok (B0 (bq je a)) w):=by rw[<-A];exact al
 have am:E1 (∀a:Nat,a<18->∀w,(C2 232 (F2 v) (A0 A2 (a:Int))).run Y w= .ok (B0 (bq lK a)) w):=byS;rw[A]at ak;rw[C]at ag;have a4:x.size=11:=by rw[<-A];rfl
 have a5:v.size=18:=by rw[<-C];rfl
 clear al a1 A C;obtain⟨k,E⟩:=aw (xG je 40 r 11 0 (0,0));rw[E];obtain⟨o,F⟩:=aw (xG lK 61 r 18 0 k);rw[F];have ad:Gi je 40 r 11 0 (0,0) k:=⟨E⟩;have af:Gi lK 61 r 18 0 k o:=⟨F⟩;clear E F;go_in;go_wp2_with (refine wJ rfl 231 _ rfl 2 rfl a2 _ ao _ ak underlying231 rfl (by rw[a4];rfl) ?_);go_loop [3,4,16] (λK L m=>∃(a c:Nat) (d:Int),a<=11/\c<=3/\K= A0 A2 d/\L= A0 A2 c/\m= A0 A2 a/\Gi je 40 r (11-a) a (d,c) k) (λ_ _ m=>11-(E0 m).toNat)
 case atStart=>exact⟨0,0,0,O,O,rfl,rfl,rfl,ad⟩
 case round=>
  obtain⟨a,c,d,s,n,rfl,rfl,rfl,j⟩:=hrel;by_cases t:a<11
  .have G:=an.out a t;have u:(bq je a).size<=3:=osz ⟨a,t⟩;have b:=j.out;rw[(O:11-a=(11-(a+1))+1),xG]at b;have i:=λw=>Tryz.strings_HasPrefix r (bq je a) w;generalize bq je a=f at G u b i;by_cases p:c<f.size
   .have B:(c:Int)<(f.size:Int):=O;by_cases h:D3 r.data.toList f.data.toList=Ck
    .rw[ab ⟨p,h⟩]at b;have g:Gi je 40 r (11-(a+1)) (a+1) (40+(a:Int),f.size) k:=⟨b⟩;rw[h]at i;clear b h;go_wp2_with (go_at_call 75;refine eE (i _) ?_);go_round
     case rel=>exact⟨a+1,f.size,40+(a:Int),O,u,by go_num,rfl,by go_num,g⟩
     case measure=>simp[E0];omega
    .have q:D3 r.data.toList f.data.toList=B7:=U;rw[aa (λl=>h l.2)]at b;have g:Gi je 40 r (11-(a+1)) (a+1) (d,c) k:=⟨b⟩;rw[q]at i;clear b h q;go_wp2_with (go_at_call 75;refine eE (i _) ?_);go_round
     case rel=>exact⟨a+1,c,d,O,n,rfl,rfl,by go_num,g⟩
     case measure=>simp[E0];omega
   .have B:¬(c:Int)<(f.size:Int):=O;rw[aa (λl=>p l.1)]at b;have g:Gi je 40 r (11-(a+1)) (a+1) (d,c) k:=⟨b⟩;clear b;go_wp2;go_round
    case rel=>exact⟨a+1,c,d,O,n,rfl,rfl,by go_num,g⟩
    case measure=>simp[E0];omega
  .obtain rfl:a=11:=O;have b:=j.out;rw[fI,xG]at b;subst b;clear j ad;go_wp2_with (refine wJ rfl 232 _ rfl 3 rfl a3 _ ap _ ag underlying232 rfl (by rw[a5];rfl) ?_);go_loop [3,4,35] (λK L m=>∃(a c:Nat) (d:Int),a<=18/\c<=3/\K= A0 A2 d/\L= A0 A2 c/\m= A0 A2 a/\Gi lK 61 r (18-a) a (d,c) o) (λ_ _ m=>18-(E0 m).toNat)
   case atStart=>exact⟨0,c,d,O,n,rfl,rfl,rfl,af⟩
   case round=>
    obtain⟨a,c,d,s,n,rfl,rfl,rfl,j⟩:=hrel;by_cases t:a<18
    .have G:=am.out a t;have u:(bq lK a).size<=3:=bsz ⟨a,t⟩;have b:=j.out;rw[(O:18-a=(18-(a+1))+1),xG]at b;have i:=λw=>Tryz.strings_HasPrefix r (bq lK a) w;generalize bq lK a=f at G u b i;by_cases p:c<f.size
     .have B:(c:Int)<(f.size:Int):=O;by_cases h:D3 r.data.toList f.data.toList=Ck
      .rw[ab ⟨p,h⟩]at b;have g:Gi lK 61 r (18-(a+1)) (a+1) (61+(a:Int),f.size) o:=⟨b⟩;rw[h]at i;clear b h;go_wp2_with (go_at_call 75;refine eE (i _) ?_);go_round
       case rel=>exact⟨a+1,f.size,61+(a:Int),O,u,by go_num,rfl,by go_num,g⟩
       case measure=>simp[E0];omega
      .have q:D3 r.data.toList f.data.toList=B7:=U;rw[aa (λl=>h l.2)]at b;have g:Gi lK 61 r (18-(a+1)) (a+1) (d,c) o:=⟨b⟩;rw[q]at i;clear b h q;go_wp2_with (go_at_call 75;refine eE (i _) ?_);go_round
       case rel=>exact⟨a+1,c,d,O,n,rfl,rfl,by go_num,g⟩
       case measure=>simp[E0];omega
     .have B:¬(c:Int)<(f.size:Int):=O;rw[aa (λl=>p l.1)]at b;have g:Gi lK 61 r (18-(a+1)) (a+1) (d,c) o:=⟨b⟩;clear b;go_wp2;go_round
      case rel=>exact⟨a+1,c,d,O,n,rfl,rfl,by go_num,g⟩
      case measure=>simp[E0];omega
    .obtain rfl:a=18:=O;have b:=j.out;rw[fI,xG]at b;subst b;clear j af;go_wp2;go_ret
     simp_all
def pwF(op:Int):Int×Int:=
 if 13<=op/\op<=18 then(3,4) else if op=12 then(4,4) else if op=8 then(5,6) else if op=9 then(6,7) else if op=7 then(7,8) else if op=10\/op=11 then(8,9) else if op=1\/op=2 then(9,10) else(10,11)
def BI(op:Int)(b:1<=op)(c:op<=18)(w:Br):
  B5 Y 209 #[A0 A2 (60+op)] w λe w'=>e= A5 (Ce #[A0 A2 (pwF op).1,A0 A2 (pwF op).2])/\w'=w:=by
 have a:op=1\/op=2\/op=3\/op=4\/op=5\/op=6\/op=7\/op=8\/op=9\/op=10\/op=11\/op=12\/op=13\/op=14\/op=15\/op=16\/op=17\/op=18:=O;rcases a with rfl|rfl|rfl|rfl|rfl|rfl|rfl|rfl|rfl|rfl|rfl|rfl|rfl|rfl|rfl|rfl|rfl|rfl<;>
  (go_in
   go_wp2;exact aD (results_tmp2 rfl _ _ _) rfl ⟨rfl,rfl⟩)
def lr(k op:Int):Int:=if k=29 then 1 else if k=28 then 2 else if k=31 then(pwF op).1 else if k=30 then 11 else 12
def yy(k op:Int):Int:=if k=29 then 2 else if k=28 then 3 else(pwF op).2
def ad0(k:Int):Bool:=k==26||k==32||k==33||k==34||k==37
theorem BJ(N:Nd)(vn vk:B4)(c:N.k=31->1<=N.op/\N.op<=18)(w:Br):
  B5 Y 216 #[jA N vn vk] w λe w'=>e= A5 (A0 A2 (lr N.k N.op))/\B3 w.heap.size w w':=by
 have b:B3 w.heap.size w (w.alloc (D4 #[A0 A2 N.k,A0 A2 N.f,A0 A2 N.t,A0 A2 N.l,A0 A2 N.op,A0 A2 N.n,B0 N.x,vn,vk] 100)):=(ai _ w).alloc cJ _;unfold jA;by_cases d:N.k=29
 .have o:(N.k==29)=Ck:=U;have a:E1 (lr N.k N.op=1):=by show _=_;unfold lr;omega
  clear d c;go_in;go_wp2;go_ret;exact⟨by rw[a.out];rfl,b⟩
 have o:(N.k==29)=B7:=U;by_cases g:N.k=28
 .have p:(N.k==28)=Ck:=U;have a:E1 (lr N.k N.op=2):=by show _=_;unfold lr;omega
  clear d g c;go_in;go_wp2;go_ret;exact⟨by rw[a.out];rfl,b⟩
 have p:(N.k==28)=B7:=U;by_cases h:N.k=31
 .have q:(N.k==31)=Ck:=U;have a:E1 (lr N.k N.op=(pwF N.op).1):=by show _=_;unfold lr;omega
  obtain⟨s,u⟩:=c h;have i:=BI N.op s u;generalize pwF N.op=j at i a;obtain⟨v,y⟩:=j;simp only at i a;clear d g h c;go_in;go_wp2_with (go_at_call 209;refine eE (i _) ?_);go_ret;exact⟨by rw[a.out];rfl,b⟩
 have q:(N.k==31)=B7:=U;by_cases m:N.k=30
 .have r:(N.k==30)=Ck:=U;have a:E1 (lr N.k N.op=11):=by show _=_;unfold lr;omega
  clear d g h m c;go_in;go_wp2;go_ret;exact⟨by rw[a.out];rfl,b⟩
 have r:(N.k==30)=B7:=U;have a:E1 (lr N.k N.op=12):=by show _=_;unfold lr;omega
 go_in;go_wp2;go_ret;exact⟨by rw[a.out];rfl,b⟩
theorem LG(N:Nd)(vn vk:B4)(d:N.k≠29->N.k≠28->1<=N.op/\N.op<=18)(w:Br):
  B5 Y 244 #[jA N vn vk] w λe w'=>e= A5 (A0 A2 (yy N.k N.op))/\B3 w.heap.size w w':=by
 have c:B3 w.heap.size w (w.alloc (D4 #[A0 A2 N.k,A0 A2 N.f,A0 A2 N.t,A0 A2 N.l,A0 A2 N.op,A0 A2 N.n,B0 N.x,vn,vk] 100)):=(ai _ w).alloc cJ _;unfold jA;by_cases b:N.k=29
 .have j:(N.k==29)=Ck:=U;have a:E1 (yy N.k N.op=2):=by show _=_;unfold yy;omega
  clear b d;go_in;go_wp2;go_ret;exact⟨by rw[a.out];rfl,c⟩
 have j:(N.k==29)=B7:=U;by_cases h:N.k=28
 .have m:(N.k==28)=Ck:=U;have a:E1 (yy N.k N.op=3):=by show _=_;unfold yy;omega
  clear b h d;go_in;go_wp2;go_ret;exact⟨by rw[a.out];rfl,c⟩
 have m:(N.k==28)=B7:=U;have a:E1 (yy N.k N.op=(pwF N.op).2):=by show _=_;unfold yy;omega
 have⟨o,p⟩:=d b h;have g:=BI N.op o p;generalize pwF N.op=i at g a;obtain⟨q,r⟩:=i;simp only at g a;go_in;go_wp2_with (go_at_call 209;refine eE (g _) ?_);go_ret;exact⟨by rw[a.out];rfl,c⟩
def ab7(k:Int)(w:Br):B5 Y 245 #[A0 A2 k] w λe w'=>e= A5 (G0 (ad0 k))/\w'=w:=by
 unfold ad0;cases f1:(k==26)<;>cases f2:(k==32)<;>cases f3:(k==33)<;>cases f4:(k==34)<;>cases f5:(k==37)<;>
  (go_in
   go_wp2;go_ret;exact rr)
def eo(N:Nd)(j:Nat):Int:=N.ks.getD j 0
def jz(l:List Bz):Bz:=l.foldl (· ++·) A9
def LH(x:Bz):Bz:=⟨#[40]⟩++x++⟨#[41]⟩
def uI(ns:List Nd)(E:Int->Bz)(k a:Int):Bz:=if lr (nodeI ns k).k (nodeI ns k).op<a then LH (E k) else E k
def G9(N:Nd)(a:Int):Int:=if yy N.k N.op=a then a+1 else a
def I6(ns:List Nd)(E:Int->Bz)(N:Nd)(b:Bz)(a:Int):Bz:=uI ns E (eo N 0) (G9 N a)++b++uI ns E (eo N 1) (yy N.k N.op)
def arD(N:Nd):Bool:=N.k==30&&N.op==19
def unS(ns:List Nd)(N:Nd):Bz:=if N.op=21 then⟨#[110,111,116,32]⟩ else if N.op=22 then⟨#[35]⟩ else if N.op=20 then⟨#[126]⟩ else if arD (nodeI ns (eo N 0))=Ck then⟨#[45]⟩++⟨#[32]⟩ else⟨#[45]⟩
def unB(ns:List Nd)(E:Int->Bz)(N:Nd):Bz:=unS ns N++uI ns E (eo N 0) 11
def bsB(ns:List Nd)(E:Int->Bz)(k:Int):Bz:=if ad0 (nodeI ns k).k=Ck then E k else LH (E k)
def plB(N:Nd):Bz:=
 if N.k=20 then⟨#[110,105,108]⟩ else if N.k=21 then⟨#[116,114,117,101]⟩ else if N.k=22 then⟨#[102,97,108,115,101]⟩ else if N.k=23 then Lz N.n
 else if N.k=24\/N.k=26 then N.x else if N.k=25 then gL (jl N.x) else if N.k=27 then⟨#[46,46,46]⟩ else A9
def A4(ns:List Nd)(E:Int->Bz)(X:Nd):Bz:=
 if X.k=41 then⟨#[91]⟩++E (eo X 0)++⟨#[93,32,61,32]⟩++E (eo X 1) else if X.k=42 then(⟨#[46]⟩++X.x++⟨#[32,61,32]⟩)++E (eo X 0) else E (eo X 0)
def ahJ(ns:List Nd)(E:Int->Bz)(N:Nd):Bz:=⟨#[123]⟩++gx (N.ks.map λa=>A4 ns E (nodeI ns a))++⟨#[125]⟩
def Ha(S:Int->Nat->Bz)(ks:List Int)(tab:Nat):Bz:=
 if ks=[] then⟨#[123,125]⟩ else⟨#[123]⟩++jz (ks.map λa=>mF (tab+1)++S a (tab+1))++mF tab++⟨#[125]⟩
def afL(N:Nd):Bz:=⟨#[40]⟩++gx N.nm++(if N.op=1 then(if N.nm=[] then⟨#[46,46,46]⟩ else lm++⟨#[46,46,46]⟩) else A9)++⟨#[41,32]⟩
def LI(ns:List Nd)(S:Int->Nat->Bz)(N:Nd)(tab:Nat):Bz:=afL N++Ha S (nodeI ns (eo N 0)).ks tab
def prE(ns:List Nd)(E:Int->Bz)(S:Int->Nat->Bz)(N:Nd)(tab:Nat):Bz:=
 if N.k=28 then I6 ns E N ⟨#[32,97,110,100,32]⟩ (lr N.k N.op)
 else if N.k=29 then I6 ns E N ⟨#[32,111,114,32]⟩ (lr N.k N.op)
 else if N.k=31 then I6 ns E N (⟨#[32]⟩++eI (60+N.op)++⟨#[32]⟩) (lr N.k N.op)
 else if N.k=30 then unB ns E N
 else if N.k=32 then bsB ns E (eo N 0)++⟨#[91]⟩++E (eo N 1)++⟨#[93]⟩
 else if N.k=33 then bsB ns E (eo N 0)++(⟨#[46]⟩++N.x)
 else if N.k=34 then bsB ns E (eo N 0)++⟨#[40]⟩++gx ((N.ks.drop 1).map E)++⟨#[41]⟩
 else if N.k=35 then ahJ ns E N
 else if N.k=36 then⟨#[102,110]⟩++LI ns S N tab
 else if N.k=37 then LH (E (eo N 0))
 else plB N
def Ec(ns:List Nd)(E:Int->Bz)(S:Int->Nat->Bz)(a:Int->Bz->Bz)(N:Nd)(b:Bz)(tab:Nat):Bz:=
 b++E (eo N 0)++⟨#[32]⟩++Ha S (nodeI ns (eo N 1)).ks tab++
  (if Ax N.ks<3 then A9 else if(nodeI ns (eo N 2)).k=7 then a (eo N 2) ⟨#[32,101,108,105,102,32]⟩ else⟨#[32,101,108,115,101,32]⟩++Ha S (nodeI ns (eo N 2)).ks tab)
def nm0(N:Nd):Bz:=N.nm.getD 0 A9
def prS(ns:List Nd)(E:Int->Bz)(S:Int->Nat->Bz)(a:Int->Bz->Bz)(N:Nd)(tab:Nat):Bz:=
 if N.k=1 then Ha S N.ks tab
 else if N.k=2 then⟨#[108,101,116,32]⟩++gx N.nm++(if N.ks=[] then A9 else⟨#[32,61,32]⟩++gx (N.ks.map E))
 else if N.k=3 then(⟨#[99,111,110,115,116,32]⟩++nm0 N++⟨#[32,61,32]⟩)++E (eo N 0)
 else if N.k=4 then(⟨#[102,110,32]⟩++nm0 N)++LI ns S (nodeI ns (eo N 0)) tab
 else if N.k=5 then gx ((N.ks.take N.n.toNat).map E)++⟨#[32,61,32]⟩++gx ((N.ks.drop N.n.toNat).map E)
 else if N.k=6 then E (eo N 0)
 else if N.k=7 then a (-1) ⟨#[105,102,32]⟩
 else if N.k=8 then⟨#[119,104,105,108,101,32]⟩++E (eo N 0)++⟨#[32]⟩++Ha S (nodeI ns (eo N 1)).ks tab
 else if N.k=9\/N.k=10 then⟨#[102,111,114,32]⟩++gx N.nm++(if N.k=9 then⟨#[32,61,32]⟩ else⟨#[32,105,110,32]⟩)++gx ((N.ks.take (Ax N.ks-1)).map E)++⟨#[32]⟩++Ha S (nodeI ns (eo N (Ax N.ks-1))).ks tab
 else if N.k=11 then⟨#[98,114,101,97,107]⟩
 else if N.k=12 then⟨#[110,101,120,116]⟩
 else if N.k=13 then⟨#[114,101,116,117,114,110]⟩++(if N.ks=[] then A9 else⟨#[32]⟩++gx (N.ks.map E))
 else if N.k=14 then⟨#[116,114,121,32]⟩++Ha S (nodeI ns (eo N 0)).ks tab++⟨#[32,99,97,116,99,104,32]⟩++gx N.nm++⟨#[32]⟩++Ha S (nodeI ns (eo N 1)).ks tab
 else if N.k=15 then⟨#[116,104,114,111,119,32]⟩++E (eo N 0)
 else if N.k=16 then⟨#[100,101,102,101,114,32]⟩++E (eo N 0)
 else A9
mutual
def A7(ns:List Nd):Nat->Int->Nat->Bz
 |0,_,_=>A9
 |f+1,i,tab=>prE ns (λk=>A7 ns f k tab) (λk t=>ve ns f k t) (nodeI ns i) tab
def ve(ns:List Nd):Nat->Int->Nat->Bz
 |0,_,_=>A9
 |f+1,i,tab=>prS ns (λk=>A7 ns f k tab) (λk t=>ve ns f k t) (λ_ w=>Ec ns (λk=>A7 ns f k tab) (λk t=>ve ns f k t) (λk w=>Ad ns f k w tab) (nodeI ns i) w tab) (nodeI ns i) tab
def Ad(ns:List Nd):Nat->Int->Bz->Nat->Bz
 |0,_,_,_=>A9
 |f+1,i,w,tab=>Ec ns (λk=>A7 ns f k tab) (λk t=>ve ns f k t) (λk w=>Ad ns f k w tab) (nodeI ns i) w tab
end
def nF(ns:List Nd):Bz:=jz ((nodeI ns ((Ax ns:Int)-1)).ks.map λa=>ve ns (Ax ns) a 0++⟨#[10]⟩)
def I7(ns:List Nd):Bz:=if 65536<(nF ns).size then A9 else nF ns
def A8{b:Nat}(o:Obj)(h:Kq b (w.alloc o) w'):Kq b w w':=(Kq.of_below ((ai _ w).alloc cJ o)).trans h
theorem af0(g:Br)(j vn vk:B4)(N:Nd)(T:Bz)(t:Int)(w:Br)(h:Pr g j T t w)(v:20<=N.k/\N.k<=27)(al: -9223372036854775808<=N.n)(am:N.n<=9223372036854775807)(u:N.k=25->N.x.size<=4000)(s:T.size+(plB N).size<=140737488355328):
  B5 Y 221 #[B1 (A3 ⟨g.heap.size,0,A6⟩),jA N vn vk] w λe w'=>e= A5 (Ce #[])/\Pr g j (T++plB N) t w'/\Kq g.heap.size w w':=by
 have F:B3 w.heap.size w (w.alloc (D4 #[A0 A2 N.k,A0 A2 N.f,A0 A2 N.t,A0 A2 N.l,A0 A2 N.op,A0 A2 N.n,B0 N.x,vn,vk] 100)):=(ai _ w).alloc cJ _;have i:E1 (Pr g j T t (w.alloc (D4 #[A0 A2 N.k,A0 A2 N.f,A0 A2 N.t,A0 A2 N.l,A0 A2 N.op,A0 A2 N.n,B0 N.x,vn,vk] 100))/\B3 w.heap.size w (w.alloc (D4 #[A0 A2 N.k,A0 A2 N.f,A0 A2 N.t,A0 A2 N.l,A0 A2 N.op,A0 A2 N.n,B0 N.x,vn,vk] 100))):=⟨h.below F,F⟩;have q:=G7 N.n al am;obtain⟨an,a⟩:=aw (plB N);rw[a]at s⊢;unfold plB at a;clear h F;unfold jA;have c:∀z:Int,N.k=z->(N.k==z)=Ck:=λz e=>U;have b:∀z:Int,N.k≠z->(N.k==z)=B7:=λz e=>U;by_cases m:N.k=20
 .have K:=c _ m;rw[ab m]at a;subst a;clear m c b v u q;go_in;go_wp2_with (go_at_call 111;refine(gw g j _ _ _ _ i.1 s).mono ?_;rintro e B ⟨rfl,p2,d⟩);go_end0
  exact⟨rfl,p2,A8 _ d⟩
 have K:=b _ m;rw[aa m]at a;by_cases o:N.k=21
 .have L:=c _ o;rw[ab o]at a;subst a;clear m o c b v u q;go_in;go_wp2_with (go_at_call 111;refine(gw g j _ _ _ _ i.1 s).mono ?_;rintro e B ⟨rfl,p2,d⟩);go_end0
  exact⟨rfl,p2,A8 _ d⟩
 have L:=b _ o;rw[aa o]at a;by_cases p:N.k=22
 .have ad:=c _ p;rw[ab p]at a;subst a;clear m o p c b v u q;go_in;go_wp2_with (go_at_call 111;refine(gw g j _ _ _ _ i.1 s).mono ?_;rintro e B ⟨rfl,p2,d⟩);go_end0
  exact⟨rfl,p2,A8 _ d⟩
 have ad:=b _ p;rw[aa p]at a;by_cases r:N.k=23
 .have af:=c _ r;rw[ab r]at a;rw[a]at q;clear m o p r c b v u a;go_in;go_wp2_with fail;refine dm (q _) λw1 y=>?_;have C:E1 (Pr g j T t w1/\B3 w.heap.size w w1):=⟨i.1.below y,i.2.trans (y.mono i.2.size)⟩;clear y q;go_wp2_with fail;refine(gw g j _ _ _ _ C.1 s).mono ?_;rintro e B ⟨rfl,p2,d⟩;go_wp2_with fail;go_end0
  exact⟨rfl,p2,(Kq.of_below C.2).trans d⟩
 have af:=b _ r;rw[aa r]at a;by_cases e4:N.k=24\/N.k=26
 .rw[ab e4]at a;rcases e4 with e4|e4
  .have H:=c _ e4;rw[a]at i⊢;clear m o p r e4 c b v u q a;go_in;go_wp2_with (go_at_call 111;refine(gw g j _ _ _ _ i.1 s).mono ?_;rintro e B ⟨rfl,p2,d⟩);go_end0
   exact⟨rfl,p2,A8 _ d⟩
  .have H:(N.k==24)=B7:=b _ O;have ag:=c _ e4;rw[a]at i⊢;clear m o p r e4 c b v u q a;go_in;go_wp2_with (go_at_call 111;refine(gw g j _ _ _ _ i.1 s).mono ?_;rintro e B ⟨rfl,p2,d⟩);go_end0
   exact⟨rfl,p2,A8 _ d⟩
 rw[aa e4]at a;have H:(N.k==24)=B7:=b _ O;have ag:(N.k==26)=B7:=b _ O;by_cases A:N.k=25
 .have ak:=c _ A;rw[ab A]at a;have G:=afv N.x (u A);rw[a]at G;clear m o p r e4 A c b v u a q;go_in;go_wp2_with fail;refine dm (G _) λw1 y=>?_;have C:E1 (Pr g j T t w1/\B3 w.heap.size w w1):=⟨i.1.below y,i.2.trans (y.mono i.2.size)⟩;clear y G;go_wp2_with fail;refine(gw g j _ _ _ _ C.1 s).mono ?_;rintro e B ⟨rfl,p2,d⟩;go_wp2_with fail;go_end0
  exact⟨rfl,p2,(Kq.of_below C.2).trans d⟩
 have ak:=b _ A;rw[aa A]at a;have E:N.k=27:=O;have ao:=c _ E;rw[ab E]at a;subst a;clear m o p r e4 A E c b v u q;go_in;go_wp2_with (go_at_call 111;refine(gw g j _ _ _ _ i.1 s).mono ?_;rintro e B ⟨rfl,p2,d⟩);go_end0
 exact⟨rfl,p2,A8 _ d⟩
theorem alC(op:Int):3<=(pwF op).1/\(pwF op).1<=10:=by
 unfold pwF;grind
def Ee(k op:Int):0<lr k op/\lr k op<=12:=by
 have:=alC op;unfold lr;omega
def anJ(ns:List Nd)(E:Int->Bz)(k:Int):uI ns E k 0=E k:=by
 unfold uI;rw[aa];have:=Ee (nodeI ns k).k (nodeI ns k).op;omega
def xq(x:Bz):(LH x).size=x.size+2:=by unfold LH;rw[ax,ax];show 1+x.size+1=_;omega
theorem I8{k:Nat}(h:k<Ax ns):ns[k]?=A3 (nodeI ns (k:Int)):=by
 unfold nodeI;grind
def OkE(c:Br)(d:B4)(ns:List Nd)(E:Int->Bz)(t:Int)(B:Nat):Prop:=
 ∀(a:Nat)(b:Int)(T:Bz)(W:Br),a<B->io (nodeI ns a).k=Ck->0<=b->b<=100->Pr c d T t W->T.size+(uI ns E a b).size<=140737488355328->
  B5 Y 180 #[B1 (A3 ⟨c.heap.size,0,A6⟩),A0 A2 (a:Int),A0 A2 b] W λe w'=>e= A5 (Ce #[])/\Pr c d (T++uI ns E a b) t w'/\Kq c.heap.size W w'
def OkE.zero{E:Int->Bz}{B:Nat}(h:OkE w0 vt ns E t B)(k:Nat)(T:Bz)(W:Br)(b:k<B)(a:io (nodeI ns k).k=Ck)(d:Pr w0 vt T t W)(c:T.size+(E k).size<=140737488355328):
  B5 Y 180 #[B1 (A3 ⟨w0.heap.size,0,A6⟩),A0 A2 (k:Int),A0 A2 0] W λe w'=>e= A5 (Ce #[])/\Pr w0 vt (T++E k) t w'/\Kq w0.heap.size W w':=by
 have:=h k 0 T W b a O O d (by rw[anJ];exact c);rw[anJ]at this;exact this
def ahK(a:Br)(f:B4)(ns:List Nd)(E:Int->Bz)(t:Int)(B:Nat)(F:OkE a f ns E t B)(r:fj a f ns)(H:Ax ns<=1048576)(k:Nat)(s:k<B)(u:k<Ax ns)(G:io (nodeI ns k).k=Ck)
  (T:Bz) (w:Br) (h:Pr a f T t w) (g:T.size+(bsB ns E k).size<=140737488355328):
  B5 Y 219 #[B1 (A3 ⟨a.heap.size,0,A6⟩),A0 A2 (k:Int)] w λe w'=>e= A5 (Ce #[])/\Pr a f (T++bsB ns E k) t w'/\Kq a.heap.size w w':=by
 have K:=I8 u;obtain⟨al,p,rfl⟩:=r.form;obtain⟨v,rfl,ap,ao,C⟩:=(r.below h.bel).get K;have⟨z0,ar,av⟩:=h.cells;have A:=C.c0;have d:=ab7 (nodeI ns k).k;have c:=jB h G F;have⟨j,q⟩:=aw (Ax ns);rw[q]at z0 c H u;have an:(k:Int)<(j:Int):=O;have am:(0:Int)<=(k:Int):=O;have⟨ak,b⟩:=aw (bsB ns E k);rw[b]at g⊢;rw[q];unfold bsB at b;generalize (nodeI ns k).k=z at A d b;cases hb:ad0 z with
 |true=>
  rw[hb]at d b;rw[ab rfl]at b;subst b;go_in;go_wp2_with (go_at_call 245;refine eE (d _) ?_);refine(c.2.2.zero k T w s c.2.1 c.1 g).mono ?_;rintro e x ⟨rfl,p2,i⟩;go_wp2;exact aD (iI rfl _ _ _) rfl ⟨rfl,p2,i⟩
 |false=>
  rw[hb]at d b;rw[aa I]at b;subst b;rw[xq]at g;go_in;go_wp2_with (go_at_call 245;refine eE (d _) ?_);refine(gw a _ T _ t w c.1 (by show T.size+1<=_;omega)).mono ?_;rintro e x ⟨rfl,p2,i⟩;have m:=fD p2 i;go_wp2_with fail;refine(c.2.2.zero k _ x s c.2.1 m.1 (by rw[ax];show T.size+1+_<=_;omega)).mono ?_;rintro e l ⟨rfl,af,L⟩;have n:E1 (Pr a (B6 (A3 v) j p) (T++⟨#[40]⟩++E k) t l/\Kq a.heap.size w l):=⟨af,m.2.trans L⟩;go_wp2_with fail;refine(gw a _ _ _ t l n.1 (by rw[ax,ax];show T.size+1+_+1<=_;omega)).mono ?_;rintro e y ⟨rfl,ag,ad⟩;have o:E1 (Pr a (B6 (A3 v) j p) (T++LH (E k)) t y/\Kq a.heap.size w y):=⟨by unfold LH;rw[<-dJ,<-dJ];exact ag,n.2.trans ad⟩;go_wp2_with fail;go_end0
  exact⟨rfl,o.1,o.2⟩
theorem Kq.box{b k:Nat}{vn vk:B4}(h:Kq b w w')(a:rA k w 100 N vn vk)(c:k≠b):rA k w' 100 N vn vk:=by
 refine(h.block k (ah a) c ?_).trans a;intro d f e;unfold rA at a;grind
theorem ahL{p:Addr}{i:Nat}{v:B4}(h:W.cell? (p.add i)=A3 v)(a:i≠0):W.cell? ⟨p.block,p.off+i,A6⟩=A3 v:=by
 unfold Addr.add at h;grind
def Wr(c:Br)(e:B4)(t:Int)(f:FuncId)(args:Array B4)(d:Bz):Prop:=
 ∀(a:Bz)(b:Br),Pr c e a t b->a.size+d.size<=140737488355328->B5 Y f args b λg w'=>g= A5 (Ce #[])/\Pr c e (a++d) t w'/\Kq c.heap.size b w'
def Ef(a:Bz):Wr w0 vt t 111 #[B1 (A3 ⟨w0.heap.size,0,A6⟩),B0 a] a:=λb c e d=>gw w0 _ b a _ c e d
def Wr.at_{a:Br}{c:B4}{t:Int}{f:FuncId}{args:Array B4}{b:Bz}(h:Wr a c t f args b){T:Bz}{W:Br}(p:Pr a c T t W)(d:T.size+b.size<=140737488355328:=by(try simp only[ax]);omega):B5 Y f args W λe w'=>e= A5 (Ce #[])/\Pr a c (T++b) t w'/\Kq a.heap.size W w':=h _ _ p d
abbrev pW(a:Br):B4:= B1 (A3 ⟨a.heap.size,0,A6⟩)
abbrev arE(N:Nd)(vn vk:B4):Obj:= D4 #[A0 A2 N.k,A0 A2 N.f,A0 A2 N.t,A0 A2 N.l,A0 A2 N.op,A0 A2 N.n,B0 N.x,vn,vk] 100
structure NdR (w0:Br) (p1:Addr) (i:Nat) (N:Nd) (an:Option Addr) (M cn:Nat) (ak:Option Addr) (L ck:Nat):Prop where
 nm:dv w0 (.slice an M cn) N.nm
 ks:dz w0 (.slice ak L ck) N.ks
 hM:Ax N.nm=M
 hL:Ax N.ks=L
 cap:L<=ck
 rd:∀W,B3 w0.heap.size w0 W->abz W (p1.add (i*9)) N (.slice an M cn) (.slice ak L ck)
def Co(e:Br)(c:Addr)(ns:List Nd):Prop:=
 ∀a N d b,ns[a]?=A3 N->e.cell? ⟨(c.add (a*9)).block,(c.add (a*9)).off+8,A6⟩=A3 (B6 d (Ax N.ks) b)->Ax N.ks<=b
def Ae{e:Addr}{n h:Nat}(k:fj w0 (B6 (A3 e) n h) ns)(m:Co w0 e ns){i:Nat}(o:i<Ax ns):∃c g d b L ck,NdR w0 e i (nodeI ns i) c g d b L ck:=by
 have f:=I8 o;have⟨q,j,s,r,a⟩:=k.get f;cases j;obtain⟨c,d,rfl⟩:=a.hn.form;obtain⟨b,ck,rfl⟩:=a.hk.form;exact⟨c,_,d,b,_,ck,a.hn,a.hk,rfl,rfl,m i _ b ck f a.c8,λp l=>a.below l⟩
abbrev NdC(W:Br)(a:Addr)(N:Nd)(vn vk:B4):Prop:=W.cell? a=A3 (A0 A2 N.k)/\W.cell? ⟨a.block,a.off+1,A6⟩=A3 (A0 A2 N.f)/\W.cell? ⟨a.block,a.off+2,A6⟩=A3 (A0 A2 N.t)/\W.cell? ⟨a.block,a.off+3,A6⟩=A3 (A0 A2 N.l)/\W.cell? ⟨a.block,a.off+4,A6⟩=A3 (A0 A2 N.op)/\W.cell? ⟨a.block,a.off+5,A6⟩=A3 (A0 A2 N.n)/\W.cell? ⟨a.block,a.off+6,A6⟩=A3 (B0 N.x)/\W.cell? ⟨a.block,a.off+7,A6⟩=A3 vn/\W.cell? ⟨a.block,a.off+8,A6⟩=A3 vk
structure Bx (w0:Br) (vt:B4) (t:Int) (w:Br) (N:Nd) (vn vk:B4) (T:Bz) (W:Br):Prop where
 pr:Pr w0 vt T t W
 kq:Kq w0.heap.size w W
 bx:rA w.heap.size W 100 N vn vk
def Bx.new(h:Pr w0 vt T t w)(N:Nd)(vn vk:B4):Bx w0 vt t w N vn vk T (w.alloc (arE N vn vk)):=by
 have a:B3 w.heap.size w (w.alloc (arE N vn vk)):=(ai _ w).alloc cJ _;exact⟨h.below a,Kq.of_below a,ay w _⟩
def Bx.next{a:Br}{c:B4}{t:Int}{w:Br}{N:Nd}{vn vk:B4}{T d:Bz}{W b:Br}(h:Bx a c t w N vn vk T W)(e:a.heap.size<w.heap.size)(p:Pr a c d t b)(k:Kq a.heap.size W b):Bx a c t w N vn vk d b:=
 ⟨p,h.kq.trans k,k.box h.bx O⟩
def Bx.below{vn vk:B4}{a:Br}(h:Bx w0 vt t w N vn vk T W)(b:B3 W.heap.size W a):Bx w0 vt t w N vn vk T a:=
 ⟨h.pr.below b,h.kq.trans (Kq.of_below b),h.bx.below b⟩
theorem Bx.cells{vn vk:B4}(h:Bx w0 vt t w N vn vk T W):W.cell? ⟨w.heap.size,0,A6⟩=A3 (A0 A2 N.k)/\W.cell? ⟨w.heap.size,1,A6⟩=A3 (A0 A2 N.f)/\W.cell? ⟨w.heap.size,2,A6⟩=A3 (A0 A2 N.t)/\W.cell? ⟨w.heap.size,3,A6⟩=A3 (A0 A2 N.l)/\W.cell? ⟨w.heap.size,4,A6⟩=A3 (A0 A2 N.op)/\W.cell? ⟨w.heap.size,5,A6⟩=A3 (A0 A2 N.n)/\W.cell? ⟨w.heap.size,6,A6⟩=A3 (B0 N.x)/\W.cell? ⟨w.heap.size,7,A6⟩=A3 vn/\W.cell? ⟨w.heap.size,8,A6⟩=A3 vk:=by
 have⟨a,b,c,d,e,g,i,j,m,o⟩:=co h.bx;grind
def Bx.kid0{vn:B4}{a:Addr}{L ck:Nat}(h:Bx w0 vt t w N vn (B6 (A3 a) L ck) T W)(c:dz w0 (B6 (A3 a) L ck) N.ks){q:Int}(d:N.ks[0]?=A3 q):W.cell? a=A3 (A0 A2 q):=by
 have⟨f,b,e⟩:=(c.below h.pr.bel).get d;cases b;simpa [Addr.add] using e
def Bx.kid{vn:B4}{a:Addr}{L ck:Nat}(h:Bx w0 vt t w N vn (B6 (A3 a) L ck) T W)(d:dz w0 (B6 (A3 a) L ck) N.ks){j:Nat}{q:Int}(e:N.ks[j]?=A3 q)(c:j≠0):W.cell? ⟨a.block,a.off+j,A6⟩=A3 (A0 A2 q):=by
 have⟨g,b,f⟩:=(d.below h.pr.bel).get e;cases b;exact ahL f c
def Bx.name0{a:Addr}{b c:Nat}{vk:B4}(h:Bx w0 vt t w N (B6 (A3 a) b c) vk T W)(e:dv w0 (B6 (A3 a) b c) N.nm){s:Bz}(f:N.nm[0]?=A3 s):W.cell? a=A3 (B0 s):=by
 have⟨i,d,g⟩:=(e.below h.pr.bel).get f;cases d;simpa [Addr.add] using g
theorem dz.ptr{a:Option Addr}{L ck:Nat}(h:dz W (B6 a L ck) l)(b:0<Ax l:=by omega):∃c,a=A3 c:=by
 obtain⟨e,d,_⟩:=h.get (bi b);grind
theorem dv.ptr{a:Option Addr}{L ck:Nat}{l:List Bz}(h:dv W (B6 a L ck) l)(b:0<Ax l:=by omega):∃c,a=A3 c:=by
 obtain⟨e,d,_⟩:=h.get (bi b);grind
def Bx.stp{vn vk:B4}{a:Bz}{f:FuncId}{args:Array B4}{Q:Ending->Br->Prop}{V:Br}(B:E1 (Bx w0 vt t w N vn vk T V))(d:B3 V.heap.size V W)(S:E1 (Wr w0 vt t f args a))(g:w0.heap.size<w.heap.size)(e:T.size+a.size<=140737488355328)(k:∀c,Bx w0 vt t w N vn vk (T++a) c->Q (A5 (Ce #[])) c):B5 Y f args W Q:=
 (S _ _ (B.below d).pr e).mono λi h b=>b.1 ▸ k h ((B.below d).next g b.2.1 b.2.2)
def Bx.fin{vn vk:B4}{a:Bz}(B:E1 (Bx w0 vt t w N vn vk a W))(e:a=T):Ending.returned (Ce #[])= A5 (Ce #[])/\Pr w0 vt T t W/\Kq w0.heap.size w W:=⟨rfl,e ▸ B.pr,B.kq⟩
section
variable (w0 : World) (vt : Value) (t : Nat)
abbrev WE(q:Nat)(a:Bz):Prop:=Wr w0 vt t 180 #[pW w0,A0 A2 (q:Int),A0 A2 0] a
abbrev WB(q:Nat)(a:Bz):Prop:=Wr w0 vt t 177 #[pW w0,A0 A2 (q:Int)] a
abbrev WD(q:Nat)(a:Bz):Prop:=Wr w0 vt t 181 #[pW w0,A0 A2 (q:Int)] a
abbrev WX(l:List Int)(b:Bz):Prop:=∀a,dz w0 a l->Wr w0 vt t 179 #[pW w0,a] b
abbrev WA(q:Nat)(a:Bz):Prop:=Wr w0 vt t 219 #[pW w0,A0 A2 (q:Int)] a
end
theorem add_add(a:Addr)(i j:Nat):(a.add i).add j=a.add (i+j):=by
 unfold Addr.add;grind
theorem dz.take{a:Option Addr}{n c:Nat}(h:dz W (B6 a n c) l)(k:Nat)(m:k<=Ax l):dz W (B6 a k c) (l.take k):=by
 rcases h with⟨rfl,b,e,d⟩|⟨b,e,d,g⟩
 .have:k=0:=U;subst this;exact .inl ⟨rfl,a,c,rfl⟩
 .cases d;by_cases f:k=0
  .subst f;exact .inl ⟨I,_,_,rfl⟩
  .refine .inr ⟨b,c,U,λi j o=>g i j ?_⟩;grind
theorem dz.drop{a:Addr}{n c b:Nat}(h:dz W (B6 (A3 a) n c) l)(k m:Nat)(o:k<=Ax l)(g:m=Ax l-k):dz W (B6 (A3 (a.add k)) m b) (l.drop k):=by
 subst g;rcases h with⟨rfl,e,f,d⟩|⟨e,f,d,j⟩
 .exact .inl ⟨I,A3 (a.add k),b,I⟩
 .cases d;refine .inr ⟨a.add k,b,U,λp q i=>?_⟩;rw[C1]at i;rw[add_add];grind
abbrev BuF(B b:Nat)(a:List B4)(w:Br):Prop:=Lib.IsBuilderF 261 5 B b a w
abbrev BuA(B b:Nat)(a:List B4)(w:Br):Prop:=Lib.BuilderAtF 261 5 B b (B1 (A3 ⟨b,0,A6⟩)) a w
def uJ(b:Nat)(w:Br)(g:w.cell? ⟨b,0,A6⟩=A3 (B1 A6))(d:w.shape? b=A3 (261,2))(h:w.frozen? ⟨b,0,A6⟩=B7):
  B5 Y 257 #[B1 (A3 ⟨b,0,A6⟩)] w λe w'=>e= A5 (Ce #[])/\w'=w.setCell ⟨b,0,A6⟩ (B1 (A3 ⟨b,0,A6⟩)):=by
 have⟨i,c,f⟩:=Option.map_eq_some_iff.1 ((J:(Tryz.prog.info? 261).map (·.size)=A3 2));have j:=Lib.run_to_unsafe (P:=Y) (w:=w) ⟨b,0,A6⟩ underlying259 underlying283 c (by rw[f];decide) d (Nat.zero_lt_succ 1);have k:=Lib.run_from_unsafe (P:=Y) (w:=w) ⟨b,0,A6⟩ underlying283 underlying259 c d J;have l:∀a,(callFunc 271 #[a]).run Y w= .ok (.value a) w:=λa=>by
  rw[ado func271 J J J (e:=Extern.AbiNoEscape.same) J,Lib.run_noEscape];rfl
 go_in;go_wp2;go_end0
 exact rr
def Eg(b:Nat)(w:Br)(c:w.cell? ⟨b,0,A6⟩=A3 (B1 (A3 ⟨b,0,A6⟩)))(f:w.shape? b=A3 (261,2)):
  B5 Y 257 #[B1 (A3 ⟨b,0,A6⟩)] w λe w'=>e= A5 (Ce #[])/\w'=w:=by
 have⟨g,a,d⟩:=Option.map_eq_some_iff.1 ((J:(Tryz.prog.info? 261).map (·.size)=A3 2));have h:=Lib.run_neq_ptr_same (P:=Y) w ⟨b,0,A6⟩ underlying259 a;go_in;go_wp2;go_end0
 exact rr
def Gj(B b:Nat)(a:List B4)(w:Br)(h:BuF B b a w):
  B5 Y 257 #[B1 (A3 ⟨b,0,A6⟩)] w λe w'=>e= A5 (Ce #[])/\BuA B b a w'/\B3 B w w':=by
 rcases h with h|h
 .apply(uJ b w h.cell0 h.shape h.frozen0).mono;rintro e w' ⟨rfl,rfl⟩;exact⟨rfl,h.used _,(ai B w).setCell (p:=⟨b,0,A6⟩) h.1 _⟩
 .apply(Eg b w h.cell0 h.shape).mono;rintro e w' ⟨rfl,rfl⟩;exact⟨rfl,h,ai B _⟩
def Cp(B b:Nat)(a:List B4)(s:Bz)(w:Br)(h:BuF B b a w)(al:Ax a+s.size<=140737488355328)(ak:B<=w.heap.size):
  B5 Y 236 #[B1 (A3 ⟨b,0,A6⟩),B0 s] w λe w'=>e= A5 (Ce #[A0 A2 s.size,G2])/\BuA B b (a++Lib.strCells s) w'/\B3 B w w':=by
 have⟨E,v,z,A,C⟩:=eC ((J:(Tryz.prog.info? 5).map (λi=>(i.zero,i.size,i.bytes))=A3 (A3 (A0 .u8 0),1,1)));go_in;go_wp2_with (go_at_call 257;apply(Gj B b a _ h).mono);rintro e w1 ⟨rfl,u,m⟩;obtain⟨l,j,f,o,y⟩:=u;have H:w1.cell? ⟨b,1,A6⟩=A3 j:=by rw[Lib.cell_of_heap f];rfl
 have am:=m.size;go_wp2_with (at_builtin;apply Lib.wpList_append_own_stringF _ rfl _ _ 22 9 rfl B 5 E underlying22 underlying9 v z A C _ _ _ rfl o s rfl py O O);intro G t q n _;have d:t.heap[b]?=A3 (D4 #[B1 (A3 ⟨b,0,A6⟩),j] 261 (0,0)):=by
  rw[n.block b (ah f) (λe=>y e.symm)];exact f
 have L:t.cell? ⟨b,1,A6⟩=A3 j:=by rw[Lib.cell_of_heap d];rfl
 have ad:=Lib.frozen_of_heap d 1;obtain⟨k,r,c,rfl⟩:∃k r c,G= B6 k r c:=by
  rcases q.2 with⟨g,_⟩|⟨ag,c,K,af,g,_⟩
  .exact⟨_,_,_,g⟩
  .exact⟨_,_,_,g⟩
 go_wp2;go_ret2;refine⟨rfl,?_,?_⟩
 .exact Lib.BuilderAtF.put (T:=261) (e:=5) l d (bs':=a++Lib.strCells s) (by simpa [Lib.strCells_length] using q) Z
 .exact(m.grown n O (λF x=>(o.lt F x).1)).setCell (p:=⟨b,1,A6⟩) l _
end Go.Proofs.YtiaechpcebhcdaaGreatDoor
namespace Go.Proofs
open Go.Shelf
def Tryz.lays170_ren:Go.Shelf.Ren:=⟨λ|170=>237|n=>n,λ|70=>259|3=>3|0=>0|72=>261|37=>22|5=>5|n=>n,λ|n=>n⟩
def Tryz.lays170:Go.Proofs.Lays.n170 Y Tryz.lays170_ren:={
 mixed:=by kernel_rfl
 f170:=Tryz.func237.trans (congrArg A3 (by kernel_rfl))
 t0:=underlying0
 a0:=isAgg0
 z0:=sizeOf0
 v0:=zeroValue0
 t3:=underlying3
 a3:=Fs
 z3:=E2
 v3:=zeroValue3
 t37:=underlying22
 a37:=isAgg22
 z37:=sizeOf22
 v37:=zeroValue22
 t70:=underlying259
 a70:=isAgg259
 z70:=sizeOf259
 v70:=zeroValue259
 t72:=underlying261
 a72:=isAgg261
 z72:=sizeOf261
 v72:=zeroValue261}
def Tryz.lays169_ren:Go.Shelf.Ren:=⟨λ|169=>238|n=>n,λ|70=>259|9=>9|0=>0|72=>261|37=>22|127=>266|3=>3|5=>5|n=>n,λ|n=>n⟩
def Tryz.lays169:Go.Proofs.Lays.n169 Y Tryz.lays169_ren:={
 mixed:=by kernel_rfl
 f169:=Tryz.func238.trans (congrArg A3 (by kernel_rfl))
 t0:=underlying0
 a0:=isAgg0
 z0:=sizeOf0
 v0:=zeroValue0
 t3:=underlying3
 a3:=Fs
 z3:=E2
 v3:=zeroValue3
 t9:=underlying9
 a9:=isAgg9
 z9:=sizeOf9
 v9:=zeroValue9
 t37:=underlying22
 a37:=isAgg22
 z37:=sizeOf22
 v37:=zeroValue22
 t70:=underlying259
 a70:=isAgg259
 z70:=sizeOf259
 v70:=zeroValue259
 t72:=underlying261
 a72:=isAgg261
 z72:=sizeOf261
 v72:=zeroValue261
 t127:=underlying266
 a127:=isAgg266
 z127:=sizeOf266
 v127:=zeroValue266}
def Tryz.Builder_Extra_169:Builder.Extra Y Tryz.lays169_ren:={
 sizeBuilder:=by kernel_rfl
 liesBuilder:=by kernel_rfl
 t5:=underlying5
 a5:=isAgg5
 z5:=sizeOf5
 v5:=zeroValue5
 infoByte:=by kernel_rfl
 cellsByte:=by kernel_rfl
 sizeByte:=by kernel_rfl
 neB5:=by decide}
def Tryz.lays241_ren:Go.Shelf.Ren:=⟨λ|241=>258|277=>272|n=>n,λ|70=>259|3=>3|0=>0|72=>261|37=>22|5=>5|n=>n,λ|n=>n⟩
def Tryz.lays241:Go.Proofs.Lays.n241 Y Tryz.lays241_ren:={
 mixed:=by kernel_rfl
 f241:=Tryz.func258.trans (congrArg A3 (by kernel_rfl))
 f277:=Tryz.func272.trans (congrArg A3 (by kernel_rfl))
 t0:=underlying0
 a0:=isAgg0
 z0:=sizeOf0
 v0:=zeroValue0
 t3:=underlying3
 a3:=Fs
 z3:=E2
 v3:=zeroValue3
 t37:=underlying22
 a37:=isAgg22
 z37:=sizeOf22
 v37:=zeroValue22
 t70:=underlying259
 a70:=isAgg259
 z70:=sizeOf259
 v70:=zeroValue259
 t72:=underlying261
 a72:=isAgg261
 z72:=sizeOf261
 v72:=zeroValue261}
def Tryz.Builder_Extra_241:Builder.Extra Y Tryz.lays241_ren:={
 sizeBuilder:=by kernel_rfl
 liesBuilder:=by kernel_rfl
 t5:=underlying5
 a5:=isAgg5
 z5:=sizeOf5
 v5:=zeroValue5
 infoByte:=by kernel_rfl
 cellsByte:=by kernel_rfl
 sizeByte:=by kernel_rfl
 neB5:=by decide}
open Go.RowKit in
def Tryz.Builder_grow_fresh(B b n:Nat)(w:Br)(a:B<=b)(d:w.heap[b]?=A3 (D4 #[B1 (A3 ⟨b,0,A6⟩),B6 A6 0 0] 261 (0,0)))(c:B<=w.heap.size)(hn:n<=281474976710656):
  B5 Y 258 #[B1 (A3 ⟨b,0,A6⟩),A0 A2 n] w λe w'=>e= A5 (Ce #[])/\(Lib.BuilderAt 261 5 B b (B1 (A3 ⟨b,0,A6⟩)) [] w'/\B3 B w w'):=Any.Builder_grow_fresh Tryz.lays241 Tryz.Builder_Extra_241 B b n w a d c hn
open Go.RowKit in
def Tryz.Builder_Len_f(B b:Nat)(a:List B4)(w:Br)(h:Lib.IsBuilderF 261 5 B b a w):
  B5 Y 237 #[B1 (A3 ⟨b,0,A6⟩)] w λe w'=>e= A5 (A0 A2 (Ax a))/\w'=w:=Any.Builder_Len_f Tryz.lays170 B b a w h
open Go.RowKit in
def Tryz.Builder_String_any_k(B b:Nat)(l:List UInt8)(w:Br)(h:Lib.IsBuilderF 261 5 B b (Lib.byteCells l) w)(a:B<=w.heap.size):
  B5 Y 238 #[B1 (A3 ⟨b,0,A6⟩)] w λe w'=>e= A5 (B0 ⟨l.toArray⟩)/\(Lib.IsBuilderF 261 5 B b (Lib.byteCells l) w'/\B3 B w w'/\Lib.OthersKept 5 (A3 b) w w'):=Any.Builder_String_any_k Tryz.lays169 Tryz.Builder_Extra_169 B b l w h a
end Go.Proofs
namespace Go.Proofs.YtiaechpcebhcdaaGreatDoor
open Go.RowKit Go.Maps Go.WideMaps
variable{N:Nd}{T:Bz}{W w w' w0:World}{l:List Int}{ns:List Nd}{t:Int}{vt:Value}
def ah0(B b n:Nat)(w:Br)(g:B<=b)(d:w.heap[b]?=A3 (D4 #[B1 A6,B6 A6 0 0] 261 (0,0)))(m:B<=w.heap.size)(hn:n<=281474976710656)(l:0<n):
  B5 Y 235 #[B1 (A3 ⟨b,0,A6⟩),A0 A2 n] w λe w'=>e= A5 (Ce #[])/\BuA B b [] w'/\B3 B w w':=by
 have f:(w.setCell ⟨b,0,A6⟩ (B1 (A3 ⟨b,0,A6⟩))).heap[b]?=A3 (D4 #[B1 (A3 ⟨b,0,A6⟩),B6 A6 0 0] 261 (0,0)):=aI _ b 0 _ _ _ d;have a:B3 B w (w.setCell ⟨b,0,A6⟩ (B1 (A3 ⟨b,0,A6⟩))):=(ai B w).setCell (p:=⟨b,0,A6⟩) g _;go_in;go_wp2_with (go_at_call 257;apply(uJ b w (by rw[Lib.cell_of_heap d];rfl) (by simp[World.shape?,d]) (Lib.frozen_of_heap d 0)).mono;rintro e w1 ⟨rfl,rfl⟩);generalize w.setCell ⟨b,0,A6⟩ (B1 (A3 ⟨b,0,A6⟩))=c at f a⊢;have h:c.cell? ⟨b,1,A6⟩=A3 (B6 A6 0 0):=by rw[Lib.cell_of_heap f];rfl
 have o:=a.size;go_region_held3 (λw'=>w'.cell? ⟨b,1,A6⟩=A3 (B6 A6 0 0)) (first|go_keep|exact h) (fail)
 go_wp2_with (go_at_call 258;apply(Tryz.Builder_grow_fresh B b n c.drew g f (by simpa using(O:B<=c.heap.size)) hn).mono;rintro e q ⟨rfl,i,j⟩);all_goals first
  |(rename_i k;rw[bJ]at k;omega)
  |skip
 go_end0
 exact⟨rfl,Lib.BuilderAtF.of i,(⟨a.os,a.tape,a.output,a.size,a.block⟩:B3 B w c.drew).trans j⟩
def Bu(B b:Nat)(T:Bz)(w:Br):Prop:=BuF B b (Lib.strCells T) w
def Gk(a b:Bz):Lib.strCells (a++b)=Lib.strCells a++Lib.strCells b:=by
 unfold Lib.strCells;rw[wD,adt,fy]
def Hb(B b:Nat)(T s:Bz)(w:Br)(h:Bu B b T w)(f:T.size+s.size<=140737488355328)(d:B<=w.heap.size):
  B5 Y 236 #[B1 (A3 ⟨b,0,A6⟩),B0 s] w λe w'=>e= A5 (Ce #[A0 A2 s.size,G2])/\Bu B b (T++s) w'/\B3 B w w':=by
 apply(Cp B b _ s w h (by rw[Lib.strCells_length];exact f) d).mono;rintro e w' ⟨rfl,a,c⟩;exact⟨rfl,.inr (by rw[Gk];exact a),c⟩
def ab8(B b:Nat)(T:Bz)(w:Br)(h:Bu B b T w)(d:B<=w.heap.size):
  B5 Y 238 #[B1 (A3 ⟨b,0,A6⟩)] w λe w'=>e= A5 (B0 T)/\Bu B b T w'/\B3 B w w':=by
 apply(Tryz.Builder_String_any_k B b T.data.toList w h d).mono;rintro e w' ⟨rfl,a,c,_⟩;exact⟨rfl,a,c⟩
def Bu.lt{B b:Nat}(h:Bu B b T w):b<w.heap.size:=by
 rcases h with⟨_,a,h,_⟩|⟨_,a,h,_⟩
 .exact ah h
 .exact ah h
def arF:Bz:=⟨#[116,97,114,103,101,116,32]⟩
def vL(q:Nat):Bz:=⟨(Ed [116,97,114,103,101,116,32] q).toArray⟩
def xr(q:Nat):(vL q).size=7*q:=by
 have a:(vL q).size=Ax (Ed [116,97,114,103,101,116,32] q):=by simp[vL,ByteArray.size]
 rw[a,Lib.repeatL_length];simp;omega
def LJ(a b:Nat):vL (a+b)=vL a++vL b:=by
 apply mq;rw[wD];show(Ed _ (a+b)).toArray=(Ed _ a).toArray++(Ed _ b).toArray;rw[Lib.repeatL_add];simp
def af1(q d:Nat)(h:d<=q):(vL q).extract 0 (7*d)=vL d:=by
 obtain⟨b,rfl⟩:=Nat.exists_eq_add_of_le h;rw[LJ];apply mq;rw[ByteArray.data_extract,wD];have a:(vL d).data.size=7*d:=xr d;rw[<-a];apply Array.ext';simp;apply dH;rw[mJ];exact ix _
def atr(ts:Array F0)(t:F0)(x a z c:Int)(W:Br)(h:(if z<(if a<x then a else x) then z else(if a<x then a else x))=c):
  (Builtin.min_ ts t #[A0 A2 x,A0 A2 a,A0 A2 z]).run Y W= .ok (A0 A2 c) W:=by
 rw[<-h];simp[Builtin.min_,Builtin.min2]
def LK(m:Nat)(w:Br)(hn:m+2<=200):
  B5 Y 204 #[B0 ⟨#[116,97,114,103,101,116,32]⟩,A0 A2 ((m+2:Nat):Int)] w λe w'=>e= A5 (B0 (vL (m+2)))/\B3 w.heap.size w w':=by
 have q:=Tryz.bits_Mul 7 (m+2) O O w;rw[Nat.div_eq_of_lt (by omega:7*(m+2)<18446744073709551616),Nat.mod_eq_of_lt (by omega:7*(m+2)<18446744073709551616)]at q;have⟨d,E⟩:=aw (7*(m+2));rw[E]at q;have l:=aj E;have a8:(d:Int)<=1400:=O;have a9:14<=d:=O;go_in;go_wp2_with (go_at_call 234;apply q.mono;rintro e w' ⟨rfl,rfl⟩);obtain⟨a,rfl⟩:∃a,a=w':=⟨_,rfl⟩;apply(ah0 a.heap.size a.heap.size d (a.alloc (D4 #[B1 A6,B6 A6 0 0] 261)) cJ (ay a _) I O O).mono;rintro e aL ⟨rfl,al,ao⟩;have av:B3 a.heap.size a (a.alloc (D4 #[B1 A6,B6 A6 0 0] 261)):=(ai _ a).alloc cJ _;have z:=av.trans ao;have F:=Hb a.heap.size a.heap.size ⟨#[]⟩ arF aL (.inr al) Z z.size;rw[show(⟨#[]⟩:Bz)++arF=vL 1 from rfl]at F;go_wp21
 apply F.mono;rintro e G ⟨rfl,ag,ap⟩;have ad:E1 (Bu a.heap.size a.heap.size (vL 1) G/\B3 a.heap.size a G):=⟨ag,(aj z).out.trans ap⟩;go_wp21
 go_loopg [] (m+1) (λB L=>∃b:Nat,1<=b/\b+B=m+2/\E1 (Bu a.heap.size a.heap.size (vL b) L/\B3 a.heap.size a L))
 case atStart=>exact⟨1,cJ,O,ad⟩
 case round=>
  obtain⟨b,a6,a7,g⟩:=hrel;have k:=Tryz.Builder_Len_f a.heap.size a.heap.size _ wr g.1;rw[Lib.strCells_length,xr]at k;have p:=ab8 a.heap.size a.heap.size _ wr g.1 g.2.size;have⟨f,r⟩:=aw (7*b);have i:=aj r;rw[r]at k;have⟨o,hS⟩:=aw (vL b);have n:=aj hS;have an:o.size=f:=by rw[<-hS,xr,r]
  rw[hS]at p;cases gk with
  |zero=>
   obtain rfl:b=m+2:=O;have am:¬((f:Int)<(d:Int)):=by have:=l.out;have:=i.out;omega
   go_wp2_with (first|(go_at_call 237;apply k.mono;rintro e a0 ⟨rfl,t⟩;rw[t])|(go_at_call 238;apply p.mono;rintro e H ⟨rfl,y,s⟩));go_ret;exact⟨by rw[n.out];rfl,g.2.trans s⟩
  |succ B=>
   have⟨c,a2⟩:=aw (min (m+2-b) b);have a3:1<=c:=O;have a4:b+c<=m+2:=O;have⟨h,C⟩:=aw (7*c);have am:(f:Int)<(d:Int):=by have:=l.out;have:=i.out;omega
   have a1:h<=f:=by have:=i.out;omega
   have a5:∀(v:Array F0)(u:F0)(j:Br),(Builtin.min_ v u #[A0 A2 ((d:Int)-(f:Int)),A0 A2 (f:Int),A0 A2 (d:Int)]).run Y j= .ok (A0 A2 (h:Int)) j:=λv u j=>atr v u _ _ _ _ j (by
    have:=l.out;have:=i.out;split<;>split<;>omega)
   have x:E1 (7*c=h/\o.extract 0 h=vL c):=⟨C,by rw[<-C,<-n.out];exact af1 b c O⟩;go_wp2_with (first|(go_at_call 237;apply k.mono;rintro e a0 ⟨rfl,t⟩;rw[t])|(go_at_call 238;apply p.mono;rintro e H ⟨rfl,y,s⟩));rw[x.out.2];have A:=g.2.trans s;apply(Hb a.heap.size a.heap.size o (vL c) H y (by rw[an,xr,x.out.1];omega) A.size).mono;rintro e K ⟨rfl,ak,ar⟩;have af:E1 (Bu a.heap.size a.heap.size (vL (b+c)) K/\B3 a.heap.size a K):=⟨by rw[LJ,n.out];exact ak,A.trans ar⟩;go_wp21
   go_roundg (m+2-(b+c))
   case measure=>omega
   case rel=>exact⟨b+c,O,O,af⟩
def ab9(n:Nat)(w:Br)(hn:n<=200):
  B5 Y 204 #[B0 ⟨#[116,97,114,103,101,116,32]⟩,A0 A2 (n:Int)] w λe w'=>e= A5 (B0 ⟨(Ed [116,97,114,103,101,116,32] n).toArray⟩)/\B3 w.heap.size w w':=by
 match n,hn with
 |0,_=>
  go_in;go_wp2;go_ret;exact⟨rfl,ai _ _⟩
 |1,_=>
  go_in;go_wp2;go_ret;exact⟨rfl,ai _ _⟩
 |m+2,hn=>exact LK m w hn
