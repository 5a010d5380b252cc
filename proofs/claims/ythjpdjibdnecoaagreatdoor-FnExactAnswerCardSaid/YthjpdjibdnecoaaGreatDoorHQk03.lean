import Derived.Test.YthjpdjibdnecoaaGreatDoorHQk02
set_option linter.all false
set_option maxRecDepth 100000
set_option maxHeartbeats 3200000
open Go.Value renaming string->M,int->N,tuple->A2,slice->A3,agg->A4
open Go.IntKind renaming i64->O
open Go.Proofs.Tryz renaming prog->Q
open Bool renaming false->R,true->U
open Go.Obj renaming cells->S
open Go.Ending renaming returned->T
open Option renaming some->W,none->X
open Go renaming Calls->Y,World->Ax,Value->A1
open Go.RowKit renaming Below->Z,intOf->A0
namespace Go.Proofs.YthjpdjibdnecoaaGreatDoor
open Go.RowKit
def Bo:Array A1:=#[M ⟨#[]⟩,M ⟨#[43]⟩,M ⟨#[45]⟩,M ⟨#[42]⟩,M ⟨#[47]⟩,M ⟨#[47,47]⟩,M ⟨#[37]⟩,M ⟨#[38]⟩,M ⟨#[124]⟩,M ⟨#[126]⟩,M ⟨#[60,60]⟩,M ⟨#[62,62]⟩,M ⟨#[46,46]⟩,M ⟨#[61,61]⟩,M ⟨#[126,61]⟩,M ⟨#[60]⟩,M ⟨#[60,61]⟩,M ⟨#[62]⟩,M ⟨#[62,61]⟩]
def iI:Array A1:=#[M ⟨#[40]⟩,M ⟨#[41]⟩,M ⟨#[123]⟩,M ⟨#[125]⟩,M ⟨#[91]⟩,M ⟨#[93]⟩,M ⟨#[44]⟩,M ⟨#[61]⟩,M ⟨#[46]⟩,M ⟨#[46,46,46]⟩,M ⟨#[35]⟩]
def iz:Array A1:=#[M ⟨#[46,46,46]⟩,M ⟨#[46,46]⟩,M ⟨#[46]⟩,M ⟨#[60,60]⟩,M ⟨#[60,61]⟩,M ⟨#[60]⟩,M ⟨#[62,62]⟩,M ⟨#[62,61]⟩,M ⟨#[62]⟩,M ⟨#[61,61]⟩,M ⟨#[61]⟩,M ⟨#[126,61]⟩,M ⟨#[126]⟩,M ⟨#[47,47]⟩,M ⟨#[47]⟩,M ⟨#[40]⟩,M ⟨#[41]⟩,M ⟨#[123]⟩,M ⟨#[125]⟩,M ⟨#[91]⟩,M ⟨#[93]⟩,M ⟨#[44]⟩,M ⟨#[59]⟩,M ⟨#[35]⟩,M ⟨#[43]⟩,M ⟨#[45]⟩,M ⟨#[42]⟩,M ⟨#[37]⟩,M ⟨#[38]⟩,M ⟨#[124]⟩]
theorem af1:(#[M ⟨#[]⟩,M ⟨#[43]⟩,M ⟨#[45]⟩,M ⟨#[42]⟩,M ⟨#[47]⟩,M ⟨#[47,47]⟩,M ⟨#[37]⟩,M ⟨#[38]⟩,M ⟨#[124]⟩,M ⟨#[126]⟩,M ⟨#[60,60]⟩,M ⟨#[62,62]⟩,M ⟨#[46,46]⟩,M ⟨#[61,61]⟩,M ⟨#[126,61]⟩,M ⟨#[60]⟩,M ⟨#[60,61]⟩,M ⟨#[62]⟩,M ⟨#[62,61]⟩]:Array A1)=Bo:=rfl
theorem af2:(#[M ⟨#[40]⟩,M ⟨#[41]⟩,M ⟨#[123]⟩,M ⟨#[125]⟩,M ⟨#[91]⟩,M ⟨#[93]⟩,M ⟨#[44]⟩,M ⟨#[61]⟩,M ⟨#[46]⟩,M ⟨#[46,46,46]⟩,M ⟨#[35]⟩]:Array A1)=iI:=rfl
def ci(V:Array A1)(k:Nat):ByteArray:=match V[k]? with|some (.string a)=>a|_=>ByteArray.empty
theorem aiv:∀k:Fin 19,Bo[k.val]?=W (M (ci Bo k.val)):=by
 intro ⟨k,a⟩;rcases(show k=0\/k=1\/k=2\/k=3\/k=4\/k=5\/k=6\/k=7\/k=8\/k=9\/k=10\/k=11\/k=12\/k=13\/k=14\/k=15\/k=16\/k=17\/k=18 by omega) with rfl|rfl|rfl|rfl|rfl|rfl|rfl|rfl|rfl|rfl|rfl|rfl|rfl|rfl|rfl|rfl|rfl|rfl|rfl;all_goals rfl
theorem acr:∀k:Fin 11,iI[k.val]?=W (M (ci iI k.val)):=by
 intro ⟨k,a⟩;rcases(show k=0\/k=1\/k=2\/k=3\/k=4\/k=5\/k=6\/k=7\/k=8\/k=9\/k=10 by omega) with rfl|rfl|rfl|rfl|rfl|rfl|rfl|rfl|rfl|rfl|rfl;all_goals rfl
theorem acs:∀k:Fin 30,iz[k.val]?=W (M (ci iz k.val)):=by
 intro ⟨k,a⟩;rcases(show k=0\/k=1\/k=2\/k=3\/k=4\/k=5\/k=6\/k=7\/k=8\/k=9\/k=10\/k=11\/k=12\/k=13\/k=14\/k=15\/k=16\/k=17\/k=18\/k=19\/k=20\/k=21\/k=22\/k=23\/k=24\/k=25\/k=26\/k=27\/k=28\/k=29 by omega) with rfl|rfl|rfl|rfl|rfl|rfl|rfl|rfl|rfl|rfl|rfl|rfl|rfl|rfl|rfl|rfl|rfl|rfl|rfl|rfl|rfl|rfl|rfl|rfl|rfl|rfl|rfl|rfl|rfl|rfl;all_goals rfl
theorem EE:∀k:Fin 22,ez[k.val]?=W (M (ci ez k.val)):=by
 intro ⟨k,a⟩;rcases(show k=0\/k=1\/k=2\/k=3\/k=4\/k=5\/k=6\/k=7\/k=8\/k=9\/k=10\/k=11\/k=12\/k=13\/k=14\/k=15\/k=16\/k=17\/k=18\/k=19\/k=20\/k=21 by omega) with rfl|rfl|rfl|rfl|rfl|rfl|rfl|rfl|rfl|rfl|rfl|rfl|rfl|rfl|rfl|rfl|rfl|rfl|rfl|rfl|rfl|rfl;all_goals rfl
def uE(V:Array A1)(s:ByteArray):Nat->Nat->Option Nat
 |0,_=>X
 |f+1,k=>if((ci V k).toList==s.toList)=U then W k else uE V s f (k+1)
def xo(s:ByteArray):Int:=match uE Bo s 18 1 with|some a=>60+(a:Int)|none=>(match uE iI s 11 0 with|some a=>40+(a:Int)|none=>5)
theorem ss(w:Ax):Y Q 151 #[] w fun e a=>e= T (A3 (W ⟨w.heap.size,0,X⟩) 22 22)/\a=w.alloc (S ez 9):=by
 go_in;go_wp2;go_ret;exact⟨rfl,rfl⟩
theorem zg(w:Ax):Y Q 93 #[] w fun e a=>e= T (A3 (W ⟨w.heap.size,0,X⟩) 30 30)/\a=w.alloc (S iz 9):=by
 go_in;go_wp2;go_ret;exact⟨rfl,rfl⟩
theorem vB(s:ByteArray)(w:Ax):Y Q 94 #[M s] w fun e C=>e= T (N O (xo s))/\Z w.heap.size w C:=by
 go_in;go_wp2_with fail;rw[af1];have t:=aj w (S Bo 9);have l:Z w.heap.size w (w.alloc (S Bo 9)):=(ag _ w).alloc (ae _) _;generalize w.alloc (S Bo 9)=i at t l⊢;obtain⟨v,q⟩:=ay (uE Bo s 18 1);have k:=aw q;clear q;go_loop [4] (fun d=>∃a:Nat,1<=a/\a<=19/\d= N O a/\Hid (uE Bo s (19-a) a=v)) (fun d=>19-(A0 d).toNat)
 case atStart=>exact⟨1,by omega,by omega,rfl,k⟩
 case round=>
  obtain⟨a,E,z,rfl,g⟩:=hrel;by_cases p:a<19
  ·have o:i.cell? ⟨w.heap.size,a,X⟩=W (M (ci Bo a)):=by rw[aq _ _ _ _ _ _ t];exact aiv ⟨a,p⟩
   have b:=g.out;rw[show 19-a=(19-(a+1))+1 by omega]at b;unfold uE at b;generalize ci Bo a=j at o b;by_cases c:(j.toList==s.toList)=U
   ·rw[ab c]at b;have f:=aw b;clear b;go_wp2;go_ret;refine⟨?_,l⟩;unfold xo;rw[k.out,<-f.out];rfl
   ·rw[aa c]at b;have f:=aw b;have B:(j.toList==s.toList)=R:=by simpa using c
    clear b c;go_wp2;go_round
    case rel=>exact⟨a+1,by omega,by omega,by go_num,f⟩
    case measure=>simp[A0];omega
  ·obtain rfl:a=19:=by omega
   have f:=aw g.out;go_wp2_with fail;rw[af2];have u:=aj i (S iI 9);have A:=l.size;have n:Z w.heap.size w (i.alloc (S iI 9)):=l.alloc A _;generalize i.alloc (S iI 9)=y at u n⊢;obtain⟨x,r⟩:=ay (uE iI s 11 0);have m:=aw r;clear r;go_loop [26] (fun d=>∃a:Nat,a<=11/\d= N O a/\Hid (uE iI s (11-a) a=x)) (fun d=>11-(A0 d).toNat)
   case atStart=>exact⟨0,by omega,rfl,m⟩
   case round=>
    obtain⟨a,z,rfl,g⟩:=hrel;by_cases p:a<11
    ·have o:y.cell? ⟨i.heap.size,a,X⟩=W (M (ci iI a)):=by rw[aq _ _ _ _ _ _ u];exact acr ⟨a,p⟩
     have b:=g.out;rw[show 11-a=(11-(a+1))+1 by omega]at b;unfold uE at b;generalize ci iI a=j at o b;by_cases c:(j.toList==s.toList)=U
     ·rw[ab c]at b;have h:=aw b;clear b;go_wp2;go_ret;refine⟨?_,n⟩;unfold xo;rw[k.out,<-f.out,m.out,<-h.out];rfl
     ·rw[aa c]at b;have h:=aw b;have B:(j.toList==s.toList)=R:=by simpa using c
      clear b c;go_wp2;go_round
      case rel=>exact⟨a+1,by omega,by go_num,h⟩
      case measure=>simp[A0];omega
    ·obtain rfl:a=11:=by omega
     have h:=aw g.out;go_wp2;go_ret;refine⟨?_,n⟩;unfold xo;rw[k.out,<-f.out,m.out,<-h.out];rfl
def ah7:ByteArray:=⟨#[59]⟩
def akv:ByteArray:=⟨#[10]⟩
def Jo:ByteArray:=⟨#[]⟩
def Jp(kind:Int):Nat->Nat->ByteArray
 |0,_=>Jo
 |f+1,k=>if xo (ci iz k)=kind then ci iz k else Jp kind f (k+1)
def vC(kind:Int):ByteArray:=if kind=5 then ah7 else if 10<=kind/\kind<32 then ci ez (kind-10).toNat else Jp kind 30 0
def lC:Array A1:=#[M ⟨#[43]⟩,M ⟨#[45]⟩,M ⟨#[42]⟩,M ⟨#[47]⟩,M ⟨#[47,47]⟩,M ⟨#[37]⟩,M ⟨#[38]⟩,M ⟨#[124]⟩,M ⟨#[126]⟩,M ⟨#[60,60]⟩,M ⟨#[62,62]⟩,M ⟨#[46,46]⟩,M ⟨#[61,61]⟩,M ⟨#[126,61]⟩,M ⟨#[60]⟩,M ⟨#[60,61]⟩,M ⟨#[62]⟩,M ⟨#[62,61]⟩]
theorem aiw:∀k:Fin 18,lC[k.val]?=W (M (ci lC k.val)):=by
 intro ⟨k,a⟩;rcases(show k=0\/k=1\/k=2\/k=3\/k=4\/k=5\/k=6\/k=7\/k=8\/k=9\/k=10\/k=11\/k=12\/k=13\/k=14\/k=15\/k=16\/k=17 by omega) with rfl|rfl|rfl|rfl|rfl|rfl|rfl|rfl|rfl|rfl|rfl|rfl|rfl|rfl|rfl|rfl|rfl|rfl;all_goals rfl
structure qo (w:Ax):Prop where
 word:∃tt fr,w.heap[3]?=W (.cells ez tt fr)
 mark:∃tt fr,w.heap[6]?=W (.cells iI tt fr)
 bin:∃tt fr,w.heap[7]?=W (.cells lC tt fr)
theorem qo.below{w f:Ax}{B:Nat}(h:qo w)(b:Z B w f)(a:w.heap.size<=B):qo f:=by
 obtain⟨⟨k,g,c⟩,⟨l,i,d⟩,⟨m,j,e⟩⟩:=h;exact⟨⟨k,g,(b.block _ (eF (ah c) a)).trans c⟩,⟨l,i,(b.block _ (eF (ah d) a)).trans d⟩,⟨m,j,(b.block _ (eF (ah e) a)).trans e⟩⟩
def gc(kind:Int):ByteArray:=if kind=5 then ah7 else if kind=7 then akv else if 10<=kind/\kind<=31 then ci ez (kind-10).toNat else if 40<=kind/\kind<=50 then ci iI (kind-40).toNat else if 61<=kind/\kind<=78 then ci lC (kind-61).toNat else Jo
theorem uF(kind:Int)(z: -9223372036854775808<=kind)(A:kind<=9223372036854775807)(w:Ax)(l:qo w):Y Q 172 #[N O kind] w fun e s=>e= T (M (gc kind))/\s=w:=by
 obtain⟨⟨B,t,r⟩,⟨C,u,q⟩,⟨E,v,m⟩⟩:=l;unfold gc;by_cases c:kind=5
 ·subst c;go_in;go_wp2;go_ret;exact⟨rfl,rfl⟩
 by_cases d:kind=7
 ·subst d;go_in;go_wp2;go_ret;exact⟨rfl,rfl⟩
 rw[aa c,aa d];have x:(kind==5)=R:=by simp[c]
 have y:(kind==7)=R:=by simp[d]
 by_cases b:10<=kind/\kind<=31
 ·rw[ab b];obtain⟨a,g⟩:∃a:Nat,kind=10+(a:Int):=⟨(kind-10).toNat,by omega⟩;subst g;rw[show((10+(a:Int))-10).toNat=a by omega];have p:a<22:=by omega
  have j:w.cell? ⟨3,a,X⟩=W (M (ci ez a)):=by rw[aq _ _ _ _ _ _ r];exact EE ⟨a,p⟩
  clear b c d;go_in;go_wp2;go_ret;exact⟨rfl,rfl⟩
 by_cases f:40<=kind/\kind<=50
 ·rw[aa b,ab f];obtain⟨a,g⟩:∃a:Nat,kind=40+(a:Int):=⟨(kind-40).toNat,by omega⟩;subst g;rw[show((40+(a:Int))-40).toNat=a by omega];have n:a<11:=by omega
  have j:w.cell? ⟨6,a,X⟩=W (M (ci iI a)):=by rw[aq _ _ _ _ _ _ q];exact acr ⟨a,n⟩
  clear b f c d;go_in;go_wp2;go_ret;exact⟨rfl,rfl⟩
 by_cases i:61<=kind/\kind<=78
 ·rw[aa b,aa f,ab i];obtain⟨a,g⟩:∃a:Nat,kind=61+(a:Int):=⟨(kind-61).toNat,by omega⟩;subst g;rw[show((61+(a:Int))-61).toNat=a by omega];have o:a<18:=by omega
  have j:w.cell? ⟨7,61+a-60-1,X⟩=W (M (ci lC a)):=by rw[show 61+a-60-1=a by omega,aq _ _ _ _ _ _ m];exact aiw ⟨a,o⟩
  clear b f i c d;go_in;go_wp2;go_ret;exact⟨rfl,rfl⟩
 rw[aa b,aa f,aa i];rcases(show kind<10\/(31<kind/\kind<40)\/(50<kind/\kind<=60)\/78<kind by omega) with h|⟨h,k⟩|⟨h,k⟩|h;all_goals
  clear b f i c d;go_in;go_wp2;go_ret;exact⟨rfl,rfl⟩
theorem Jq(kind:Int)(w:Ax):Y Q 154 #[N O kind] w fun e c=>e= T (M (vC kind))/\Z w.heap.size w c:=by
 unfold vC;by_cases p:kind=5
 ·subst p;go_in;go_wp2;go_ret;exact⟨rfl,ag _ _⟩
 rw[aa p];have al:(kind==5)=R:=by simp[p]
 by_cases A:10<=kind/\kind<32
 ·rw[ab A];obtain⟨a,y⟩:∃a:Nat,kind=10+(a:Int):=⟨(kind-10).toNat,by omega⟩;subst y;have H:a<22:=by omega
  have G:((10+(a:Int))-10).toNat=a:=by omega
  rw[G];have k:Z w.heap.size w (w.alloc (S ez 9)):=(ag _ w).alloc (ae _) _;have s:(w.alloc (S ez 9)).cell? ⟨w.heap.size,a,X⟩=W (M (ci ez a)):=by rw[aq _ _ _ _ _ _ (aj w _)];exact EE ⟨a,H⟩
  obtain⟨b,g⟩:∃b,b=w.alloc (S ez 9):=⟨_,rfl⟩;rw[<-g]at s k;have u:Y Q 151 #[] w fun e c=>e= T (A3 (W ⟨w.heap.size,0,X⟩) 22 22)/\b=c:=by rw[g];exact(ss w).mono fun e c f=>⟨f.1,f.2.symm⟩
  clear g;go_in;go_wp2_with (go_at_call 151;refine u.mono ?_;rintro e af ⟨rfl,rfl⟩);go_ret;exact⟨rfl,k⟩
 ·rw[aa A];obtain⟨b,g⟩:∃b,b=w.alloc (S ez 9):=⟨_,rfl⟩;have u:Y Q 151 #[] w fun e c=>e= T (A3 (W ⟨w.heap.size,0,X⟩) 22 22)/\b=c:=by rw[g];exact(ss w).mono fun e c f=>⟨f.1,f.2.symm⟩
  have k:Z w.heap.size w b:=by rw[g];exact(ag _ w).alloc (ae _) _
  clear g;obtain⟨h,m⟩:∃h,h=b.alloc (S iz 9):=⟨_,rfl⟩;have ad:Y Q 93 #[] b fun e c=>e= T (A3 (W ⟨b.heap.size,0,X⟩) 30 30)/\h=c:=by rw[m];exact(zg b).mono fun e c f=>⟨f.1,f.2.symm⟩
  have x:h.heap[b.heap.size]?=W (S iz 9 (0,0)):=by rw[m];exact aj b _
  have F:Z b.heap.size b h:=by rw[m];exact(ag _ b).alloc (ae _) _
  have an:b.heap.size<h.heap.size:=ah x;clear m;obtain⟨C,q⟩:=ay (Jp kind 30 0);rw[q];have B:=aw q;clear q;have K:=k.size;rcases(show ¬10<=kind\/(10<=kind/\¬kind<10+22) by omega) with E|⟨am,E⟩;all_goals
   go_in;go_wp2_with (first|(go_at_call 151;refine u.mono ?_;rintro e af ⟨rfl,rfl⟩)|(go_at_call 93;refine ad.mono ?_;rintro e ao ⟨rfl,rfl⟩));go_loopw [25] (fun t wr=>∃a:Nat,a<=30/\t= N O a/\Hid (Jp kind (30-a) a=C)/\wr.heap[b.heap.size]?=W (S iz 9 (0,0))/\Z w.heap.size w wr) (fun t _=>30-(A0 t).toNat)
   case atStart=>exact⟨0,by omega,rfl,B,x,k.trans (F.mono K)⟩
   case round=>
    obtain⟨a,y,rfl,v,r,o⟩:=hrel;have z:=o.size;by_cases J:a<30
    ·have s:wr.cell? ⟨b.heap.size,a,X⟩=W (M (ci iz a)):=by rw[aq _ _ _ _ _ _ r];exact acs ⟨a,J⟩
     have d:=v.out;rw[show 30-a=(30-(a+1))+1 by omega]at d;unfold Jp at d;have I:b.heap.size<wr.heap.size:=ah r;generalize ci iz a=l at s d;by_cases i:xo l=kind
     ·rw[ab i]at d;have j:=aw d;have L:(xo l==kind)=U:=by simp[i]
      clear d i;go_wp2_with (go_at_call 94;refine(vB l _).mono ?_;rintro e ak ⟨rfl,n⟩);go_ret;exact⟨by rw[<-j.out];rfl,o.trans (n.mono z)⟩
     ·rw[aa i]at d;have j:=aw d;have L:(xo l==kind)=R:=by simp[i]
      clear d i;go_wp2_with (go_at_call 94;refine(vB l _).mono ?_;rintro e ak ⟨rfl,n⟩);go_roundw
      case rel=>exact⟨a+1,by omega,by go_num,j,(n.block _ I).trans r,o.trans (n.mono z)⟩
      case measure=>simp[A0];omega
    ·obtain rfl:a=30:=by omega
     have j:=aw v.out;go_wp2;go_ret;exact⟨by rw[<-j.out];rfl,o⟩
open Go.Maps Go.WideMaps
theorem zh(c:Int)(w:Ax):Y Q 90 #[N .u8 c] w fun e d=>e= T (.bool (cu c))/\w=d:=by
 rcases(show c<48\/57<c\/(48<=c/\c<=57) by omega) with h|h|⟨f,b⟩
 ·have e:cu c=R:=by simp[cu];omega
  rw[e];clear e;have a:¬48<=c:=by omega
  go_in;go_wp2;go_ret;exact⟨rfl,rfl⟩
 ·have e:cu c=R:=by simp[cu];omega
  rw[e];clear e;have a:¬c<=57:=by omega
  have b:48<=c:=by omega
  go_in;go_wp2;go_ret;exact⟨rfl,rfl⟩
 ·have e:cu c=U:=by simp[cu];omega
  rw[e];clear e;go_in;go_wp2;go_ret;exact⟨rfl,rfl⟩
theorem nD(c:Int)(w:Ax):Y Q 88 #[N .u8 c] w fun e j=>e= T (.bool (cd c))/\w=j:=by
 rcases(show(97<=c/\c<=122)\/(65<=c/\c<=90)\/c=95\/c<65\/(90<c/\c<97/\c≠95)\/122<c by omega) with⟨f,g⟩|⟨f,g⟩|rfl|h|⟨f,g,l⟩|h
 ·have e:cd c=U:=by simp[cd];omega
  rw[e];clear e;go_in;go_wp2;go_ret;exact⟨rfl,rfl⟩
 ·have e:cd c=U:=by simp[cd];omega
  rw[e];clear e;have a:¬97<=c:=by omega
  go_in;go_wp2;go_ret;exact⟨rfl,rfl⟩
 ·go_in;go_wp2;go_ret;exact⟨rfl,rfl⟩
 ·have e:cd c=R:=by simp[cd];omega
  rw[e];clear e;have a:¬97<=c:=by omega
  have b:¬65<=c:=by omega
  have d:(c==95)=R:=by simp;omega
  go_in;go_wp2;go_ret;exact⟨rfl,rfl⟩
 ·have e:cd c=R:=by simp[cd];omega
  rw[e];clear e;have a:¬97<=c:=by omega
  have b:65<=c:=by omega
  have i:¬c<=90:=by omega
  have d:(c==95)=R:=by simp;omega
  go_in;go_wp2;go_ret;exact⟨rfl,rfl⟩
 ·have e:cd c=R:=by simp[cd];omega
  rw[e];clear e;have a:97<=c:=by omega
  have b:¬c<=122:=by omega
  have i:65<=c:=by omega
  have k:¬c<=90:=by omega
  have d:(c==95)=R:=by simp;omega
  go_in;go_wp2;go_ret;exact⟨rfl,rfl⟩
def lk(s:ByteArray)(p:Nat):Int:=if p<s.size then az s p else 0
theorem Lu(s:ByteArray)(p:Nat):0<=lk s p/\lk s p<256:=by
 unfold lk;split
 ·rename_i a;exact jo a
 ·omega
theorem af3(s:ByteArray)(p:Nat):cd (lk s p)=cd (az s p):=by
 unfold lk;split
 ·rfl
 ·rename_i a;rw[dE a];decide
theorem oy(s:ByteArray)(p:Nat):cu (lk s p)=cu (az s p):=by
 unfold lk;split
 ·rfl
 ·rename_i a;rw[dE a];decide
theorem Bp(s:ByteArray)(g:s.size<=1100000)(p:Nat)(w:Ax):Y Q 87 #[M s,N O p] w fun e c=>e= T (N .u8 (lk s p))/\w=c:=by
 unfold lk;by_cases a:p<s.size
 ·rw[ab a];have b:=fun w=>cD a w;generalize az s p=d at b;go_in;go_wp2;go_ret;exact⟨rfl,rfl⟩
 ·rw[aa a];have f:¬(p:Int)<(s.size:Int):=by omega
  go_in;go_wp2;go_ret;exact⟨rfl,rfl⟩
def mo(s:ByteArray):Nat->Nat->Nat
 |0,p=>p
 |f+1,p=>if cd (az s p)=U\/cu (az s p)=U then mo s f (p+1) else p
theorem Bq{s:ByteArray}{p:Nat}(h:¬p<s.size):¬(cd (az s p)=U\/cu (az s p)=U):=by
 rw[dE h];decide
theorem vD(s:ByteArray):∀(f p:Nat),p<=s.size->p<=mo s f p/\mo s f p<=s.size
 |0,p,h=>⟨ae _,h⟩
 |f+1,p,h=>by
  unfold mo;split
  ·rename_i a;have b:p<s.size:=by
    rcases co p s.size with h1|h1
    ·exact h1
    ·exact absurd a (Bq (by omega))
   have:=vD s f (p+1) (by omega);omega
  ·exact⟨ae _,h⟩
theorem zi(s:ByteArray)(C:s.size<=1100000)(p:Nat)(x:p<=s.size)(w:Ax):Y Q 205 #[M s,N O p] w fun e h=>e= T (N O (mo s (s.size+1) p))/\h=w:=by
 obtain⟨u,n⟩:=ay (mo s (s.size+1) p);rw[n];have t:=aw n;clear n;go_in;go_wp2_with fail;go_loop [1] (fun o=>∃(b c:Nat),b<=s.size/\s.size<b+c/\o= N O b/\Hid (mo s c b=u)) (fun o=>s.size-(A0 o).toNat)
 case atStart=>exact⟨p,s.size+1,x,by omega,rfl,t⟩
 case round=>
  obtain⟨b,c,B,A,rfl,r⟩:=hrel;obtain⟨c,rfl⟩:∃v,c=v+1:=⟨c-1,by omega⟩;have a:=r.out;unfold mo at a;by_cases q:b<s.size
  ·have y:=fun w=>cD q w;generalize az s b=f at y a;have j:=fun w=>kL f w;have l:=fun w=>ip f w;by_cases g:cd f=U
   ·rw[ab (.inl g)]at a;have d:=aw a;clear a;rw[g]at j;clear g;go_wp2_with (go_at_call 164;refine(j _).mono ?_;rintro e h ⟨rfl,rfl⟩);go_round
    case rel=>exact⟨b+1,c,by omega,by omega,by go_num,d⟩
    case measure=>simp[A0];omega
   ·have k:cd f=R:=by simpa using g
    rw[k]at j;by_cases i:cu f=U
    ·rw[ab (.inr i)]at a;have d:=aw a;clear a;rw[i]at l;clear g k i;go_wp2_with (first|(go_at_call 164;refine(j _).mono ?_;rintro e h ⟨rfl,rfl⟩)|(go_at_call 166;refine(l _).mono ?_;rintro e h ⟨rfl,rfl⟩));go_round
     case rel=>exact⟨b+1,c,by omega,by omega,by go_num,d⟩
     case measure=>simp[A0];omega
    ·have m:cu f=R:=by simpa using i
     rw[aa (by rw[k,m];simp)]at a;have d:=aw a;clear a;rw[m]at l;clear g k i m;go_wp2_with (first|(go_at_call 164;refine(j _).mono ?_;rintro e h ⟨rfl,rfl⟩)|(go_at_call 166;refine(l _).mono ?_;rintro e h ⟨rfl,rfl⟩));go_ret;exact⟨by rw[<-d.out];rfl,rfl⟩
  ·rw[aa (Bq q)]at a;have d:=aw a;clear a;have z:¬(b:Int)<(s.size:Int):=by omega
   go_wp2;go_ret;exact⟨by rw[<-d.out];rfl,rfl⟩
def rL(s:ByteArray):Bool:=(uE ez s 22 0).isSome
theorem vE(k:Nat):ci ez k=jB k:=rfl
theorem su(V:Array A1)(s:ByteArray):∀(f k j:Nat),uE V s f k=W j->k<=j/\j<k+f/\(ci V j).toList=s.toList
 |0,k,j,h=>by simp[uE]at h
 |f+1,k,j,h=>by
  unfold uE at h;split at h
  ·rename_i a;obtain rfl:=bu h;exact⟨ae _,by omega,by simpa using a⟩
  ·have:=su V s f (k+1) j h;exact⟨by omega,by omega,this.2.2⟩
theorem GF(V:Array A1)(s:ByteArray):∀(f k:Nat),uE V s f k=X->∀j,k<=j->j<k+f->(ci V j).toList≠s.toList
 |0,k,h=>fun j a b=>by omega
 |f+1,k,h=>fun j a b=>by
  unfold uE at h;split at h
  ·cases h
  ·rename_i c;rcases mi a with rfl|h3
   ·simpa using c
   ·exact GF V s f (k+1) h j h3 (by omega)
theorem Br{H:Type}:∀n,IsMap (yl (H:=H) n)
 |0=>isMap_empty
 |n+1=>(Br n).put _ _
theorem Lv{H:Type}(l:List UInt8):∀n,(∀j,j<n->(jB j).data.toList≠l)->Maps.has (yl (H:=H) n) (.string l)=R
 |0,_=>rfl
 |n+1,h=>by
  show Maps.has ((yl n).put _ _) _=R;rw[has_put_other (by intro e;exact h n (by omega) (by injection e with e;exact e.symm))];exact Lv l n fun j a=>h j (by omega)
theorem Lx{H:Type}(l:List UInt8)(j:Nat)(b:(jB j).data.toList=l):∀n,j<n->Maps.has (yl (H:=H) n) (.string l)=U
 |0,h=>by omega
 |n+1,h=>by
  show Maps.has ((yl n).put _ _) _=U;by_cases e:(jB n).data.toList=l
  ·rw[e];exact has_put_same (Br n) (by trivial) _
  ·rw[has_put_other (by intro a;injection a with a;exact e a.symm)];rcases mi (Nat.le_of_lt_succ h) with rfl|h3
   ·exact absurd b e
   ·exact Lx l j b n h3
theorem GG{H:Type}(s:ByteArray):Maps.has (yl (H:=H) 22) (.string s.data.toList)=rL s:=by
 unfold rL;cases h:uE ez s 22 0 with
 |none=>
  have:=GF ez s 22 0 h;exact Lv _ 22 fun d g c=>this d (aL _) (by omega) (by rw[vE,fj,fj];exact c)
 |some b=>
  obtain⟨e,f,a⟩:=su ez s 22 0 b h;rw[vE,fj,fj]at a;exact Lx _ b a 22 (by omega)
theorem af4:∀i j:Fin 22,i≠j->(jB i.val).data.toList≠(jB j.val).data.toList:=by decide+kernel
theorem Dq{H:Type}(j:Nat):∀n,n<=22->j<n->(yl (H:=H) n).atKey (.string (jB j).data.toList) (.lit (.int .i64 0))= .lit (.int .i64 (10+(j:Int)))
 |0,_,h=>by omega
 |n+1,c,h=>by
  show((yl n).put _ _).atKey _ _=_;by_cases e:n=j
  ·subst e;exact atKey_put_same (Br n) (by trivial) _ _
  ·rw[atKey_put_other (by intro a;injection a with a;exact af4 ⟨j,by omega⟩ ⟨n,by omega⟩ (by intro b;injection b with b;exact e b.symm) a)];exact Dq j n (by omega) (by omega)
theorem akw{H:Type}(k:Fin 22):(yl (H:=H) 22).atKey (.string (jB k.val).data.toList) (.lit (.int .i64 0))= .lit (.int .i64 (10+(k.val:Int))):=Dq k.val 22 (by omega) k.isLt
theorem af5{H:Type}(s:ByteArray)(k:Nat)(h:uE ez s 22 0=W k):(yl (H:=H) 22).atKey (.string s.data.toList) (.lit (.int .i64 0))= .lit (.int .i64 (10+(k:Int))):=by
 obtain⟨b,c,a⟩:=su ez s 22 0 k h;rw[vE,fj,fj]at a;rw[<-a];exact akw ⟨k,by omega⟩
theorem Jr{H:Type}(s:ByteArray)(u:s.size<=1100000)(b:Nat)(w:Ax)(x:w.ownsMap Q 9 (plainElem (H:=H) Q 3) b 22 (yl 22)):Y Q 241 #[.string s,.map (W b)] w fun e c=>e= .returned (.bool (decide (cd (az s 0)=U/\mo s (s.size+1) 0=s.size/\rL s=R)))/\c=w:=by
 have r:keyOf Q 9 (.string s)=W (.string s.data.toList):=keyOf_string_mk Tryz.underlying9 (by unfold maxLen;omega);by_cases m:0<s.size
 ·have v:(s.toList==[])=R:=by
   have:s.toList.length=s.size:=by rw[fj];simp
   cases hs:s.toList with
   |nil=>rw[hs]at this;simp at this;omega
   |cons z E=>rfl
  have y:∀w,(Instr.index 9 (.string s) (.int .i64 0)).run Q w= .ok (.int .u8 (az s 0)) w:=fun w=>cD m w;have f:=fun w=>kL (az s 0) w;have p:=vD s (s.size+1) 0 (by omega);have i:=fun w=>zi s u 0 (by omega) w;generalize az s 0=g at y f;generalize mo s (s.size+1) 0=h at i p;by_cases d:cd g=U
  ·rw[d]at f;by_cases n:h=s.size
   ·subst n;have t:¬(s.size:Int)<(s.size:Int):=by omega
    obtain⟨j,l⟩:=ay (rL s);have q:Maps.has (yl (H:=H) 22) (.string s.data.toList)=j:=by rw[GG,l]
    have a:decide (cd g=U/\s.size=s.size/\rL s=R)=!j:=by rw[d,l];cases j<;>simp
    rw[a];clear a l d;go_in;go_wp2_with (first|(go_at_call 164;refine(f _).mono ?_;rintro e c ⟨rfl,rfl⟩)|(go_at_call 205;refine(i _).mono ?_;rintro e c ⟨rfl,rfl⟩)|(at_lookup;refine wpList_lookup_own_ok_int _ rfl _ _ 147 rfl 9 3 .i64 af0 Tryz.underlying147 Tryz.underlying3 (by kernel_rfl) b 22 _ rfl x _ _ rfl r ?_;intro A B C;rw[q]));go_ret;exact⟨rfl,rfl⟩
   ·have t:(h:Int)<(s.size:Int):=by omega
    have a:decide (cd g=U/\h=s.size/\rL s=R)=R:=by simp[n]
    rw[a];clear a d;go_in;go_wp2_with (first|(go_at_call 164;refine(f _).mono ?_;rintro e c ⟨rfl,rfl⟩)|(go_at_call 205;refine(i _).mono ?_;rintro e c ⟨rfl,rfl⟩));go_ret;exact⟨rfl,rfl⟩
  ·have k:cd g=R:=by simpa using d
   rw[k]at f;have a:decide (cd g=U/\h=s.size/\rL s=R)=R:=by simp[k]
   rw[a];clear a d k;go_in;go_wp2_with (first|(go_at_call 164;refine(f _).mono ?_;rintro e c ⟨rfl,rfl⟩)|(go_at_call 205;refine(i _).mono ?_;rintro e c ⟨rfl,rfl⟩));go_ret;exact⟨rfl,rfl⟩
 ·have o:s.toList=[]:=by
   have:s.toList.length=s.size:=by rw[fj];simp
   exact List.length_eq_zero_iff.1 (by omega)
  have v:(s.toList==[])=U:=by rw[o];rfl
  have a:decide (cd (az s 0)=U/\mo s (s.size+1) 0=s.size/\rL s=R)=R:=by rw[dE m];simp[cd]
  rw[a];clear a o;go_in;go_wp2;go_ret;exact⟨rfl,rfl⟩
def wdT(s:ByteArray)(p:Nat):A1:=
 match uE ez (s.extract p (mo s (s.size+1) p)) 22 0 with
 |some a=> A4 #[N O (10+(a:Int)),N O p,N O (mo s (s.size+1) p),N O 0,N O 0,M ⟨#[]⟩]
 |none=> A4 #[N O 1,N O p,N O (mo s (s.size+1) p),N O 0,N O 0,M (s.extract p (mo s (s.size+1) p))]
theorem Js(s:ByteArray)(bt:s.size<=1100000)(p:Nat)(am:p<=s.size)(w:Ax):Y Q 89 #[M s,A4 #[N O 0,N O p,N O 0,N O 0,N O 0,M ⟨#[]⟩]] w fun e g=>e= T (A2 #[wdT s p,N O (-1)])/\Z w.heap.size w g:=by
 unfold wdT;obtain⟨L,I⟩:=ay (mo s (s.size+1) p);have bh:=vD s (s.size+1) p am;rw[I]at bh⊢;have ad:=aw I;clear I;obtain⟨bb,J⟩:=ay (uE ez (s.extract p L) 22 0);rw[J];have a8:=aw J;clear J;have B:dj w.heap.size ((w.alloc (S #[N O 0,N O p,N O 0,N O 0,N O 0,M ⟨#[]⟩] 96)).alloc (S #[N O 0,N O 0,N O 0,N O 0,N O 0,M ⟨#[]⟩] 96)) 0 p 0 0 0 ⟨#[]⟩:=(bm _ _ _ (by simp)).trans (aj w _);have C:dj (w.heap.size+1) ((w.alloc (S #[N O 0,N O p,N O 0,N O 0,N O 0,M ⟨#[]⟩] 96)).alloc (S #[N O 0,N O 0,N O 0,N O 0,N O 0,M ⟨#[]⟩] 96)) 0 0 0 0 0 ⟨#[]⟩:=by
  have:=aj (w.alloc (S #[N O 0,N O p,N O 0,N O 0,N O 0,M ⟨#[]⟩] 96)) (S #[N O 0,N O 0,N O 0,N O 0,N O 0,M ⟨#[]⟩] 96);rw[aF]at this;exact this
 have H:Z w.heap.size w ((w.alloc (S #[N O 0,N O p,N O 0,N O 0,N O 0,M ⟨#[]⟩] 96)).alloc (S #[N O 0,N O 0,N O 0,N O 0,N O 0,M ⟨#[]⟩] 96)):=(((ag _ w).alloc (ae _) _).alloc (by simp) _);go_in;go_wp2_with fail;generalize (w.alloc (S #[N O 0,N O p,N O 0,N O 0,N O 0,M ⟨#[]⟩] 96)).alloc (S #[N O 0,N O 0,N O 0,N O 0,N O 0,M ⟨#[]⟩] 96)=q at B C H;have bE:w.heap.size+1<q.heap.size:=ah C;go_loop [6] (fun k=>∃(b h:Nat),b<=s.size/\s.size<b+h/\k= N O b/\Hid (mo s h b=L)) (fun k=>s.size-(A0 k).toNat)
 case atStart=>exact⟨p,s.size+1,am,by omega,rfl,ad⟩
 case round=>
  obtain⟨b,h,bD,bx,rfl,n⟩:=hrel;obtain⟨h,rfl⟩:∃bl,h=bl+1:=⟨h-1,by omega⟩;have c:=n.out;unfold mo at c;have x:=fun w=>Bp s bt b w;have f:=fun w=>nD (lk s b) w;have j:=fun w=>zh (lk s b) w;have i:cd (az s b)=U\/cu (az s b)=U->b<s.size:=by
   intro bn;rcases co b s.size with h1|h1
   ·exact h1
   ·exact absurd bn (Bq (by omega))
  rw[af3]at f;rw[oy]at j;generalize lk s b=bw at x f j;generalize az s b=y at c f j i;by_cases h1:cd y=U
  ·rw[ab (.inl h1)]at c;have o:=aw c;have bs:=i (.inl h1);clear c i;rw[h1]at f;clear h1;go_wp2_with (first|(go_at_call 87;refine(x _).mono ?_;rintro e g ⟨rfl,rfl⟩)|(go_at_call 88;refine(f _).mono ?_;rintro e g ⟨rfl,rfl⟩));go_round
   case rel=>exact⟨b+1,h,by omega,by omega,by go_num,o⟩
   case measure=>simp[A0];omega
  ·have z:cd y=R:=by simpa using h1
   rw[z]at f;by_cases m:cu y=U
   ·rw[ab (.inr m)]at c;have o:=aw c;have bs:=i (.inr m);clear c i;rw[m]at j;clear h1 z m;go_wp2_with (first|(go_at_call 87;refine(x _).mono ?_;rintro e g ⟨rfl,rfl⟩)|(go_at_call 88;refine(f _).mono ?_;rintro e g ⟨rfl,rfl⟩)|(go_at_call 90;refine(j _).mono ?_;rintro e g ⟨rfl,rfl⟩));go_round
    case rel=>exact⟨b+1,h,by omega,by omega,by go_num,o⟩
    case measure=>simp[A0];omega
   ·have G:cu y=R:=by simpa using m
    rw[aa (by rw[z,G];simp)]at c;rw[G]at j;clear h1 z m G i n ad;subst c;obtain⟨an,ao,ap,ar,av,a0,a1⟩:=bf B;have t:=(B.setKind 1).setTo (b:Int);have E:=(C.other (a:=⟨w.heap.size,0,X⟩) (by simp) (N O 1)).other (a:=⟨w.heap.size,2,X⟩) (by simp) (N O (b:Int));have A:Z w.heap.size w ((q.setCell ⟨w.heap.size,0,X⟩ (N O 1)).setCell ⟨w.heap.size,2,X⟩ (N O (b:Int))):=(H.setCell (by simp) _).setCell (by simp) _;obtain⟨r,K⟩:=ay ((q.setCell ⟨w.heap.size,0,X⟩ (N O 1)).setCell ⟨w.heap.size,2,X⟩ (N O (b:Int)));have bk:((q.setCell ⟨w.heap.size,0,X⟩ (N O 1)).setCell ⟨w.heap.size,2,X⟩ (N O (b:Int))).cell? ⟨w.heap.size,1,X⟩=W (N O p):=(bf t).2.1;rw[K]at t E A;have a9:=aw K;clear K;go_wp2_with (first|(go_at_call 87;refine(x _).mono ?_;rintro e g ⟨rfl,rfl⟩)|(go_at_call 88;refine(f _).mono ?_;rintro e g ⟨rfl,rfl⟩)|(go_at_call 90;refine(j _).mono ?_;rintro e g ⟨rfl,rfl⟩));rw[show(q.setCell ⟨w.heap.size,0,X⟩ (N O 1)).setCell ⟨w.heap.size,2,X⟩ (N O (b:Int))=r from a9.out];refine(ss r).mono ?_;rintro e l ⟨rfl,u⟩;have ak:dj w.heap.size l 1 p b 0 0 ⟨#[]⟩:=by rw[u];exact(bm _ _ _ (ah t)).trans t
    have al:dj (w.heap.size+1) l 0 0 0 0 0 ⟨#[]⟩:=by rw[u];exact(bm _ _ _ (ah E)).trans E
    have af:Z w.heap.size w l:=by rw[u];exact A.alloc A.size _
    have bo:l.heap[r.heap.size]?=W (S ez 9 (0,0)):=by rw[u];exact aj r _
    clear u t E A B C H bk an ao ap ar av a0 a1 x f j;go_wp2_with fail;obtain⟨an,ao,ap,ar,av,a0,a1⟩:=bf ak;obtain⟨z0,a3,a4,a5,a6,a7,b3⟩:=bf al;have b1:w.heap.size<l.heap.size:=ah ak;have b2:w.heap.size+1<l.heap.size:=ah al;go_loop [34] (fun k=>∃d:Nat,d<=22/\k= N O d/\Hid (uE ez (s.extract p b) (22-d) d=bb)) (fun k=>22-(A0 k).toNat)
    case atStart=>exact⟨0,by omega,rfl,a8⟩
    case round=>
     obtain⟨d,bA,rfl,n⟩:=hrel;by_cases i:d<22
     ·have br:l.cell? ⟨r.heap.size,d,X⟩=W (M (ci ez d)):=by rw[aq _ _ _ _ _ _ bo];exact EE ⟨d,i⟩
      have c:=n.out;rw[show 22-d=(22-(d+1))+1 by omega]at c;unfold uE at c;generalize ci ez d=a2 at br c;by_cases F:(a2.toList==(s.extract p b).toList)=U
      ·rw[ab F]at c;subst c;go_wp2;refine ba (v:= A2 #[A4 #[N O (10+(d:Int)),N O p,N O b,N O 0,N O 0,M ⟨#[]⟩],N O (-1)]) (by simp[results,Tryz.results89,go_sem,z0,a3,a4,a5,a6,a7]) rfl ⟨rfl,?_⟩
       iterate 7 refine eH ?_ (by simp) _
       exact af
      ·rw[aa F]at c;have o:=aw c;have b0:(a2.toList==(s.extract p b).toList)=R:=by simpa using F
       clear c F;go_wp2;go_round
       case rel=>exact⟨d+1,by omega,by go_num,o⟩
       case measure=>simp[A0];omega
     ·obtain rfl:d=22:=by omega
      have c:=n.out;simp only[eB,uE]at c;subst c;go_wp2;refine ba (v:= A2 #[A4 #[N O 1,N O p,N O b,N O 0,N O 0,M (s.extract p b)],N O (-1)]) (by simp[results,Tryz.results89,go_sem,z0,a3,a4,a5,a6,a7]) rfl ⟨rfl,?_⟩
      iterate 7 refine eH ?_ (by simp) _
      exact af
theorem Jt{c:Int}(h:cd c=U):65<=c/\c<=122:=by simp[cd]at h;omega
theorem oh{c:Int}(h:cu c=U):48<=c/\c<=57:=by simpa [cu] using h
theorem act(s:ByteArray)(p:Nat):∃(k:Int) (x:ByteArray),wdT s p= A4 #[N O k,N O p,N O (mo s (s.size+1) p),N O 0,N O 0,M x]/\((k==1)=!(rL (s.extract p (mo s (s.size+1) p)))):=by
 unfold wdT rL;cases h:uE ez (s.extract p (mo s (s.size+1) p)) 22 0 with
 |none=>exact⟨1,_,rfl,rfl⟩
 |some k=>exact⟨10+(k:Int),_,rfl,by simp;omega⟩
theorem zj(s:ByteArray)(r:s.size<=1100000)(p:Nat)(k:p<s.size)(d:cd (az s p)=U)(w:Ax):Y Q 57 #[M s,N O p] w fun e m=>e= T (A2 #[wdT s p,N O (-1)])/\Z w.heap.size w m:=by
 have l:=fun w=>cD k w;have a:=fun w=>nD (az s p) w;have b:=fun w=>Js s r p (rg k) w;have t:=Jt d;rw[d]at a;generalize az s p=o at l a t;obtain⟨u,y,g,j⟩:=act s p;rw[g]at b⊢;generalize mo s (s.size+1) p=n at b j;have F:(o==10)=R:=by simp;omega
 clear d j g;have h:dj w.heap.size ((w.alloc (S #[N O 0,N O 0,N O 0,N O 0,N O 0,M ⟨#[]⟩] 96)).alloc (S #[N O 0,N O p,N O 0,N O 0,N O 0,M ⟨#[]⟩] 96)) 0 0 0 0 0 ⟨#[]⟩:=(bm _ _ _ (by simp)).trans (aj w _);have f:Z w.heap.size w ((w.alloc (S #[N O 0,N O 0,N O 0,N O 0,N O 0,M ⟨#[]⟩] 96)).alloc (S #[N O 0,N O p,N O 0,N O 0,N O 0,M ⟨#[]⟩] 96)):=(((ag _ w).alloc (ae _) _).alloc (by simp) _);go_in;go_wp2_with (first|(go_at_call 88;refine(a _).mono ?_;rintro e m ⟨rfl,rfl⟩));refine(b _).mono ?_;rintro e x ⟨rfl,c⟩;have i:=h.below c (by simp;omega);have q:=f.trans (c.mono (by simp;omega));clear c h f b a l;obtain⟨z0,z,A,B,C,E,H⟩:=bf i;have G:w.heap.size<x.heap.size:=ah i;go_wp2;refine ba (v:= A2 #[A4 #[N O u,N O p,N O n,N O 0,N O 0,M y],N O (-1)]) (by simp[results,Tryz.results57,go_sem,z0,z,A,B,C,E]) rfl ⟨rfl,?_⟩
 iterate 6 refine eH ?_ (by simp) _
 exact q
theorem zk(s:ByteArray):s.extract 0 s.size=s:=by
 simp
def oz(s:ByteArray):Bool:=decide (s.size<=40/\cd (az s 0)=U/\mo s (s.size+1) 0=s.size/\rL s=R)
theorem nE(s:ByteArray)(u:s.size<=1100000)(w:Ax):Y Q 119 #[M s] w fun e c=>e= T (.bool (oz s))/\Z w.heap.size w c:=by
 unfold oz;by_cases i:0<s.size
 ·have v:((s.size:Int)==0)=R:=by rw[aK];omega
  by_cases n:s.size<=40
  ·have x:¬(40:Int)<(s.size:Int):=by omega
   have r:∀w,(Instr.index 9 (M s) (N O 0)).run Q w= .ok (N .u8 (az s 0)) w:=fun w=>cD i w;have b:=fun w=>nD (az s 0) w;by_cases a:cd (az s 0)=U
   ·have g:∀w,Y Q 57 #[M s,N O 0] w fun e c=>e= T (A2 #[wdT s 0,N O (-1)])/\Z w.heap.size w c:=fun w=>zj s u 0 i a w;rw[a]at b;obtain⟨l,z,p,f⟩:=act s 0;rw[p]at g;generalize mo s (s.size+1) 0=h at g f;generalize az s 0=m at r b a;have q:decide (s.size<=40/\cd m=U/\h=s.size/\rL s=R)=((l==1)&&((h:Int)==(s.size:Int))):=by
     by_cases o:h=s.size
     ·subst o;rw[zk]at f;rw[f,a];simp[n]
     ·simp[o];intro _;omega
    rw[q];clear q f p a;by_cases j:l=1
    ·subst j;go_in;go_wp2_with (first|(go_at_call 88;refine(b _).mono ?_;rintro e c ⟨rfl,rfl⟩)|(go_at_call 57;refine(g _).mono ?_;rintro e y ⟨rfl,d⟩));go_ret;exact⟨by simp,d.alloc d.size _⟩
    ·have t:(l==1)=R:=by simp[j]
     clear j;go_in;go_wp2_with (first|(go_at_call 88;refine(b _).mono ?_;rintro e c ⟨rfl,rfl⟩)|(go_at_call 57;refine(g _).mono ?_;rintro e y ⟨rfl,d⟩));go_ret;exact⟨by simp[t],d.alloc d.size _⟩
   ·have k:cd (az s 0)=R:=by simpa using a
    rw[show decide (s.size<=40/\cd (az s 0)=U/\mo s (s.size+1) 0=s.size/\rL s=R)=R by simp[k]];rw[k]at b;clear a k;generalize az s 0=m at r b;go_in;go_wp2_with (first|(go_at_call 88;refine(b _).mono ?_;rintro e c ⟨rfl,rfl⟩));go_ret;exact⟨rfl,ag _ _⟩
  ·have x:(40:Int)<(s.size:Int):=by omega
   rw[show decide (s.size<=40/\cd (az s 0)=U/\mo s (s.size+1) 0=s.size/\rL s=R)=R by simp[n]];go_in;go_wp2;go_ret;exact⟨rfl,ag _ _⟩
 ·have v:((s.size:Int)==0)=U:=by rw[ix];omega
  rw[show decide (s.size<=40/\cd (az s 0)=U/\mo s (s.size+1) 0=s.size/\rL s=R)=R by rw[dE i];simp[cd]];go_in;go_wp2;go_ret;exact⟨rfl,ag _ _⟩
