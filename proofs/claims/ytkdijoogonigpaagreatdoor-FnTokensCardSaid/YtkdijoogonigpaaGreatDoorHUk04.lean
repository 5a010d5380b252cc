import Derived.Test.YtkdijoogonigpaaGreatDoorHUk03
set_option linter.all false
set_option maxRecDepth 100000
set_option maxHeartbeats 3200000
open Go.Value renaming int->M,string->O,tuple->A2,agg->Br,slice->B1
open Go.IntKind renaming i64->N
open Bool renaming false->Q,true->U
open Go.Proofs.Tryz renaming prog->R
open Go.Obj renaming cells->S
open Go.Ending renaming returned->T
open Option renaming some->W,none->X
open Go.RowKit renaming Below->Y,intOf->A0
open Go renaming Calls->Z,World->Ax,Value->B0
namespace Go.Proofs.YtkdijoogonigpaaGreatDoor
open Go.RowKit
def aca:ByteArray:=⟨#[59]⟩
def aeH:ByteArray:=⟨#[10]⟩
def iH:ByteArray:=⟨#[]⟩
def CK(a:Int):Nat->Nat->ByteArray
 |0,_=>iH
 |f+1,k=>if rb (bi ic k)=a then bi ic k else CK a f (k+1)
def px(a:Int):ByteArray:=if a=5 then aca else if 10<=a/\a<32 then bi cK (a-10).toNat else CK a 30 0
def gF:Array B0:=#[O ⟨#[43]⟩,O ⟨#[45]⟩,O ⟨#[42]⟩,O ⟨#[47]⟩,O ⟨#[47,47]⟩,O ⟨#[37]⟩,O ⟨#[38]⟩,O ⟨#[124]⟩,O ⟨#[126]⟩,O ⟨#[60,60]⟩,O ⟨#[62,62]⟩,O ⟨#[46,46]⟩,O ⟨#[61,61]⟩,O ⟨#[126,61]⟩,O ⟨#[60]⟩,O ⟨#[60,61]⟩,O ⟨#[62]⟩,O ⟨#[62,61]⟩]
theorem acL:∀k:Fin 18,gF[k.val]?=W (O (bi gF k.val)):=by
 intro ⟨k,a⟩;rcases(show k=0\/k=1\/k=2\/k=3\/k=4\/k=5\/k=6\/k=7\/k=8\/k=9\/k=10\/k=11\/k=12\/k=13\/k=14\/k=15\/k=16\/k=17 by omega) with rfl|rfl|rfl|rfl|rfl|rfl|rfl|rfl|rfl|rfl|rfl|rfl|rfl|rfl|rfl|rfl|rfl|rfl;all_goals rfl
structure py (w:Ax):Prop where
 word:∃tt fr,w.heap[0]?=W (.cells cK tt fr)
 mark:∃tt fr,w.heap[1]?=W (.cells fl tt fr)
 bin:∃tt fr,w.heap[2]?=W (.cells gF tt fr)
theorem py.below{w g:Ax}{c:Nat}(k:py w)(b:Y c w g)(a:w.heap.size<=c):py g:=by
 obtain⟨⟨l,h,d⟩,⟨m,i,e⟩,⟨n,j,f⟩⟩:=k;exact⟨⟨l,h,(b.block _ (eI (au d) a)).trans d⟩,⟨m,i,(b.block _ (eI (au e) a)).trans e⟩,⟨n,j,(b.block _ (eI (au f) a)).trans f⟩⟩
def dh(a:Int):ByteArray:=if a=5 then aca else if a=7 then aeH else if 10<=a/\a<=31 then bi cK (a-10).toNat else if 40<=a/\a<=50 then bi fl (a-40).toNat else if 61<=a/\a<=78 then bi gF (a-61).toNat else iH
theorem pC(b:Int)(A: -9223372036854775808<=b)(B:b<=9223372036854775807)(w:Ax)(m:py w):Z R 22 #[M N b] w fun e t=>e= T (O (dh b))/\t=w:=by
 obtain⟨⟨C,u,s⟩,⟨E,v,r⟩,⟨F,x,n⟩⟩:=m;unfold dh;by_cases d:b=5
 ·subst d;go_in;go_wp2;go_ret;exact⟨rfl,rfl⟩
 by_cases f:b=7
 ·subst f;go_in;go_wp2;go_ret;exact⟨rfl,rfl⟩
 rw[aa d,aa f];have y:(b==5)=Q:=by simp[d]
 have z:(b==7)=Q:=by simp[f]
 by_cases c:10<=b/\b<=31
 ·rw[ab c];obtain⟨a,i⟩:∃a:Nat,b=10+(a:Int):=⟨(b-10).toNat,by omega⟩;subst i;rw[show((10+(a:Int))-10).toNat=a by omega];have q:a<22:=by omega
  have k:w.cell? ⟨0,a,X⟩=W (O (bi cK a)):=by rw[ay _ _ _ _ _ _ s];exact uh ⟨a,q⟩
  clear c d f;go_in;go_wp2;go_ret;exact⟨rfl,rfl⟩
 by_cases g:40<=b/\b<=50
 ·rw[aa c,ab g];obtain⟨a,i⟩:∃a:Nat,b=40+(a:Int):=⟨(b-40).toNat,by omega⟩;subst i;rw[show((40+(a:Int))-40).toNat=a by omega];have o:a<11:=by omega
  have k:w.cell? ⟨1,a,X⟩=W (O (bi fl a)):=by rw[ay _ _ _ _ _ _ r];exact H0 ⟨a,o⟩
  clear c g d f;go_in;go_wp2;go_ret;exact⟨rfl,rfl⟩
 by_cases j:61<=b/\b<=78
 ·rw[aa c,aa g,ab j];obtain⟨a,i⟩:∃a:Nat,b=61+(a:Int):=⟨(b-61).toNat,by omega⟩;subst i;rw[show((61+(a:Int))-61).toNat=a by omega];have p:a<18:=by omega
  have k:w.cell? ⟨2,61+a-60-1,X⟩=W (O (bi gF a)):=by rw[show 61+a-60-1=a by omega,ay _ _ _ _ _ _ n];exact acL ⟨a,p⟩
  clear c g j d f;go_in;go_wp2;go_ret;exact⟨rfl,rfl⟩
 rw[aa c,aa g,aa j];rcases(show b<10\/(31<b/\b<40)\/(50<b/\b<=60)\/78<b by omega) with h|⟨h,l⟩|⟨h,l⟩|h;all_goals
  clear c g j d f;go_in;go_wp2;go_ret;exact⟨rfl,rfl⟩
theorem pL(c:Int)(w:Ax):Z R 27 #[M N c] w fun e d=>e= T (O (px c))/\Y w.heap.size w d:=by
 unfold px;by_cases q:c=5
 ·subst q;go_in;go_wp2;go_ret;exact⟨rfl,aq _ _⟩
 rw[aa q];have am:(c==5)=Q:=by simp[q]
 by_cases B:10<=c/\c<32
 ·rw[ab B];obtain⟨a,z⟩:∃a:Nat,c=10+(a:Int):=⟨(c-10).toNat,by omega⟩;subst z;have I:a<22:=by omega
  have H:((10+(a:Int))-10).toNat=a:=by omega
  rw[H];have l:Y w.heap.size w (w.alloc (S cK 9)):=(aq _ w).alloc (ag _) _;have t:(w.alloc (S cK 9)).cell? ⟨w.heap.size,a,X⟩=W (O (bi cK a)):=by rw[ay _ _ _ _ _ _ (ax w _)];exact uh ⟨a,I⟩
  obtain⟨b,h⟩:∃b,b=w.alloc (S cK 9):=⟨_,rfl⟩;rw[<-h]at t l;have v:Z R 36 #[] w fun e d=>e= T (B1 (W ⟨w.heap.size,0,X⟩) 22 22)/\b=d:=by rw[h];exact(lI w).mono fun e d g=>⟨g.1,g.2.symm⟩
  clear h;go_in;go_wp2_with (go_at_call 36;refine v.mono ?_;rintro e w1 ⟨rfl,rfl⟩);go_ret;exact⟨rfl,l⟩
 ·rw[aa B];obtain⟨b,h⟩:∃b,b=w.alloc (S cK 9):=⟨_,rfl⟩;have v:Z R 36 #[] w fun e d=>e= T (B1 (W ⟨w.heap.size,0,X⟩) 22 22)/\b=d:=by rw[h];exact(lI w).mono fun e d g=>⟨g.1,g.2.symm⟩
  have l:Y w.heap.size w b:=by rw[h];exact(aq _ w).alloc (ag _) _
  clear h;obtain⟨i,n⟩:∃i,i=b.alloc (S ic 9):=⟨_,rfl⟩;have ak:Z R 37 #[] b fun e d=>e= T (B1 (W ⟨b.heap.size,0,X⟩) 30 30)/\i=d:=by rw[n];exact(ob b).mono fun e d g=>⟨g.1,g.2.symm⟩
  have y:i.heap[b.heap.size]?=W (S ic 9 (0,0)):=by rw[n];exact ax b _
  have G:Y b.heap.size b i:=by rw[n];exact(aq _ b).alloc (ag _) _
  have ap:b.heap.size<i.heap.size:=au y;clear n;obtain⟨E,r⟩:=aD (CK c 30 0);rw[r];have C:=ar r;clear r;have L:=l.size;rcases(show ¬10<=c\/(10<=c/\¬c<10+22) by omega) with F|⟨an,F⟩;all_goals
   go_in;go_wp2_with (first|(go_at_call 36;refine v.mono ?_;rintro e w1 ⟨rfl,rfl⟩)|(go_at_call 37;refine ak.mono ?_;rintro e av ⟨rfl,rfl⟩));go_loopw [25] (fun u wr=>∃a:Nat,a<=30/\u= M N a/\Hid (CK c (30-a) a=E)/\wr.heap[b.heap.size]?=W (S ic 9 (0,0))/\Y w.heap.size w wr) (fun u _=>30-(A0 u).toNat)
   case atStart=>exact⟨0,by omega,rfl,C,y,l.trans (G.mono L)⟩
   case round=>
    obtain⟨a,z,rfl,x,s,p⟩:=hrel;have A:=p.size;by_cases K:a<30
    ·have t:wr.cell? ⟨b.heap.size,a,X⟩=W (O (bi ic a)):=by rw[ay _ _ _ _ _ _ s];exact CJ ⟨a,K⟩
     have f:=x.out;rw[show 30-a=(30-(a+1))+1 by omega]at f;unfold CK at f;have J:b.heap.size<wr.heap.size:=au s;generalize bi ic a=m at t f;by_cases j:rb m=c
     ·rw[ab j]at f;have k:=ar f;have af:(rb m==c)=U:=by simp[j]
      clear f j;go_wp2_with (go_at_call 47;refine(pK m _).mono ?_;rintro e al ⟨rfl,o⟩);go_ret;exact⟨by rw[<-k.out];rfl,p.trans (o.mono A)⟩
     ·rw[aa j]at f;have k:=ar f;have af:(rb m==c)=Q:=by simp[j]
      clear f j;go_wp2_with (go_at_call 47;refine(pK m _).mono ?_;rintro e al ⟨rfl,o⟩);go_roundw
      case rel=>exact⟨a+1,by omega,by go_num,k,(o.block _ J).trans s,p.trans (o.mono A)⟩
      case measure=>simp[A0];omega
    ·obtain rfl:a=30:=by omega
     have k:=ar x.out;go_wp2;go_ret;exact⟨by rw[<-k.out];rfl,p⟩
open Go.Maps Go.WideMaps
theorem tm(c:Int)(w:Ax):Z R 44 #[M .u8 c] w fun e d=>e= T (.bool (aL c))/\w=d:=by
 rcases(show c<48\/57<c\/(48<=c/\c<=57) by omega) with h|h|⟨f,b⟩
 ·have e:aL c=Q:=by simp[aL];omega
  rw[e];clear e;have a:¬48<=c:=by omega
  go_in;go_wp2;go_ret;exact⟨rfl,rfl⟩
 ·have e:aL c=Q:=by simp[aL];omega
  rw[e];clear e;have a:¬c<=57:=by omega
  have b:48<=c:=by omega
  go_in;go_wp2;go_ret;exact⟨rfl,rfl⟩
 ·have e:aL c=U:=by simp[aL];omega
  rw[e];clear e;go_in;go_wp2;go_ret;exact⟨rfl,rfl⟩
theorem ko(c:Int)(w:Ax):Z R 42 #[M .u8 c] w fun e j=>e= T (.bool (bc c))/\w=j:=by
 rcases(show(97<=c/\c<=122)\/(65<=c/\c<=90)\/c=95\/c<65\/(90<c/\c<97/\c≠95)\/122<c by omega) with⟨f,g⟩|⟨f,g⟩|rfl|h|⟨f,g,l⟩|h
 ·have e:bc c=U:=by simp[bc];omega
  rw[e];clear e;go_in;go_wp2;go_ret;exact⟨rfl,rfl⟩
 ·have e:bc c=U:=by simp[bc];omega
  rw[e];clear e;have a:¬97<=c:=by omega
  go_in;go_wp2;go_ret;exact⟨rfl,rfl⟩
 ·go_in;go_wp2;go_ret;exact⟨rfl,rfl⟩
 ·have e:bc c=Q:=by simp[bc];omega
  rw[e];clear e;have a:¬97<=c:=by omega
  have b:¬65<=c:=by omega
  have d:(c==95)=Q:=by simp;omega
  go_in;go_wp2;go_ret;exact⟨rfl,rfl⟩
 ·have e:bc c=Q:=by simp[bc];omega
  rw[e];clear e;have a:¬97<=c:=by omega
  have b:65<=c:=by omega
  have i:¬c<=90:=by omega
  have d:(c==95)=Q:=by simp;omega
  go_in;go_wp2;go_ret;exact⟨rfl,rfl⟩
 ·have e:bc c=Q:=by simp[bc];omega
  rw[e];clear e;have a:97<=c:=by omega
  have b:¬c<=122:=by omega
  have i:65<=c:=by omega
  have k:¬c<=90:=by omega
  have d:(c==95)=Q:=by simp;omega
  go_in;go_wp2;go_ret;exact⟨rfl,rfl⟩
def lk(s:ByteArray)(p:Nat):Int:=if p<s.size then ao s p else 0
theorem EG(s:ByteArray)(p:Nat):0<=lk s p/\lk s p<256:=by
 unfold lk;split
 ·rename_i a;exact fG a
 ·omega
theorem aal(s:ByteArray)(p:Nat):bc (lk s p)=bc (ao s p):=by
 unfold lk;split
 ·rfl
 ·rename_i a;rw[ci a];decide
theorem ld(s:ByteArray)(p:Nat):aL (lk s p)=aL (ao s p):=by
 unfold lk;split
 ·rfl
 ·rename_i a;rw[ci a];decide
theorem uC(s:ByteArray)(g:s.size<=1100000)(p:Nat)(w:Ax):Z R 41 #[O s,M N p] w fun e c=>e= T (M .u8 (lk s p))/\w=c:=by
 unfold lk;by_cases a:p<s.size
 ·rw[ab a];have b:=fun w=>ch a w;generalize ao s p=d at b;go_in;go_wp2;go_ret;exact⟨rfl,rfl⟩
 ·rw[aa a];have f:¬(p:Int)<(s.size:Int):=by omega
  go_in;go_wp2;go_ret;exact⟨rfl,rfl⟩
def jy(s:ByteArray):Nat->Nat->Nat
 |0,p=>p
 |f+1,p=>if bc (ao s p)=U\/aL (ao s p)=U then jy s f (p+1) else p
theorem zh{s:ByteArray}{p:Nat}(a:¬p<s.size):¬(bc (ao s p)=U\/aL (ao s p)=U):=by
 rw[ci a];decide
theorem qa(s:ByteArray):∀(f p:Nat),p<=s.size->p<=jy s f p/\jy s f p<=s.size
 |0,p,a=>⟨ag _,a⟩
 |f+1,p,a=>by
  unfold jy;split
  ·rename_i b;have c:p<s.size:=by
    rcases be p s.size with h1|h1
    ·exact h1
    ·exact absurd b (zh (by omega))
   have:=qa s f (p+1) (by omega);omega
  ·exact⟨ag _,a⟩
theorem tq(s:ByteArray)(C:s.size<=1100000)(p:Nat)(x:p<=s.size)(w:Ax):Z R 49 #[O s,M N p] w fun e h=>e= T (M N (jy s (s.size+1) p))/\h=w:=by
 obtain⟨u,n⟩:=aD (jy s (s.size+1) p);rw[n];have t:=ar n;clear n;go_in;go_wp2_with fail;go_loop [1] (fun o=>∃(b c:Nat),b<=s.size/\s.size<b+c/\o= M N b/\Hid (jy s c b=u)) (fun o=>s.size-(A0 o).toNat)
 case atStart=>exact⟨p,s.size+1,x,by omega,rfl,t⟩
 case round=>
  obtain⟨b,c,B,A,rfl,r⟩:=hrel;obtain⟨c,rfl⟩:∃v,c=v+1:=⟨c-1,by omega⟩;have a:=r.out;unfold jy at a;by_cases q:b<s.size
  ·have y:=fun w=>ch q w;generalize ao s b=f at y a;have j:=fun w=>jL f w;have l:=fun w=>gh f w;by_cases g:bc f=U
   ·rw[ab (.inl g)]at a;have d:=ar a;clear a;rw[g]at j;clear g;go_wp2_with (go_at_call 48;refine(j _).mono ?_;rintro e h ⟨rfl,rfl⟩);go_round
    case rel=>exact⟨b+1,c,by omega,by omega,by go_num,d⟩
    case measure=>simp[A0];omega
   ·have k:bc f=Q:=by simpa using g
    rw[k]at j;by_cases i:aL f=U
    ·rw[ab (.inr i)]at a;have d:=ar a;clear a;rw[i]at l;clear g k i;go_wp2_with (first|(go_at_call 48;refine(j _).mono ?_;rintro e h ⟨rfl,rfl⟩)|(go_at_call 53;refine(l _).mono ?_;rintro e h ⟨rfl,rfl⟩));go_round
     case rel=>exact⟨b+1,c,by omega,by omega,by go_num,d⟩
     case measure=>simp[A0];omega
    ·have m:aL f=Q:=by simpa using i
     rw[aa (by rw[k,m];simp)]at a;have d:=ar a;clear a;rw[m]at l;clear g k i m;go_wp2_with (first|(go_at_call 48;refine(j _).mono ?_;rintro e h ⟨rfl,rfl⟩)|(go_at_call 53;refine(l _).mono ?_;rintro e h ⟨rfl,rfl⟩));go_ret;exact⟨by rw[<-d.out];rfl,rfl⟩
  ·rw[aa (zh q)]at a;have d:=ar a;clear a;have z:¬(b:Int)<(s.size:Int):=by omega
   go_wp2;go_ret;exact⟨by rw[<-d.out];rfl,rfl⟩
def nG(s:ByteArray):Bool:=(oa cK s 22 0).isSome
theorem qc(k:Nat):bi cK k=ib k:=rfl
theorem js(V:Array B0)(s:ByteArray):∀(f k j:Nat),oa V s f k=W j->k<=j/\j<k+f/\(bi V j).toList=s.toList
 |0,k,j,a=>by simp[oa]at a
 |f+1,k,j,a=>by
  unfold oa at a;split at a
  ·rename_i b;obtain rfl:=dr a;exact⟨ag _,by omega,by simpa using b⟩
  ·have:=js V s f (k+1) j a;exact⟨by omega,by omega,this.2.2⟩
theorem A4(V:Array B0)(s:ByteArray):∀(f k:Nat),oa V s f k=X->∀j,k<=j->j<k+f->(bi V j).toList≠s.toList
 |0,k,a=>fun j b c=>by omega
 |f+1,k,a=>fun j b c=>by
  unfold oa at a;split at a
  ·cases a
  ·rename_i d;rcases gI b with rfl|h3
   ·simpa using d
   ·exact A4 V s f (k+1) a j h3 (by omega)
theorem uD{H:Type}:∀n,IsMap (wkD (H:=H) n)
 |0=>isMap_empty
 |n+1=>(uD n).put _ _
theorem EH{H:Type}(l:List UInt8):∀n,(∀j,j<n->(ib j).data.toList≠l)->Maps.has (wkD (H:=H) n) (.string l)=Q
 |0,_=>rfl
 |n+1,a=>by
  show Maps.has ((wkD n).put _ _) _=Q;rw[has_put_other (by intro e;exact a n (by omega) (by injection e with e;exact e.symm))];exact EH l n fun j b=>a j (by omega)
theorem EI{H:Type}(l:List UInt8)(j:Nat)(c:(ib j).data.toList=l):∀n,j<n->Maps.has (wkD (H:=H) n) (.string l)=U
 |0,b=>by omega
 |n+1,b=>by
  show Maps.has ((wkD n).put _ _) _=U;by_cases e:(ib n).data.toList=l
  ·rw[e];exact has_put_same (uD n) (by trivial) _
  ·rw[has_put_other (by intro a;injection a with a;exact e a.symm)];rcases gI (Nat.le_of_lt_succ b) with rfl|h3
   ·exact absurd c e
   ·exact EI l j c n h3
theorem A5{H:Type}(s:ByteArray):Maps.has (wkD (H:=H) 22) (.string s.data.toList)=nG s:=by
 unfold nG;cases h:oa cK s 22 0 with
 |none=>
  have:=A4 cK s 22 0 h;exact EH _ 22 fun d g c=>this d (aG _) (by omega) (by rw[qc,eo,eo];exact c)
 |some b=>
  obtain⟨e,f,a⟩:=js cK s 22 0 b h;rw[qc,eo,eo]at a;exact EI _ b a 22 (by omega)
theorem aam:∀i j:Fin 22,i≠j->(ib i.val).data.toList≠(ib j.val).data.toList:=by decide+kernel
theorem xA{H:Type}(j:Nat):∀n,n<=22->j<n->(wkD (H:=H) n).atKey (.string (ib j).data.toList) (.lit (.int .i64 0))= .lit (.int .i64 (10+(j:Int)))
 |0,_,c=>by omega
 |n+1,d,c=>by
  show((wkD n).put _ _).atKey _ _=_;by_cases e:n=j
  ·subst e;exact atKey_put_same (uD n) (by trivial) _ _
  ·rw[atKey_put_other (by intro a;injection a with a;exact aam ⟨j,by omega⟩ ⟨n,by omega⟩ (by intro b;injection b with b;exact e b.symm) a)];exact xA j n (by omega) (by omega)
theorem aeI{H:Type}(k:Fin 22):(wkD (H:=H) 22).atKey (.string (ib k.val).data.toList) (.lit (.int .i64 0))= .lit (.int .i64 (10+(k.val:Int))):=xA k.val 22 (by omega) k.isLt
theorem aan{H:Type}(s:ByteArray)(k:Nat)(b:oa cK s 22 0=W k):(wkD (H:=H) 22).atKey (.string s.data.toList) (.lit (.int .i64 0))= .lit (.int .i64 (10+(k:Int))):=by
 obtain⟨c,d,a⟩:=js cK s 22 0 k b;rw[qc,eo,eo]at a;rw[<-a];exact aeI ⟨k,by omega⟩
theorem CL{H:Type}(s:ByteArray)(u:s.size<=1100000)(b:Nat)(w:Ax)(x:w.ownsMap R 9 (plainElem (H:=H) R 3) b 22 (wkD 22)):Z R 17 #[.string s,.map (W b)] w fun e c=>e= .returned (.bool (decide (bc (ao s 0)=U/\jy s (s.size+1) 0=s.size/\nG s=Q)))/\c=w:=by
 have r:keyOf R 9 (.string s)=W (.string s.data.toList):=keyOf_string_mk Tryz.underlying9 (by unfold maxLen;omega);by_cases m:0<s.size
 ·have v:(s.toList==[])=Q:=by
   have:s.toList.length=s.size:=by rw[eo];simp
   cases hs:s.toList with
   |nil=>rw[hs]at this;simp at this;omega
   |cons z E=>rfl
  have y:∀w,(Instr.index 9 (.string s) (.int .i64 0)).run R w= .ok (.int .u8 (ao s 0)) w:=fun w=>ch m w;have f:=fun w=>jL (ao s 0) w;have p:=qa s (s.size+1) 0 (by omega);have i:=fun w=>tq s u 0 (by omega) w;generalize ao s 0=g at y f;generalize jy s (s.size+1) 0=h at i p;by_cases d:bc g=U
  ·rw[d]at f;by_cases n:h=s.size
   ·subst n;have t:¬(s.size:Int)<(s.size:Int):=by omega
    obtain⟨j,l⟩:=aD (nG s);have q:Maps.has (wkD (H:=H) 22) (.string s.data.toList)=j:=by rw[A5,l]
    have a:decide (bc g=U/\s.size=s.size/\nG s=Q)=!j:=by rw[d,l];cases j<;>simp
    rw[a];clear a l d;go_in;go_wp2_with (first|(go_at_call 48;refine(f _).mono ?_;rintro e c ⟨rfl,rfl⟩)|(go_at_call 49;refine(i _).mono ?_;rintro e c ⟨rfl,rfl⟩)|(at_lookup;refine wpList_lookup_own_ok_int _ rfl _ _ 38 rfl 9 3 .i64 aai Tryz.underlying38 Tryz.underlying3 (by kernel_rfl) b 22 _ rfl x _ _ rfl r ?_;intro A B C;rw[q]));go_ret;exact⟨rfl,rfl⟩
   ·have t:(h:Int)<(s.size:Int):=by omega
    have a:decide (bc g=U/\h=s.size/\nG s=Q)=Q:=by simp[n]
    rw[a];clear a d;go_in;go_wp2_with (first|(go_at_call 48;refine(f _).mono ?_;rintro e c ⟨rfl,rfl⟩)|(go_at_call 49;refine(i _).mono ?_;rintro e c ⟨rfl,rfl⟩));go_ret;exact⟨rfl,rfl⟩
  ·have k:bc g=Q:=by simpa using d
   rw[k]at f;have a:decide (bc g=U/\h=s.size/\nG s=Q)=Q:=by simp[k]
   rw[a];clear a d k;go_in;go_wp2_with (first|(go_at_call 48;refine(f _).mono ?_;rintro e c ⟨rfl,rfl⟩)|(go_at_call 49;refine(i _).mono ?_;rintro e c ⟨rfl,rfl⟩));go_ret;exact⟨rfl,rfl⟩
 ·have o:s.toList=[]:=by
   have:s.toList.length=s.size:=by rw[eo];simp
   exact List.length_eq_zero_iff.1 (by omega)
  have v:(s.toList==[])=U:=by rw[o];rfl
  have a:decide (bc (ao s 0)=U/\jy s (s.size+1) 0=s.size/\nG s=Q)=Q:=by rw[ci m];simp[bc]
  rw[a];clear a o;go_in;go_wp2;go_ret;exact⟨rfl,rfl⟩
def wdT(s:ByteArray)(p:Nat):B0:=
 match oa cK (s.extract p (jy s (s.size+1) p)) 22 0 with
 |some a=> Br #[M N (10+(a:Int)),M N p,M N (jy s (s.size+1) p),M N 0,M N 0,O ⟨#[]⟩]
 |none=> Br #[M N 1,M N p,M N (jy s (s.size+1) p),M N 0,M N 0,O (s.extract p (jy s (s.size+1) p))]
theorem C1(s:ByteArray)(bx:s.size<=1100000)(p:Nat)(an:p<=s.size)(w:Ax):Z R 43 #[O s,Br #[M N 0,M N p,M N 0,M N 0,M N 0,O ⟨#[]⟩]] w fun e g=>e= T (A2 #[wdT s p,M N (-1)])/\Y w.heap.size w g:=by
 unfold wdT;obtain⟨L,I⟩:=aD (jy s (s.size+1) p);have bn:=qa s (s.size+1) p an;rw[I]at bn⊢;have af:=ar I;clear I;obtain⟨bl,J⟩:=aD (oa cK (s.extract p L) 22 0);rw[J];have bf:=ar J;clear J;have B:cA w.heap.size ((w.alloc (S #[M N 0,M N p,M N 0,M N 0,M N 0,O ⟨#[]⟩] 29)).alloc (S #[M N 0,M N 0,M N 0,M N 0,M N 0,O ⟨#[]⟩] 29)) 0 p 0 0 0 ⟨#[]⟩:=(cg _ _ _ (by simp)).trans (ax w _);have C:cA (w.heap.size+1) ((w.alloc (S #[M N 0,M N p,M N 0,M N 0,M N 0,O ⟨#[]⟩] 29)).alloc (S #[M N 0,M N 0,M N 0,M N 0,M N 0,O ⟨#[]⟩] 29)) 0 0 0 0 0 ⟨#[]⟩:=by
  have:=ax (w.alloc (S #[M N 0,M N p,M N 0,M N 0,M N 0,O ⟨#[]⟩] 29)) (S #[M N 0,M N 0,M N 0,M N 0,M N 0,O ⟨#[]⟩] 29);rw[dI]at this;exact this
 have H:Y w.heap.size w ((w.alloc (S #[M N 0,M N p,M N 0,M N 0,M N 0,O ⟨#[]⟩] 29)).alloc (S #[M N 0,M N 0,M N 0,M N 0,M N 0,O ⟨#[]⟩] 29)):=(((aq _ w).alloc (ag _) _).alloc (by simp) _);go_in;go_wp2_with fail;generalize (w.alloc (S #[M N 0,M N p,M N 0,M N 0,M N 0,O ⟨#[]⟩] 29)).alloc (S #[M N 0,M N 0,M N 0,M N 0,M N 0,O ⟨#[]⟩] 29)=q at B C H;have b3:w.heap.size+1<q.heap.size:=au C;go_loop [6] (fun k=>∃(b h:Nat),b<=s.size/\s.size<b+h/\k= M N b/\Hid (jy s h b=L)) (fun k=>s.size-(A0 k).toNat)
 case atStart=>exact⟨p,s.size+1,an,by omega,rfl,af⟩
 case round=>
  obtain⟨b,h,b2,b0,rfl,n⟩:=hrel;obtain⟨h,rfl⟩:∃bp,h=bp+1:=⟨h-1,by omega⟩;have c:=n.out;unfold jy at c;have x:=fun w=>uC s bx b w;have f:=fun w=>ko (lk s b) w;have j:=fun w=>tm (lk s b) w;have i:bc (ao s b)=U\/aL (ao s b)=U->b<s.size:=by
   intro br;rcases be b s.size with h1|h1
   ·exact h1
   ·exact absurd br (zh (by omega))
  rw[aal]at f;rw[ld]at j;generalize lk s b=bE at x f j;generalize ao s b=y at c f j i;by_cases h1:bc y=U
  ·rw[ab (.inl h1)]at c;have o:=ar c;have bw:=i (.inl h1);clear c i;rw[h1]at f;clear h1;go_wp2_with (first|(go_at_call 41;refine(x _).mono ?_;rintro e g ⟨rfl,rfl⟩)|(go_at_call 42;refine(f _).mono ?_;rintro e g ⟨rfl,rfl⟩));go_round
   case rel=>exact⟨b+1,h,by omega,by omega,by go_num,o⟩
   case measure=>simp[A0];omega
  ·have z:bc y=Q:=by simpa using h1
   rw[z]at f;by_cases m:aL y=U
   ·rw[ab (.inr m)]at c;have o:=ar c;have bw:=i (.inr m);clear c i;rw[m]at j;clear h1 z m;go_wp2_with (first|(go_at_call 41;refine(x _).mono ?_;rintro e g ⟨rfl,rfl⟩)|(go_at_call 42;refine(f _).mono ?_;rintro e g ⟨rfl,rfl⟩)|(go_at_call 44;refine(j _).mono ?_;rintro e g ⟨rfl,rfl⟩));go_round
    case rel=>exact⟨b+1,h,by omega,by omega,by go_num,o⟩
    case measure=>simp[A0];omega
   ·have G:aL y=Q:=by simpa using m
    rw[aa (by rw[z,G];simp)]at c;rw[G]at j;clear h1 z m G i n af;subst c;obtain⟨ap,av,a0,a1,a2,a3,a4⟩:=aE B;have t:=(B.setKind 1).setTo (b:Int);have E:=(C.other (a:=⟨w.heap.size,0,X⟩) (by simp) (M N 1)).other (a:=⟨w.heap.size,2,X⟩) (by simp) (M N (b:Int));have A:Y w.heap.size w ((q.setCell ⟨w.heap.size,0,X⟩ (M N 1)).setCell ⟨w.heap.size,2,X⟩ (M N (b:Int))):=(H.setCell (by simp) _).setCell (by simp) _;obtain⟨r,K⟩:=aD ((q.setCell ⟨w.heap.size,0,X⟩ (M N 1)).setCell ⟨w.heap.size,2,X⟩ (M N (b:Int)));have bo:((q.setCell ⟨w.heap.size,0,X⟩ (M N 1)).setCell ⟨w.heap.size,2,X⟩ (M N (b:Int))).cell? ⟨w.heap.size,1,X⟩=W (M N p):=(aE t).2.1;rw[K]at t E A;have bj:=ar K;clear K;go_wp2_with (first|(go_at_call 41;refine(x _).mono ?_;rintro e g ⟨rfl,rfl⟩)|(go_at_call 42;refine(f _).mono ?_;rintro e g ⟨rfl,rfl⟩)|(go_at_call 44;refine(j _).mono ?_;rintro e g ⟨rfl,rfl⟩));rw[show(q.setCell ⟨w.heap.size,0,X⟩ (M N 1)).setCell ⟨w.heap.size,2,X⟩ (M N (b:Int))=r from bj.out];refine(lI r).mono ?_;rintro e l ⟨rfl,u⟩;have al:cA w.heap.size l 1 p b 0 0 ⟨#[]⟩:=by rw[u];exact(cg _ _ _ (au t)).trans t
    have am:cA (w.heap.size+1) l 0 0 0 0 0 ⟨#[]⟩:=by rw[u];exact(cg _ _ _ (au E)).trans E
    have ak:Y w.heap.size w l:=by rw[u];exact A.alloc A.size _
    have bs:l.heap[r.heap.size]?=W (S cK 9 (0,0)):=by rw[u];exact ax r _
    clear u t E A B C H bo ap av a0 a1 a2 a3 a4 x f j;go_wp2_with fail;obtain⟨ap,av,a0,a1,a2,a3,a4⟩:=aE al;obtain⟨z0,a6,a7,a8,a9,bb,b7⟩:=aE am;have b5:w.heap.size<l.heap.size:=au al;have b6:w.heap.size+1<l.heap.size:=au am;go_loop [34] (fun k=>∃d:Nat,d<=22/\k= M N d/\Hid (oa cK (s.extract p b) (22-d) d=bl)) (fun k=>22-(A0 k).toNat)
    case atStart=>exact⟨0,by omega,rfl,bf⟩
    case round=>
     obtain⟨d,b1,rfl,n⟩:=hrel;by_cases i:d<22
     ·have bt:l.cell? ⟨r.heap.size,d,X⟩=W (O (bi cK d)):=by rw[ay _ _ _ _ _ _ bs];exact uh ⟨d,i⟩
      have c:=n.out;rw[show 22-d=(22-(d+1))+1 by omega]at c;unfold oa at c;generalize bi cK d=a5 at bt c;by_cases F:(a5.toList==(s.extract p b).toList)=U
      ·rw[ab F]at c;subst c;go_wp2;refine bg (v:= A2 #[Br #[M N (10+(d:Int)),M N p,M N b,M N 0,M N 0,O ⟨#[]⟩],M N (-1)]) (by simp[results,Tryz.results43,go_sem,z0,a6,a7,a8,a9,bb]) rfl ⟨rfl,?_⟩
       iterate 7 refine dK ?_ (by simp) _
       exact ak
      ·rw[aa F]at c;have o:=ar c;have b4:(a5.toList==(s.extract p b).toList)=Q:=by simpa using F
       clear c F;go_wp2;go_round
       case rel=>exact⟨d+1,by omega,by go_num,o⟩
       case measure=>simp[A0];omega
     ·obtain rfl:d=22:=by omega
      have c:=n.out;simp only[fC,oa]at c;subst c;go_wp2;refine bg (v:= A2 #[Br #[M N 1,M N p,M N b,M N 0,M N 0,O (s.extract p b)],M N (-1)]) (by simp[results,Tryz.results43,go_sem,z0,a6,a7,a8,a9,bb]) rfl ⟨rfl,?_⟩
      iterate 7 refine dK ?_ (by simp) _
      exact ak
theorem lg{c:Int}(a:bc c=U):65<=c/\c<=122:=by simp[bc]at a;omega
theorem dl{c:Int}(a:aL c=U):48<=c/\c<=57:=by simpa [aL] using a
theorem Ia(s:ByteArray)(p:Nat):∃(k:Int) (x:ByteArray),wdT s p= Br #[M N k,M N p,M N (jy s (s.size+1) p),M N 0,M N 0,O x]/\((k==1)=!(nG (s.extract p (jy s (s.size+1) p)))):=by
 unfold wdT nG;cases h:oa cK (s.extract p (jy s (s.size+1) p)) 22 0 with
 |none=>exact⟨1,_,rfl,rfl⟩
 |some k=>exact⟨10+(k:Int),_,rfl,by simp;omega⟩
theorem tr(s:ByteArray)(r:s.size<=1100000)(p:Nat)(k:p<s.size)(d:bc (ao s p)=U)(w:Ax):Z R 16 #[O s,M N p] w fun e m=>e= T (A2 #[wdT s p,M N (-1)])/\Y w.heap.size w m:=by
 have l:=fun w=>ch k w;have a:=fun w=>ko (ao s p) w;have b:=fun w=>C1 s r p (dD k) w;have t:=lg d;rw[d]at a;generalize ao s p=o at l a t;obtain⟨u,y,g,j⟩:=Ia s p;rw[g]at b⊢;generalize jy s (s.size+1) p=n at b j;have F:(o==10)=Q:=by simp;omega
 clear d j g;have h:cA w.heap.size ((w.alloc (S #[M N 0,M N 0,M N 0,M N 0,M N 0,O ⟨#[]⟩] 29)).alloc (S #[M N 0,M N p,M N 0,M N 0,M N 0,O ⟨#[]⟩] 29)) 0 0 0 0 0 ⟨#[]⟩:=(cg _ _ _ (by simp)).trans (ax w _);have f:Y w.heap.size w ((w.alloc (S #[M N 0,M N 0,M N 0,M N 0,M N 0,O ⟨#[]⟩] 29)).alloc (S #[M N 0,M N p,M N 0,M N 0,M N 0,O ⟨#[]⟩] 29)):=(((aq _ w).alloc (ag _) _).alloc (by simp) _);go_in;go_wp2_with (first|(go_at_call 42;refine(a _).mono ?_;rintro e m ⟨rfl,rfl⟩));refine(b _).mono ?_;rintro e x ⟨rfl,c⟩;have i:=h.below c (by simp;omega);have q:=f.trans (c.mono (by simp;omega));clear c h f b a l;obtain⟨z0,z,A,B,C,E,H⟩:=aE i;have G:w.heap.size<x.heap.size:=au i;go_wp2;refine bg (v:= A2 #[Br #[M N u,M N p,M N n,M N 0,M N 0,O y],M N (-1)]) (by simp[results,Tryz.results16,go_sem,z0,z,A,B,C,E]) rfl ⟨rfl,?_⟩
 iterate 6 refine dK ?_ (by simp) _
 exact q
theorem gi(s:ByteArray):s.extract 0 s.size=s:=by
 simp
def iu(s:ByteArray):Bool:=decide (s.size<=40/\bc (ao s 0)=U/\jy s (s.size+1) 0=s.size/\nG s=Q)
theorem iw(s:ByteArray)(u:s.size<=1100000)(w:Ax):Z R 23 #[O s] w fun e c=>e= T (.bool (iu s))/\Y w.heap.size w c:=by
 unfold iu;by_cases i:0<s.size
 ·have v:((s.size:Int)==0)=Q:=by rw[aC];omega
  by_cases n:s.size<=40
  ·have x:¬(40:Int)<(s.size:Int):=by omega
   have r:∀w,(Instr.index 9 (O s) (M N 0)).run R w= .ok (M .u8 (ao s 0)) w:=fun w=>ch i w;have b:=fun w=>ko (ao s 0) w;by_cases a:bc (ao s 0)=U
   ·have g:∀w,Z R 16 #[O s,M N 0] w fun e c=>e= T (A2 #[wdT s 0,M N (-1)])/\Y w.heap.size w c:=fun w=>tr s u 0 i a w;rw[a]at b;obtain⟨l,z,p,f⟩:=Ia s 0;rw[p]at g;generalize jy s (s.size+1) 0=h at g f;generalize ao s 0=m at r b a;have q:decide (s.size<=40/\bc m=U/\h=s.size/\nG s=Q)=((l==1)&&((h:Int)==(s.size:Int))):=by
     by_cases o:h=s.size
     ·subst o;rw[gi]at f;rw[f,a];simp[n]
     ·simp[o];intro _;omega
    rw[q];clear q f p a;by_cases j:l=1
    ·subst j;go_in;go_wp2_with (first|(go_at_call 42;refine(b _).mono ?_;rintro e c ⟨rfl,rfl⟩)|(go_at_call 16;refine(g _).mono ?_;rintro e y ⟨rfl,d⟩));go_ret;exact⟨by simp,d.alloc d.size _⟩
    ·have t:(l==1)=Q:=by simp[j]
     clear j;go_in;go_wp2_with (first|(go_at_call 42;refine(b _).mono ?_;rintro e c ⟨rfl,rfl⟩)|(go_at_call 16;refine(g _).mono ?_;rintro e y ⟨rfl,d⟩));go_ret;exact⟨by simp[t],d.alloc d.size _⟩
   ·have k:bc (ao s 0)=Q:=by simpa using a
    rw[show decide (s.size<=40/\bc (ao s 0)=U/\jy s (s.size+1) 0=s.size/\nG s=Q)=Q by simp[k]];rw[k]at b;clear a k;generalize ao s 0=m at r b;go_in;go_wp2_with (first|(go_at_call 42;refine(b _).mono ?_;rintro e c ⟨rfl,rfl⟩));go_ret;exact⟨rfl,aq _ _⟩
  ·have x:(40:Int)<(s.size:Int):=by omega
   rw[show decide (s.size<=40/\bc (ao s 0)=U/\jy s (s.size+1) 0=s.size/\nG s=Q)=Q by simp[n]];go_in;go_wp2;go_ret;exact⟨rfl,aq _ _⟩
 ·have v:((s.size:Int)==0)=U:=by rw[jj];omega
  rw[show decide (s.size<=40/\bc (ao s 0)=U/\jy s (s.size+1) 0=s.size/\nG s=Q)=Q by rw[ci i];simp[bc]];go_in;go_wp2;go_ret;exact⟨rfl,aq _ _⟩
