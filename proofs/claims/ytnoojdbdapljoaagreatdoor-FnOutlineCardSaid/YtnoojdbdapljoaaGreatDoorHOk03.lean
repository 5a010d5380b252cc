import Derived.Test.YtnoojdbdapljoaaGreatDoorHOk02
set_option linter.all false
set_option maxRecDepth 100000
set_option maxHeartbeats 3200000
open Go.Value renaming string->M,int->N,tuple->A2,slice->A3,agg->A4
open Go.IntKind renaming i64->O
open Go.Proofs.Tryz renaming prog->Q
open Bool renaming false->R,true->U
open Go.Obj renaming cells->S
open Go.Ending renaming returned->T
open Option renaming none->W,some->X
open Go renaming Calls->Y,World->A0,Value->A1
open Go.RowKit renaming Below->Z,intOf->Ax
namespace Go.Proofs.YtnoojdbdapljoaaGreatDoor
open Go.RowKit
def za:Array A1:=#[M ⟨#[]⟩,M ⟨#[43]⟩,M ⟨#[45]⟩,M ⟨#[42]⟩,M ⟨#[47]⟩,M ⟨#[47,47]⟩,M ⟨#[37]⟩,M ⟨#[38]⟩,M ⟨#[124]⟩,M ⟨#[126]⟩,M ⟨#[60,60]⟩,M ⟨#[62,62]⟩,M ⟨#[46,46]⟩,M ⟨#[61,61]⟩,M ⟨#[126,61]⟩,M ⟨#[60]⟩,M ⟨#[60,61]⟩,M ⟨#[62]⟩,M ⟨#[62,61]⟩]
def pz:Array A1:=#[M ⟨#[40]⟩,M ⟨#[41]⟩,M ⟨#[123]⟩,M ⟨#[125]⟩,M ⟨#[91]⟩,M ⟨#[93]⟩,M ⟨#[44]⟩,M ⟨#[61]⟩,M ⟨#[46]⟩,M ⟨#[46,46,46]⟩,M ⟨#[35]⟩]
def lH:Array A1:=#[M ⟨#[46,46,46]⟩,M ⟨#[46,46]⟩,M ⟨#[46]⟩,M ⟨#[60,60]⟩,M ⟨#[60,61]⟩,M ⟨#[60]⟩,M ⟨#[62,62]⟩,M ⟨#[62,61]⟩,M ⟨#[62]⟩,M ⟨#[61,61]⟩,M ⟨#[61]⟩,M ⟨#[126,61]⟩,M ⟨#[126]⟩,M ⟨#[47,47]⟩,M ⟨#[47]⟩,M ⟨#[40]⟩,M ⟨#[41]⟩,M ⟨#[123]⟩,M ⟨#[125]⟩,M ⟨#[91]⟩,M ⟨#[93]⟩,M ⟨#[44]⟩,M ⟨#[59]⟩,M ⟨#[35]⟩,M ⟨#[43]⟩,M ⟨#[45]⟩,M ⟨#[42]⟩,M ⟨#[37]⟩,M ⟨#[38]⟩,M ⟨#[124]⟩]
theorem aeH:(#[M ⟨#[]⟩,M ⟨#[43]⟩,M ⟨#[45]⟩,M ⟨#[42]⟩,M ⟨#[47]⟩,M ⟨#[47,47]⟩,M ⟨#[37]⟩,M ⟨#[38]⟩,M ⟨#[124]⟩,M ⟨#[126]⟩,M ⟨#[60,60]⟩,M ⟨#[62,62]⟩,M ⟨#[46,46]⟩,M ⟨#[61,61]⟩,M ⟨#[126,61]⟩,M ⟨#[60]⟩,M ⟨#[60,61]⟩,M ⟨#[62]⟩,M ⟨#[62,61]⟩]:Array A1)=za:=rfl
theorem aeI:(#[M ⟨#[40]⟩,M ⟨#[41]⟩,M ⟨#[123]⟩,M ⟨#[125]⟩,M ⟨#[91]⟩,M ⟨#[93]⟩,M ⟨#[44]⟩,M ⟨#[61]⟩,M ⟨#[46]⟩,M ⟨#[46,46,46]⟩,M ⟨#[35]⟩]:Array A1)=pz:=rfl
def dB(V:Array A1)(k:Nat):ByteArray:=match V[k]? with|some (.string a)=>a|_=>ByteArray.empty
theorem ahx:∀k:Fin 19,za[k.val]?=X (M (dB za k.val)):=by
 intro ⟨k,a⟩;rcases(show k=0\/k=1\/k=2\/k=3\/k=4\/k=5\/k=6\/k=7\/k=8\/k=9\/k=10\/k=11\/k=12\/k=13\/k=14\/k=15\/k=16\/k=17\/k=18 by omega) with rfl|rfl|rfl|rfl|rfl|rfl|rfl|rfl|rfl|rfl|rfl|rfl|rfl|rfl|rfl|rfl|rfl|rfl|rfl;all_goals rfl
theorem ahy:∀k:Fin 11,pz[k.val]?=X (M (dB pz k.val)):=by
 intro ⟨k,a⟩;rcases(show k=0\/k=1\/k=2\/k=3\/k=4\/k=5\/k=6\/k=7\/k=8\/k=9\/k=10 by omega) with rfl|rfl|rfl|rfl|rfl|rfl|rfl|rfl|rfl|rfl|rfl;all_goals rfl
theorem aaI:∀k:Fin 30,lH[k.val]?=X (M (dB lH k.val)):=by
 intro ⟨k,a⟩;rcases(show k=0\/k=1\/k=2\/k=3\/k=4\/k=5\/k=6\/k=7\/k=8\/k=9\/k=10\/k=11\/k=12\/k=13\/k=14\/k=15\/k=16\/k=17\/k=18\/k=19\/k=20\/k=21\/k=22\/k=23\/k=24\/k=25\/k=26\/k=27\/k=28\/k=29 by omega) with rfl|rfl|rfl|rfl|rfl|rfl|rfl|rfl|rfl|rfl|rfl|rfl|rfl|rfl|rfl|rfl|rfl|rfl|rfl|rfl|rfl|rfl|rfl|rfl|rfl|rfl|rfl|rfl|rfl|rfl;all_goals rfl
theorem IL:∀k:Fin 22,eE[k.val]?=X (M (dB eE k.val)):=by
 intro ⟨k,a⟩;rcases(show k=0\/k=1\/k=2\/k=3\/k=4\/k=5\/k=6\/k=7\/k=8\/k=9\/k=10\/k=11\/k=12\/k=13\/k=14\/k=15\/k=16\/k=17\/k=18\/k=19\/k=20\/k=21 by omega) with rfl|rfl|rfl|rfl|rfl|rfl|rfl|rfl|rfl|rfl|rfl|rfl|rfl|rfl|rfl|rfl|rfl|rfl|rfl|rfl|rfl|rfl;all_goals rfl
def ue(V:Array A1)(s:ByteArray):Nat->Nat->Option Nat
 |0,_=>W
 |f+1,k=>if((dB V k).toList==s.toList)=U then X k else ue V s f (k+1)
def xe(s:ByteArray):Int:=match ue za s 18 1 with|some a=>60+(a:Int)|none=>(match ue pz s 11 0 with|some a=>40+(a:Int)|none=>5)
theorem qu(w:A0):Y Q 139 #[] w fun e a=>e= T (A3 (X ⟨w.heap.size,0,W⟩) 22 22)/\a=w.alloc (S eE 9):=by
 go_in;go_wp2;go_ret;exact⟨rfl,rfl⟩
theorem wm(w:A0):Y Q 82 #[] w fun e a=>e= T (A3 (X ⟨w.heap.size,0,W⟩) 30 30)/\a=w.alloc (S lH 9):=by
 go_in;go_wp2;go_ret;exact⟨rfl,rfl⟩
theorem sD(s:ByteArray)(w:A0):Y Q 83 #[M s] w fun e C=>e= T (N O (xe s))/\Z w.heap.size w C:=by
 go_in;go_wp2_with fail;rw[aeH];have t:=aw w (S za 9);have l:Z w.heap.size w (w.alloc (S za 9)):=(aj _ w).alloc (ah _) _;generalize w.alloc (S za 9)=i at t l⊢;obtain⟨v,q⟩:=aA (ue za s 18 1);have k:=aq q;clear q;go_loop [4] (fun d=>∃a:Nat,1<=a/\a<=19/\d= N O a/\Hid (ue za s (19-a) a=v)) (fun d=>19-(Ax d).toNat)
 case atStart=>exact⟨1,by omega,by omega,rfl,k⟩
 case round=>
  obtain⟨a,E,z,rfl,g⟩:=hrel;by_cases p:a<19
  ·have o:i.cell? ⟨w.heap.size,a,W⟩=X (M (dB za a)):=by rw[az _ _ _ _ _ _ t];exact ahx ⟨a,p⟩
   have b:=g.out;rw[show 19-a=(19-(a+1))+1 by omega]at b;unfold ue at b;generalize dB za a=j at o b;by_cases c:(j.toList==s.toList)=U
   ·rw[ab c]at b;have f:=aq b;clear b;go_wp2;go_ret;refine⟨?_,l⟩;unfold xe;rw[k.out,<-f.out];rfl
   ·rw[aa c]at b;have f:=aq b;have B:(j.toList==s.toList)=R:=by simpa using c
    clear b c;go_wp2;go_round
    case rel=>exact⟨a+1,by omega,by omega,by go_num,f⟩
    case measure=>simp[Ax];omega
  ·obtain rfl:a=19:=by omega
   have f:=aq g.out;go_wp2_with fail;rw[aeI];have u:=aw i (S pz 9);have A:=l.size;have n:Z w.heap.size w (i.alloc (S pz 9)):=l.alloc A _;generalize i.alloc (S pz 9)=y at u n⊢;obtain⟨x,r⟩:=aA (ue pz s 11 0);have m:=aq r;clear r;go_loop [26] (fun d=>∃a:Nat,a<=11/\d= N O a/\Hid (ue pz s (11-a) a=x)) (fun d=>11-(Ax d).toNat)
   case atStart=>exact⟨0,by omega,rfl,m⟩
   case round=>
    obtain⟨a,z,rfl,g⟩:=hrel;by_cases p:a<11
    ·have o:y.cell? ⟨i.heap.size,a,W⟩=X (M (dB pz a)):=by rw[az _ _ _ _ _ _ u];exact ahy ⟨a,p⟩
     have b:=g.out;rw[show 11-a=(11-(a+1))+1 by omega]at b;unfold ue at b;generalize dB pz a=j at o b;by_cases c:(j.toList==s.toList)=U
     ·rw[ab c]at b;have h:=aq b;clear b;go_wp2;go_ret;refine⟨?_,n⟩;unfold xe;rw[k.out,<-f.out,m.out,<-h.out];rfl
     ·rw[aa c]at b;have h:=aq b;have B:(j.toList==s.toList)=R:=by simpa using c
      clear b c;go_wp2;go_round
      case rel=>exact⟨a+1,by omega,by go_num,h⟩
      case measure=>simp[Ax];omega
    ·obtain rfl:a=11:=by omega
     have h:=aq g.out;go_wp2;go_ret;refine⟨?_,n⟩;unfold xe;rw[k.out,<-f.out,m.out,<-h.out];rfl
def ag6:ByteArray:=⟨#[59]⟩
def ajr:ByteArray:=⟨#[10]⟩
def aaJ:ByteArray:=⟨#[]⟩
def aaK(a:Int):Nat->Nat->ByteArray
 |0,_=>aaJ
 |f+1,k=>if xe (dB lH k)=a then dB lH k else aaK a f (k+1)
def xg(a:Int):ByteArray:=if a=5 then ag6 else if 10<=a/\a<32 then dB eE (a-10).toNat else aaK a 30 0
def Ei:Array A1:=#[M ⟨#[43]⟩,M ⟨#[45]⟩,M ⟨#[42]⟩,M ⟨#[47]⟩,M ⟨#[47,47]⟩,M ⟨#[37]⟩,M ⟨#[38]⟩,M ⟨#[124]⟩,M ⟨#[126]⟩,M ⟨#[60,60]⟩,M ⟨#[62,62]⟩,M ⟨#[46,46]⟩,M ⟨#[61,61]⟩,M ⟨#[126,61]⟩,M ⟨#[60]⟩,M ⟨#[60,61]⟩,M ⟨#[62]⟩,M ⟨#[62,61]⟩]
def ug(a:Int):ByteArray:=if a=5 then ag6 else if a=7 then ajr else if 10<=a/\a<=31 then dB eE (a-10).toNat else if 40<=a/\a<=50 then dB pz (a-40).toNat else if 61<=a/\a<=78 then dB Ei (a-61).toNat else aaJ
theorem zb(c:Int)(w:A0):Y Q 142 #[N O c] w fun e d=>e= T (M (xg c))/\Z w.heap.size w d:=by
 unfold xg;by_cases q:c=5
 ·subst q;go_in;go_wp2;go_ret;exact⟨rfl,aj _ _⟩
 rw[aa q];have am:(c==5)=R:=by simp[q]
 by_cases B:10<=c/\c<32
 ·rw[ab B];obtain⟨a,z⟩:∃a:Nat,c=10+(a:Int):=⟨(c-10).toNat,by omega⟩;subst z;have I:a<22:=by omega
  have H:((10+(a:Int))-10).toNat=a:=by omega
  rw[H];have l:Z w.heap.size w (w.alloc (S eE 9)):=(aj _ w).alloc (ah _) _;have t:(w.alloc (S eE 9)).cell? ⟨w.heap.size,a,W⟩=X (M (dB eE a)):=by rw[az _ _ _ _ _ _ (aw w _)];exact IL ⟨a,I⟩
  obtain⟨b,h⟩:∃b,b=w.alloc (S eE 9):=⟨_,rfl⟩;rw[<-h]at t l;have v:Y Q 139 #[] w fun e d=>e= T (A3 (X ⟨w.heap.size,0,W⟩) 22 22)/\b=d:=by rw[h];exact(qu w).mono fun e d g=>⟨g.1,g.2.symm⟩
  clear h;go_in;go_wp2_with (go_at_call 139;refine v.mono ?_;rintro e w1 ⟨rfl,rfl⟩);go_ret;exact⟨rfl,l⟩
 ·rw[aa B];obtain⟨b,h⟩:∃b,b=w.alloc (S eE 9):=⟨_,rfl⟩;have v:Y Q 139 #[] w fun e d=>e= T (A3 (X ⟨w.heap.size,0,W⟩) 22 22)/\b=d:=by rw[h];exact(qu w).mono fun e d g=>⟨g.1,g.2.symm⟩
  have l:Z w.heap.size w b:=by rw[h];exact(aj _ w).alloc (ah _) _
  clear h;obtain⟨i,n⟩:∃i,i=b.alloc (S lH 9):=⟨_,rfl⟩;have af:Y Q 82 #[] b fun e d=>e= T (A3 (X ⟨b.heap.size,0,W⟩) 30 30)/\i=d:=by rw[n];exact(wm b).mono fun e d g=>⟨g.1,g.2.symm⟩
  have y:i.heap[b.heap.size]?=X (S lH 9 (0,0)):=by rw[n];exact aw b _
  have G:Z b.heap.size b i:=by rw[n];exact(aj _ b).alloc (ah _) _
  have ao:b.heap.size<i.heap.size:=ax y;clear n;obtain⟨E,r⟩:=aA (aaK c 30 0);rw[r];have C:=aq r;clear r;have L:=l.size;rcases(show ¬10<=c\/(10<=c/\¬c<10+22) by omega) with F|⟨an,F⟩;all_goals
   go_in;go_wp2_with (first|(go_at_call 139;refine v.mono ?_;rintro e w1 ⟨rfl,rfl⟩)|(go_at_call 82;refine af.mono ?_;rintro e ap ⟨rfl,rfl⟩));go_loopw [25] (fun u wr=>∃a:Nat,a<=30/\u= N O a/\Hid (aaK c (30-a) a=E)/\wr.heap[b.heap.size]?=X (S lH 9 (0,0))/\Z w.heap.size w wr) (fun u _=>30-(Ax u).toNat)
   case atStart=>exact⟨0,by omega,rfl,C,y,l.trans (G.mono L)⟩
   case round=>
    obtain⟨a,z,rfl,x,s,p⟩:=hrel;have A:=p.size;by_cases K:a<30
    ·have t:wr.cell? ⟨b.heap.size,a,W⟩=X (M (dB lH a)):=by rw[az _ _ _ _ _ _ s];exact aaI ⟨a,K⟩
     have f:=x.out;rw[show 30-a=(30-(a+1))+1 by omega]at f;unfold aaK at f;have J:b.heap.size<wr.heap.size:=ax s;generalize dB lH a=m at t f;by_cases j:xe m=c
     ·rw[ab j]at f;have k:=aq f;have ad:(xe m==c)=U:=by simp[j]
      clear f j;go_wp2_with (go_at_call 83;refine(sD m _).mono ?_;rintro e ak ⟨rfl,o⟩);go_ret;exact⟨by rw[<-k.out];rfl,p.trans (o.mono A)⟩
     ·rw[aa j]at f;have k:=aq f;have ad:(xe m==c)=R:=by simp[j]
      clear f j;go_wp2_with (go_at_call 83;refine(sD m _).mono ?_;rintro e ak ⟨rfl,o⟩);go_roundw
      case rel=>exact⟨a+1,by omega,by go_num,k,(o.block _ J).trans s,p.trans (o.mono A)⟩
      case measure=>simp[Ax];omega
    ·obtain rfl:a=30:=by omega
     have k:=aq x.out;go_wp2;go_ret;exact⟨by rw[<-k.out];rfl,p⟩
open Go.Maps Go.WideMaps
theorem wo(c:Int)(w:A0):Y Q 79 #[N .u8 c] w fun e d=>e= T (.bool (dl c))/\w=d:=by
 rcases(show c<48\/57<c\/(48<=c/\c<=57) by omega) with h|h|⟨f,b⟩
 ·have e:dl c=R:=by simp[dl];omega
  rw[e];clear e;have a:¬48<=c:=by omega
  go_in;go_wp2;go_ret;exact⟨rfl,rfl⟩
 ·have e:dl c=R:=by simp[dl];omega
  rw[e];clear e;have a:¬c<=57:=by omega
  have b:48<=c:=by omega
  go_in;go_wp2;go_ret;exact⟨rfl,rfl⟩
 ·have e:dl c=U:=by simp[dl];omega
  rw[e];clear e;go_in;go_wp2;go_ret;exact⟨rfl,rfl⟩
theorem mp(c:Int)(w:A0):Y Q 77 #[N .u8 c] w fun e j=>e= T (.bool (cK c))/\w=j:=by
 rcases(show(97<=c/\c<=122)\/(65<=c/\c<=90)\/c=95\/c<65\/(90<c/\c<97/\c≠95)\/122<c by omega) with⟨f,g⟩|⟨f,g⟩|rfl|h|⟨f,g,l⟩|h
 ·have e:cK c=U:=by simp[cK];omega
  rw[e];clear e;go_in;go_wp2;go_ret;exact⟨rfl,rfl⟩
 ·have e:cK c=U:=by simp[cK];omega
  rw[e];clear e;have a:¬97<=c:=by omega
  go_in;go_wp2;go_ret;exact⟨rfl,rfl⟩
 ·go_in;go_wp2;go_ret;exact⟨rfl,rfl⟩
 ·have e:cK c=R:=by simp[cK];omega
  rw[e];clear e;have a:¬97<=c:=by omega
  have b:¬65<=c:=by omega
  have d:(c==95)=R:=by simp;omega
  go_in;go_wp2;go_ret;exact⟨rfl,rfl⟩
 ·have e:cK c=R:=by simp[cK];omega
  rw[e];clear e;have a:¬97<=c:=by omega
  have b:65<=c:=by omega
  have i:¬c<=90:=by omega
  have d:(c==95)=R:=by simp;omega
  go_in;go_wp2;go_ret;exact⟨rfl,rfl⟩
 ·have e:cK c=R:=by simp[cK];omega
  rw[e];clear e;have a:97<=c:=by omega
  have b:¬c<=122:=by omega
  have i:65<=c:=by omega
  have k:¬c<=90:=by omega
  have d:(c==95)=R:=by simp;omega
  go_in;go_wp2;go_ret;exact⟨rfl,rfl⟩
def lk(s:ByteArray)(p:Nat):Int:=if p<s.size then aK s p else 0
theorem I0(s:ByteArray)(p:Nat):0<=lk s p/\lk s p<256:=by
 unfold lk;split
 ·rename_i a;exact sC a
 ·omega
theorem aeJ(s:ByteArray)(p:Nat):cK (lk s p)=cK (aK s p):=by
 unfold lk;split
 ·rfl
 ·rename_i a;rw[er a];decide
theorem mG(s:ByteArray)(p:Nat):dl (lk s p)=dl (aK s p):=by
 unfold lk;split
 ·rfl
 ·rename_i a;rw[er a];decide
theorem zd(s:ByteArray)(g:s.size<=1100000)(p:Nat)(w:A0):Y Q 76 #[M s,N O p] w fun e c=>e= T (N .u8 (lk s p))/\w=c:=by
 unfold lk;by_cases a:p<s.size
 ·rw[ab a];have b:=fun w=>dL a w;generalize aK s p=d at b;go_in;go_wp2;go_ret;exact⟨rfl,rfl⟩
 ·rw[aa a];have f:¬(p:Int)<(s.size:Int):=by omega
  go_in;go_wp2;go_ret;exact⟨rfl,rfl⟩
def qk(s:ByteArray):Nat->Nat->Nat
 |0,p=>p
 |f+1,p=>if cK (aK s p)=U\/dl (aK s p)=U then qk s f (p+1) else p
theorem CJ{s:ByteArray}{p:Nat}(h:¬p<s.size):¬(cK (aK s p)=U\/dl (aK s p)=U):=by
 rw[er h];decide
theorem ze(s:ByteArray):∀(f p:Nat),p<=s.size->p<=qk s f p/\qk s f p<=s.size
 |0,p,h=>⟨ah _,h⟩
 |f+1,p,h=>by
  unfold qk;split
  ·rename_i a;have b:p<s.size:=by
    rcases cA p s.size with h1|h1
    ·exact h1
    ·exact absurd a (CJ (by omega))
   have:=ze s f (p+1) (by omega);omega
  ·exact⟨ah _,h⟩
theorem Ej(s:ByteArray)(C:s.size<=1100000)(p:Nat)(x:p<=s.size)(w:A0):Y Q 197 #[M s,N O p] w fun e h=>e= T (N O (qk s (s.size+1) p))/\h=w:=by
 obtain⟨u,n⟩:=aA (qk s (s.size+1) p);rw[n];have t:=aq n;clear n;go_in;go_wp2_with fail;go_loop [1] (fun o=>∃(b c:Nat),b<=s.size/\s.size<b+c/\o= N O b/\Hid (qk s c b=u)) (fun o=>s.size-(Ax o).toNat)
 case atStart=>exact⟨p,s.size+1,x,by omega,rfl,t⟩
 case round=>
  obtain⟨b,c,B,A,rfl,r⟩:=hrel;obtain⟨c,rfl⟩:∃v,c=v+1:=⟨c-1,by omega⟩;have a:=r.out;unfold qk at a;by_cases q:b<s.size
  ·have y:=fun w=>dL q w;generalize aK s b=f at y a;have j:=fun w=>uc f w;have l:=fun w=>lq f w;by_cases g:cK f=U
   ·rw[ab (.inl g)]at a;have d:=aq a;clear a;rw[g]at j;clear g;go_wp2_with (go_at_call 196;refine(j _).mono ?_;rintro e h ⟨rfl,rfl⟩);go_round
    case rel=>exact⟨b+1,c,by omega,by omega,by go_num,d⟩
    case measure=>simp[Ax];omega
   ·have k:cK f=R:=by simpa using g
    rw[k]at j;by_cases i:dl f=U
    ·rw[ab (.inr i)]at a;have d:=aq a;clear a;rw[i]at l;clear g k i;go_wp2_with (first|(go_at_call 196;refine(j _).mono ?_;rintro e h ⟨rfl,rfl⟩)|(go_at_call 183;refine(l _).mono ?_;rintro e h ⟨rfl,rfl⟩));go_round
     case rel=>exact⟨b+1,c,by omega,by omega,by go_num,d⟩
     case measure=>simp[Ax];omega
    ·have m:dl f=R:=by simpa using i
     rw[aa (by rw[k,m];simp)]at a;have d:=aq a;clear a;rw[m]at l;clear g k i m;go_wp2_with (first|(go_at_call 196;refine(j _).mono ?_;rintro e h ⟨rfl,rfl⟩)|(go_at_call 183;refine(l _).mono ?_;rintro e h ⟨rfl,rfl⟩));go_ret;exact⟨by rw[<-d.out];rfl,rfl⟩
  ·rw[aa (CJ q)]at a;have d:=aq a;clear a;have z:¬(b:Int)<(s.size:Int):=by omega
   go_wp2;go_ret;exact⟨by rw[<-d.out];rfl,rfl⟩
def qw(s:ByteArray):Bool:=(ue eE s 22 0).isSome
theorem zg(k:Nat):dB eE k=mF k:=rfl
theorem wv(V:Array A1)(s:ByteArray):∀(f k j:Nat),ue V s f k=X j->k<=j/\j<k+f/\(dB V j).toList=s.toList
 |0,k,j,h=>by simp[ue]at h
 |f+1,k,j,h=>by
  unfold ue at h;split at h
  ·rename_i a;obtain rfl:=db h;exact⟨ah _,by omega,by simpa using a⟩
  ·have:=wv V s f (k+1) j h;exact⟨by omega,by omega,this.2.2⟩
theorem Ek(V:Array A1)(s:ByteArray):∀(f k:Nat),ue V s f k=W->∀j,k<=j->j<k+f->(dB V j).toList≠s.toList
 |0,k,h=>fun j a b=>by omega
 |f+1,k,h=>fun j a b=>by
  unfold ue at h;split at h
  ·cases h
  ·rename_i c;rcases jk a with rfl|h3
   ·simpa using c
   ·exact Ek V s f (k+1) h j h3 (by omega)
theorem El{H:Type}:∀n,IsMap (GE (H:=H) n)
 |0=>isMap_empty
 |n+1=>(El n).put _ _
theorem I1{H:Type}(a:List UInt8):∀n,(∀j,j<n->(mF j).data.toList≠a)->Maps.has (GE (H:=H) n) (.string a)=R
 |0,_=>rfl
 |n+1,h=>by
  show Maps.has ((GE n).put _ _) _=R;rw[has_put_other (by intro e;exact h n (by omega) (by injection e with e;exact e.symm))];exact I1 a n fun j b=>h j (by omega)
theorem I2{H:Type}(a:List UInt8)(j:Nat)(c:(mF j).data.toList=a):∀n,j<n->Maps.has (GE (H:=H) n) (.string a)=U
 |0,h=>by omega
 |n+1,h=>by
  show Maps.has ((GE n).put _ _) _=U;by_cases e:(mF n).data.toList=a
  ·rw[e];exact has_put_same (El n) (by trivial) _
  ·rw[has_put_other (by intro b;injection b with b;exact e b.symm)];rcases jk (Nat.le_of_lt_succ h) with rfl|h3
   ·exact absurd c e
   ·exact I2 a j c n h3
theorem aaL{H:Type}(s:ByteArray):Maps.has (GE (H:=H) 22) (.string s.data.toList)=qw s:=by
 unfold qw;cases h:ue eE s 22 0 with
 |none=>
  have:=Ek eE s 22 0 h;exact I1 _ 22 fun d g c=>this d (be _) (by omega) (by rw[zg,gH,gH];exact c)
 |some b=>
  obtain⟨e,f,a⟩:=wv eE s 22 0 b h;rw[zg,gH,gH]at a;exact I2 _ b a 22 (by omega)
theorem GF{H:Type}(s:ByteArray)(u:s.size<=1100000)(b:Nat)(w:A0)(x:w.ownsMap Q 9 (plainElem (H:=H) Q 3) b 22 (GE 22)):Y Q 182 #[.string s,.map (X b)] w fun e c=>e= .returned (.bool (decide (cK (aK s 0)=U/\qk s (s.size+1) 0=s.size/\qw s=R)))/\c=w:=by
 have r:keyOf Q 9 (.string s)=X (.string s.data.toList):=keyOf_string_mk Tryz.underlying9 (by unfold maxLen;omega);by_cases m:0<s.size
 ·have v:(s.toList==[])=R:=by
   have:s.toList.length=s.size:=by rw[gH];simp
   cases hs:s.toList with
   |nil=>rw[hs]at this;simp at this;omega
   |cons z E=>rfl
  have y:∀w,(Instr.index 9 (.string s) (.int .i64 0)).run Q w= .ok (.int .u8 (aK s 0)) w:=fun w=>dL m w;have f:=fun w=>uc (aK s 0) w;have p:=ze s (s.size+1) 0 (by omega);have i:=fun w=>Ej s u 0 (by omega) w;generalize aK s 0=g at y f;generalize qk s (s.size+1) 0=h at i p;by_cases d:cK g=U
  ·rw[d]at f;by_cases n:h=s.size
   ·subst n;have t:¬(s.size:Int)<(s.size:Int):=by omega
    obtain⟨j,l⟩:=aA (qw s);have q:Maps.has (GE (H:=H) 22) (.string s.data.toList)=j:=by rw[aaL,l]
    have a:decide (cK g=U/\s.size=s.size/\qw s=R)=!j:=by rw[d,l];cases j<;>simp
    rw[a];clear a l d;go_in;go_wp2_with (first|(go_at_call 196;refine(f _).mono ?_;rintro e c ⟨rfl,rfl⟩)|(go_at_call 197;refine(i _).mono ?_;rintro e c ⟨rfl,rfl⟩)|(at_lookup;refine wpList_lookup_own_ok_int _ rfl _ _ 90 rfl 9 3 .i64 ajq Tryz.underlying90 Tryz.underlying3 (by kernel_rfl) b 22 _ rfl x _ _ rfl r ?_;intro A B C;rw[q]));go_ret;exact⟨rfl,rfl⟩
   ·have t:(h:Int)<(s.size:Int):=by omega
    have a:decide (cK g=U/\h=s.size/\qw s=R)=R:=by simp[n]
    rw[a];clear a d;go_in;go_wp2_with (first|(go_at_call 196;refine(f _).mono ?_;rintro e c ⟨rfl,rfl⟩)|(go_at_call 197;refine(i _).mono ?_;rintro e c ⟨rfl,rfl⟩));go_ret;exact⟨rfl,rfl⟩
  ·have k:cK g=R:=by simpa using d
   rw[k]at f;have a:decide (cK g=U/\h=s.size/\qw s=R)=R:=by simp[k]
   rw[a];clear a d k;go_in;go_wp2_with (first|(go_at_call 196;refine(f _).mono ?_;rintro e c ⟨rfl,rfl⟩)|(go_at_call 197;refine(i _).mono ?_;rintro e c ⟨rfl,rfl⟩));go_ret;exact⟨rfl,rfl⟩
 ·have o:s.toList=[]:=by
   have:s.toList.length=s.size:=by rw[gH];simp
   exact List.length_eq_zero_iff.1 (by omega)
  have v:(s.toList==[])=U:=by rw[o];rfl
  have a:decide (cK (aK s 0)=U/\qk s (s.size+1) 0=s.size/\qw s=R)=R:=by rw[er m];simp[cK]
  rw[a];clear a o;go_in;go_wp2;go_ret;exact⟨rfl,rfl⟩
def wdT(s:ByteArray)(p:Nat):A1:=
 match ue eE (s.extract p (qk s (s.size+1) p)) 22 0 with
 |some a=> A4 #[N O (10+(a:Int)),N O p,N O (qk s (s.size+1) p),N O 0,N O 0,M ⟨#[]⟩]
 |none=> A4 #[N O 1,N O p,N O (qk s (s.size+1) p),N O 0,N O 0,M (s.extract p (qk s (s.size+1) p))]
theorem GG(s:ByteArray)(bw:s.size<=1100000)(p:Nat)(an:p<=s.size)(w:A0):Y Q 78 #[M s,A4 #[N O 0,N O p,N O 0,N O 0,N O 0,M ⟨#[]⟩]] w fun e g=>e= T (A2 #[wdT s p,N O (-1)])/\Z w.heap.size w g:=by
 unfold wdT;obtain⟨L,I⟩:=aA (qk s (s.size+1) p);have bl:=ze s (s.size+1) p an;rw[I]at bl⊢;have ad:=aq I;clear I;obtain⟨bf,J⟩:=aA (ue eE (s.extract p L) 22 0);rw[J];have a9:=aq J;clear J;have B:fy w.heap.size ((w.alloc (S #[N O 0,N O p,N O 0,N O 0,N O 0,M ⟨#[]⟩] 109)).alloc (S #[N O 0,N O 0,N O 0,N O 0,N O 0,M ⟨#[]⟩] 109)) 0 p 0 0 0 ⟨#[]⟩:=(dr _ _ _ (by simp)).trans (aw w _);have C:fy (w.heap.size+1) ((w.alloc (S #[N O 0,N O p,N O 0,N O 0,N O 0,M ⟨#[]⟩] 109)).alloc (S #[N O 0,N O 0,N O 0,N O 0,N O 0,M ⟨#[]⟩] 109)) 0 0 0 0 0 ⟨#[]⟩:=by
  have:=aw (w.alloc (S #[N O 0,N O p,N O 0,N O 0,N O 0,M ⟨#[]⟩] 109)) (S #[N O 0,N O 0,N O 0,N O 0,N O 0,M ⟨#[]⟩] 109);rw[ba]at this;exact this
 have H:Z w.heap.size w ((w.alloc (S #[N O 0,N O p,N O 0,N O 0,N O 0,M ⟨#[]⟩] 109)).alloc (S #[N O 0,N O 0,N O 0,N O 0,N O 0,M ⟨#[]⟩] 109)):=(((aj _ w).alloc (ah _) _).alloc (by simp) _);go_in;go_wp2_with fail;generalize (w.alloc (S #[N O 0,N O p,N O 0,N O 0,N O 0,M ⟨#[]⟩] 109)).alloc (S #[N O 0,N O 0,N O 0,N O 0,N O 0,M ⟨#[]⟩] 109)=q at B C H;have bF:w.heap.size+1<q.heap.size:=ax C;go_loop [6] (fun k=>∃(b h:Nat),b<=s.size/\s.size<b+h/\k= N O b/\Hid (qk s h b=L)) (fun k=>s.size-(Ax k).toNat)
 case atStart=>exact⟨p,s.size+1,an,by omega,rfl,ad⟩
 case round=>
  obtain⟨b,h,bE,bA,rfl,n⟩:=hrel;obtain⟨h,rfl⟩:∃bo,h=bo+1:=⟨h-1,by omega⟩;have c:=n.out;unfold qk at c;have x:=fun w=>zd s bw b w;have f:=fun w=>mp (lk s b) w;have j:=fun w=>wo (lk s b) w;have i:cK (aK s b)=U\/dl (aK s b)=U->b<s.size:=by
   intro bp;rcases cA b s.size with h1|h1
   ·exact h1
   ·exact absurd bp (CJ (by omega))
  rw[aeJ]at f;rw[mG]at j;generalize lk s b=bx at x f j;generalize aK s b=y at c f j i;by_cases h1:cK y=U
  ·rw[ab (.inl h1)]at c;have o:=aq c;have bt:=i (.inl h1);clear c i;rw[h1]at f;clear h1;go_wp2_with (first|(go_at_call 76;refine(x _).mono ?_;rintro e g ⟨rfl,rfl⟩)|(go_at_call 77;refine(f _).mono ?_;rintro e g ⟨rfl,rfl⟩));go_round
   case rel=>exact⟨b+1,h,by omega,by omega,by go_num,o⟩
   case measure=>simp[Ax];omega
  ·have z:cK y=R:=by simpa using h1
   rw[z]at f;by_cases m:dl y=U
   ·rw[ab (.inr m)]at c;have o:=aq c;have bt:=i (.inr m);clear c i;rw[m]at j;clear h1 z m;go_wp2_with (first|(go_at_call 76;refine(x _).mono ?_;rintro e g ⟨rfl,rfl⟩)|(go_at_call 77;refine(f _).mono ?_;rintro e g ⟨rfl,rfl⟩)|(go_at_call 79;refine(j _).mono ?_;rintro e g ⟨rfl,rfl⟩));go_round
    case rel=>exact⟨b+1,h,by omega,by omega,by go_num,o⟩
    case measure=>simp[Ax];omega
   ·have G:dl y=R:=by simpa using m
    rw[aa (by rw[z,G];simp)]at c;rw[G]at j;clear h1 z m G i n ad;subst c;obtain⟨ao,ap,ar,av,a0,a1,a2⟩:=da B;have t:=(B.setKind 1).setTo (b:Int);have E:=(C.other (a:=⟨w.heap.size,0,W⟩) (by simp) (N O 1)).other (a:=⟨w.heap.size,2,W⟩) (by simp) (N O (b:Int));have A:Z w.heap.size w ((q.setCell ⟨w.heap.size,0,W⟩ (N O 1)).setCell ⟨w.heap.size,2,W⟩ (N O (b:Int))):=(H.setCell (by simp) _).setCell (by simp) _;obtain⟨r,K⟩:=aA ((q.setCell ⟨w.heap.size,0,W⟩ (N O 1)).setCell ⟨w.heap.size,2,W⟩ (N O (b:Int)));have bn:((q.setCell ⟨w.heap.size,0,W⟩ (N O 1)).setCell ⟨w.heap.size,2,W⟩ (N O (b:Int))).cell? ⟨w.heap.size,1,W⟩=X (N O p):=(da t).2.1;rw[K]at t E A;have bb:=aq K;clear K;go_wp2_with (first|(go_at_call 76;refine(x _).mono ?_;rintro e g ⟨rfl,rfl⟩)|(go_at_call 77;refine(f _).mono ?_;rintro e g ⟨rfl,rfl⟩)|(go_at_call 79;refine(j _).mono ?_;rintro e g ⟨rfl,rfl⟩));rw[show(q.setCell ⟨w.heap.size,0,W⟩ (N O 1)).setCell ⟨w.heap.size,2,W⟩ (N O (b:Int))=r from bb.out];refine(qu r).mono ?_;rintro e l ⟨rfl,u⟩;have ak:fy w.heap.size l 1 p b 0 0 ⟨#[]⟩:=by rw[u];exact(dr _ _ _ (ax t)).trans t
    have am:fy (w.heap.size+1) l 0 0 0 0 0 ⟨#[]⟩:=by rw[u];exact(dr _ _ _ (ax E)).trans E
    have af:Z w.heap.size w l:=by rw[u];exact A.alloc A.size _
    have br:l.heap[r.heap.size]?=X (S eE 9 (0,0)):=by rw[u];exact aw r _
    clear u t E A B C H bn ao ap ar av a0 a1 a2 x f j;go_wp2_with fail;obtain⟨ao,ap,ar,av,a0,a1,a2⟩:=da ak;obtain⟨z0,a4,a5,a6,a7,a8,b3⟩:=da am;have b1:w.heap.size<l.heap.size:=ax ak;have b2:w.heap.size+1<l.heap.size:=ax am;go_loop [34] (fun k=>∃d:Nat,d<=22/\k= N O d/\Hid (ue eE (s.extract p b) (22-d) d=bf)) (fun k=>22-(Ax k).toNat)
    case atStart=>exact⟨0,by omega,rfl,a9⟩
    case round=>
     obtain⟨d,bD,rfl,n⟩:=hrel;by_cases i:d<22
     ·have bs:l.cell? ⟨r.heap.size,d,W⟩=X (M (dB eE d)):=by rw[az _ _ _ _ _ _ br];exact IL ⟨d,i⟩
      have c:=n.out;rw[show 22-d=(22-(d+1))+1 by omega]at c;unfold ue at c;generalize dB eE d=a3 at bs c;by_cases F:(a3.toList==(s.extract p b).toList)=U
      ·rw[ab F]at c;subst c;go_wp2;refine bB (v:= A2 #[A4 #[N O (10+(d:Int)),N O p,N O b,N O 0,N O 0,M ⟨#[]⟩],N O (-1)]) (by simp[results,Tryz.results78,go_sem,z0,a4,a5,a6,a7,a8]) rfl ⟨rfl,?_⟩
       iterate 7 refine eI ?_ (by simp) _
       exact af
      ·rw[aa F]at c;have o:=aq c;have b0:(a3.toList==(s.extract p b).toList)=R:=by simpa using F
       clear c F;go_wp2;go_round
       case rel=>exact⟨d+1,by omega,by go_num,o⟩
       case measure=>simp[Ax];omega
     ·obtain rfl:d=22:=by omega
      have c:=n.out;simp only[gj,ue]at c;subst c;go_wp2;refine bB (v:= A2 #[A4 #[N O 1,N O p,N O b,N O 0,N O 0,M (s.extract p b)],N O (-1)]) (by simp[results,Tryz.results78,go_sem,z0,a4,a5,a6,a7,a8]) rfl ⟨rfl,?_⟩
      iterate 7 refine eI ?_ (by simp) _
      exact af
theorem GH{c:Int}(h:cK c=U):65<=c/\c<=122:=by simp[cK]at h;omega
theorem mC{c:Int}(h:dl c=U):48<=c/\c<=57:=by simpa [dl] using h
theorem aa0(s:ByteArray)(p:Nat):∃(k:Int) (x:ByteArray),wdT s p= A4 #[N O k,N O p,N O (qk s (s.size+1) p),N O 0,N O 0,M x]/\((k==1)=!(qw (s.extract p (qk s (s.size+1) p)))):=by
 unfold wdT qw;cases h:ue eE (s.extract p (qk s (s.size+1) p)) 22 0 with
 |none=>exact⟨1,_,rfl,rfl⟩
 |some k=>exact⟨10+(k:Int),_,rfl,by simp;omega⟩
theorem ww(s:ByteArray)(r:s.size<=1100000)(p:Nat)(k:p<s.size)(d:cK (aK s p)=U)(w:A0):Y Q 47 #[M s,N O p] w fun e m=>e= T (A2 #[wdT s p,N O (-1)])/\Z w.heap.size w m:=by
 have l:=fun w=>dL k w;have a:=fun w=>mp (aK s p) w;have b:=fun w=>GG s r p (jx k) w;have t:=GH d;rw[d]at a;generalize aK s p=o at l a t;obtain⟨u,y,g,j⟩:=aa0 s p;rw[g]at b⊢;generalize qk s (s.size+1) p=n at b j;have F:(o==10)=R:=by simp;omega
 clear d j g;have h:fy w.heap.size ((w.alloc (S #[N O 0,N O 0,N O 0,N O 0,N O 0,M ⟨#[]⟩] 109)).alloc (S #[N O 0,N O p,N O 0,N O 0,N O 0,M ⟨#[]⟩] 109)) 0 0 0 0 0 ⟨#[]⟩:=(dr _ _ _ (by simp)).trans (aw w _);have f:Z w.heap.size w ((w.alloc (S #[N O 0,N O 0,N O 0,N O 0,N O 0,M ⟨#[]⟩] 109)).alloc (S #[N O 0,N O p,N O 0,N O 0,N O 0,M ⟨#[]⟩] 109)):=(((aj _ w).alloc (ah _) _).alloc (by simp) _);go_in;go_wp2_with (first|(go_at_call 77;refine(a _).mono ?_;rintro e m ⟨rfl,rfl⟩));refine(b _).mono ?_;rintro e x ⟨rfl,c⟩;have i:=h.below c (by simp;omega);have q:=f.trans (c.mono (by simp;omega));clear c h f b a l;obtain⟨z0,z,A,B,C,E,H⟩:=da i;have G:w.heap.size<x.heap.size:=ax i;go_wp2;refine bB (v:= A2 #[A4 #[N O u,N O p,N O n,N O 0,N O 0,M y],N O (-1)]) (by simp[results,Tryz.results47,go_sem,z0,z,A,B,C,E]) rfl ⟨rfl,?_⟩
 iterate 6 refine eI ?_ (by simp) _
 exact q
theorem wy(s:ByteArray):s.extract 0 s.size=s:=by
 simp
def mH(s:ByteArray):Bool:=decide (s.size<=40/\cK (aK s 0)=U/\qk s (s.size+1) 0=s.size/\qw s=R)
theorem mq(s:ByteArray)(u:s.size<=1100000)(w:A0):Y Q 108 #[M s] w fun e c=>e= T (.bool (mH s))/\Z w.heap.size w c:=by
 unfold mH;by_cases i:0<s.size
 ·have v:((s.size:Int)==0)=R:=by rw[bg];omega
  by_cases n:s.size<=40
  ·have x:¬(40:Int)<(s.size:Int):=by omega
   have r:∀w,(Instr.index 9 (M s) (N O 0)).run Q w= .ok (N .u8 (aK s 0)) w:=fun w=>dL i w;have b:=fun w=>mp (aK s 0) w;by_cases a:cK (aK s 0)=U
   ·have g:∀w,Y Q 47 #[M s,N O 0] w fun e c=>e= T (A2 #[wdT s 0,N O (-1)])/\Z w.heap.size w c:=fun w=>ww s u 0 i a w;rw[a]at b;obtain⟨l,z,p,f⟩:=aa0 s 0;rw[p]at g;generalize qk s (s.size+1) 0=h at g f;generalize aK s 0=m at r b a;have q:decide (s.size<=40/\cK m=U/\h=s.size/\qw s=R)=((l==1)&&((h:Int)==(s.size:Int))):=by
     by_cases o:h=s.size
     ·subst o;rw[wy]at f;rw[f,a];simp[n]
     ·simp[o];intro _;omega
    rw[q];clear q f p a;by_cases j:l=1
    ·subst j;go_in;go_wp2_with (first|(go_at_call 77;refine(b _).mono ?_;rintro e c ⟨rfl,rfl⟩)|(go_at_call 47;refine(g _).mono ?_;rintro e y ⟨rfl,d⟩));go_ret;exact⟨by simp,d.alloc d.size _⟩
    ·have t:(l==1)=R:=by simp[j]
     clear j;go_in;go_wp2_with (first|(go_at_call 77;refine(b _).mono ?_;rintro e c ⟨rfl,rfl⟩)|(go_at_call 47;refine(g _).mono ?_;rintro e y ⟨rfl,d⟩));go_ret;exact⟨by simp[t],d.alloc d.size _⟩
   ·have k:cK (aK s 0)=R:=by simpa using a
    rw[show decide (s.size<=40/\cK (aK s 0)=U/\qk s (s.size+1) 0=s.size/\qw s=R)=R by simp[k]];rw[k]at b;clear a k;generalize aK s 0=m at r b;go_in;go_wp2_with (first|(go_at_call 77;refine(b _).mono ?_;rintro e c ⟨rfl,rfl⟩));go_ret;exact⟨rfl,aj _ _⟩
  ·have x:(40:Int)<(s.size:Int):=by omega
   rw[show decide (s.size<=40/\cK (aK s 0)=U/\qk s (s.size+1) 0=s.size/\qw s=R)=R by simp[n]];go_in;go_wp2;go_ret;exact⟨rfl,aj _ _⟩
 ·have v:((s.size:Int)==0)=U:=by rw[gn];omega
  rw[show decide (s.size<=40/\cK (aK s 0)=U/\qk s (s.size+1) 0=s.size/\qw s=R)=R by rw[er i];simp[cK]];go_in;go_wp2;go_ret;exact⟨rfl,aj _ _⟩
