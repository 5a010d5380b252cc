import Derived.Test.YtkdijoogonigpaaGreatDoorHUk02
set_option linter.all false
set_option maxRecDepth 100000
set_option maxHeartbeats 3200000
open Go.Value renaming string->F,slice->K,int->L
open Go.Obj renaming cells->G
open Go renaming Value->H,World->I,Calls->J
namespace Go.Proofs.YtkdijoogonigpaaGreatDoor
open Go.RowKit
def uB:Array H:=#[F ⟨#[]⟩,F ⟨#[43]⟩,F ⟨#[45]⟩,F ⟨#[42]⟩,F ⟨#[47]⟩,F ⟨#[47,47]⟩,F ⟨#[37]⟩,F ⟨#[38]⟩,F ⟨#[124]⟩,F ⟨#[126]⟩,F ⟨#[60,60]⟩,F ⟨#[62,62]⟩,F ⟨#[46,46]⟩,F ⟨#[61,61]⟩,F ⟨#[126,61]⟩,F ⟨#[60]⟩,F ⟨#[60,61]⟩,F ⟨#[62]⟩,F ⟨#[62,61]⟩]
def fl:Array H:=#[F ⟨#[40]⟩,F ⟨#[41]⟩,F ⟨#[123]⟩,F ⟨#[125]⟩,F ⟨#[91]⟩,F ⟨#[93]⟩,F ⟨#[44]⟩,F ⟨#[61]⟩,F ⟨#[46]⟩,F ⟨#[46,46,46]⟩,F ⟨#[35]⟩]
def ic:Array H:=#[F ⟨#[46,46,46]⟩,F ⟨#[46,46]⟩,F ⟨#[46]⟩,F ⟨#[60,60]⟩,F ⟨#[60,61]⟩,F ⟨#[60]⟩,F ⟨#[62,62]⟩,F ⟨#[62,61]⟩,F ⟨#[62]⟩,F ⟨#[61,61]⟩,F ⟨#[61]⟩,F ⟨#[126,61]⟩,F ⟨#[126]⟩,F ⟨#[47,47]⟩,F ⟨#[47]⟩,F ⟨#[40]⟩,F ⟨#[41]⟩,F ⟨#[123]⟩,F ⟨#[125]⟩,F ⟨#[91]⟩,F ⟨#[93]⟩,F ⟨#[44]⟩,F ⟨#[59]⟩,F ⟨#[35]⟩,F ⟨#[43]⟩,F ⟨#[45]⟩,F ⟨#[42]⟩,F ⟨#[37]⟩,F ⟨#[38]⟩,F ⟨#[124]⟩]
theorem aaj:(#[F ⟨#[]⟩,F ⟨#[43]⟩,F ⟨#[45]⟩,F ⟨#[42]⟩,F ⟨#[47]⟩,F ⟨#[47,47]⟩,F ⟨#[37]⟩,F ⟨#[38]⟩,F ⟨#[124]⟩,F ⟨#[126]⟩,F ⟨#[60,60]⟩,F ⟨#[62,62]⟩,F ⟨#[46,46]⟩,F ⟨#[61,61]⟩,F ⟨#[126,61]⟩,F ⟨#[60]⟩,F ⟨#[60,61]⟩,F ⟨#[62]⟩,F ⟨#[62,61]⟩]:Array H)=uB:=rfl
theorem aak:(#[F ⟨#[40]⟩,F ⟨#[41]⟩,F ⟨#[123]⟩,F ⟨#[125]⟩,F ⟨#[91]⟩,F ⟨#[93]⟩,F ⟨#[44]⟩,F ⟨#[61]⟩,F ⟨#[46]⟩,F ⟨#[46,46,46]⟩,F ⟨#[35]⟩]:Array H)=fl:=rfl
def bi(V:Array H)(k:Nat):ByteArray:=match V[k]? with|some (.string a)=>a|_=>ByteArray.empty
theorem acK:∀k:Fin 19,uB[k.val]?=some (F (bi uB k.val)):=by
 intro ⟨k,a⟩;rcases(show k=0\/k=1\/k=2\/k=3\/k=4\/k=5\/k=6\/k=7\/k=8\/k=9\/k=10\/k=11\/k=12\/k=13\/k=14\/k=15\/k=16\/k=17\/k=18 by omega) with rfl|rfl|rfl|rfl|rfl|rfl|rfl|rfl|rfl|rfl|rfl|rfl|rfl|rfl|rfl|rfl|rfl|rfl|rfl;all_goals rfl
theorem H0:∀k:Fin 11,fl[k.val]?=some (F (bi fl k.val)):=by
 intro ⟨k,a⟩;rcases(show k=0\/k=1\/k=2\/k=3\/k=4\/k=5\/k=6\/k=7\/k=8\/k=9\/k=10 by omega) with rfl|rfl|rfl|rfl|rfl|rfl|rfl|rfl|rfl|rfl|rfl;all_goals rfl
theorem CJ:∀k:Fin 30,ic[k.val]?=some (F (bi ic k.val)):=by
 intro ⟨k,a⟩;rcases(show k=0\/k=1\/k=2\/k=3\/k=4\/k=5\/k=6\/k=7\/k=8\/k=9\/k=10\/k=11\/k=12\/k=13\/k=14\/k=15\/k=16\/k=17\/k=18\/k=19\/k=20\/k=21\/k=22\/k=23\/k=24\/k=25\/k=26\/k=27\/k=28\/k=29 by omega) with rfl|rfl|rfl|rfl|rfl|rfl|rfl|rfl|rfl|rfl|rfl|rfl|rfl|rfl|rfl|rfl|rfl|rfl|rfl|rfl|rfl|rfl|rfl|rfl|rfl|rfl|rfl|rfl|rfl|rfl;all_goals rfl
theorem uh:∀k:Fin 22,cK[k.val]?=some (F (bi cK k.val)):=by
 intro ⟨k,a⟩;rcases(show k=0\/k=1\/k=2\/k=3\/k=4\/k=5\/k=6\/k=7\/k=8\/k=9\/k=10\/k=11\/k=12\/k=13\/k=14\/k=15\/k=16\/k=17\/k=18\/k=19\/k=20\/k=21 by omega) with rfl|rfl|rfl|rfl|rfl|rfl|rfl|rfl|rfl|rfl|rfl|rfl|rfl|rfl|rfl|rfl|rfl|rfl|rfl|rfl|rfl|rfl;all_goals rfl
def oa(V:Array H)(s:ByteArray):Nat->Nat->Option Nat
 |0,_=>none
 |f+1,k=>if((bi V k).toList==s.toList)=true then some k else oa V s f (k+1)
def rb(s:ByteArray):Int:=match oa uB s 18 1 with|some a=>60+(a:Int)|none=>(match oa fl s 11 0 with|some a=>40+(a:Int)|none=>5)
theorem lI(w:I):J Tryz.prog 36 #[] w fun e a=>e= .returned (K (some ⟨w.heap.size,0,none⟩) 22 22)/\a=w.alloc (G cK 9):=by
 go_in;go_wp2;go_ret;exact⟨rfl,rfl⟩
theorem ob(w:I):J Tryz.prog 37 #[] w fun e a=>e= .returned (K (some ⟨w.heap.size,0,none⟩) 30 30)/\a=w.alloc (G ic 9):=by
 go_in;go_wp2;go_ret;exact⟨rfl,rfl⟩
theorem pK(s:ByteArray)(w:I):J Tryz.prog 47 #[F s] w fun e C=>e= .returned (L .i64 (rb s))/\Below w.heap.size w C:=by
 go_in;go_wp2_with fail;rw[aaj];have t:=ax w (G uB 9);have l:Below w.heap.size w (w.alloc (G uB 9)):=(aq _ w).alloc (ag _) _;generalize w.alloc (G uB 9)=i at t l⊢;obtain⟨v,q⟩:=aD (oa uB s 18 1);have k:=ar q;clear q;go_loop [4] (fun d=>∃a:Nat,1<=a/\a<=19/\d= L .i64 a/\Hid (oa uB s (19-a) a=v)) (fun d=>19-(intOf d).toNat)
 case atStart=>exact⟨1,by omega,by omega,rfl,k⟩
 case round=>
  obtain⟨a,E,z,rfl,g⟩:=hrel;by_cases p:a<19
  ·have o:i.cell? ⟨w.heap.size,a,none⟩=some (F (bi uB a)):=by rw[ay _ _ _ _ _ _ t];exact acK ⟨a,p⟩
   have b:=g.out;rw[show 19-a=(19-(a+1))+1 by omega]at b;unfold oa at b;generalize bi uB a=j at o b;by_cases c:(j.toList==s.toList)=true
   ·rw[ab c]at b;have f:=ar b;clear b;go_wp2;go_ret;refine⟨?_,l⟩;unfold rb;rw[k.out,<-f.out];rfl
   ·rw[aa c]at b;have f:=ar b;have B:(j.toList==s.toList)=false:=by simpa using c
    clear b c;go_wp2;go_round
    case rel=>exact⟨a+1,by omega,by omega,by go_num,f⟩
    case measure=>simp[intOf];omega
  ·obtain rfl:a=19:=by omega
   have f:=ar g.out;go_wp2_with fail;rw[aak];have u:=ax i (G fl 9);have A:=l.size;have n:Below w.heap.size w (i.alloc (G fl 9)):=l.alloc A _;generalize i.alloc (G fl 9)=y at u n⊢;obtain⟨x,r⟩:=aD (oa fl s 11 0);have m:=ar r;clear r;go_loop [26] (fun d=>∃a:Nat,a<=11/\d= L .i64 a/\Hid (oa fl s (11-a) a=x)) (fun d=>11-(intOf d).toNat)
   case atStart=>exact⟨0,by omega,rfl,m⟩
   case round=>
    obtain⟨a,z,rfl,g⟩:=hrel;by_cases p:a<11
    ·have o:y.cell? ⟨i.heap.size,a,none⟩=some (F (bi fl a)):=by rw[ay _ _ _ _ _ _ u];exact H0 ⟨a,p⟩
     have b:=g.out;rw[show 11-a=(11-(a+1))+1 by omega]at b;unfold oa at b;generalize bi fl a=j at o b;by_cases c:(j.toList==s.toList)=true
     ·rw[ab c]at b;have h:=ar b;clear b;go_wp2;go_ret;refine⟨?_,n⟩;unfold rb;rw[k.out,<-f.out,m.out,<-h.out];rfl
     ·rw[aa c]at b;have h:=ar b;have B:(j.toList==s.toList)=false:=by simpa using c
      clear b c;go_wp2;go_round
      case rel=>exact⟨a+1,by omega,by go_num,h⟩
      case measure=>simp[intOf];omega
    ·obtain rfl:a=11:=by omega
     have h:=ar g.out;go_wp2;go_ret;refine⟨?_,n⟩;unfold rb;rw[k.out,<-f.out,m.out,<-h.out];rfl
