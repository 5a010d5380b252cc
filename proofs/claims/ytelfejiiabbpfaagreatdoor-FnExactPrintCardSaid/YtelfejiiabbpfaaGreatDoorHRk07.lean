import Derived.Test.YtelfejiiabbpfaaGreatDoorHRk01
import Derived.Maps.OwnSet
set_option linter.unusedVariables false
set_option maxRecDepth 100000
set_option maxHeartbeats 3200000
namespace Go.Proofs.YtelfejiiabbpfaaGreatDoor
open Go.RowKit
def opsV:Array Value:=#[.string ⟨#[]⟩,.string ⟨#[43]⟩,.string ⟨#[45]⟩,.string ⟨#[42]⟩,.string ⟨#[47]⟩,.string ⟨#[47,47]⟩,.string ⟨#[37]⟩,.string ⟨#[38]⟩,.string ⟨#[124]⟩,.string ⟨#[126]⟩,.string ⟨#[60,60]⟩,.string ⟨#[62,62]⟩,.string ⟨#[46,46]⟩,.string ⟨#[61,61]⟩,.string ⟨#[126,61]⟩,.string ⟨#[60]⟩,.string ⟨#[60,61]⟩,.string ⟨#[62]⟩,.string ⟨#[62,61]⟩]
def othV:Array Value:=#[.string ⟨#[40]⟩,.string ⟨#[41]⟩,.string ⟨#[123]⟩,.string ⟨#[125]⟩,.string ⟨#[91]⟩,.string ⟨#[93]⟩,.string ⟨#[44]⟩,.string ⟨#[61]⟩,.string ⟨#[46]⟩,.string ⟨#[46,46,46]⟩,.string ⟨#[35]⟩]
def sgnV:Array Value:=#[.string ⟨#[46,46,46]⟩,.string ⟨#[46,46]⟩,.string ⟨#[46]⟩,.string ⟨#[60,60]⟩,.string ⟨#[60,61]⟩,.string ⟨#[60]⟩,.string ⟨#[62,62]⟩,.string ⟨#[62,61]⟩,.string ⟨#[62]⟩,.string ⟨#[61,61]⟩,.string ⟨#[61]⟩,.string ⟨#[126,61]⟩,.string ⟨#[126]⟩,.string ⟨#[47,47]⟩,.string ⟨#[47]⟩,.string ⟨#[40]⟩,.string ⟨#[41]⟩,.string ⟨#[123]⟩,.string ⟨#[125]⟩,.string ⟨#[91]⟩,.string ⟨#[93]⟩,.string ⟨#[44]⟩,.string ⟨#[59]⟩,.string ⟨#[35]⟩,.string ⟨#[43]⟩,.string ⟨#[45]⟩,.string ⟨#[42]⟩,.string ⟨#[37]⟩,.string ⟨#[38]⟩,.string ⟨#[124]⟩]
theorem opsV_eq:(#[.string ⟨#[]⟩,.string ⟨#[43]⟩,.string ⟨#[45]⟩,.string ⟨#[42]⟩,.string ⟨#[47]⟩,.string ⟨#[47,47]⟩,.string ⟨#[37]⟩,.string ⟨#[38]⟩,.string ⟨#[124]⟩,.string ⟨#[126]⟩,.string ⟨#[60,60]⟩,.string ⟨#[62,62]⟩,.string ⟨#[46,46]⟩,.string ⟨#[61,61]⟩,.string ⟨#[126,61]⟩,.string ⟨#[60]⟩,.string ⟨#[60,61]⟩,.string ⟨#[62]⟩,.string ⟨#[62,61]⟩]:Array Value)=opsV:=rfl
theorem othV_eq:(#[.string ⟨#[40]⟩,.string ⟨#[41]⟩,.string ⟨#[123]⟩,.string ⟨#[125]⟩,.string ⟨#[91]⟩,.string ⟨#[93]⟩,.string ⟨#[44]⟩,.string ⟨#[61]⟩,.string ⟨#[46]⟩,.string ⟨#[46,46,46]⟩,.string ⟨#[35]⟩]:Array Value)=othV:=rfl
def strAt (V:Array Value) (k:Nat):ByteArray:=match V[k]? with|some (.string s)=>s|_=>ByteArray.empty
theorem ops_at:∀k:Fin 19,opsV[k.val]?=some (.string (strAt opsV k.val)):=by
 intro ⟨k,hk⟩
 rcases(show k=0\/k=1\/k=2\/k=3\/k=4\/k=5\/k=6\/k=7\/k=8\/k=9\/k=10\/k=11\/k=12\/k=13\/k=14\/k=15\/k=16\/k=17\/k=18 by omega) with rfl|rfl|rfl|rfl|rfl|rfl|rfl|rfl|rfl|rfl|rfl|rfl|rfl|rfl|rfl|rfl|rfl|rfl|rfl
 all_goals rfl
theorem oth_at:∀k:Fin 11,othV[k.val]?=some (.string (strAt othV k.val)):=by
 intro ⟨k,hk⟩
 rcases(show k=0\/k=1\/k=2\/k=3\/k=4\/k=5\/k=6\/k=7\/k=8\/k=9\/k=10 by omega) with rfl|rfl|rfl|rfl|rfl|rfl|rfl|rfl|rfl|rfl|rfl
 all_goals rfl
theorem sgn_at:∀k:Fin 30,sgnV[k.val]?=some (.string (strAt sgnV k.val)):=by
 intro ⟨k,hk⟩
 rcases(show k=0\/k=1\/k=2\/k=3\/k=4\/k=5\/k=6\/k=7\/k=8\/k=9\/k=10\/k=11\/k=12\/k=13\/k=14\/k=15\/k=16\/k=17\/k=18\/k=19\/k=20\/k=21\/k=22\/k=23\/k=24\/k=25\/k=26\/k=27\/k=28\/k=29 by omega) with rfl|rfl|rfl|rfl|rfl|rfl|rfl|rfl|rfl|rfl|rfl|rfl|rfl|rfl|rfl|rfl|rfl|rfl|rfl|rfl|rfl|rfl|rfl|rfl|rfl|rfl|rfl|rfl|rfl|rfl
 all_goals rfl
theorem word_at:∀k:Fin 22,wordV[k.val]?=some (.string (strAt wordV k.val)):=by
 intro ⟨k,hk⟩
 rcases(show k=0\/k=1\/k=2\/k=3\/k=4\/k=5\/k=6\/k=7\/k=8\/k=9\/k=10\/k=11\/k=12\/k=13\/k=14\/k=15\/k=16\/k=17\/k=18\/k=19\/k=20\/k=21 by omega) with rfl|rfl|rfl|rfl|rfl|rfl|rfl|rfl|rfl|rfl|rfl|rfl|rfl|rfl|rfl|rfl|rfl|rfl|rfl|rfl|rfl|rfl
 all_goals rfl
def fnd (V:Array Value) (s:ByteArray):Nat->Nat->Option Nat
 |0,_=>none
 |f+1,k=>if((strAt V k).toList==s.toList)=true then some k else fnd V s f (k+1)
def sgnI (s:ByteArray):Int:=match fnd opsV s 18 1 with|some k=>60+(k:Int)|none=>(match fnd othV s 11 0 with|some k=>40+(k:Int)|none=>5)
theorem l1words_any (w:World):Calls Tryz.prog 116 #[] w fun e w'=>e= .returned (.slice (some ⟨w.heap.size,0,none⟩) 22 22)/\w'=w.alloc (.cells wordV 9):=by
 go_enter Tryz.func116,Tryz.ntmps116
 go_wp2
 go_ret
 exact⟨rfl,rfl⟩
theorem l1signs_any (w:World):Calls Tryz.prog 117 #[] w fun e w'=>e= .returned (.slice (some ⟨w.heap.size,0,none⟩) 30 30)/\w'=w.alloc (.cells sgnV 9):=by
 go_enter Tryz.func117,Tryz.ntmps117
 go_wp2
 go_ret
 exact⟨rfl,rfl⟩
theorem l1sign_any (s:ByteArray) (w:World):Calls Tryz.prog 118 #[.string s] w fun e w'=>e= .returned (.int .i64 (sgnI s))/\Below w.heap.size w w':=by
 go_enter Tryz.func118,Tryz.ntmps118
 go_wp2_with fail
 rw[opsV_eq]
 have hblk:=heap_alloc_new w (.cells opsV 9)
 have hbel:Below w.heap.size w (w.alloc (.cells opsV 9)):=(Below.refl _ w).alloc (Nat.le_refl _) _
 generalize w.alloc (.cells opsV 9)=W1 at hblk hbel⊢
 obtain⟨R,hR⟩:∃R,fnd opsV s 18 1=R:=⟨_,rfl⟩
 have HR:Hid (fnd opsV s 18 1=R):=hR
 clear hR
 go_loop [4] (fun i=>∃k:Nat,1<=k/\k<=19/\i= .int .i64 k/\Hid (fnd opsV s (19-k) k=R)) (fun i=>19-(intOf i).toNat)
 case atStart=>exact⟨1,by omega,by omega,rfl,HR⟩
 case round=>
  obtain⟨k,hk1,hk2,rfl,HF⟩:=hrel
  by_cases hlt:k<19
  ·have hck:W1.cell? ⟨w.heap.size,k,none⟩=some (.string (strAt opsV k)):=by rw[cell_of_row _ _ _ _ _ _ hblk];exact ops_at ⟨k,hlt⟩
   have hst:=HF.out
   rw[show 19-k=(19-(k+1))+1 by omega]at hst
   unfold fnd at hst
   generalize strAt opsV k=x at hck hst
   by_cases hx:(x.toList==s.toList)=true
   ·rw[if_pos hx]at hst
    have HS:Hid (some k=R):=hst
    clear hst
    go_wp2
    go_ret
    refine⟨?_,hbel⟩
    unfold sgnI
    rw[HR.out,<-HS.out]
    rfl
   ·rw[if_neg hx]at hst
    have HS:Hid (fnd opsV s (19-(k+1)) (k+1)=R):=hst
    have hx':(x.toList==s.toList)=false:=by simpa using hx
    clear hst hx
    go_wp2
    go_round
    case rel=>exact⟨k+1,by omega,by omega,by go_num,HS⟩
    case measure=>simp[intOf];omega
  ·obtain rfl:k=19:=by omega
   have HS:Hid (none=R):=HF.out
   go_wp2_with fail
   rw[othV_eq]
   have hblk2:=heap_alloc_new W1 (.cells othV 9)
   have hsz:=hbel.size
   have hbel2:Below w.heap.size w (W1.alloc (.cells othV 9)):=hbel.alloc hsz _
   generalize W1.alloc (.cells othV 9)=W2 at hblk2 hbel2⊢
   obtain⟨R2,hR2⟩:∃R,fnd othV s 11 0=R:=⟨_,rfl⟩
   have HR2:Hid (fnd othV s 11 0=R2):=hR2
   clear hR2
   go_loop [26] (fun i=>∃k:Nat,k<=11/\i= .int .i64 k/\Hid (fnd othV s (11-k) k=R2)) (fun i=>11-(intOf i).toNat)
   case atStart=>exact⟨0,by omega,rfl,HR2⟩
   case round=>
    obtain⟨k,hk2,rfl,HF⟩:=hrel
    by_cases hlt:k<11
    ·have hck:W2.cell? ⟨W1.heap.size,k,none⟩=some (.string (strAt othV k)):=by rw[cell_of_row _ _ _ _ _ _ hblk2];exact oth_at ⟨k,hlt⟩
     have hst:=HF.out
     rw[show 11-k=(11-(k+1))+1 by omega]at hst
     unfold fnd at hst
     generalize strAt othV k=x at hck hst
     by_cases hx:(x.toList==s.toList)=true
     ·rw[if_pos hx]at hst
      have HS2:Hid (some k=R2):=hst
      clear hst
      go_wp2
      go_ret
      refine⟨?_,hbel2⟩
      unfold sgnI
      rw[HR.out,<-HS.out,HR2.out,<-HS2.out]
      rfl
     ·rw[if_neg hx]at hst
      have HS2:Hid (fnd othV s (11-(k+1)) (k+1)=R2):=hst
      have hx':(x.toList==s.toList)=false:=by simpa using hx
      clear hst hx
      go_wp2
      go_round
      case rel=>exact⟨k+1,by omega,by go_num,HS2⟩
      case measure=>simp[intOf];omega
    ·obtain rfl:k=11:=by omega
     have HS2:Hid (none=R2):=HF.out
     go_wp2
     go_ret
     refine⟨?_,hbel2⟩
     unfold sgnI
     rw[HR.out,<-HS.out,HR2.out,<-HS2.out]
     rfl
def semiS:ByteArray:=⟨#[59]⟩
def lineS:ByteArray:=⟨#[10]⟩
def emptyS:ByteArray:=⟨#[]⟩
def fndS (kind:Int):Nat->Nat->ByteArray
 |0,_=>emptyS
 |f+1,k=>if sgnI (strAt sgnV k)=kind then strAt sgnV k else fndS kind f (k+1)
def txtI (kind:Int):ByteArray:=if kind=5 then semiS else if 10<=kind/\kind<32 then strAt wordV (kind-10).toNat else fndS kind 30 0
def binV:Array Value:=#[.string ⟨#[43]⟩,.string ⟨#[45]⟩,.string ⟨#[42]⟩,.string ⟨#[47]⟩,.string ⟨#[47,47]⟩,.string ⟨#[37]⟩,.string ⟨#[38]⟩,.string ⟨#[124]⟩,.string ⟨#[126]⟩,.string ⟨#[60,60]⟩,.string ⟨#[62,62]⟩,.string ⟨#[46,46]⟩,.string ⟨#[61,61]⟩,.string ⟨#[126,61]⟩,.string ⟨#[60]⟩,.string ⟨#[60,61]⟩,.string ⟨#[62]⟩,.string ⟨#[62,61]⟩]
theorem bin_at:∀k:Fin 18,binV[k.val]?=some (.string (strAt binV k.val)):=by
 intro ⟨k,hk⟩
 rcases(show k=0\/k=1\/k=2\/k=3\/k=4\/k=5\/k=6\/k=7\/k=8\/k=9\/k=10\/k=11\/k=12\/k=13\/k=14\/k=15\/k=16\/k=17 by omega) with rfl|rfl|rfl|rfl|rfl|rfl|rfl|rfl|rfl|rfl|rfl|rfl|rfl|rfl|rfl|rfl|rfl|rfl
 all_goals rfl
structure Tabs (w:World):Prop where
 word:∃tt fr,w.heap[0]?=some (.cells wordV tt fr)
 mark:∃tt fr,w.heap[1]?=some (.cells othV tt fr)
 bin:∃tt fr,w.heap[2]?=some (.cells binV tt fr)
theorem Tabs.below {w w':World}{B:Nat}(h:Tabs w) (hb:Below B w w') (hB:w.heap.size<=B):Tabs w':=by
 obtain⟨⟨t1,f1,h1⟩,⟨t2,f2,h2⟩,⟨t3,f3,h3⟩⟩:=h
 exact⟨⟨t1,f1,(hb.block _ (Nat.lt_of_lt_of_le (lt_of_block h1) hB)).trans h1⟩,⟨t2,f2,(hb.block _ (Nat.lt_of_lt_of_le (lt_of_block h2) hB)).trans h2⟩,⟨t3,f3,(hb.block _ (Nat.lt_of_lt_of_le (lt_of_block h3) hB)).trans h3⟩⟩
def fixI (kind:Int):ByteArray:=if kind=5 then semiS else if kind=7 then lineS else if 10<=kind/\kind<=31 then strAt wordV (kind-10).toNat else if 40<=kind/\kind<=50 then strAt othV (kind-40).toNat else if 61<=kind/\kind<=78 then strAt binV (kind-61).toNat else emptyS
theorem fixedText_any (kind:Int) (h0: -9223372036854775808<=kind) (h1:kind<=9223372036854775807) (w:World) (hT:Tabs w):Calls Tryz.prog 100 #[.int .i64 kind] w fun e w'=>e= .returned (.string (fixI kind))/\w'=w:=by
 obtain⟨⟨t1,f1,hw⟩,⟨t2,f2,hmk⟩,⟨t3,f3,hbn⟩⟩:=hT
 unfold fixI
 by_cases e5:kind=5
 ·subst e5
  go_enter Tryz.func100,Tryz.ntmps100
  go_wp2
  go_ret
  exact⟨rfl,rfl⟩
 by_cases e7:kind=7
 ·subst e7
  go_enter Tryz.func100,Tryz.ntmps100
  go_wp2
  go_ret
  exact⟨rfl,rfl⟩
 rw[if_neg e5,if_neg e7]
 have g5:(kind==5)=false:=by simp[e5]
 have g7:(kind==7)=false:=by simp[e7]
 by_cases c1:10<=kind/\kind<=31
 ·rw[if_pos c1]
  obtain⟨k,hk⟩:∃k:Nat,kind=10+(k:Int):=⟨(kind-10).toNat,by omega⟩
  subst hk
  rw[show((10+(k:Int))-10).toNat=k by omega]
  have hk22:k<22:=by omega
  have hck:w.cell? ⟨0,k,none⟩=some (.string (strAt wordV k)):=by rw[cell_of_row _ _ _ _ _ _ hw];exact word_at ⟨k,hk22⟩
  clear c1 e5 e7
  go_enter Tryz.func100,Tryz.ntmps100
  go_wp2
  go_ret
  exact⟨rfl,rfl⟩
 by_cases c2:40<=kind/\kind<=50
 ·rw[if_neg c1,if_pos c2]
  obtain⟨k,hk⟩:∃k:Nat,kind=40+(k:Int):=⟨(kind-40).toNat,by omega⟩
  subst hk
  rw[show((40+(k:Int))-40).toNat=k by omega]
  have hk11:k<11:=by omega
  have hck:w.cell? ⟨1,k,none⟩=some (.string (strAt othV k)):=by rw[cell_of_row _ _ _ _ _ _ hmk];exact oth_at ⟨k,hk11⟩
  clear c1 c2 e5 e7
  go_enter Tryz.func100,Tryz.ntmps100
  go_wp2
  go_ret
  exact⟨rfl,rfl⟩
 by_cases c3:61<=kind/\kind<=78
 ·rw[if_neg c1,if_neg c2,if_pos c3]
  obtain⟨k,hk⟩:∃k:Nat,kind=61+(k:Int):=⟨(kind-61).toNat,by omega⟩
  subst hk
  rw[show((61+(k:Int))-61).toNat=k by omega]
  have hk18:k<18:=by omega
  have hck:w.cell? ⟨2,61+k-60-1,none⟩=some (.string (strAt binV k)):=by rw[show 61+k-60-1=k by omega,cell_of_row _ _ _ _ _ _ hbn];exact bin_at ⟨k,hk18⟩
  clear c1 c2 c3 e5 e7
  go_enter Tryz.func100,Tryz.ntmps100
  go_wp2
  go_ret
  exact⟨rfl,rfl⟩
 rw[if_neg c1,if_neg c2,if_neg c3]
 rcases(show kind<10\/(31<kind/\kind<40)\/(50<kind/\kind<=60)\/78<kind by omega) with h|⟨h,h'⟩|⟨h,h'⟩|h
 all_goals
  clear c1 c2 c3 e5 e7
  go_enter Tryz.func100,Tryz.ntmps100
  go_wp2
  go_ret
  exact⟨rfl,rfl⟩
theorem l1text_any (kind:Int) (w:World):Calls Tryz.prog 77 #[.int .i64 kind] w fun e w'=>e= .returned (.string (txtI kind))/\Below w.heap.size w w':=by
 unfold txtI
 by_cases h5:kind=5
 ·subst h5
  go_enter Tryz.func77,Tryz.ntmps77
  go_wp2
  go_ret
  exact⟨rfl,Below.refl _ _⟩
 rw[if_neg h5]
 have g5:(kind==5)=false:=by simp[h5]
 by_cases hw:10<=kind/\kind<32
 ·rw[if_pos hw]
  obtain⟨k,hk⟩:∃k:Nat,kind=10+(k:Int):=⟨(kind-10).toNat,by omega⟩
  subst hk
  have hk22:k<22:=by omega
  have hh:((10+(k:Int))-10).toNat=k:=by omega
  rw[hh]
  have hbel:Below w.heap.size w (w.alloc (.cells wordV 9)):=(Below.refl _ w).alloc (Nat.le_refl _) _
  have hck:(w.alloc (.cells wordV 9)).cell? ⟨w.heap.size,k,none⟩=some (.string (strAt wordV k)):=by rw[cell_of_row _ _ _ _ _ _ (heap_alloc_new w _)];exact word_at ⟨k,hk22⟩
  obtain⟨W1,hW1⟩:∃W1,W1=w.alloc (.cells wordV 9):=⟨_,rfl⟩
  rw[<-hW1]at hck hbel
  have k1:Calls Tryz.prog 116 #[] w fun e w'=>e= .returned (.slice (some ⟨w.heap.size,0,none⟩) 22 22)/\W1=w':=by rw[hW1];exact(l1words_any w).mono fun e w' h=>⟨h.1,h.2.symm⟩
  clear hW1
  go_enter Tryz.func77,Tryz.ntmps77
  go_wp2_with (go_at_call 116;refine k1.mono ?_;rintro e w1 ⟨rfl,rfl⟩)
  go_ret
  exact⟨rfl,hbel⟩
 ·rw[if_neg hw]
  obtain⟨W1,hW1⟩:∃W1,W1=w.alloc (.cells wordV 9):=⟨_,rfl⟩
  have k1:Calls Tryz.prog 116 #[] w fun e w'=>e= .returned (.slice (some ⟨w.heap.size,0,none⟩) 22 22)/\W1=w':=by rw[hW1];exact(l1words_any w).mono fun e w' h=>⟨h.1,h.2.symm⟩
  have hbel:Below w.heap.size w W1:=by rw[hW1];exact(Below.refl _ w).alloc (Nat.le_refl _) _
  clear hW1
  obtain⟨W2,hW2⟩:∃W2,W2=W1.alloc (.cells sgnV 9):=⟨_,rfl⟩
  have k2:Calls Tryz.prog 117 #[] W1 fun e w'=>e= .returned (.slice (some ⟨W1.heap.size,0,none⟩) 30 30)/\W2=w':=by rw[hW2];exact(l1signs_any W1).mono fun e w' h=>⟨h.1,h.2.symm⟩
  have hblk:W2.heap[W1.heap.size]?=some (.cells sgnV 9 (0,0)):=by rw[hW2];exact heap_alloc_new W1 _
  have hbel2:Below W1.heap.size W1 W2:=by rw[hW2];exact(Below.refl _ W1).alloc (Nat.le_refl _) _
  have hs2:W1.heap.size<W2.heap.size:=lt_of_block hblk
  clear hW2
  obtain⟨R,hR⟩:∃R,fndS kind 30 0=R:=⟨_,rfl⟩
  rw[hR]
  have HR:Hid (fndS kind 30 0=R):=hR
  clear hR
  have hs1:=hbel.size
  rcases(show ¬10<=kind\/(10<=kind/\¬kind<10+22) by omega) with g10|⟨g9,g10⟩
  all_goals
   go_enter Tryz.func77,Tryz.ntmps77
   go_wp2_with (first|(go_at_call 116;refine k1.mono ?_;rintro e w1 ⟨rfl,rfl⟩)|(go_at_call 117;refine k2.mono ?_;rintro e w2 ⟨rfl,rfl⟩))
   go_loopw [25] (fun i wr=>∃k:Nat,k<=30/\i= .int .i64 k/\Hid (fndS kind (30-k) k=R)/\wr.heap[W1.heap.size]?=some (.cells sgnV 9 (0,0))/\Below w.heap.size w wr) (fun i _=>30-(intOf i).toNat)
   case atStart=>exact⟨0,by omega,rfl,HR,hblk,hbel.trans (hbel2.mono hs1)⟩
   case round=>
    obtain⟨k,hk,rfl,HF,hbr,hbelr⟩:=hrel
    have hsr:=hbelr.size
    by_cases hlt:k<30
    ·have hck:wr.cell? ⟨W1.heap.size,k,none⟩=some (.string (strAt sgnV k)):=by rw[cell_of_row _ _ _ _ _ _ hbr];exact sgn_at ⟨k,hlt⟩
     have hst:=HF.out
     rw[show 30-k=(30-(k+1))+1 by omega]at hst
     unfold fndS at hst
     have hlb:W1.heap.size<wr.heap.size:=lt_of_block hbr
     generalize strAt sgnV k=x at hck hst
     by_cases hx:sgnI x=kind
     ·rw[if_pos hx]at hst
      have HS:Hid (x=R):=hst
      have hx':(sgnI x==kind)=true:=by simp[hx]
      clear hst hx
      go_wp2_with (go_at_call 118;refine(l1sign_any x _).mono ?_;rintro e w3 ⟨rfl,hb3⟩)
      go_ret
      exact⟨by rw[<-HS.out];rfl,hbelr.trans (hb3.mono hsr)⟩
     ·rw[if_neg hx]at hst
      have HS:Hid (fndS kind (30-(k+1)) (k+1)=R):=hst
      have hx':(sgnI x==kind)=false:=by simp[hx]
      clear hst hx
      go_wp2_with (go_at_call 118;refine(l1sign_any x _).mono ?_;rintro e w3 ⟨rfl,hb3⟩)
      go_roundw
      case rel=>exact⟨k+1,by omega,by go_num,HS,(hb3.block _ hlb).trans hbr,hbelr.trans (hb3.mono hsr)⟩
      case measure=>simp[intOf];omega
    ·obtain rfl:k=30:=by omega
     have HS:Hid (emptyS=R):=HF.out
     go_wp2
     go_ret
     exact⟨by rw[<-HS.out];rfl,hbelr⟩
end Go.Proofs.YtelfejiiabbpfaaGreatDoor
namespace Go.Proofs.YtelfejiiabbpfaaGreatDoor
open Go.RowKit Go.Maps Go.WideMaps
theorem l1digit_any (c:Int) (w:World):Calls Tryz.prog 137 #[.int .u8 c] w fun e w'=>e= .returned (.bool (digB c))/\w=w':=by
 rcases(show c<48\/57<c\/(48<=c/\c<=57) by omega) with h|h|⟨h1,h2⟩
 ·have e:digB c=false:=by simp[digB];omega
  rw[e];clear e
  have h':¬48<=c:=by omega
  go_enter Tryz.func137,Tryz.ntmps137
  go_wp2
  go_ret
  exact⟨rfl,rfl⟩
 ·have e:digB c=false:=by simp[digB];omega
  rw[e];clear e
  have h':¬c<=57:=by omega
  have h2:48<=c:=by omega
  go_enter Tryz.func137,Tryz.ntmps137
  go_wp2
  go_ret
  exact⟨rfl,rfl⟩
 ·have e:digB c=true:=by simp[digB];omega
  rw[e];clear e
  go_enter Tryz.func137,Tryz.ntmps137
  go_wp2
  go_ret
  exact⟨rfl,rfl⟩
theorem l1letter_any (c:Int) (w:World):Calls Tryz.prog 139 #[.int .u8 c] w fun e w'=>e= .returned (.bool (lettB c))/\w=w':=by
 rcases(show(97<=c/\c<=122)\/(65<=c/\c<=90)\/c=95\/c<65\/(90<c/\c<97/\c≠95)\/122<c by omega) with⟨h1,h2⟩|⟨h1,h2⟩|rfl|h|⟨h1,h2,h3⟩|h
 ·have e:lettB c=true:=by simp[lettB];omega
  rw[e];clear e
  go_enter Tryz.func139,Tryz.ntmps139
  go_wp2
  go_ret
  exact⟨rfl,rfl⟩
 ·have e:lettB c=true:=by simp[lettB];omega
  rw[e];clear e
  have g1:¬97<=c:=by omega
  go_enter Tryz.func139,Tryz.ntmps139
  go_wp2
  go_ret
  exact⟨rfl,rfl⟩
 ·go_enter Tryz.func139,Tryz.ntmps139
  go_wp2
  go_ret
  exact⟨rfl,rfl⟩
 ·have e:lettB c=false:=by simp[lettB];omega
  rw[e];clear e
  have g1:¬97<=c:=by omega
  have g2:¬65<=c:=by omega
  have g3:(c==95)=false:=by simp;omega
  go_enter Tryz.func139,Tryz.ntmps139
  go_wp2
  go_ret
  exact⟨rfl,rfl⟩
 ·have e:lettB c=false:=by simp[lettB];omega
  rw[e];clear e
  have g1:¬97<=c:=by omega
  have g2:65<=c:=by omega
  have g4:¬c<=90:=by omega
  have g3:(c==95)=false:=by simp;omega
  go_enter Tryz.func139,Tryz.ntmps139
  go_wp2
  go_ret
  exact⟨rfl,rfl⟩
 ·have e:lettB c=false:=by simp[lettB];omega
  rw[e];clear e
  have g1:97<=c:=by omega
  have g2:¬c<=122:=by omega
  have g4:65<=c:=by omega
  have g5:¬c<=90:=by omega
  have g3:(c==95)=false:=by simp;omega
  go_enter Tryz.func139,Tryz.ntmps139
  go_wp2
  go_ret
  exact⟨rfl,rfl⟩
def lk (s:ByteArray) (p:Nat):Int:=if p<s.size then bat s p else 0
theorem lk_in (s:ByteArray) (p:Nat):0<=lk s p/\lk s p<256:=by
 unfold lk;split
 ·rename_i h;exact bat_in h
 ·omega
theorem lett_lk (s:ByteArray) (p:Nat):lettB (lk s p)=lettB (bat s p):=by
 unfold lk;split
 ·rfl
 ·rename_i h;rw[bat_out h];decide
theorem dig_lk (s:ByteArray) (p:Nat):digB (lk s p)=digB (bat s p):=by
 unfold lk;split
 ·rfl
 ·rename_i h;rw[bat_out h];decide
theorem l1look_any (s:ByteArray) (hm:s.size<=1100000) (p:Nat) (w:World):Calls Tryz.prog 176 #[.string s,.int .i64 p] w fun e w'=>e= .returned (.int .u8 (lk s p))/\w=w':=by
 unfold lk
 by_cases h:p<s.size
 ·rw[if_pos h]
  have i1:=fun w=>idx_run h w
  generalize bat s p=c at i1
  go_enter Tryz.func176,Tryz.ntmps176
  go_wp2
  go_ret
  exact⟨rfl,rfl⟩
 ·rw[if_neg h]
  have h':¬(p:Int)<(s.size:Int):=by omega
  go_enter Tryz.func176,Tryz.ntmps176
  go_wp2
  go_ret
  exact⟨rfl,rfl⟩
def nmE (s:ByteArray):Nat->Nat->Nat
 |0,p=>p
 |f+1,p=>if lettB (bat s p)=true\/digB (bat s p)=true then nmE s f (p+1) else p
theorem ld_out {s:ByteArray}{p:Nat}(h:¬p<s.size):¬(lettB (bat s p)=true\/digB (bat s p)=true):=by
 rw[bat_out h];decide
theorem nmE_bd (s:ByteArray):∀(f p:Nat),p<=s.size->p<=nmE s f p/\nmE s f p<=s.size
 |0,p,h=>⟨Nat.le_refl _,h⟩
 |f+1,p,h=>by
  unfold nmE
  split
  ·rename_i hx
   have h0:p<s.size:=by
    rcases Nat.lt_or_ge p s.size with h1|h1
    ·exact h1
    ·exact absurd hx (ld_out (by omega))
   have:=nmE_bd s f (p+1) (by omega)
   omega
  ·exact⟨Nat.le_refl _,h⟩
theorem nameEnd_any (s:ByteArray) (hm:s.size<=1100000) (p:Nat) (hp:p<=s.size) (w:World):Calls Tryz.prog 180 #[.string s,.int .i64 p] w fun e w'=>e= .returned (.int .i64 (nmE s (s.size+1) p))/\w'=w:=by
 obtain⟨R,hR⟩:∃R,nmE s (s.size+1) p=R:=⟨_,rfl⟩
 rw[hR]
 have HR:Hid (nmE s (s.size+1) p=R):=hR
 clear hR
 go_enter Tryz.func180,Tryz.ntmps180
 go_wp2_with fail
 go_loop [1] (fun i=>∃(k f:Nat),k<=s.size/\s.size<k+f/\i= .int .i64 k/\Hid (nmE s f k=R)) (fun i=>s.size-(intOf i).toNat)
 case atStart=>exact⟨p,s.size+1,hp,by omega,rfl,HR⟩
 case round=>
  obtain⟨k,f,hk,hf,rfl,HF⟩:=hrel
  obtain⟨f,rfl⟩:∃g,f=g+1:=⟨f-1,by omega⟩
  have hst:=HF.out
  unfold nmE at hst
  by_cases hlt:k<s.size
  ·have i1:=fun w=>idx_run hlt w
   generalize bat s k=c at i1 hst
   have kl:=fun w=>isLetter_any c w
   have kd:=fun w=>isDigit_any c w
   by_cases h1:lettB c=true
   ·rw[if_pos (.inl h1)]at hst
    have HS:Hid (nmE s f (k+1)=R):=hst
    clear hst
    rw[h1]at kl
    clear h1
    go_wp2_with (go_at_call 179;refine(kl _).mono ?_;rintro e w' ⟨rfl,rfl⟩)
    go_round
    case rel=>exact⟨k+1,f,by omega,by omega,by go_num,HS⟩
    case measure=>simp[intOf];omega
   ·have h1':lettB c=false:=by simpa using h1
    rw[h1']at kl
    by_cases h2:digB c=true
    ·rw[if_pos (.inr h2)]at hst
     have HS:Hid (nmE s f (k+1)=R):=hst
     clear hst
     rw[h2]at kd
     clear h1 h1' h2
     go_wp2_with (first|(go_at_call 179;refine(kl _).mono ?_;rintro e w' ⟨rfl,rfl⟩)|(go_at_call 159;refine(kd _).mono ?_;rintro e w' ⟨rfl,rfl⟩))
     go_round
     case rel=>exact⟨k+1,f,by omega,by omega,by go_num,HS⟩
     case measure=>simp[intOf];omega
    ·have h2':digB c=false:=by simpa using h2
     rw[if_neg (by rw[h1',h2'];simp)]at hst
     have HS:Hid (k=R):=hst
     clear hst
     rw[h2']at kd
     clear h1 h1' h2 h2'
     go_wp2_with (first|(go_at_call 179;refine(kl _).mono ?_;rintro e w' ⟨rfl,rfl⟩)|(go_at_call 159;refine(kd _).mono ?_;rintro e w' ⟨rfl,rfl⟩))
     go_ret
     exact⟨by rw[<-HS.out];rfl,rfl⟩
  ·rw[if_neg (ld_out hlt)]at hst
   have HS:Hid (k=R):=hst
   clear hst
   have h':¬(k:Int)<(s.size:Int):=by omega
   go_wp2
   go_ret
   exact⟨by rw[<-HS.out];rfl,rfl⟩
def isWd (s:ByteArray):Bool:=(fnd wordV s 22 0).isSome
theorem strAt_word (k:Nat):strAt wordV k=wordAt k:=rfl
theorem fnd_some_lt (V:Array Value) (s:ByteArray):∀(f k j:Nat),fnd V s f k=some j->k<=j/\j<k+f/\(strAt V j).toList=s.toList
 |0,k,j,h=>by simp[fnd]at h
 |f+1,k,j,h=>by
  unfold fnd at h
  split at h
  ·rename_i hx
   obtain rfl:=Option.some.inj h
   exact⟨Nat.le_refl _,by omega,by simpa using hx⟩
  ·have:=fnd_some_lt V s f (k+1) j h
   exact⟨by omega,by omega,this.2.2⟩
theorem fnd_none (V:Array Value) (s:ByteArray):∀(f k:Nat),fnd V s f k=none->∀j,k<=j->j<k+f->(strAt V j).toList≠s.toList
 |0,k,h=>fun j h1 h2=>by omega
 |f+1,k,h=>fun j h1 h2=>by
  unfold fnd at h
  split at h
  ·cases h
  ·rename_i hx
   rcases Nat.eq_or_lt_of_le h1 with rfl|h3
   ·simpa using hx
   ·exact fnd_none V s f (k+1) h j h3 (by omega)
theorem wk_isMap {H:Type}:∀n,IsMap (wkD (H:=H) n)
 |0=>isMap_empty
 |n+1=>(wk_isMap n).put _ _
theorem wk_none {H:Type}(l:List UInt8):∀n,(∀j,j<n->(wordAt j).data.toList≠l)->Maps.has (wkD (H:=H) n) (.string l)=false
 |0,_=>rfl
 |n+1,h=>by
  show Maps.has ((wkD n).put _ _) _=false
  rw[has_put_other (by intro e;exact h n (by omega) (by injection e with e;exact e.symm))]
  exact wk_none l n fun j hj=>h j (by omega)
theorem wk_some {H:Type}(l:List UInt8) (j:Nat) (hj:(wordAt j).data.toList=l):∀n,j<n->Maps.has (wkD (H:=H) n) (.string l)=true
 |0,h=>by omega
 |n+1,h=>by
  show Maps.has ((wkD n).put _ _) _=true
  by_cases e:(wordAt n).data.toList=l
  ·rw[e];exact has_put_same (wk_isMap n) (by trivial) _
  ·rw[has_put_other (by intro e';injection e' with e';exact e e'.symm)]
   rcases Nat.eq_or_lt_of_le (Nat.le_of_lt_succ h) with rfl|h3
   ·exact absurd hj e
   ·exact wk_some l j hj n h3
theorem has_word {H:Type}(s:ByteArray):Maps.has (wkD (H:=H) 22) (.string s.data.toList)=isWd s:=by
 unfold isWd
 cases h:fnd wordV s 22 0 with
 |none=>
  have:=fnd_none wordV s 22 0 h
  exact wk_none _ 22 fun j hj e=>this j (Nat.zero_le _) (by omega) (by rw[strAt_word,ByteArray.toList_eq,ByteArray.toList_eq];exact e)
 |some k=>
  obtain⟨h1,h2,h3⟩:=fnd_some_lt wordV s 22 0 k h
  rw[strAt_word,ByteArray.toList_eq,ByteArray.toList_eq]at h3
  exact wk_some _ k h3 22 (by omega)
theorem isName_any {H:Type}(s:ByteArray) (hm:s.size<=1100000) (b:Nat) (w:World) (hown:w.ownsMap Tryz.prog 9 (plainElem (H:=H) Tryz.prog 3) b 22 (wkD 22)):Calls Tryz.prog 158 #[.string s,.map (some b)] w fun e w'=>e= .returned (.bool (decide (lettB (bat s 0)=true/\nmE s (s.size+1) 0=s.size/\isWd s=false)))/\w'=w:=by
 have hkey:keyOf Tryz.prog 9 (.string s)=some (.string s.data.toList):=keyOf_string_mk Tryz.underlying9 (by unfold maxLen;omega)
 by_cases h0:0<s.size
 ·have hne:(s.toList==[])=false:=by
   have:s.toList.length=s.size:=by rw[ByteArray.toList_eq];simp
   cases hs:s.toList with
   |nil=>rw[hs]at this;simp at this;omega
   |cons a l=>rfl
  have i1:∀w,(Instr.index 9 (.string s) (.int .i64 0)).run Tryz.prog w= .ok (.int .u8 (bat s 0)) w:=fun w=>idx_run h0 w
  have kl:=fun w=>isLetter_any (bat s 0) w
  have bd:=nmE_bd s (s.size+1) 0 (by omega)
  have kn:=fun w=>nameEnd_any s hm 0 (by omega) w
  generalize bat s 0=c at i1 kl
  generalize nmE s (s.size+1) 0=E at kn bd
  by_cases h1:lettB c=true
  ·rw[h1]at kl
   by_cases h2:E=s.size
   ·subst h2
    have hlt:¬(s.size:Int)<(s.size:Int):=by omega
    obtain⟨B,hB⟩:∃B,isWd s=B:=⟨_,rfl⟩
    have hh:Maps.has (wkD (H:=H) 22) (.string s.data.toList)=B:=by rw[has_word,hB]
    have hr:decide (lettB c=true/\s.size=s.size/\isWd s=false)=!B:=by rw[h1,hB];cases B<;>simp
    rw[hr];clear hr hB h1
    go_enter Tryz.func158,Tryz.ntmps158
    go_wp2_with (first|(go_at_call 179;refine(kl _).mono ?_;rintro e w' ⟨rfl,rfl⟩)|(go_at_call 180;refine(kn _).mono ?_;rintro e w' ⟨rfl,rfl⟩)|(at_lookup;refine wpList_lookup_own_ok_int _ rfl _ _ 70 rfl 9 3 .i64 kLaw Tryz.underlying70 Tryz.underlying3 (by kernel_rfl) b 22 _ rfl hown _ _ rfl hkey ?_;intro c2 hat hwc;rw[hh]))
    go_ret
    exact⟨rfl,rfl⟩
   ·have hlt:(E:Int)<(s.size:Int):=by omega
    have hr:decide (lettB c=true/\E=s.size/\isWd s=false)=false:=by simp[h2]
    rw[hr];clear hr h1
    go_enter Tryz.func158,Tryz.ntmps158
    go_wp2_with (first|(go_at_call 179;refine(kl _).mono ?_;rintro e w' ⟨rfl,rfl⟩)|(go_at_call 180;refine(kn _).mono ?_;rintro e w' ⟨rfl,rfl⟩))
    go_ret
    exact⟨rfl,rfl⟩
  ·have h1':lettB c=false:=by simpa using h1
   rw[h1']at kl
   have hr:decide (lettB c=true/\E=s.size/\isWd s=false)=false:=by simp[h1']
   rw[hr];clear hr h1 h1'
   go_enter Tryz.func158,Tryz.ntmps158
   go_wp2_with (first|(go_at_call 179;refine(kl _).mono ?_;rintro e w' ⟨rfl,rfl⟩)|(go_at_call 180;refine(kn _).mono ?_;rintro e w' ⟨rfl,rfl⟩))
   go_ret
   exact⟨rfl,rfl⟩
 ·have hs0:s.toList=[]:=by
   have:s.toList.length=s.size:=by rw[ByteArray.toList_eq];simp
   exact List.length_eq_zero_iff.1 (by omega)
  have hne:(s.toList==[])=true:=by rw[hs0];rfl
  have hr:decide (lettB (bat s 0)=true/\nmE s (s.size+1) 0=s.size/\isWd s=false)=false:=by rw[bat_out h0];simp[lettB]
  rw[hr];clear hr hs0
  go_enter Tryz.func158,Tryz.ntmps158
  go_wp2
  go_ret
  exact⟨rfl,rfl⟩
def wdT (s:ByteArray) (p:Nat):Value:=
 match fnd wordV (s.extract p (nmE s (s.size+1) p)) 22 0 with
 |some k=> .agg #[.int .i64 (10+(k:Int)),.int .i64 p,.int .i64 (nmE s (s.size+1) p),.int .i64 0,.int .i64 0,.string ⟨#[]⟩]
 |none=> .agg #[.int .i64 1,.int .i64 p,.int .i64 (nmE s (s.size+1) p),.int .i64 0,.int .i64 0,.string (s.extract p (nmE s (s.size+1) p))]
theorem l1word_any (s:ByteArray) (hm:s.size<=1100000) (p:Nat) (hp:p<=s.size) (w:World):Calls Tryz.prog 155 #[.string s,.agg #[.int .i64 0,.int .i64 p,.int .i64 0,.int .i64 0,.int .i64 0,.string ⟨#[]⟩]] w fun e w'=>e= .returned (.tuple #[wdT s p,.int .i64 (-1)])/\Below w.heap.size w w':=by
 unfold wdT
 obtain⟨E,hE⟩:∃E,nmE s (s.size+1) p=E:=⟨_,rfl⟩
 have bd:=nmE_bd s (s.size+1) p hp
 rw[hE]at bd⊢
 have HE:Hid (nmE s (s.size+1) p=E):=hE
 clear hE
 obtain⟨R,hR⟩:∃R,fnd wordV (s.extract p E) 22 0=R:=⟨_,rfl⟩
 rw[hR]
 have HR:Hid (fnd wordV (s.extract p E) 22 0=R):=hR
 clear hR
 have hT0:TkAt w.heap.size ((w.alloc (.cells #[.int .i64 0,.int .i64 p,.int .i64 0,.int .i64 0,.int .i64 0,.string ⟨#[]⟩] 169)).alloc (.cells #[.int .i64 0,.int .i64 0,.int .i64 0,.int .i64 0,.int .i64 0,.string ⟨#[]⟩] 169)) 0 p 0 0 0 ⟨#[]⟩:=(Below.heap_alloc _ _ _ (by simp)).trans (heap_alloc_new w _)
 have hZ0:TkAt (w.heap.size+1) ((w.alloc (.cells #[.int .i64 0,.int .i64 p,.int .i64 0,.int .i64 0,.int .i64 0,.string ⟨#[]⟩] 169)).alloc (.cells #[.int .i64 0,.int .i64 0,.int .i64 0,.int .i64 0,.int .i64 0,.string ⟨#[]⟩] 169)) 0 0 0 0 0 ⟨#[]⟩:=by
  have:=heap_alloc_new (w.alloc (.cells #[.int .i64 0,.int .i64 p,.int .i64 0,.int .i64 0,.int .i64 0,.string ⟨#[]⟩] 169)) (.cells #[.int .i64 0,.int .i64 0,.int .i64 0,.int .i64 0,.int .i64 0,.string ⟨#[]⟩] 169)
  rw[World.size_alloc]at this
  exact this
 have hB0:Below w.heap.size w ((w.alloc (.cells #[.int .i64 0,.int .i64 p,.int .i64 0,.int .i64 0,.int .i64 0,.string ⟨#[]⟩] 169)).alloc (.cells #[.int .i64 0,.int .i64 0,.int .i64 0,.int .i64 0,.int .i64 0,.string ⟨#[]⟩] 169)):=(((Below.refl _ w).alloc (Nat.le_refl _) _).alloc (by simp) _)
 go_enter Tryz.func155,Tryz.ntmps155
 go_wp2_with fail
 generalize (w.alloc (.cells #[.int .i64 0,.int .i64 p,.int .i64 0,.int .i64 0,.int .i64 0,.string ⟨#[]⟩] 169)).alloc (.cells #[.int .i64 0,.int .i64 0,.int .i64 0,.int .i64 0,.int .i64 0,.string ⟨#[]⟩] 169)=W at hT0 hZ0 hB0
 have hsW:w.heap.size+1<W.heap.size:=lt_of_block hZ0
 go_loop [6] (fun i=>∃(k f:Nat),k<=s.size/\s.size<k+f/\i= .int .i64 k/\Hid (nmE s f k=E)) (fun i=>s.size-(intOf i).toNat)
 case atStart=>exact⟨p,s.size+1,hp,by omega,rfl,HE⟩
 case round=>
  obtain⟨k,f,hk,hf,rfl,HF⟩:=hrel
  obtain⟨f,rfl⟩:∃g,f=g+1:=⟨f-1,by omega⟩
  have hst:=HF.out
  unfold nmE at hst
  have kk:=fun w=>l1look_any s hm k w
  have kl:=fun w=>l1letter_any (lk s k) w
  have kd:=fun w=>l1digit_any (lk s k) w
  have hlt:lettB (bat s k)=true\/digB (bat s k)=true->k<s.size:=by
   intro h
   rcases Nat.lt_or_ge k s.size with h1|h1
   ·exact h1
   ·exact absurd h (ld_out (by omega))
  rw[lett_lk]at kl
  rw[dig_lk]at kd
  generalize lk s k=c at kk kl kd
  generalize bat s k=c' at hst kl kd hlt
  by_cases h1:lettB c'=true
  ·rw[if_pos (.inl h1)]at hst
   have HS:Hid (nmE s f (k+1)=E):=hst
   have hlt':=hlt (.inl h1)
   clear hst hlt
   rw[h1]at kl
   clear h1
   go_wp2_with (first|(go_at_call 176;refine(kk _).mono ?_;rintro e w' ⟨rfl,rfl⟩)|(go_at_call 139;refine(kl _).mono ?_;rintro e w' ⟨rfl,rfl⟩))
   go_round
   case rel=>exact⟨k+1,f,by omega,by omega,by go_num,HS⟩
   case measure=>simp[intOf];omega
  ·have h1':lettB c'=false:=by simpa using h1
   rw[h1']at kl
   by_cases h2:digB c'=true
   ·rw[if_pos (.inr h2)]at hst
    have HS:Hid (nmE s f (k+1)=E):=hst
    have hlt':=hlt (.inr h2)
    clear hst hlt
    rw[h2]at kd
    clear h1 h1' h2
    go_wp2_with (first|(go_at_call 176;refine(kk _).mono ?_;rintro e w' ⟨rfl,rfl⟩)|(go_at_call 139;refine(kl _).mono ?_;rintro e w' ⟨rfl,rfl⟩)|(go_at_call 137;refine(kd _).mono ?_;rintro e w' ⟨rfl,rfl⟩))
    go_round
    case rel=>exact⟨k+1,f,by omega,by omega,by go_num,HS⟩
    case measure=>simp[intOf];omega
   ·have h2':digB c'=false:=by simpa using h2
    rw[if_neg (by rw[h1',h2'];simp)]at hst
    rw[h2']at kd
    clear h1 h1' h2 h2' hlt HF HE
    subst hst
    obtain⟨t0,t1,t2,t3,t4,t5,tf⟩:=tk_cells hT0
    have hT1:=(hT0.setKind 1).setTo (k:Int)
    have hZ1:=(hZ0.other (a:=⟨w.heap.size,0,none⟩) (by simp) (.int .i64 1)).other (a:=⟨w.heap.size,2,none⟩) (by simp) (.int .i64 (k:Int))
    have hB1:Below w.heap.size w ((W.setCell ⟨w.heap.size,0,none⟩ (.int .i64 1)).setCell ⟨w.heap.size,2,none⟩ (.int .i64 (k:Int))):=(hB0.setCell (by simp) _).setCell (by simp) _
    obtain⟨W2,hW2⟩:∃W2,(W.setCell ⟨w.heap.size,0,none⟩ (.int .i64 1)).setCell ⟨w.heap.size,2,none⟩ (.int .i64 (k:Int))=W2:=⟨_,rfl⟩
    have c1:((W.setCell ⟨w.heap.size,0,none⟩ (.int .i64 1)).setCell ⟨w.heap.size,2,none⟩ (.int .i64 (k:Int))).cell? ⟨w.heap.size,1,none⟩=some (.int .i64 p):=(tk_cells hT1).2.1
    rw[hW2]at hT1 hZ1 hB1
    have HW2:Hid ((W.setCell ⟨w.heap.size,0,none⟩ (.int .i64 1)).setCell ⟨w.heap.size,2,none⟩ (.int .i64 (k:Int))=W2):=hW2
    clear hW2
    go_wp2_with (first|(go_at_call 176;refine(kk _).mono ?_;rintro e w' ⟨rfl,rfl⟩)|(go_at_call 139;refine(kl _).mono ?_;rintro e w' ⟨rfl,rfl⟩)|(go_at_call 137;refine(kd _).mono ?_;rintro e w' ⟨rfl,rfl⟩))
    rw[show(W.setCell ⟨w.heap.size,0,none⟩ (.int .i64 1)).setCell ⟨w.heap.size,2,none⟩ (.int .i64 (k:Int))=W2 from HW2.out]
    refine(l1words_any W2).mono ?_
    rintro e w3 ⟨rfl,hw3⟩
    have hT3:TkAt w.heap.size w3 1 p k 0 0 ⟨#[]⟩:=by rw[hw3];exact(Below.heap_alloc _ _ _ (lt_of_block hT1)).trans hT1
    have hZ3:TkAt (w.heap.size+1) w3 0 0 0 0 0 ⟨#[]⟩:=by rw[hw3];exact(Below.heap_alloc _ _ _ (lt_of_block hZ1)).trans hZ1
    have hB3:Below w.heap.size w w3:=by rw[hw3];exact hB1.alloc hB1.size _
    have hblk:w3.heap[W2.heap.size]?=some (.cells wordV 9 (0,0)):=by rw[hw3];exact heap_alloc_new W2 _
    clear hw3 hT1 hZ1 hB1 hT0 hZ0 hB0 c1 t0 t1 t2 t3 t4 t5 tf kk kl kd
    go_wp2_with fail
    obtain⟨t0,t1,t2,t3,t4,t5,tf⟩:=tk_cells hT3
    obtain⟨z0,z1,z2,z3,z4,z5,zf⟩:=tk_cells hZ3
    have hx1:w.heap.size<w3.heap.size:=lt_of_block hT3
    have hx2:w.heap.size+1<w3.heap.size:=lt_of_block hZ3
    go_loop [34] (fun i=>∃j:Nat,j<=22/\i= .int .i64 j/\Hid (fnd wordV (s.extract p k) (22-j) j=R)) (fun i=>22-(intOf i).toNat)
    case atStart=>exact⟨0,by omega,rfl,HR⟩
    case round=>
     obtain⟨j,hj,rfl,HF⟩:=hrel
     by_cases hlt:j<22
     ·have hck:w3.cell? ⟨W2.heap.size,j,none⟩=some (.string (strAt wordV j)):=by rw[cell_of_row _ _ _ _ _ _ hblk];exact word_at ⟨j,hlt⟩
      have hst:=HF.out
      rw[show 22-j=(22-(j+1))+1 by omega]at hst
      unfold fnd at hst
      generalize strAt wordV j=x at hck hst
      by_cases hx:(x.toList==(s.extract p k).toList)=true
      ·rw[if_pos hx]at hst
       subst hst
       go_wp2
       refine bodyPost_ret (v:= .tuple #[.agg #[.int .i64 (10+(j:Int)),.int .i64 p,.int .i64 k,.int .i64 0,.int .i64 0,.string ⟨#[]⟩],.int .i64 (-1)]) (by simp[results,Tryz.results155,go_sem,z0,z1,z2,z3,z4,z5]) rfl ⟨rfl,?_⟩
       iterate 7 refine Below.setCell ?_ (by simp) _
       exact hB3
      ·rw[if_neg hx]at hst
       have HS:Hid (fnd wordV (s.extract p k) (22-(j+1)) (j+1)=R):=hst
       have hx':(x.toList==(s.extract p k).toList)=false:=by simpa using hx
       clear hst hx
       go_wp2
       go_round
       case rel=>exact⟨j+1,by omega,by go_num,HS⟩
       case measure=>simp[intOf];omega
     ·obtain rfl:j=22:=by omega
      have hst:=HF.out
      simp only[Nat.sub_self,fnd]at hst
      subst hst
      go_wp2
      refine bodyPost_ret (v:= .tuple #[.agg #[.int .i64 1,.int .i64 p,.int .i64 k,.int .i64 0,.int .i64 0,.string (s.extract p k)],.int .i64 (-1)]) (by simp[results,Tryz.results155,go_sem,z0,z1,z2,z3,z4,z5]) rfl ⟨rfl,?_⟩
      iterate 7 refine Below.setCell ?_ (by simp) _
      exact hB3
theorem lett_range {c:Int}(h:lettB c=true):65<=c/\c<=122:=by simp[lettB]at h;omega
theorem dig_range {c:Int}(h:digB c=true):48<=c/\c<=57:=by simpa [digB] using h
theorem wdT_is (s:ByteArray) (p:Nat):∃(k:Int) (x:ByteArray),wdT s p= .agg #[.int .i64 k,.int .i64 p,.int .i64 (nmE s (s.size+1) p),.int .i64 0,.int .i64 0,.string x]/\((k==1)=!(isWd (s.extract p (nmE s (s.size+1) p)))):=by
 unfold wdT isWd
 cases h:fnd wordV (s.extract p (nmE s (s.size+1) p)) 22 0 with
 |none=>exact⟨1,_,rfl,rfl⟩
 |some k=>exact⟨10+(k:Int),_,rfl,by simp;omega⟩
theorem l1read_lett (s:ByteArray) (hm:s.size<=1100000) (p:Nat) (hp:p<s.size) (hl:lettB (bat s p)=true) (w:World):Calls Tryz.prog 138 #[.string s,.int .i64 p] w fun e w'=>e= .returned (.tuple #[wdT s p,.int .i64 (-1)])/\Below w.heap.size w w':=by
 have i1:=fun w=>idx_run hp w
 have kl:=fun w=>l1letter_any (bat s p) w
 have kw:=fun w=>l1word_any s hm p (Nat.le_of_lt hp) w
 have hr:=lett_range hl
 rw[hl]at kl
 generalize bat s p=c at i1 kl hr
 obtain⟨k,x,hT,hk⟩:=wdT_is s p
 rw[hT]at kw⊢
 generalize nmE s (s.size+1) p=E at kw hk
 have h10:(c==10)=false:=by simp;omega
 clear hl hk hT
 have hZ0:TkAt w.heap.size ((w.alloc (.cells #[.int .i64 0,.int .i64 0,.int .i64 0,.int .i64 0,.int .i64 0,.string ⟨#[]⟩] 169)).alloc (.cells #[.int .i64 0,.int .i64 p,.int .i64 0,.int .i64 0,.int .i64 0,.string ⟨#[]⟩] 169)) 0 0 0 0 0 ⟨#[]⟩:=(Below.heap_alloc _ _ _ (by simp)).trans (heap_alloc_new w _)
 have hB0:Below w.heap.size w ((w.alloc (.cells #[.int .i64 0,.int .i64 0,.int .i64 0,.int .i64 0,.int .i64 0,.string ⟨#[]⟩] 169)).alloc (.cells #[.int .i64 0,.int .i64 p,.int .i64 0,.int .i64 0,.int .i64 0,.string ⟨#[]⟩] 169)):=(((Below.refl _ w).alloc (Nat.le_refl _) _).alloc (by simp) _)
 go_enter Tryz.func138,Tryz.ntmps138
 go_wp2_with (first|(go_at_call 139;refine(kl _).mono ?_;rintro e w' ⟨rfl,rfl⟩))
 refine(kw _).mono ?_
 rintro e w3 ⟨rfl,hb3⟩
 have hZ3:=hZ0.below hb3 (by simp;omega)
 have hB3:=hB0.trans (hb3.mono (by simp;omega))
 clear hb3 hZ0 hB0 kw kl i1
 obtain⟨z0,z1,z2,z3,z4,z5,zf⟩:=tk_cells hZ3
 have hx1:w.heap.size<w3.heap.size:=lt_of_block hZ3
 go_wp2
 refine bodyPost_ret (v:= .tuple #[.agg #[.int .i64 k,.int .i64 p,.int .i64 E,.int .i64 0,.int .i64 0,.string x],.int .i64 (-1)]) (by simp[results,Tryz.results138,go_sem,z0,z1,z2,z3,z4,z5]) rfl ⟨rfl,?_⟩
 iterate 6 refine Below.setCell ?_ (by simp) _
 exact hB3
theorem extract_all (s:ByteArray):s.extract 0 s.size=s:=by
 simp
def nmok (s:ByteArray):Bool:=decide (s.size<=40/\lettB (bat s 0)=true/\nmE s (s.size+1) 0=s.size/\isWd s=false)
theorem l1nameok_any (s:ByteArray) (hm:s.size<=1100000) (w:World):Calls Tryz.prog 113 #[.string s] w fun e w'=>e= .returned (.bool (nmok s))/\Below w.heap.size w w':=by
 unfold nmok
 by_cases h0:0<s.size
 ·have n0:((s.size:Int)==0)=false:=by rw[beq_eq_false_iff_ne];omega
  by_cases h40:s.size<=40
  ·have n40:¬(40:Int)<(s.size:Int):=by omega
   have i1:∀w,(Instr.index 9 (.string s) (.int .i64 0)).run Tryz.prog w= .ok (.int .u8 (bat s 0)) w:=fun w=>idx_run h0 w
   have kl:=fun w=>l1letter_any (bat s 0) w
   by_cases hl:lettB (bat s 0)=true
   ·have kr:∀w,Calls Tryz.prog 138 #[.string s,.int .i64 0] w fun e w'=>e= .returned (.tuple #[wdT s 0,.int .i64 (-1)])/\Below w.heap.size w w':=fun w=>l1read_lett s hm 0 h0 hl w
    rw[hl]at kl
    obtain⟨k,x,hT,hk⟩:=wdT_is s 0
    rw[hT]at kr
    generalize nmE s (s.size+1) 0=E at kr hk
    generalize bat s 0=c at i1 kl hl
    have hres:decide (s.size<=40/\lettB c=true/\E=s.size/\isWd s=false)=((k==1)&&((E:Int)==(s.size:Int))):=by
     by_cases hE:E=s.size
     ·subst hE;rw[extract_all]at hk;rw[hk,hl];simp[h40]
     ·simp[hE];intro _;omega
    rw[hres]
    clear hres hk hT hl
    by_cases hk1:k=1
    ·subst hk1
     go_enter Tryz.func113,Tryz.ntmps113
     go_wp2_with (first|(go_at_call 139;refine(kl _).mono ?_;rintro e w' ⟨rfl,rfl⟩)|(go_at_call 138;refine(kr _).mono ?_;rintro e w3 ⟨rfl,hb3⟩))
     go_ret
     exact⟨by simp,hb3.alloc hb3.size _⟩
    ·have hk':(k==1)=false:=by simp[hk1]
     clear hk1
     go_enter Tryz.func113,Tryz.ntmps113
     go_wp2_with (first|(go_at_call 139;refine(kl _).mono ?_;rintro e w' ⟨rfl,rfl⟩)|(go_at_call 138;refine(kr _).mono ?_;rintro e w3 ⟨rfl,hb3⟩))
     go_ret
     exact⟨by simp[hk'],hb3.alloc hb3.size _⟩
   ·have hl':lettB (bat s 0)=false:=by simpa using hl
    rw[show decide (s.size<=40/\lettB (bat s 0)=true/\nmE s (s.size+1) 0=s.size/\isWd s=false)=false by simp[hl']]
    rw[hl']at kl
    clear hl hl'
    generalize bat s 0=c at i1 kl
    go_enter Tryz.func113,Tryz.ntmps113
    go_wp2_with (first|(go_at_call 139;refine(kl _).mono ?_;rintro e w' ⟨rfl,rfl⟩))
    go_ret
    exact⟨rfl,Below.refl _ _⟩
  ·have n40:(40:Int)<(s.size:Int):=by omega
   rw[show decide (s.size<=40/\lettB (bat s 0)=true/\nmE s (s.size+1) 0=s.size/\isWd s=false)=false by simp[h40]]
   go_enter Tryz.func113,Tryz.ntmps113
   go_wp2
   go_ret
   exact⟨rfl,Below.refl _ _⟩
 ·have n0:((s.size:Int)==0)=true:=by rw[beq_iff_eq];omega
  rw[show decide (s.size<=40/\lettB (bat s 0)=true/\nmE s (s.size+1) 0=s.size/\isWd s=false)=false by rw[bat_out h0];simp[lettB]]
  go_enter Tryz.func113,Tryz.ntmps113
  go_wp2
  go_ret
  exact⟨rfl,Below.refl _ _⟩
end Go.Proofs.YtelfejiiabbpfaaGreatDoor
