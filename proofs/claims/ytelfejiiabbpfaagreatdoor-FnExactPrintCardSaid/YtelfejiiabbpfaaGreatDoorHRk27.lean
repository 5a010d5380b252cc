import Derived.Test.YtelfejiiabbpfaaGreatDoorHRk01
set_option linter.unusedVariables false
set_option maxHeartbeats 3200000
namespace Go.Proofs.YtelfejiiabbpfaaGreatDoor
open Go.RowKit
theorem specQuote (s:ByteArray) (hs:s.size<=4000) (w:World):
  Calls Tryz.prog 121 #[.string s] w fun e w'=>e= .returned (.string (strI (quoteI s)))/\Below w.heap.size w w':=by
 go_enter Tryz.func121,Tryz.ntmps121
 go_wp2_with fail
 go_loopw [4,5] (fun v i wr=>∃k n:Nat,k<=s.size/\i= .int .i64 k/\wr.ownsRow w.heap.size 5 1 v n (B8 (qt s k))/\Below w.heap.size w wr) (fun _ i _=>s.size-(intOf i).toNat)
 case atStart=>exact⟨0,1,Nat.zero_le _,rfl,own_first w 34,(Below.refl _ _).alloc (Nat.le_refl _) _⟩
 case round=>
  obtain⟨k,n,hk,rfl,hown,hbel⟩:=hrel
  have hlen:=own_len hown
  have hql:=qt_len s k hk
  have hn:n<=20000:=by omega
  clear hlen hql
  by_cases hlt:k<s.size
  ·have hsn:Hid (qt s (k+1)=qt s k++esc (s[k].toNat:Int)):=qt_succ s k hlt
   obtain⟨c,hc⟩:∃c:Int,c=(s[k].toNat:Int):=⟨_,rfl⟩
   have hc0:0<=c:=by omega
   have hc1:c<256:=by have:=s[k].toNat_lt;omega
   rw[<-hc]at hsn
   have hidx:∀w,(Instr.index 9 (.string s) (.int .i64 (k:Int))).run Tryz.prog w= .ok (.int .u8 c) w:=by
    intro w;rw[hc];go_simp
   clear hc
   by_cases e1:c=10
   ·subst e1
    go_wp2_with (at_builtin;refine ap_law rfl (.tmp 24) (.tmp 25) rfl w.heap.size _ n (qt s k) rfl hown hbel.size (by omega) [92,110] 2 rfl (by decide) (by decide) _ rfl rfl ?_;intro g cap w1 hown1 hb1)
    go_roundw
    case rel=>exact⟨k+1,_,by omega,by go_num,by rw[hsn.out];exact hown1,hbel.trans hb1⟩
    case measure=>simp[intOf];omega
   have g1:(c==10)=false:=by simp[e1]
   by_cases e2:c=9
   ·subst e2
    go_wp2_with (at_builtin;refine ap_law rfl (.tmp 30) (.tmp 31) rfl w.heap.size _ n (qt s k) rfl hown hbel.size (by omega) [92,116] 2 rfl (by decide) (by decide) _ rfl rfl ?_;intro g cap w1 hown1 hb1)
    go_roundw
    case rel=>exact⟨k+1,_,by omega,by go_num,by rw[hsn.out];exact hown1,hbel.trans hb1⟩
    case measure=>simp[intOf];omega
   have g2:(c==9)=false:=by simp[e2]
   by_cases e3:c=34
   ·subst e3
    go_wp2_with (at_builtin;refine ap_law rfl (.tmp 40) (.tmp 42) rfl w.heap.size _ n (qt s k) rfl hown hbel.size (by omega) [92,34] 2 rfl (by decide) (by decide) _ rfl rfl ?_;intro g cap w1 hown1 hb1)
    go_roundw
    case rel=>exact⟨k+1,_,by omega,by go_num,by rw[hsn.out];exact hown1,hbel.trans hb1⟩
    case measure=>simp[intOf];omega
   have g3:(c==34)=false:=by simp[e3]
   by_cases e4:c=92
   ·subst e4
    go_wp2_with (at_builtin;refine ap_law rfl (.tmp 40) (.tmp 42) rfl w.heap.size _ n (qt s k) rfl hown hbel.size (by omega) [92,92] 2 rfl (by decide) (by decide) _ rfl rfl ?_;intro g cap w1 hown1 hb1)
    go_roundw
    case rel=>exact⟨k+1,_,by omega,by go_num,by rw[hsn.out];exact hown1,hbel.trans hb1⟩
    case measure=>simp[intOf];omega
   have g4:(c==92)=false:=by simp[e4]
   by_cases e5:c<32\/126<c
   ·have HE:Hid (esc c=[92,120,hexd (c / 16),hexd (c%16)]):=by unfold esc Hid;rw[if_neg e1,if_neg e2,if_neg (by omega),if_pos e5]
    clear e1 e2 e3 e4
    have i1:=DG_run (c / 16) (by omega) (by omega)
    have i2:=DG_run (c%16) (by omega) (by omega)
    have hbit:bits .and .u8 c 15=c%16:=low4 c (by omega) (by omega)
    have a1:0<=c / 16:=by omega
    have a2:c / 16<16:=by omega
    have a3:0<=c%16:=by omega
    have a4:c%16<16:=by omega
    rcases e5 with e5|e5
    all_goals
     go_wp2_with fail
     go_region_held3 (fun w'=>True) (trivial) ((refine ap_step (by rfl) _ _ (by rfl) w.heap.size _ n (qt s k) (by rfl) hown hbel.size (by omega) [92,120,_,_] 4 (by rfl) (by decide) (by decide) _ (by rfl) (by rfl) ?_;intro g cap w1 hown1 hb1))
     all_goals
      go_wp2
      go_roundw
      case rel=>exact⟨k+1,_,by omega,by go_num,by rw[hsn.out,HE.out];assumption,hbel.trans (by assumption)⟩
      case measure=>simp[intOf];omega
   ·have HE:Hid (esc c=[c]):=by unfold esc Hid;rw[if_neg e1,if_neg e2,if_neg (by omega),if_neg e5]
    have e6:¬c<32:=by omega
    have e7:¬126<c:=by omega
    clear e1 e2 e3 e4 e5
    go_wp2_with (at_builtin;refine ap_law rfl (.tmp 17) (.tmp 19) rfl w.heap.size _ n (qt s k) rfl hown hbel.size (by omega) [c] 1 rfl (by decide) (by decide) _ rfl rfl ?_;intro g cap w1 hown1 hb1)
    go_roundw
    case rel=>exact⟨k+1,_,by omega,by go_num,by rw[hsn.out,HE.out];exact hown1,hbel.trans hb1⟩
    case measure=>simp[intOf];omega
  ·have hk':k=s.size:=by omega
   subst hk'
   go_wp2_with (at_builtin;refine ap_law rfl (.tmp 62) (.tmp 63) rfl w.heap.size _ n (qt s s.size) rfl hown hbel.size (by omega) [34] 1 rfl (by decide) (by decide) _ rfl rfl ?_;intro g cap w1 hown1 hb1;have kc:=conv_own hown1)
   go_ret
   exact⟨rfl,hbel.trans hb1⟩
end Go.Proofs.YtelfejiiabbpfaaGreatDoor
