import Derived.Test.YtkdijoogonigpaaGreatDoorHUk05
import Derived.Test.YtkdijoogonigpaaGreatDoorHUk02
set_option linter.all false
set_option maxRecDepth 100000
set_option maxHeartbeats 1600000
open Go renaming World->A,Value->H,Calls->I
open Go.Ending renaming returned->B
open Go.Value renaming slice->C,int->E,bool->G,tuple->J,int->L
open Bool renaming false->F,true->K
namespace Go.Proofs.YtkdijoogonigpaaGreatDoor
open Go.RowKit
theorem vg{c:Nat}{a w:A}(b:Below c a w)(n:Nat):Below c a (w.drewN n):=⟨b.os,b.tape,b.output,b.size,b.block⟩
theorem bq{c:Nat}{a w:A}(b:Below c a w):Below c a w.drew:=⟨b.os,b.tape,b.output,b.size,b.block⟩
theorem ey{c:A}{base e size n:Nat}{v:H}{g:List H}(d:c.ownsRow base e size v n g):∃a b,v= C a n b:=by
 rcases d.2 with⟨rfl,f⟩|⟨i,b,h,rfl,_⟩
 ·exact⟨none,0,by rw[f]⟩
 ·exact⟨_,_,rfl⟩
theorem cL{c:A}{base e size n:Nat}{v:H}{g:List H}(d:c.ownsRow base e size v n g):(n=0/\v= C none 0 0)\/∃b a,v= C (some ⟨b,0,none⟩) n a:=by
 rcases d.2 with⟨rfl,f⟩|⟨b,a,h,rfl,_⟩
 ·exact .inl ⟨f,rfl⟩
 ·exact .inr ⟨_,_,rfl⟩
def gu(w:A)(r:List Int×Bool)(e:Ending)(c:A):Prop:=
 ∃a b,e= B (J #[C a r.1.length b,G r.2])/\c.ownsRow w.heap.size 3 1 (C a r.1.length b) r.1.length (r.1.map (E .i64))/\Below w.heap.size w c
theorem Iu(w:A)(l:List Int)(n:Nat)(a:l.length=n)(b:n<=100):(w.alloc (.cells (l.map (E .i64)).toArray 3)).ownsRow w.heap.size 3 1 (C (some ⟨w.heap.size,0,none⟩) n n) n (l.map (E .i64)):=by
 have:=El (base:=w.heap.size) (e:=3) (size:=1) w (l.map (E .i64)).toArray n (ag _) (by unfold maxLen;omega) (by simp[a]);simpa using this
theorem dF(w:A)(a:Obj):Below w.heap.size w (w.alloc a):=(aq _ w).alloc (ag _) a
theorem mC(w:A)(l:List Int)(b:Bool)(a:l.length<=100):gu w (l,b) (B (J #[C (some ⟨w.heap.size,0,none⟩) l.length l.length,G b])) (w.alloc (.cells (l.map (E .i64)).toArray 3)):=
 ⟨_,_,rfl,Iu w l _ rfl a,dF w _⟩
theorem um(w:A)(b:Bool):gu w ([],b) (B (J #[C none 0 0,G b])) w:=⟨_,_,rfl,dB _ _ _ _,aq _ w⟩
theorem pc(v:H)(w:A):I Tryz.prog 150 #[v] w fun e a=>e= B v/\a=w:=by
 go_in;go_wp2;go_ret;exact⟨rfl,rfl⟩
theorem rl(w:A)(t:Int):I Tryz.prog 165 #[L .i64 t] w fun e g=>e= B (G (lJ t))/\g=w:=by
 by_cases a:t=25\/t=50\/t=62\/t=69
 ·have e:lJ t=K:=cG a;rw[e];rcases a with rfl|rfl|rfl|rfl;all_goals
   go_in;go_wp2;go_ret;exact⟨rfl,rfl⟩
 ·have e:lJ t=F:=bk a;rw[e];have b:¬t=25:=by omega
  have c:¬t=50:=by omega
  have d:¬t=62:=by omega
  have f:¬t=69:=by omega
  have h:(t==25)=F:=beq_eq_false_iff_ne.2 b;have i:(t==50)=F:=beq_eq_false_iff_ne.2 c;have j:(t==62)=F:=beq_eq_false_iff_ne.2 d;have k:(t==69)=F:=beq_eq_false_iff_ne.2 f;clear a e;go_in;go_wp2;go_ret;exact⟨rfl,rfl⟩
theorem Bl(w:A)(t:Int):I Tryz.prog 168 #[L .i64 t] w fun e d=>e= B (G (qd t))/\d=w:=by
 by_cases a:t=10\/t=26
 ·have e:qd t=K:=cG (by omega);rw[e];rcases a with rfl|rfl;all_goals
   go_in;go_wp2;go_ret;exact⟨rfl,rfl⟩
 ·have b:¬t=10:=by omega
  have c:¬t=26:=by omega
  have f:(t==10)=F:=beq_eq_false_iff_ne.2 b;have g:(t==26)=F:=beq_eq_false_iff_ne.2 c;by_cases h:60<t
  ·have e:qd t=K:=cG (by omega);rw[e];clear a e;go_in;go_wp2;go_ret;exact⟨rfl,rfl⟩
  ·have e:qd t=F:=bk (by omega);rw[e];clear a e;go_in;go_wp2;go_ret;exact⟨rfl,rfl⟩
theorem rm(w:A)(t:Int):I Tryz.prog 152 #[L .i64 t] w fun e c=>e= B (G (fH t))/\c=w:=by
 by_cases a:t=1\/t=2\/t=3\/t=4\/t=24\/t=29\/t=17\/t=49\/t=18\/t=40\/t=42
 ·have e:fH t=K:=by unfold fH;rw[cG a];rfl
  rw[e];rcases a with rfl|rfl|rfl|rfl|rfl|rfl|rfl|rfl|rfl|rfl|rfl;all_goals
   go_in;go_wp2;go_ret;exact⟨rfl,rfl⟩
 ·have e:fH t=lJ t:=by unfold fH;rw[bk a];rfl
  rw[e];have f:¬t=1:=by omega
  have i:¬t=2:=by omega
  have l:¬t=3:=by omega
  have m:¬t=4:=by omega
  have j:¬t=24:=by omega
  have k:¬t=29:=by omega
  have g:¬t=17:=by omega
  have p:¬t=49:=by omega
  have h:¬t=18:=by omega
  have n:¬t=40:=by omega
  have o:¬t=42:=by omega
  have b:=fun w=>rl w t;clear a e;generalize lJ t=d at b⊢;go_in;go_wp2_with (go_at_call 165;refine dz (b _) ?_);go_ret;exact⟨rfl,rfl⟩
