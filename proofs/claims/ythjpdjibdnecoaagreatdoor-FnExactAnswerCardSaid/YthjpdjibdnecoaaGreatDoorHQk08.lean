import Derived.Test.YthjpdjibdnecoaaGreatDoorHQk04
import Derived.Test.YthjpdjibdnecoaaGreatDoorHQk02
set_option linter.all false
set_option maxRecDepth 100000
set_option maxHeartbeats 12800000
open Go renaming World->A,Value->I,Calls->L
open Go.Ending renaming returned->C
open Go.Proofs.Tryz renaming prog->E
open Go.Value renaming slice->F,int->G,bool->J,tuple->M,int->N
open Bool renaming false->H,true->O
namespace Go.Proofs.YthjpdjibdnecoaaGreatDoor
open Go.RowKit
theorem my{B:Nat}{a w:A}(h:Below B a w)(n:Nat):Below B a (w.drewN n):=⟨h.os,h.tape,h.output,h.size,h.block⟩
theorem cj{B:Nat}{a w:A}(h:Below B a w):Below B a w.drew:=⟨h.os,h.tape,h.output,h.size,h.block⟩
def mkT:Nat->Nat->ByteArray->ByteArray
 |0,_,o=>o
 |f+1,c,o=>if c=0 then o else mkT f (c / 10) (ic [48+((c%10:Nat):Int)]++o)
def mtI(k:Nat):ByteArray:=⟨#[109]⟩++mkT k k ⟨#[]⟩
theorem bz{W:A}{base e size n:Nat}{v:I}{c:List I}(h:W.ownsRow base e size v n c):∃a cap,v= F a n cap:=by
 rcases h.2 with⟨rfl,b⟩|⟨f,cap,d,rfl,_⟩
 ·exact⟨none,0,by rw[b]⟩
 ·exact⟨_,_,rfl⟩
theorem sA(w:A)(b:Option Nat):w.grownBy w b:=⟨rfl,rfl,rfl,ae _,fun _ _ _=>rfl⟩
theorem pC{c w:A}{b:Nat}(h:c.grownBy w (some b))(i:Nat)(v:I):c.grownBy (w.setCell ⟨b,i,none⟩ v) (some b):=
 ⟨h.os,h.tape,h.output,by simpa [World.setCell] using h.size,fun f e a=>by rw[aD _ _ _ _ (fun d=>a (by rw[d]))];exact h.block f e a⟩
def mks(K n:Nat):List ByteArray:=(List.range n).map fun a=>mtI (K+a)
theorem bp{W:A}{base e size n:Nat}{v:I}{b:List I}(h:W.ownsRow base e size v n b):(n=0/\v= F none 0 0)\/∃g cap,v= F (some ⟨g,0,none⟩) n cap:=by
 rcases h.2 with⟨rfl,a⟩|⟨g,cap,c,rfl,_⟩
 ·exact .inl ⟨a,rfl⟩
 ·exact .inr ⟨_,_,rfl⟩
def jj(w:A)(r:List Int×Bool)(e:Ending)(c:A):Prop:=
 ∃a b,e= C (M #[F a r.1.length b,J r.2])/\c.ownsRow w.heap.size 3 1 (F a r.1.length b) r.1.length (r.1.map (G .i64))/\Below w.heap.size w c
theorem qp(w:A)(l:List Int)(n:Nat)(a:l.length=n)(b:n<=100):(w.alloc (.cells (l.map (G .i64)).toArray 3)).ownsRow w.heap.size 3 1 (F (some ⟨w.heap.size,0,none⟩) n n) n (l.map (G .i64)):=by
 have:=kC (base:=w.heap.size) (e:=3) (size:=1) w (l.map (G .i64)).toArray n (ae _) (by unfold maxLen;omega) (by simp[a]);simpa using this
theorem bg(w:A)(o:Obj):Below w.heap.size w (w.alloc o):=(ag _ w).alloc (ae _) o
theorem qr(w:A)(l:List Int)(b:Bool)(a:l.length<=100):jj w (l,b) (C (M #[F (some ⟨w.heap.size,0,none⟩) l.length l.length,J b])) (w.alloc (.cells (l.map (G .i64)).toArray 3)):=
 ⟨_,_,rfl,qp w l _ rfl a,bg w _⟩
theorem Bc(w:A)(b:Bool):jj w ([],b) (C (M #[F none 0 0,J b])) w:=⟨_,_,rfl,bc _ _ _ _,ag _ w⟩
theorem ui(v:I)(w:A):L E 96 #[v] w fun e a=>e= C v/\a=w:=by
 go_in;go_wp2;go_ret;exact⟨rfl,rfl⟩
theorem ru(w:A)(t:Int):L E 155 #[N .i64 t] w fun e g=>e= C (J (ld t))/\g=w:=by
 by_cases a:t=25\/t=50\/t=62\/t=69
 ·have e:ld t=O:=bC a;rw[e];rcases a with rfl|rfl|rfl|rfl;all_goals
   go_in;go_wp2;go_ret;exact⟨rfl,rfl⟩
 ·have e:ld t=H:=aB a;rw[e];have b:¬t=25:=by omega
  have c:¬t=50:=by omega
  have d:¬t=62:=by omega
  have f:¬t=69:=by omega
  have h:(t==25)=H:=beq_eq_false_iff_ne.2 b;have i:(t==50)=H:=beq_eq_false_iff_ne.2 c;have j:(t==62)=H:=beq_eq_false_iff_ne.2 d;have k:(t==69)=H:=beq_eq_false_iff_ne.2 f;clear a e;go_in;go_wp2;go_ret;exact⟨rfl,rfl⟩
theorem zl(w:A)(t:Int):L E 158 #[N .i64 t] w fun e d=>e= C (J (ia t))/\d=w:=by
 by_cases a:t=10\/t=26
 ·have e:ia t=O:=bC (by omega);rw[e];rcases a with rfl|rfl;all_goals
   go_in;go_wp2;go_ret;exact⟨rfl,rfl⟩
 ·have b:¬t=10:=by omega
  have c:¬t=26:=by omega
  have f:(t==10)=H:=beq_eq_false_iff_ne.2 b;have g:(t==26)=H:=beq_eq_false_iff_ne.2 c;by_cases h:60<t
  ·have e:ia t=O:=bC (by omega);rw[e];clear a e;go_in;go_wp2;go_ret;exact⟨rfl,rfl⟩
  ·have e:ia t=H:=aB (by omega);rw[e];clear a e;go_in;go_wp2;go_ret;exact⟨rfl,rfl⟩
theorem ry(w:A)(t:Int):L E 98 #[N .i64 t] w fun e c=>e= C (J (dG t))/\c=w:=by
 by_cases a:t=1\/t=2\/t=3\/t=4\/t=24\/t=29\/t=17\/t=49\/t=18\/t=40\/t=42
 ·have e:dG t=O:=by unfold dG;rw[bC a];rfl
  rw[e];rcases a with rfl|rfl|rfl|rfl|rfl|rfl|rfl|rfl|rfl|rfl|rfl;all_goals
   go_in;go_wp2;go_ret;exact⟨rfl,rfl⟩
 ·have e:dG t=ld t:=by unfold dG;rw[aB a];rfl
  rw[e];have f:¬t=1:=by omega
  have i:¬t=2:=by omega
  have l:¬t=3:=by omega
  have m:¬t=4:=by omega
  have j:¬t=24:=by omega
  have k:¬t=29:=by omega
  have g:¬t=17:=by omega
  have p:¬t=49:=by omega
  have h:¬t=18:=by omega
  have n:¬t=40:=by omega
  have o:¬t=42:=by omega
  have b:=fun w=>ru w t;clear a e;generalize ld t=d at b⊢;go_in;go_wp2_with (go_at_call 155;refine dK (b _) ?_);go_ret;exact⟨rfl,rfl⟩
theorem ieq(t c:Int):(t=c)=((t==c)=O):=by simp
theorem JE(w:A)(t:Int):L E 97 #[N .i64 t] w (jj w (ik t)):=by
 go_in;go_wp2_with (go_at_call 96;refine dK (ui _ _) ?_);all_goals
  go_ret2;go_tidy
  simp only[ik,ieq, *];simp[*];first|exact qr w _ _ (by simp)|exact Bc w _
theorem JF(w:A)(t:Int):L E 157 #[N .i64 t] w (jj w (GH t)):=by
 have b:=fun w=>ru w t;have a:=fun w=>ry w t;go_in;go_wp2_with (first|(go_at_call 96;refine dK (ui _ _) ?_)|(go_at_call 155;refine dK (b _) ?_)|(go_at_call 98;refine dK (a _) ?_));all_goals
  go_ret2;go_tidy
  simp only[GH,ieq, *];simp[*];first|exact qr w _ _ (by simp)|exact Bc w _
