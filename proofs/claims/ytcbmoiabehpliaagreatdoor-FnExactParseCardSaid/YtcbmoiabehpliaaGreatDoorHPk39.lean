import Derived.Test.YtcbmoiabehpliaaGreatDoorHPk13
import Derived.Test.YtcbmoiabehpliaaGreatDoorHPk08
import Derived.Test.YtcbmoiabehpliaaGreatDoorHPk01
import Derived.Test.YtcbmoiabehpliaaGreatDoorHPk12
import Derived.Test.YtcbmoiabehpliaaGreatDoorHPk06
import Derived.Test.YtcbmoiabehpliaaGreatDoorHPk37
set_option linter.unusedVariables false
set_option maxRecDepth 100000
set_option maxHeartbeats 3200000
namespace Go.Proofs.YtcbmoiabehpliaaGreatDoor
open Go.RowKit Go.Maps Go.WideMaps
theorem Ct{w:World}{v:Value}{ns:List Nd}{N:Nd}{vn vk:Value}(d:bP w v ns N vn vk)(l:N.k=10):
  Calls Tryz.prog 52 #[.agg #[v],bu N vn vk] w fun e f=>e= .returned (.bool (aq N false false false true&&bF N 1 200&&((N.ks.length:Int)==2)&&di ns N 1 0&&(ba ns N 1==1)))/\Below w.heap.size w f:=by
 obtain⟨C,K,rfl⟩:=d.t.form;obtain⟨H,E,rfl⟩:=d.n.form;obtain⟨J,L,rfl⟩:=d.k.form;have b:=St.start d;have B:=d.lx;have F:Hid (N.x.size<=1100000):=by show _<=_;omega
 clear d;have I:=eI l;have M:=gZ l 10 rfl;clear l;cases t0:aq N false false false true
 case' true=>
  cases t1:bF N 1 200
  case' true=>
   cases t2:((N.ks.length:Int)==2)
   case' true=>
    have z:N.ks.length=2:=by have:=eq_of_beq t2;omega
    have A:Hid (1<=N.ks.length):=by show _<=_;omega
    have G:Hid (0<N.ks.length):=by show _<_;omega
    have y:Hid (1<N.ks.length):=by show _<_;omega
    clear z;cases t3:di ns N 1 0
    case' true=>
     cases t4:(ba ns N 1==1)
 all_goals
  unfold bu;go_in;go_wp2_with (first|(go_at_call 107;refine(dD _ N _ _ b.a.n b.a.k b.a.l1).mono ?_;rintro e f ⟨rfl,c⟩;replace b:=b.below c;clear c;obtain⟨u,h,g,r,s,p,q,o,i,j⟩:=ad b.bn;have m:=b.bt)|(go_at_call 108;refine(da _ N _ _ 1 200 b.a.n b.a.k b.a.l1 b.a.ls).mono ?_;rintro e f ⟨rfl,c⟩;replace b:=b.below c;clear c;obtain⟨u,h,g,r,s,p,q,o,i,j⟩:=ad b.bn;have m:=b.bt)|(go_at_call 109;refine(aL _ _ ns N _ _ 0 1 b.a.t b.a.n b.a.k b.a.ok A.out b.a.ln b.a.l2).mono ?_;rintro e f ⟨rfl,c⟩;replace b:=b.below c;clear c;obtain⟨u,h,g,r,s,p,q,o,i,j⟩:=ad b.bn;have m:=b.bt)|(go_at_call 106;with_reducible refine(kD b.a y.out).mono ?_;rintro e f ⟨rfl,c⟩;replace b:=b.below c;clear c;obtain⟨u,h,g,r,s,p,q,o,i,j⟩:=ad b.bn;have m:=b.bt));go_ret;exact⟨rfl,b.bel⟩
theorem Cu{w:World}{h:Value}{ns:List Nd}{N:Nd}{vn vk:Value}(c:bP w h ns N vn vk)(f:N.k=13):
  Calls Tryz.prog 52 #[.agg #[h],bu N vn vk] w fun e g=>e= .returned (.bool (aq N false false false false&&di ns N N.ks.length 0))/\Below w.heap.size w g:=by
 obtain⟨z,H,rfl⟩:=c.t.form;obtain⟨E,A,rfl⟩:=c.n.form;obtain⟨G,I,rfl⟩:=c.k.form;have b:=St.start c;have y:=c.lx;have B:Hid (N.x.size<=1100000):=by show _<=_;omega
 clear c;have F:=eI f;have C:=gZ f 13 rfl;clear f;cases t0:aq N false false false false
 case' true=>
  cases t1:di ns N N.ks.length 0
 all_goals
  unfold bu;go_in;go_wp2_with (first|(go_at_call 107;refine(aJ _ N _ _ b.a.n b.a.k b.a.l1).mono ?_;rintro e g ⟨rfl,d⟩;replace b:=b.below d;clear d;obtain⟨v,j,i,s,u,r,q,p,l,m⟩:=ad b.bn;have o:=b.bt)|(go_at_call 109;refine(aL _ _ ns N _ _ 0 N.ks.length b.a.t b.a.n b.a.k b.a.ok (Nat.le_refl _) b.a.ln b.a.l2).mono ?_;rintro e g ⟨rfl,d⟩;replace b:=b.below d;clear d;obtain⟨v,j,i,s,u,r,q,p,l,m⟩:=ad b.bn;have o:=b.bt));go_ret;exact⟨rfl,b.bel⟩
structure Lk (W:World) (lb mb:Nat) (vs:Value):Prop where
 b:W.heap[lb]?=some (.cells #[.map (some mb),vs] 155 (0,0))
 m:W.ownsMap Tryz.prog 9 (plainElem (H:=Unit) Tryz.prog 3) mb 22 (kV 22)
 e:eF W
theorem gJ{W a:World}{mb n:Nat}{D:DataW Unit}(h:W.ownsMap Tryz.prog 9 (plainElem (H:=Unit) Tryz.prog 3) mb n D)(f:a.heap[mb]?=W.heap[mb]?):a.ownsMap Tryz.prog 9 (plainElem (H:=Unit) Tryz.prog 3) mb n D:=by
 obtain⟨c,d,e,b⟩:=h;exact⟨c,d,f.trans e,b⟩
theorem eF.keep{W a:World}(h:eF W)(b:Below W.heap.size W a):eF a:=by
 obtain⟨⟨f,g,i⟩,⟨d,c,e⟩⟩:=h;exact⟨⟨f,g,aa b i⟩,⟨d,c,aa b e⟩⟩
theorem Lk.below{W d:World}{lb mb:Nat}{c:Value}(h:Lk W lb mb c)(a:Below W.heap.size W d):Lk d lb mb c:=
 ⟨(a.block _ (lt_of_block h.b)).trans h.b,gJ h.m (a.block _ h.m.lt),h.e.keep a⟩
theorem iF(w:World)(lb mb:Nat)(i:Value)(s:ByteArray)(k:s.size<=1100000)(h:Lk w lb mb i):
  Calls Tryz.prog 193 #[.pointer (some ⟨lb,0,none⟩),.string s] w fun e g=>e= .returned (.bool (fs s))/\g=w:=by
 have l:w.cell? ⟨lb,0,none⟩=some (.map (some mb)):=by rw[cell_of_row _ _ _ _ _ _ h.b];rfl
 have a:=vG s k mb w h.m;by_cases f:s.size<=40
 ·have e:decide (aC (ae s 0)=true/\eo s (s.size+1) 0=s.size/\gS s=false)=fs s:=by
   unfold fs;by_cases c:aC (ae s 0)=true/\eo s (s.size+1) 0=s.size/\gS s=false
   ·rw[decide_eq_true c,decide_eq_true ⟨f,c⟩]
   ·rw[decide_eq_false c,decide_eq_false (fun d=>c d.2)]
  rw[e]at a;generalize fs s=n at a⊢;clear e h;have j:(s.size:Int)<=40:=by omega
  go_in;go_wp2_with (go_at_call 211;refine a.mono ?_;rintro e g ⟨rfl,rfl⟩);go_ret;exact⟨rfl,rfl⟩
 ·have e:fs s=false:=by unfold fs;rw[decide_eq_false (fun d=>f d.1)]
  rw[e];have j:¬(s.size:Int)<=40:=by omega
  clear a;go_in;go_wp2;go_ret;exact⟨rfl,rfl⟩
theorem kL(w:World)(lb mb:Nat)(p:Value)(vn:Value)(l:List ByteArray)(h:Lk w lb mb p)(k:aH w vn l)(t:l.length<=1048576)(q:∀s∈l,s.size<=1048576):
  Calls Tryz.prog 175 #[.pointer (some ⟨lb,0,none⟩),vn] w fun e r=>e= .returned (.bool (jy l l.length 0))/\r=w:=by
 have j:=cS k q h;obtain⟨I,G,rfl⟩:=k.form;obtain⟨o,i⟩:=ah (jy l l.length 0);rw[i];obtain⟨b,m⟩:=ah l.length;have A:=ab m;rw[m]at j t i⊢;have z:qx l b 0 o:=⟨i⟩;clear m k q h i;go_in;go_wp2_with fail;go_loop [9] (fun n=>∃(a:Nat),n= .int .i64 a/\a<=b/\qx l (b-a) a o) (fun n=>b-(intOf n).toNat)
 case atStart=>exact⟨0,rfl,by omega,z⟩
 case round=>
  obtain⟨a,rfl,E,y⟩:=hrel;have c:=y.out;by_cases x:a<b
  ·obtain⟨s,f⟩:=aF A.out x;have H:=j.out.2.1 s (List.mem_of_getElem? f);obtain⟨B,rfl,F⟩:=j.out.1.get f;rw[show b-a=(b-(a+1))+1 by omega,jy,List.getD_eq_getElem?_getD,f,Option.getD_some]at c;have u:(a:Int)<(b:Int):=by omega
   have C:(0:Int)<=(a:Int):=by omega
   have g:=iF w lb mb p s (by omega) j.out.2.2;clear f;cases hx:fs s with
   |true=>
    rw[hx,Bool.true_and]at c;rw[hx]at g;have d:qx l (b-(a+1)) (a+1) o:=⟨c⟩;clear c hx;go_wp2_with (go_at_call 193;refine g.mono ?_;rintro e v ⟨rfl,rfl⟩);go_round
    case rel=>exact⟨a+1,by go_num,by omega,d⟩
    case measure=>simp[intOf];omega
   |false=>
    rw[hx,Bool.false_and]at c;rw[hx]at g;have d:=ab c;clear c hx;go_wp2_with (go_at_call 193;refine g.mono ?_;rintro e v ⟨rfl,rfl⟩);go_ret;exact⟨by rw[<-d.out];rfl,rfl⟩
  ·rw[show b-a=0 by omega,jy]at c;have d:=ab c;have u:¬(a:Int)<(b:Int):=by omega
   clear c;go_wp2_with fail;go_ret;exact⟨by rw[<-d.out];rfl,rfl⟩
def He(k:Int)(x:ByteArray):Bool:=if k=24 then GA x else if k=25 then decide ((x.size:Int)<=4000) else fs x
theorem rW(w:World)(lb mb:Nat)(f:Value)(k:Int)(s:ByteArray)(j:s.size<=1100000)(h:Lk w lb mb f):
  Calls Tryz.prog 176 #[.pointer (some ⟨lb,0,none⟩),.int .i64 k,.string s] w fun e c=>e= .returned (.bool (He k s))/\Below w.heap.size w c:=by
 have a:=iF w lb mb f s j h;have b:=tj s j w h.e;unfold He;by_cases d:k=24
 ·subst d;rw[if_pos rfl];unfold GA;by_cases g:s.size<=40
  ·have m:(s.size:Int)<=40:=by omega
   rw[decide_eq_true g,Bool.true_and];generalize fM s=l at b⊢;clear a h;go_in;go_wp2_with (go_at_call 194;refine b.mono ?_;rintro e c ⟨rfl,n⟩);go_ret;exact⟨rfl,n⟩
  ·have m:¬(s.size:Int)<=40:=by omega
   rw[decide_eq_false g,Bool.false_and];clear a b h;go_in;go_wp2;go_ret;exact⟨rfl,Below.refl _ _⟩
 by_cases i:k=25
 ·subst i;rw[if_neg (by decide),if_pos rfl];clear a b h d;go_in;go_wp2;go_ret;exact⟨rfl,Below.refl _ _⟩
 rw[if_neg d,if_neg i];generalize fs s=l at a⊢;clear b h;go_in;go_wp2_with (go_at_call 193;refine a.mono ?_;rintro e c ⟨rfl,rfl⟩);go_ret;exact⟨rfl,Below.refl _ _⟩
def oP(k:Int):Int:=if k=2\/k=10 then 200 else if k=14 then 2 else 1
theorem mL(k:Int)(w:World):Calls Tryz.prog 174 #[.int .i64 k] w fun e b=>e= .returned (.tuple #[.int .i64 1,.int .i64 (oP k)])/\b=w:=by
 unfold oP;rcases(show k=2\/k=10\/k=14\/(¬k=2/\¬k=10/\¬k=14) by omega) with rfl|rfl|rfl|⟨d,c,a⟩
 ·rw[if_pos (by decide)];go_in;go_wp2;go_ret2;exact⟨rfl,rfl⟩
 ·rw[if_pos (by decide)];go_in;go_wp2;go_ret2;exact⟨rfl,rfl⟩
 ·rw[if_neg (by decide),if_pos rfl];go_in;go_wp2;go_ret2;exact⟨rfl,rfl⟩
 ·rw[if_neg (by omega),if_neg a];go_in;go_wp2;go_ret2;exact⟨rfl,rfl⟩
theorem KV(w:World)(lb mb:Nat)(k:Value)(h:Lk w lb mb k)(b:Nat)(nk v x z r:Int)(vk:Value)(vn:Value)(l:List ByteArray)(f:aH w vn l)(o:l.length<=1048576)(p:∀s∈l,s.size<=1048576)
  (g:w.heap[b]?=some (.cells #[.int .i64 nk,.int .i64 v,.int .i64 x,.int .i64 z,.int .i64 r,vk,vn] 138 (0,0))):
  Calls Tryz.prog 140 #[.pointer (some ⟨lb,0,none⟩),.iface 136 (.pointer (some ⟨b,0,none⟩))] w fun e m=>e= .returned (.bool (decide (1<=(l.length:Int)/\(l.length:Int)<=oP nk)&&jy l l.length 0))/\m=w:=by
 have B:=fun w=>E0 b w;have E:=fun w=>E1 b w;have c:=fun w=>mL nk w;have a:=kL w lb mb k vn l h f o p;obtain⟨u,q,rfl⟩:=f.form;have A:w.cell? ⟨b,0,none⟩=some (.int .i64 nk):=by rw[cell_of_row _ _ _ _ _ _ g];rfl
 have t:w.cell? ⟨b,6,none⟩=some (.slice u l.length q):=by rw[cell_of_row _ _ _ _ _ _ g];rfl
 generalize jy l l.length 0=C at a⊢;generalize l.length=n at o a t⊢;generalize oP nk=y at c⊢;clear g f p h;by_cases j:1<=(n:Int)
 ·by_cases i:(n:Int)<=y
  ·rw[decide_eq_true ⟨j,i⟩,Bool.true_and];go_in;go_wp2_with (first|(go_at_call 174;refine bc (c _) ?_)|(go_at_call 175;refine a.mono ?_;rintro e m ⟨rfl,rfl⟩));go_ret;exact⟨rfl,rfl⟩
  ·rw[decide_eq_false (fun d=>i d.2),Bool.false_and];clear a;go_in;go_wp2_with (go_at_call 174;refine bc (c _) ?_);go_ret;exact⟨rfl,rfl⟩
 ·rw[decide_eq_false (fun d=>j d.1),Bool.false_and];clear a;go_in;go_wp2_with (go_at_call 174;refine bc (c _) ?_);go_ret;exact⟨rfl,rfl⟩
theorem KW(w:World)(lb:Nat)(b:Nat)(nk p l n o a:Int)(j:Option Addr)(c i:Nat)(u:c<=1048576)
  (g:w.heap[b]?=some (.cells #[.int .i64 nk,.int .i64 p,.int .i64 l,.int .i64 n,.int .i64 o,.slice j c i,.int .i64 a] 141 (0,0))):
  Calls Tryz.prog 140 #[.pointer (some ⟨lb,0,none⟩),.iface 139 (.pointer (some ⟨b,0,none⟩))] w fun e m=>e= .returned (.bool (decide (1<=a/\a<(c:Int))))/\Below w.heap.size w m:=by
 have r:=fun w=>E0 b w;have s:=fun w=>E1 b w;have v:w.cell? ⟨b,5,none⟩=some (.slice j c i):=by rw[cell_of_row _ _ _ _ _ _ g];rfl
 have q:w.cell? ⟨b,6,none⟩=some (.int .i64 a):=by rw[cell_of_row _ _ _ _ _ _ g];rfl
 clear g;by_cases f:1<=a
 ·by_cases d:a<(c:Int)
  ·rw[decide_eq_true ⟨f,d⟩];go_in;go_wp2_with fail;go_quiet (fail)
   go_wp2_with fail;go_ret;exact⟨rfl,dr (Below.refl _ _) _⟩
  ·rw[decide_eq_false (fun h=>d h.2)];have k:=ab d;go_in;go_wp2_with fail;go_quiet (fail)
   go_wp2_with fail;go_ret;exact⟨by show Ending.returned (.bool (decide (a<(c:Int))))=_;rw[decide_eq_false (by have:=k.out;omega)],dr (Below.refl _ _) _⟩
 ·rw[decide_eq_false (fun h=>f h.1)];have t:decide ((1:Int)<=a)=false:=decide_eq_false f;go_in;go_wp2_with fail;go_quiet (fail)
  go_wp2_with fail;go_ret;exact⟨rfl,dr (Below.refl _ _) _⟩
theorem KX(w:World)(lb:Nat)(b:Nat):
  Calls Tryz.prog 140 #[.pointer (some ⟨lb,0,none⟩),.iface 142 (.pointer (some ⟨b,0,none⟩))] w fun e a=>e= .returned (.bool true)/\a=w:=by
 have c:=fun w=>E0 b w;have d:=fun w=>E1 b w;go_in;go_wp2;go_ret;exact⟨rfl,rfl⟩
theorem KY(w:World)(lb:Nat)(b:Nat):
  Calls Tryz.prog 140 #[.pointer (some ⟨lb,0,none⟩),.iface 97 (.pointer (some ⟨b,0,none⟩))] w fun e a=>e= .returned (.bool true)/\a=w:=by
 have c:=fun w=>E0 b w;have d:=fun w=>E1 b w;go_in;go_wp2;go_ret;exact⟨rfl,rfl⟩
theorem KZ(w:World)(lb mb:Nat)(f:Value)(h:Lk w lb mb f)(b:Nat)(nk n j k l:Int)(vk:Value)(x:ByteArray)(o:x.size<=1100000)
  (d:w.heap[b]?=some (.cells #[.int .i64 nk,.int .i64 n,.int .i64 j,.int .i64 k,.int .i64 l,vk,.string x] 147 (0,0))):
  Calls Tryz.prog 140 #[.pointer (some ⟨lb,0,none⟩),.iface 145 (.pointer (some ⟨b,0,none⟩))] w fun e a=>e= .returned (.bool (He nk x))/\Below w.heap.size w a:=by
 have p:=fun w=>E0 b w;have q:=fun w=>E1 b w;have g:=rW w.drew lb mb f nk x o (h.below (aE (Below.refl _ w)));have m:w.cell? ⟨b,0,none⟩=some (.int .i64 nk):=by rw[cell_of_row _ _ _ _ _ _ d];rfl
 have i:w.cell? ⟨b,6,none⟩=some (.string x):=by rw[cell_of_row _ _ _ _ _ _ d];rfl
 generalize He nk x=s at g⊢;clear d h;go_in;go_wp2_with fail;go_region_held3 (fun a=>a.cell? ⟨b,0,none⟩=some (.int .i64 nk)/\a.cell? ⟨b,6,none⟩=some (.string x)) (first|go_keep|exact⟨aa c m,aa c i⟩) ((go_at_call 176;refine g.mono ?_;rintro e r ⟨rfl,c⟩))
 go_wp2_with fail;go_ret;exact⟨rfl,(aE (Below.refl _ w)).trans c⟩
theorem K6(w:World)(lb:Nat)(b:Nat)(nk k g i j a:Int)(vk:Value)
  (d:w.heap[b]?=some (.cells #[.int .i64 nk,.int .i64 k,.int .i64 g,.int .i64 i,.int .i64 j,vk,.int .i64 a] 150 (0,0))):
  Calls Tryz.prog 140 #[.pointer (some ⟨lb,0,none⟩),.iface 148 (.pointer (some ⟨b,0,none⟩))] w fun e h=>e= .returned (.bool (if nk=30 then(decide ((19:Int)<=a)&&decide (a<=22)) else(decide ((1:Int)<=a)&&decide (a<=18))))/\h=w:=by
 have m:=fun w=>E0 b w;have n:=fun w=>E1 b w;have o:w.cell? ⟨b,0,none⟩=some (.int .i64 nk):=by rw[cell_of_row _ _ _ _ _ _ d];rfl
 have l:w.cell? ⟨b,6,none⟩=some (.int .i64 a):=by rw[cell_of_row _ _ _ _ _ _ d];rfl
 clear d;by_cases f:nk=30
 ·rw[if_pos f];by_cases c:(19:Int)<=a
  ·rw[decide_eq_true c,Bool.true_and];go_in;go_wp2;go_ret;exact⟨rfl,rfl⟩
  ·rw[decide_eq_false c,Bool.false_and];go_in;go_wp2;go_ret;exact⟨rfl,rfl⟩
 ·rw[if_neg f];by_cases c:(1:Int)<=a
  ·rw[decide_eq_true c,Bool.true_and];go_in;go_wp2;go_ret;exact⟨rfl,rfl⟩
  ·rw[decide_eq_false c,Bool.false_and];go_in;go_wp2;go_ret;exact⟨rfl,rfl⟩
theorem K8(w:World)(lb mb:Nat)(d:Value)(h:Lk w lb mb d)(b:Nat)(nk r o p q:Int)(vk:Value)(vn:Value)(t:Bool)(l:List ByteArray)(a:aH w vn l)(g:l.length<=1048576)(i:∀s∈l,s.size<=1048576)
  (j:w.heap[b]?=some (.cells #[.int .i64 nk,.int .i64 r,.int .i64 o,.int .i64 p,.int .i64 q,vk,vn,.bool t] 153 (0,0))):
  Calls Tryz.prog 140 #[.pointer (some ⟨lb,0,none⟩),.iface 151 (.pointer (some ⟨b,0,none⟩))] w fun e f=>e= .returned (.bool (jy l l.length 0))/\f=w:=by
 have u:=fun w=>E0 b w;have v:=fun w=>E1 b w;have c:=kL w lb mb d vn l h a g i;obtain⟨n,k,rfl⟩:=a.form;have m:w.cell? ⟨b,6,none⟩=some (.slice n l.length k):=by rw[cell_of_row _ _ _ _ _ _ j];rfl
 generalize jy l l.length 0=y at c⊢;generalize l.length=x at g c m⊢;clear j a i h;go_in;go_wp2_with (go_at_call 175;refine c.mono ?_;rintro e f ⟨rfl,rfl⟩);go_ret;exact⟨rfl,rfl⟩
end Go.Proofs.YtcbmoiabehpliaaGreatDoor
