import Derived.Test.YtkfgnpcanadjhaaGreatDoorHSk07
import Derived.Test.YtkfgnpcanadjhaaGreatDoorHSk17
import Derived.Test.YtkfgnpcanadjhaaGreatDoorHSk04
import Derived.Sort.LoopGhostIn
set_option linter.all false
set_option maxRecDepth 100000
set_option maxHeartbeats 12800000
namespace Go.Proofs.YtkfgnpcanadjhaaGreatDoor
open Go.RowKit Go.Maps Go.WideMaps
def Iu(a:List Nd)(N:Nd):Nat->Nat->Bool
 |0,_=>true
 |f+1,j=>vB (eC a N j)&&Iu a N f (j+1)
structure agC (ns:List Nd) (N:Nd) (f j:Nat) (R:Bool):Prop where
 out:Iu ns N f j=R
theorem aef{w:World}{ad:Value}{f:List Nd}{N:Nd}{vn vk:Value}(i:NArg w ad f N vn vk)(F:N.k=5):
  Calls Tryz.prog 46 #[.agg #[ad],gF N vn vk] w fun e B=>e= .returned (.bool (bj N false true false false&&(decide (1<=N.n/\N.n<(N.ks.length:Int))&&(Iu f N N.n.toNat 0&&jj f N (N.ks.length-N.n.toNat) N.n.toNat))))/\Below w.heap.size w B:=by
 obtain⟨am,ar,rfl⟩:=i.t.form
 obtain⟨an,av,rfl⟩:=i.n.form
 obtain⟨ao,a0,rfl⟩:=i.k.form
 have b:=St.start i
 have a8:=i.l2
 clear i
 have bb:=Lj F
 have bc:=kqt F 5 rfl
 clear F
 unfold gF
 cases t0:bj N false true false false with
 |false=>
  go_in
  go_wp2_with (first|(go_at_call 126;refine b.bare fun E b=>?_;obtain⟨j,l,m,o,p,q,r,s,u,v⟩:=bz b.bn;have x:=b.bt))
  go_ret
  exact⟨rfl,b.bel⟩
 |true=>
  by_cases a5:N.n<1
  ·rw[az (by omega)]
   go_in
   go_wp2_with (first|(go_at_call 126;refine b.bare fun E b=>?_;obtain⟨j,l,m,o,p,q,r,s,u,v⟩:=bz b.bn;have x:=b.bt))
   go_ret
   exact⟨rfl,b.bel⟩
  by_cases a6:(N.ks.length:Int)<=N.n
  ·rw[az (by omega)]
   go_in
   go_wp2_with (first|(go_at_call 126;refine b.bare fun E b=>?_;obtain⟨j,l,m,o,p,q,r,s,u,v⟩:=bz b.bn;have x:=b.bt))
   go_ret
   exact⟨rfl,b.bel⟩
  rw[bB (by omega)]
  obtain⟨d,K⟩:∃d:Nat,N.n=(d:Int):=⟨N.n.toNat,by omega⟩
  have L:N.n.toNat=d:=by omega
  rw[L]
  have ba:d<N.ks.length:=by omega
  have ak:=aj K
  obtain⟨C,G⟩:=aE (Iu f N d 0)
  rw[G]
  have al:agC f N d 0 C:=⟨G⟩
  clear G K L
  go_in
  go_wp2_with (first|(go_at_call 126;refine b.bare fun E b=>?_;obtain⟨j,l,m,o,p,q,r,s,u,v⟩:=bz b.bn;have x:=b.bt))
  go_loopw [7] (fun J wr=>∃(c:Nat),J= .int .i64 c/\c<=d/\agC f N (d-c) c C/\St w (.slice am f.length ar) f N (.slice an N.nm.length av) (.slice ao N.ks.length a0) wr) (fun J _=>d-(intOf J).toNat)
  case atStart=>exact⟨0,rfl,by omega,al,b⟩
  case round=>
   clear b
   obtain⟨c,rfl,a7,af,b⟩:=hrel
   obtain⟨bd,bf,bk,bl,bo,br,bs,bv,bw,bx⟩:=bz b.bn
   have bA:=b.bt
   have g:=af.out
   have H:=ak.out
   by_cases a9:c<d
   ·rw[show d-c=(d-(c+1))+1 by omega,Iu]at g
    have a4:(c:Int)<N.n:=by omega
    have A:=nh b.a c (by omega)
    unfold gF at A
    have z:=fun w=>Cf (eC f N c) w
    clear H
    generalize eC f N c=ap at g A z
    cases hx:vB ap with
    |false=>
     rw[hx,dC]at g
     rw[hx]at z
     have y:=aj g
     clear g hx
     go_wp2_with (first|(go_at_call 125;refine A.mono ?_;rintro e B ⟨rfl,h⟩;replace b:=b.below h;clear h;obtain⟨j,l,m,o,p,q,r,s,u,v⟩:=bz b.bn;have x:=b.bt)|(go_at_call 129;refine dj (z _) ?_))
     go_ret
     exact⟨by rw[<-y.out];rfl,b.bel⟩
    |true=>
     rw[hx,ez]at g
     rw[hx]at z
     have y:agC f N (d-(c+1)) (c+1) C:=⟨g⟩
     clear g hx
     go_wp2_with (first|(go_at_call 125;refine A.mono ?_;rintro e B ⟨rfl,h⟩;replace b:=b.below h;clear h;obtain⟨j,l,m,o,p,q,r,s,u,v⟩:=bz b.bn;have x:=b.bt)|(go_at_call 129;refine dj (z _) ?_))
     exact⟨⟨c+1,by go_num,by omega,y,b⟩,by simp[intOf];omega⟩
   ·rw[show d-c=0 by omega,Iu]at g
    have y:=aj g
    have a4:¬(c:Int)<N.n:=by omega
    have I:=jr _ _ f N _ _ d N.ks.length b.a.t b.a.n b.a.k b.a.ok (ah _) b.a.ln b.a.l2
    unfold gF at I
    rw[<-H]at I
    clear g H
    go_wp2_with (go_at_call 128;refine I.mono ?_;rintro e B ⟨rfl,h⟩;replace b:=b.below h;clear h;obtain⟨j,l,m,o,p,q,r,s,u,v⟩:=bz b.bn;have x:=b.bt)
    go_ret
    exact⟨by rw[<-y.out];rfl,b.bel⟩
theorem agD(k:Int):dL k=0\/dL k=1\/dL k=2\/dL k=3\/dL k=4\/dL k=5\/dL k=6:=by
 unfold dL
 repeat' split
 all_goals simp
theorem Kb(w:World)(b:Nat)(N:Nd)(vn y:Value)(z:Int)(u:∃a n c,vn= .slice a n c)(g:gl w b N vn z y):
  Calls Tryz.prog 121 #[gC N.k b] w fun e d=>e= .returned (gF (qd N (dL N.k)) (Ka vn (dL N.k)) (.slice none 0 0))/\Below w.heap.size w d:=by
 obtain⟨A,I,B,rfl⟩:=u
 unfold gl at g
 unfold gC
 have H:=fun w=>afD b w
 have C:=fun w=>asT b w
 have E:=fun w=>asF b w
 have x:=fun w=>de b w
 have F:=aw g
 have G:b<w.heap.size+1:=by omega
 have s:∀h i,Below w.heap.size w ((w.alloc h).alloc i).drew:=fun h i=>aq (((ag _ w).alloc (ah _) h).alloc (by simp) i)
 have c:=fun v=>au w b v _ _ _ g
 have j:=c 0
 have m:=c 1
 have o:=c 2
 have p:=c 3
 have q:=c 6
 have r:=c 7
 clear c g
 unfold gF
 rcases agD N.k with hc|hc|hc|hc|hc|hc|hc
 all_goals
  simp only[hc,exT,jd,qd,Ka,fl,er]at j m o p q r⊢
  simp at j m o p q r
  go_in
  go_wp2_with (go_at_call 307;refine dj (x _) ?_)
  all_goals
   go_region_held3 (fun d=>d.cell? ⟨b,0,none⟩=some (.int .i64 N.k)/\d.cell? ⟨b,1,none⟩=some (.int .i64 N.f)/\d.cell? ⟨b,2,none⟩=some (.int .i64 N.t)/\d.cell? ⟨b,3,none⟩=some (.int .i64 N.l)) (go_keep) (fail)
   go_wp2_with fail
   all_goals exact aH (du rfl _ _ w.heap.size _ _ _ _ rfl ((eo _ _ _ (by simp)).trans (ay w _)) Tryz.underlying50 rfl (by kernel_rfl)) rfl ⟨by simp[*],s _ _⟩
structure Lk (W:World) (lb mb:Nat) (vs:Value):Prop where
 b:W.heap[lb]?=some (.cells #[.map (some mb),vs] 98 (0,0))
 m:W.ownsMap Tryz.prog 9 (plainElem (H:=Unit) Tryz.prog 3) mb 22 (FD 22)
 e:mC W
theorem pA{W a:World}{mb n:Nat}{D:DataW Unit}(d:W.ownsMap Tryz.prog 9 (plainElem (H:=Unit) Tryz.prog 3) mb n D)(e:a.heap[mb]?=W.heap[mb]?):a.ownsMap Tryz.prog 9 (plainElem (H:=Unit) Tryz.prog 3) mb n D:=by
 obtain⟨c,b,f,g⟩:=d
 exact⟨c,b,e.trans f,g⟩
theorem mC.keep{W a:World}(g:mC W)(b:Below W.heap.size W a):mC a:=by
 obtain⟨⟨c,d,h⟩,⟨e,f,i⟩⟩:=g
 exact⟨⟨c,d,ai b h⟩,⟨e,f,ai b i⟩⟩
theorem Lk.below{W d:World}{lb mb:Nat}{f:Value}(a:Lk W lb mb f)(c:Below W.heap.size W d):Lk d lb mb f:=
 ⟨(c.block _ (aw a.b)).trans a.b,pA a.m (c.block _ a.m.lt),a.e.keep c⟩
theorem qw(w:World)(lb mb:Nat)(k:Value)(s:ByteArray)(j:s.size<=1100000)(f:Lk w lb mb k):
  Calls Tryz.prog 204 #[.pointer (some ⟨lb,0,none⟩),.string s] w fun e h=>e= .returned (.bool (lK s))/\h=w:=by
 have n:w.cell? ⟨lb,0,none⟩=some (.map (some mb)):=by rw[au _ _ _ _ _ _ f.b];rfl
 have c:=FJ s j mb w f.m
 by_cases g:s.size<=40
 ·have e:decide (cD (aG s 0)=true/\pK s (s.size+1) 0=s.size/\qj s=false)=lK s:=by
   unfold lK
   by_cases a:cD (aG s 0)=true/\pK s (s.size+1) 0=s.size/\qj s=false
   ·rw[bB a,bB ⟨g,a⟩]
   ·rw[az a,az (fun d=>a d.2)]
  rw[e]at c
  generalize lK s=l at c⊢
  clear e f
  have i:(s.size:Int)<=40:=by omega
  go_in
  go_wp2_with (go_at_call 242;refine c.mono ?_;rintro e h ⟨rfl,rfl⟩)
  go_ret
  exact⟨rfl,rfl⟩
 ·have e:lK s=false:=by unfold lK;rw[az (fun d=>g d.1)]
  rw[e]
  have i:¬(s.size:Int)<=40:=by omega
  clear c
  go_in
  go_wp2
  go_ret
  exact⟨rfl,rfl⟩
theorem tC(w:World)(lb mb:Nat)(q:Value)(vn:Value)(l:List ByteArray)(o:Lk w lb mb q)(m:bp w vn l)(x:l.length<=1048576)(p:∀s∈l,s.size<=1048576):
  Calls Tryz.prog 171 #[.pointer (some ⟨lb,0,none⟩),vn] w fun e z=>e= .returned (.bool (qr l l.length 0))/\z=w:=by
 have f:=jw m p o
 obtain⟨B,C,rfl⟩:=m.form
 obtain⟨j,g⟩:=aE (qr l l.length 0)
 rw[g]
 obtain⟨b,k⟩:=aE l.length
 have t:=aj k
 rw[k]at f x g⊢
 have u:AH l b 0 j:=⟨g⟩
 clear k m p o g
 go_in
 go_wp2_with fail
 go_loop [9] (fun n=>∃(a:Nat),n= .int .i64 a/\a<=b/\AH l (b-a) a j) (fun n=>b-(intOf n).toNat)
 case atStart=>exact⟨0,rfl,by omega,u⟩
 case round=>
  obtain⟨a,rfl,F,r⟩:=hrel
  have c:=r.out
  by_cases y:a<b
  ·obtain⟨s,h⟩:=bC t.out y
   have H:=f.2.1 s (bJ h)
   obtain⟨I,rfl,E⟩:=f.1.get h
   rw[show b-a=(b-(a+1))+1 by omega,qr,aL,h,fH]at c
   have v:(a:Int)<(b:Int):=by omega
   have G:(0:Int)<=(a:Int):=by omega
   have i:=qw w lb mb q s (by omega) f.2.2
   clear h
   cases hx:lK s with
   |true=>
    rw[hx,ez]at c
    rw[hx]at i
    have d:AH l (b-(a+1)) (a+1) j:=⟨c⟩
    clear c hx
    go_wp2_with (go_at_call 204;refine i.mono ?_;rintro e A ⟨rfl,rfl⟩)
    go_round
    case rel=>exact⟨a+1,by go_num,by omega,d⟩
    case measure=>simp[intOf];omega
   |false=>
    rw[hx,dC]at c
    rw[hx]at i
    have d:=aj c
    clear c hx
    go_wp2_with (go_at_call 204;refine i.mono ?_;rintro e A ⟨rfl,rfl⟩)
    go_ret
    exact⟨by rw[<-d.out];rfl,rfl⟩
  ·rw[show b-a=0 by omega,qr]at c
   have d:=aj c
   have v:¬(a:Int)<(b:Int):=by omega
   clear c
   go_wp2_with fail
   go_ret
   exact⟨by rw[<-d.out];rfl,rfl⟩
def txB(k:Int)(x:ByteArray):Bool:=if k=24 then fok x else if k=25 then decide ((x.size:Int)<=4000) else lK x
theorem CA(w:World)(lb mb:Nat)(j:Value)(k:Int)(s:ByteArray)(i:s.size<=1100000)(a:Lk w lb mb j):
  Calls Tryz.prog 172 #[.pointer (some ⟨lb,0,none⟩),.int .i64 k,.string s] w fun e f=>e= .returned (.bool (txB k s))/\Below w.heap.size w f:=by
 have c:=qw w lb mb j s i a
 have b:=D8 s i w a.e
 unfold txB
 by_cases d:k=24
 ·subst d
  rw[ab rfl]
  unfold fok
  by_cases h:s.size<=40
  ·have n:(s.size:Int)<=40:=by omega
   rw[bB h,ez]
   generalize nF s=l at b⊢
   clear c a
   go_in
   go_wp2_with (go_at_call 205;refine b.mono ?_;rintro e f ⟨rfl,m⟩)
   go_ret
   exact⟨rfl,m⟩
  ·have n:¬(s.size:Int)<=40:=by omega
   rw[az h,dC]
   clear c b a
   go_in
   go_wp2
   go_ret
   exact⟨rfl,ag _ _⟩
 by_cases g:k=25
 ·subst g
  rw[aa (by decide),ab rfl]
  clear c b a d
  go_in
  go_wp2
  go_ret
  exact⟨rfl,ag _ _⟩
 rw[aa d,aa g]
 generalize lK s=l at c⊢
 clear b a
 go_in
 go_wp2_with (go_at_call 204;refine c.mono ?_;rintro e f ⟨rfl,rfl⟩)
 go_ret
 exact⟨rfl,ag _ _⟩
def yD(k:Int):Int:=if k=2\/k=10 then 200 else if k=14 then 2 else 1
theorem wv(k:Int)(w:World):Calls Tryz.prog 170 #[.int .i64 k] w fun e b=>e= .returned (.tuple #[.int .i64 1,.int .i64 (yD k)])/\b=w:=by
 unfold yD
 rcases(show k=2\/k=10\/k=14\/(¬k=2/\¬k=10/\¬k=14) by omega) with rfl|rfl|rfl|⟨c,d,a⟩
 ·rw[ab (by decide)]
  go_in
  go_wp2
  go_ret2
  exact⟨rfl,rfl⟩
 ·rw[ab (by decide)]
  go_in
  go_wp2
  go_ret2
  exact⟨rfl,rfl⟩
 ·rw[aa (by decide),ab rfl]
  go_in
  go_wp2
  go_ret2
  exact⟨rfl,rfl⟩
 ·rw[aa (by omega),aa a]
  go_in
  go_wp2
  go_ret2
  exact⟨rfl,rfl⟩
theorem ff0(w:World)(lb mb:Nat)(p:Value)(k:Lk w lb mb p)(b:Nat)(c x z y A:Int)(vk:Value)(vn:Value)(l:List ByteArray)(h:bp w vn l)(m:l.length<=1048576)(n:∀s∈l,s.size<=1048576)
  (g:w.heap[b]?=some (.cells #[.int .i64 c,.int .i64 x,.int .i64 z,.int .i64 y,.int .i64 A,vk,vn] 112 (0,0))):
  Calls Tryz.prog 122 #[.pointer (some ⟨lb,0,none⟩),.iface 109 (.pointer (some ⟨b,0,none⟩))] w fun e q=>e= .returned (.bool (decide (1<=(l.length:Int)/\(l.length:Int)<=yD c)&&qr l l.length 0))/\q=w:=by
 have E:=fun w=>asT b w
 have F:=fun w=>asF b w
 have d:=fun w=>wv c w
 have a:=tC w lb mb p vn l k h m n
 obtain⟨t,v,rfl⟩:=h.form
 have C:w.cell? ⟨b,0,none⟩=some (.int .i64 c):=by rw[au _ _ _ _ _ _ g];rfl
 have u:w.cell? ⟨b,6,none⟩=some (.slice t l.length v):=by rw[au _ _ _ _ _ _ g];rfl
 generalize qr l l.length 0=B at a⊢
 generalize l.length=o at m a u⊢
 generalize yD c=r at d⊢
 clear g h n k
 by_cases i:1<=(o:Int)
 ·by_cases j:(o:Int)<=r
  ·rw[bB ⟨i,j⟩,ez]
   go_in
   go_wp2_with (first|(go_at_call 170;refine dj (d _) ?_)|(go_at_call 171;refine a.mono ?_;rintro e q ⟨rfl,rfl⟩))
   go_ret
   exact⟨rfl,rfl⟩
  ·rw[az (fun f=>j f.2),dC]
   clear a
   go_in
   go_wp2_with (go_at_call 170;refine dj (d _) ?_)
   go_ret
   exact⟨rfl,rfl⟩
 ·rw[az (fun f=>i f.1),dC]
  clear a
  go_in
  go_wp2_with (go_at_call 170;refine dj (d _) ?_)
  go_ret
  exact⟨rfl,rfl⟩
theorem ff1(w:World)(lb:Nat)(b:Nat)(k j m l n a:Int)(h:Option Addr)(L ck:Nat)(r:L<=1048576)
  (g:w.heap[b]?=some (.cells #[.int .i64 k,.int .i64 j,.int .i64 m,.int .i64 l,.int .i64 n,.slice h L ck,.int .i64 a] 155 (0,0))):
  Calls Tryz.prog 122 #[.pointer (some ⟨lb,0,none⟩),.iface 152 (.pointer (some ⟨b,0,none⟩))] w fun e o=>e= .returned (.bool (decide (1<=a/\a<(L:Int))))/\Below w.heap.size w o:=by
 have s:=fun w=>asT b w
 have u:=fun w=>asF b w
 have p:w.cell? ⟨b,5,none⟩=some (.slice h L ck):=by rw[au _ _ _ _ _ _ g];rfl
 have q:w.cell? ⟨b,6,none⟩=some (.int .i64 a):=by rw[au _ _ _ _ _ _ g];rfl
 clear g
 by_cases d:1<=a
 ·by_cases f:a<(L:Int)
  ·rw[bB ⟨d,f⟩]
   go_in
   go_wp2_with fail
   go_quiet (fail)
   go_wp2_with fail
   go_ret
   exact⟨rfl,jc (ag _ _) _⟩
  ·rw[az (fun c=>f c.2)]
   have i:=aj f
   go_in
   go_wp2_with fail
   go_quiet (fail)
   go_wp2_with fail
   go_ret
   exact⟨by show Ending.returned (.bool (decide (a<(L:Int))))=_;rw[az (by have:=i.out;omega)],jc (ag _ _) _⟩
 ·rw[az (fun c=>d c.1)]
  have t:decide ((1:Int)<=a)=false:=az d
  go_in
  go_wp2_with fail
  go_quiet (fail)
  go_wp2_with fail
  go_ret
  exact⟨rfl,jc (ag _ _) _⟩
theorem ff2(w:World)(lb:Nat)(b:Nat):
  Calls Tryz.prog 122 #[.pointer (some ⟨lb,0,none⟩),.iface 160 (.pointer (some ⟨b,0,none⟩))] w fun e a=>e= .returned (.bool true)/\a=w:=by
 have c:=fun w=>asT b w
 have d:=fun w=>asF b w
 go_in
 go_wp2
 go_ret
 exact⟨rfl,rfl⟩
theorem ff6(w:World)(lb:Nat)(b:Nat):
  Calls Tryz.prog 122 #[.pointer (some ⟨lb,0,none⟩),.iface 191 (.pointer (some ⟨b,0,none⟩))] w fun e a=>e= .returned (.bool true)/\a=w:=by
 have c:=fun w=>asT b w
 have d:=fun w=>asF b w
 go_in
 go_wp2
 go_ret
 exact⟨rfl,rfl⟩
theorem ff3(w:World)(lb mb:Nat)(i:Value)(g:Lk w lb mb i)(b:Nat)(a m o n p:Int)(vk:Value)(x:ByteArray)(l:x.size<=1100000)
  (d:w.heap[b]?=some (.cells #[.int .i64 a,.int .i64 m,.int .i64 o,.int .i64 n,.int .i64 p,vk,.string x] 162 (0,0))):
  Calls Tryz.prog 122 #[.pointer (some ⟨lb,0,none⟩),.iface 163 (.pointer (some ⟨b,0,none⟩))] w fun e c=>e= .returned (.bool (txB a x))/\Below w.heap.size w c:=by
 have r:=fun w=>asT b w
 have s:=fun w=>asF b w
 have h:=CA w.drew lb mb i a x l (g.below (aq (ag _ w)))
 have j:w.cell? ⟨b,0,none⟩=some (.int .i64 a):=by rw[au _ _ _ _ _ _ d];rfl
 have k:w.cell? ⟨b,6,none⟩=some (.string x):=by rw[au _ _ _ _ _ _ d];rfl
 generalize txB a x=q at h⊢
 clear d g
 go_in
 go_wp2_with fail
 go_region_held3 (fun c=>c.cell? ⟨b,0,none⟩=some (.int .i64 a)/\c.cell? ⟨b,6,none⟩=some (.string x)) (first|go_keep|exact⟨ai f j,ai f k⟩) ((go_at_call 172;refine h.mono ?_;rintro e t ⟨rfl,f⟩))
 go_wp2_with fail
 go_ret
 exact⟨rfl,(aq (ag _ w)).trans f⟩
theorem ff4(w:World)(lb:Nat)(b:Nat)(d h j i k a:Int)(vk:Value)
  (f:w.heap[b]?=some (.cells #[.int .i64 d,.int .i64 h,.int .i64 j,.int .i64 i,.int .i64 k,vk,.int .i64 a] 171 (0,0))):
  Calls Tryz.prog 122 #[.pointer (some ⟨lb,0,none⟩),.iface 169 (.pointer (some ⟨b,0,none⟩))] w fun e l=>e= .returned (.bool (if d=30 then(decide ((19:Int)<=a)&&decide (a<=22)) else(decide ((1:Int)<=a)&&decide (a<=18))))/\l=w:=by
 have o:=fun w=>asT b w
 have p:=fun w=>asF b w
 have m:w.cell? ⟨b,0,none⟩=some (.int .i64 d):=by rw[au _ _ _ _ _ _ f];rfl
 have n:w.cell? ⟨b,6,none⟩=some (.int .i64 a):=by rw[au _ _ _ _ _ _ f];rfl
 clear f
 by_cases g:d=30
 ·rw[ab g]
  by_cases c:(19:Int)<=a
  ·rw[bB c,ez]
   go_in
   go_wp2
   go_ret
   exact⟨rfl,rfl⟩
  ·rw[az c,dC]
   go_in
   go_wp2
   go_ret
   exact⟨rfl,rfl⟩
 ·rw[aa g]
  by_cases c:(1:Int)<=a
  ·rw[bB c,ez]
   go_in
   go_wp2
   go_ret
   exact⟨rfl,rfl⟩
  ·rw[az c,dC]
   go_in
   go_wp2
   go_ret
   exact⟨rfl,rfl⟩
theorem ff5(w:World)(lb mb:Nat)(i:Value)(d:Lk w lb mb i)(b:Nat)(q p t r u:Int)(vk:Value)(vn:Value)(m:Bool)(l:List ByteArray)(a:bp w vn l)(g:l.length<=1048576)(h:∀s∈l,s.size<=1048576)
  (f:w.heap[b]?=some (.cells #[.int .i64 q,.int .i64 p,.int .i64 t,.int .i64 r,.int .i64 u,vk,vn,.bool m] 190 (0,0))):
  Calls Tryz.prog 122 #[.pointer (some ⟨lb,0,none⟩),.iface 188 (.pointer (some ⟨b,0,none⟩))] w fun e j=>e= .returned (.bool (qr l l.length 0))/\j=w:=by
 have x:=fun w=>asT b w
 have y:=fun w=>asF b w
 have c:=tC w lb mb i vn l d a g h
 obtain⟨k,o,rfl⟩:=a.form
 have n:w.cell? ⟨b,6,none⟩=some (.slice k l.length o):=by rw[au _ _ _ _ _ _ f];rfl
 generalize qr l l.length 0=v at c⊢
 generalize l.length=z at g c n⊢
 clear f a h d
 go_in
 go_wp2_with (go_at_call 171;refine c.mono ?_;rintro e j ⟨rfl,rfl⟩)
 go_ret
 exact⟨rfl,rfl⟩
theorem yE(k:Int):dL k=0\/dL k=1\/dL k=2\/dL k=3\/dL k=4\/dL k=5\/dL k=6:=by
 unfold dL
 repeat' split
 all_goals simp
theorem ou(k:Int)(b:Nat)(w:World):(method 413 (jd (dL k)) (.pointer (some ⟨b,0,none⟩)) "loop.example/warp/impl.head").run Tryz.prog w= .ok (307,.pointer (some ⟨b,0,none⟩)) w:=vH _ b w
def vI(i f:Nat):List UInt8:=(wB i).data.toList++(if f=1 then [42] else if f=2 then [63] else [])
def wS(i f:Nat):ByteArray:=⟨(vI i f).toArray⟩
def wS1(i f:Nat):ByteArray:=⟨((wB i).data.toList++(if f=2 then [63] else [])).toArray⟩
theorem ajy:∀i f,i<10->f<3->(⟨(Lib.trimSuffix (wS i f).data.toList [42]).toArray⟩:ByteArray)=wS1 i f/\Lib.hasSuffix (wS i f).data.toList [42]=(f==1)
 |0,0,_,_=>⟨rfl,rfl⟩
 |0,1,_,_=>⟨rfl,rfl⟩
 |0,2,_,_=>⟨rfl,rfl⟩
 |1,0,_,_=>⟨rfl,rfl⟩
 |1,1,_,_=>⟨rfl,rfl⟩
 |1,2,_,_=>⟨rfl,rfl⟩
 |2,0,_,_=>⟨rfl,rfl⟩
 |2,1,_,_=>⟨rfl,rfl⟩
 |2,2,_,_=>⟨rfl,rfl⟩
 |3,0,_,_=>⟨rfl,rfl⟩
 |3,1,_,_=>⟨rfl,rfl⟩
 |3,2,_,_=>⟨rfl,rfl⟩
 |4,0,_,_=>⟨rfl,rfl⟩
 |4,1,_,_=>⟨rfl,rfl⟩
 |4,2,_,_=>⟨rfl,rfl⟩
 |5,0,_,_=>⟨rfl,rfl⟩
 |5,1,_,_=>⟨rfl,rfl⟩
 |5,2,_,_=>⟨rfl,rfl⟩
 |6,0,_,_=>⟨rfl,rfl⟩
 |6,1,_,_=>⟨rfl,rfl⟩
 |6,2,_,_=>⟨rfl,rfl⟩
 |7,0,_,_=>⟨rfl,rfl⟩
 |7,1,_,_=>⟨rfl,rfl⟩
 |7,2,_,_=>⟨rfl,rfl⟩
 |8,0,_,_=>⟨rfl,rfl⟩
 |8,1,_,_=>⟨rfl,rfl⟩
 |8,2,_,_=>⟨rfl,rfl⟩
 |9,0,_,_=>⟨rfl,rfl⟩
 |9,1,_,_=>⟨rfl,rfl⟩
 |9,2,_,_=>⟨rfl,rfl⟩
theorem ajz:∀i f,i<10->f<3->(⟨(Lib.trimSuffix (wS1 i f).data.toList [63]).toArray⟩:ByteArray)=wB i/\Lib.hasSuffix (wS1 i f).data.toList [63]=(f==2)
 |0,0,_,_=>⟨rfl,rfl⟩
 |0,1,_,_=>⟨rfl,rfl⟩
 |0,2,_,_=>⟨rfl,rfl⟩
 |1,0,_,_=>⟨rfl,rfl⟩
 |1,1,_,_=>⟨rfl,rfl⟩
 |1,2,_,_=>⟨rfl,rfl⟩
 |2,0,_,_=>⟨rfl,rfl⟩
 |2,1,_,_=>⟨rfl,rfl⟩
 |2,2,_,_=>⟨rfl,rfl⟩
 |3,0,_,_=>⟨rfl,rfl⟩
 |3,1,_,_=>⟨rfl,rfl⟩
 |3,2,_,_=>⟨rfl,rfl⟩
 |4,0,_,_=>⟨rfl,rfl⟩
 |4,1,_,_=>⟨rfl,rfl⟩
 |4,2,_,_=>⟨rfl,rfl⟩
 |5,0,_,_=>⟨rfl,rfl⟩
 |5,1,_,_=>⟨rfl,rfl⟩
 |5,2,_,_=>⟨rfl,rfl⟩
 |6,0,_,_=>⟨rfl,rfl⟩
 |6,1,_,_=>⟨rfl,rfl⟩
 |6,2,_,_=>⟨rfl,rfl⟩
 |7,0,_,_=>⟨rfl,rfl⟩
 |7,1,_,_=>⟨rfl,rfl⟩
 |7,2,_,_=>⟨rfl,rfl⟩
 |8,0,_,_=>⟨rfl,rfl⟩
 |8,1,_,_=>⟨rfl,rfl⟩
 |8,2,_,_=>⟨rfl,rfl⟩
 |9,0,_,_=>⟨rfl,rfl⟩
 |9,1,_,_=>⟨rfl,rfl⟩
 |9,2,_,_=>⟨rfl,rfl⟩
theorem Iv:∀i f,i<10->f<3->(wS i f).size<=10/\(wS1 i f).size<=10
 |0,0,_,_=>by decide
 |0,1,_,_=>by decide
 |0,2,_,_=>by decide
 |1,0,_,_=>by decide
 |1,1,_,_=>by decide
 |1,2,_,_=>by decide
 |2,0,_,_=>by decide
 |2,1,_,_=>by decide
 |2,2,_,_=>by decide
 |3,0,_,_=>by decide
 |3,1,_,_=>by decide
 |3,2,_,_=>by decide
 |4,0,_,_=>by decide
 |4,1,_,_=>by decide
 |4,2,_,_=>by decide
 |5,0,_,_=>by decide
 |5,1,_,_=>by decide
 |5,2,_,_=>by decide
 |6,0,_,_=>by decide
 |6,1,_,_=>by decide
 |6,2,_,_=>by decide
 |7,0,_,_=>by decide
 |7,1,_,_=>by decide
 |7,2,_,_=>by decide
 |8,0,_,_=>by decide
 |8,1,_,_=>by decide
 |8,2,_,_=>by decide
 |9,0,_,_=>by decide
 |9,1,_,_=>by decide
 |9,2,_,_=>by decide
theorem ajA(i f:Nat)(b:i<10)(a:f<3)(w:World):Calls Tryz.prog 210 #[.string (wS i f),.string ⟨#[42]⟩] w fun e g=>e= .returned (.tuple #[.string (wS1 i f),.bool (f==1)])/\g=w:=by
 refine dj (Tryz.strings_CutSuffix (wS i f) ⟨#[42]⟩ w (by have:=(Iv i f b a).1;omega)) ?_
 obtain⟨c,d⟩:=ajy i f b a
 refine⟨?_,rfl⟩
 rw[<-c,<-d]
theorem ajB(i f:Nat)(b:i<10)(a:f<3)(w:World):Calls Tryz.prog 210 #[.string (wS1 i f),.string ⟨#[63]⟩] w fun e g=>e= .returned (.tuple #[.string (wB i),.bool (f==2)])/\g=w:=by
 refine dj (Tryz.strings_CutSuffix (wS1 i f) ⟨#[63]⟩ w (by have:=(Iv i f b a).2;omega)) ?_
 obtain⟨c,d⟩:=ajz i f b a
 refine⟨?_,rfl⟩
 rw[<-c,<-d]
def ga(W:World)(v:Value)(ks:List Int):Prop:=
 (ks=[]/\∃a b,v= .slice a 0 b)\/∃a b,v= .slice (some a) ks.length b/\ks.length<=b/\∀e c,ks[e]?=some c->∃d,W.cell? (a.add e)=some (gC c d)/\W.cell? ⟨d,0,none⟩=some (.int .i64 c)
theorem ga.below{W b:World}{v:Value}{ks:List Int}(a:ga W v ks)(c:Below W.heap.size W b):ga b v ks:=by
 rcases a with a|⟨d,f,i,j,k⟩
 ·exact .inl a
 ·exact .inr ⟨d,f,i,j,fun m n l=>by obtain⟨e,g,h⟩:=k m n l;exact⟨e,ai c g,ai c h⟩⟩
theorem ga.form{W:World}{v:Value}{ks:List Int}(b:ga W v ks):∃a c,v= .slice a ks.length c:=by
 rcases b with⟨rfl,a,c,b⟩|⟨a,c,d,e⟩
 ·exact⟨a,c,b⟩
 ·exact⟨_,_,d⟩
theorem ga.get{W:World}{a:Option Addr}{n c:Nat}{ks:List Int}(i:ga W (.slice a n c) ks){j:Nat}{k:Int}(e:ks[j]?=some k):∃d b,a=some d/\W.cell? (d.add j)=some (gC k b)/\W.cell? ⟨b,0,none⟩=some (.int .i64 k):=by
 rcases i with⟨rfl,_⟩|⟨d,m,f,_,l⟩
 ·simp at e
 ·cases f;obtain⟨b,g,h⟩:=l j k e;exact⟨d,b,rfl,g,h⟩
def Dv(i f:Nat)(ks:List Int):Nat:=if f=1 then(ks.takeWhile (ms i)).length else min 1 (ks.takeWhile (ms i)).length
def ey:List (Nat×Nat)->List Int->Bool
 |[],ks=>ks.isEmpty
 |(i,f)::a,ks=>if Dv i f ks=0/\f=0 then false else ey a (ks.drop (Dv i f ks))
structure yF (ws:List (Nat×Nat)) (ks:List Int) (R:Bool):Prop where
 out:ey ws ks=R
theorem abf(p:Int->Bool):∀(ks:List Int)(t:Nat),t<=(ks.takeWhile p).length->(t<(ks.takeWhile p).length↔∃k,ks[t]?=some k/\p k=true)
 |[],t,b=>by simp at b;subst b;simp
 |a::r,t,b=>by
  cases hp:p a with
  |false=>
   rw[Bq (by simp[hp])]at b⊢
   simp at b;subst b
   simp[hp]
  |true=>
   rw[Bv (by simp[hp])]at b⊢
   cases t with
   |zero=>simp[hp]
   |succ t=>
    simp only[co]at b⊢
    have c:=abf p r t (by omega)
    rw[show(t+1<(r.takeWhile p).length+1)↔t<(r.takeWhile p).length by omega,c]
    simp
theorem aim(p:Int->Bool)(ks:List Int):(ks.takeWhile p).length<=ks.length:=(List.takeWhile_sublist p).length_le
theorem agE(i f:Nat)(ks:List Int):Dv i f ks<=ks.length:=by
 have:=aim (ms i) ks
 unfold Dv
 split<;>omega
theorem agF(i f:Nat)(ks:List Int)(t:Nat)(a:t<=Dv i f ks):t<Dv i f ks↔(f=1\/t=0)/\∃k,ks[t]?=some k/\ms i k=true:=by
 unfold Dv at a⊢
 by_cases b:f=1
 ·rw[ab b]at a⊢
  rw[abf _ ks t a]
  simp[b]
 ·rw[aa b]at a⊢
  by_cases c:t=0
  ·subst c
   have:=abf (ms i) ks 0 (aJ _)
   rw[show(0<min 1 (ks.takeWhile (ms i)).length)↔0<(ks.takeWhile (ms i)).length by omega,this]
   simp
  ·constructor
   ·intro h2;omega
   ·rintro ⟨h2|h2,_⟩
    ·exact absurd h2 b
    ·exact absurd h2 c
theorem kI{i f:Nat}{a:List (Nat×Nat)}{ks:List Int}{R:Bool}(b:yF ((i,f)::a) ks R)(c:¬(Dv i f ks=0/\f=0)):yF a (ks.drop (Dv i f ks)) R:=by
 have:=b.out
 rw[ey,aa c]at this
 exact⟨this⟩
theorem vJ{i f:Nat}{c:List (Nat×Nat)}{ks:List Int}{R:Bool}(a:yF ((i,f)::c) ks R)(b:Dv i f ks=0/\f=0):R=false:=by
 have:=a.out
 rw[ey,ab b]at this
 exact this.symm
theorem Kc{b:Type}{L:List b}{k:Nat}{x:b}(c:L[k]?=some x):L.drop k=x::L.drop (k+1):=by
 have a:=(List.getElem?_eq_some_iff.1 c)
 rw[ju a.1,a.2]
theorem ga.sl{W:World}{a:Option Addr}{L c t:Nat}{ks:List Int}(g:ga W (.slice a L c) ks)(h:ks.length=L)(ht:t<=L):ga W (.slice (if c=t then a else Option.map (fun x=>x.add t) a) (L-t) (c-t)) (ks.drop t):=by
 subst h
 rcases g with⟨rfl,b,f,d⟩|⟨b,f,d,l,i⟩
 ·exact .inl ⟨by simp,_,_,by rw[show([]:List Int).length-t=0 by simp]⟩
 ·cases d
  by_cases m:t=ks.length
  ·exact .inl ⟨by rw[oJ (by omega)],_,_,by rw[show ks.length-t=0 by omega]⟩
  ·refine .inr ⟨b.add t,c-t,?_,by rw[dH];omega,fun j k e=>?_⟩
   ·rw[aa (by omega),dH];rfl
   ·rw[mF]at e
    rw[Addr.add_add]
    exact i (t+j) k e
theorem rD(w:World)(row:ByteArray)(m:List (Nat×Nat))(v:Value)(ks:List Int)(cc:Lib.fields row.data.toList=m.map fun x=>vI x.1 x.2)(cg:∀x∈m,x.1<10/\x.2<3)(cd:row.size<4294967281)(b6:∀(j:Nat) b,row.data.toList[j]?=some b->b.toNat<128)(ce:Lib.TabIs Tryz.prog w "strings.asciiSpace" .u8 Lib.asciiSpaceTab)(bA:ga w v ks)(b8:ks.length<=1048576)(cf:m.length<=1048576):
  Calls Tryz.prog 174 #[.string row,v] w fun e cl=>e= .returned (.bool (ey m ks))/\Below w.heap.size w cl:=by
 have a8:=Tryz.strings_Fields row w cd b6 ce
 rw[cc]at a8
 obtain⟨H,bv⟩:=aE (ey m ks)
 rw[bv]
 have b4:yF m ks H:=⟨bv⟩
 have ao:Below w.heap.size w (w.alloc (.cells ((m.map fun x=>vI x.1 x.2).map fun a4=>Value.string ⟨a4.toArray⟩).toArray 9)):=(ag _ w).alloc (ah _) _
 have bt:=bA.below ao
 have bs:∀g k p,m[g]?=some (k,p)->(w.alloc (.cells ((m.map fun x=>vI x.1 x.2).map fun a4=>Value.string ⟨a4.toArray⟩).toArray 9)).cell? ⟨w.heap.size,g,none⟩=some (.string (wS k p)):=fun g k p bD=>by
  rw[au _ _ _ _ _ _ (ay w _)]
  simp[bD,wS]
 obtain⟨a5,bf⟩:=aE m.length
 have bo:=aj bf
 have b5:=aj cg
 have b9:(m.map fun x=>vI x.1 x.2).length=a5:=by rw[aI,bf]
 rw[b9]at a8
 rw[bf]at cf
 obtain⟨cr,cs,rfl⟩:=bA.form
 have b3:=aj b8
 generalize w.alloc (.cells ((m.map fun x=>vI x.1 x.2).map fun a4=>Value.string ⟨a4.toArray⟩).toArray 9)=cq at a8 ao bt bs
 have b2:=aj bs
 have bn:=aj bt
 generalize cu:ks.length=lk at bn⊢
 go_in
 go_wp21
 refine a8.mono ?_
 rintro e b1 ⟨rfl,rfl⟩
 go_wp21
 go_loop [1,14] (fun ck bl=>∃(g:Nat) (d:List Int),g<=a5/\bl= .int .i64 g/\Hid (ga b1 ck d/\d.length<=1048576)/\yF (m.drop g) d H) (fun _ bl=>a5-(intOf bl).toNat)
 case atStart=>exact⟨0,ks,aJ _,rfl,⟨bn,b3⟩,b4⟩
 case round=>
  obtain⟨g,d,bD,rfl,a9,ba⟩:=hrel
  obtain⟨I,J,rfl⟩:=a9.1.form
  by_cases ca:g<a5
  ·have ct:(0:Int)<=(g:Int):=by omega
   obtain⟨⟨k,p⟩,bk⟩:=bC bo.out ca
   obtain⟨a7,bd⟩:=b5.out _ (bJ bk)
   simp only at a7 bd
   have b7:=b2.out g k p bk
   have ad:Hid (yF ((k,p)::m.drop (g+1)) d H):=by rw[Kc bk]at ba;exact ba
   have a2:=fun w=>ajA k p a7 bd w
   have a3:=fun w=>ajB k p a7 bd w
   have L:=fun c w=>Cg k a7 c w
   obtain⟨f,ap⟩:=aE d.length
   have A:=aj ap
   have bc:=a9.2
   rw[ap]at bc
   have z:Hid (ga b1 (.slice I f J) d):=by rw[<-ap];exact a9.1
   rw[ap]
   have b0:=agE k p d
   have bF:=agF k p d
   obtain⟨C,bw⟩:=aE (Dv k p d)
   rw[bw]at b0 bF
   rw[ap]at b0
   have B:=aj bw
   have bb:=aj bF
   generalize wS k p=cm at b7 a2
   generalize wS1 k p=cn at a2 a3
   generalize wB k=cp at a3 L
   rcases(show p=0\/p=1\/p=2 by omega) with rfl|rfl|rfl
   ·go_wp21
    refine(a2 _).mono ?_
    rintro e q ⟨rfl,rfl⟩
    go_wp2_with fail
    refine(a3 _).mono ?_
    rintro e q ⟨rfl,rfl⟩
    go_wp2_with fail
    go_loop [10] (fun G=>∃a:Nat,G= .int .i64 a/\a<=C) (fun G=>C-(intOf G).toNat)
    case atStart=>exact⟨0,rfl,aJ _⟩
    case round=>
     obtain⟨a,rfl,av⟩:=hrel
     have K:=bb.out a av
     have bE:(0:Int)<=(a:Int):=by omega
     by_cases ar:a<C
     ·obtain⟨a6,c,n,t⟩:=K.1 ar
      obtain⟨o,b,rfl,i,al⟩:=z.get n
      have E:(a:Int)<(f:Int):=by omega
      obtain rfl:a=0:=by rcases a6 with h|h;exact absurd h (by decide);exact h
      rw[show o.add 0=o from by unfold Addr.add;rw[ab rfl]]at i
      have l:=fun w=>L c w
      rw[t]at l
      have u:=fun w=>ou c b w
      have y:=fun w=>de b w
      unfold gC at i
      generalize jd (dL c)=am at i u
      go_wp2_with (first|(go_at_call 211;refine(l _).mono ?_;rintro e q ⟨rfl,rfl⟩)|(go_at_call 307;refine(y _).mono ?_;rintro e q ⟨rfl,rfl⟩))
      go_round
      case rel=>exact⟨0+1,by go_num,by omega⟩
      case measure=>simp[intOf];omega
     ·obtain rfl:a=C:=by omega
      by_cases an:a=0
      ·subst an
       by_cases E:0<f
       ·have F:(0:Int)<(f:Int):=by omega
        obtain⟨c,n⟩:=bC A.out E
        have t:ms k c=false:=by
         cases h:ms k c
         ·rfl
         ·exact absurd (K.2 ⟨.inr rfl,c,n,h⟩) (by omega)
        obtain⟨o,b,af,i,al⟩:=z.get n
        subst af
        rw[show o.add 0=o from by unfold Addr.add;rw[ab rfl]]at i
        have l:=fun w=>L c w
        rw[t]at l
        have u:=fun w=>ou c b w
        have y:=fun w=>de b w
        unfold gC at i
        generalize jd (dL c)=am at i u
        go_wp2_with (first|(go_at_call 211;refine(l _).mono ?_;rintro e ak ⟨rfl,rfl⟩)|(go_at_call 307;refine(y _).mono ?_;rintro e ak ⟨rfl,rfl⟩))
        go_ret
        exact⟨by rw[vJ ad.out ⟨B.out,rfl⟩];rfl,ao⟩
       ·have F:¬(0:Int)<(f:Int):=by omega
        go_wp2_with fail
        go_ret
        exact⟨by rw[vJ ad.out ⟨B.out,rfl⟩];rfl,ao⟩
      ·have s:Hid (yF (m.drop (g+1)) (d.drop a) H):=by
        have h:=kI ad.out (by rw[B.out];omega)
        rw[B.out]at h
        exact h
       have r:Hid (ga q (.slice (if J=a then I else Option.map (fun x=>x.add a) I) (f-a) (J-a)) (d.drop a)/\(d.drop a).length<=1048576):=⟨z.sl A (by omega),by rw[dH,A.out];omega⟩
       by_cases E:a<f
       ·have F:(a:Int)<(f:Int):=by omega
        go_wp2_with fail
        exact⟨⟨g+1,d.drop a,by omega,by go_num,r,s⟩,by simp[intOf];omega⟩
       ·have F:¬(a:Int)<(f:Int):=by omega
        go_wp2_with fail
        exact⟨⟨g+1,d.drop a,by omega,by go_num,r,s⟩,by simp[intOf];omega⟩
   ·go_wp2_with fail
    refine(a2 _).mono ?_
    rintro e q ⟨rfl,rfl⟩
    go_wp2_with fail
    refine(a3 _).mono ?_
    rintro e q ⟨rfl,rfl⟩
    go_wp2_with fail
    go_loop [10] (fun G=>∃a:Nat,G= .int .i64 a/\a<=C) (fun G=>C-(intOf G).toNat)
    case atStart=>exact⟨0,rfl,aJ _⟩
    case round=>
     obtain⟨a,rfl,av⟩:=hrel
     have K:=bb.out a av
     have bE:(0:Int)<=(a:Int):=by omega
     by_cases ar:a<C
     ·obtain⟨a6,c,n,t⟩:=K.1 ar
      obtain⟨o,b,rfl,i,al⟩:=z.get n
      have E:(a:Int)<(f:Int):=by omega
      have l:=fun w=>L c w
      rw[t]at l
      have u:=fun w=>ou c b w
      have y:=fun w=>de b w
      unfold gC at i
      generalize jd (dL c)=am at i u
      go_wp2_with (first|(go_at_call 211;refine(l _).mono ?_;rintro e q ⟨rfl,rfl⟩)|(go_at_call 307;refine(y _).mono ?_;rintro e q ⟨rfl,rfl⟩))
      go_round
      case rel=>exact⟨a+1,by go_num,by omega⟩
      case measure=>simp[intOf];omega
     ·obtain rfl:a=C:=by omega
      by_cases an:a=0
      ·subst an
       have s:Hid (yF (m.drop (g+1)) d H):=by
        have h:=kI ad.out (by rw[B.out];omega)
        rw[B.out,dJ]at h
        exact h
       have r:Hid (ga q (.slice I f J) d/\d.length<=1048576):=⟨z.out,by rw[A.out];exact bc⟩
       by_cases E:0<f
       ·have F:(0:Int)<(f:Int):=by omega
        obtain⟨c,n⟩:=bC A.out E
        have t:ms k c=false:=by
         cases h:ms k c
         ·rfl
         ·exact absurd (K.2 ⟨.inl (by first|rfl|trivial),c,n,h⟩) (by omega)
        obtain⟨o,b,af,i,al⟩:=z.get n
        subst af
        rw[show o.add 0=o from by unfold Addr.add;rw[ab rfl]]at i
        have l:=fun w=>L c w
        rw[t]at l
        have u:=fun w=>ou c b w
        have y:=fun w=>de b w
        unfold gC at i
        generalize jd (dL c)=am at i u
        go_wp2_with (first|(go_at_call 211;refine(l _).mono ?_;rintro e ak ⟨rfl,rfl⟩)|(go_at_call 307;refine(y _).mono ?_;rintro e ak ⟨rfl,rfl⟩))
        exact⟨⟨g+1,d,by omega,by go_num,r,s⟩,by simp[intOf];omega⟩
       ·have F:¬(0:Int)<(f:Int):=by omega
        go_wp2_with fail
        exact⟨⟨g+1,d,by omega,by go_num,r,s⟩,by simp[intOf];omega⟩
      ·have s:Hid (yF (m.drop (g+1)) (d.drop a) H):=by
        have h:=kI ad.out (by rw[B.out];omega)
        rw[B.out]at h
        exact h
       have r:Hid (ga q (.slice (if J=a then I else Option.map (fun x=>x.add a) I) (f-a) (J-a)) (d.drop a)/\(d.drop a).length<=1048576):=⟨z.sl A (by omega),by rw[dH,A.out];omega⟩
       by_cases E:a<f
       ·have F:(a:Int)<(f:Int):=by omega
        obtain⟨c,n⟩:=bC A.out E
        have t:ms k c=false:=by
         cases h:ms k c
         ·rfl
         ·exact absurd (K.2 ⟨.inl (by first|rfl|trivial),c,n,h⟩) (by omega)
        obtain⟨o,b,af,i,al⟩:=z.get n
        subst af
        have l:=fun w=>L c w
        rw[t]at l
        have u:=fun w=>ou c b w
        have y:=fun w=>de b w
        unfold gC at i
        generalize jd (dL c)=am at i u
        go_wp2_with (first|(go_at_call 211;refine(l _).mono ?_;rintro e ak ⟨rfl,rfl⟩)|(go_at_call 307;refine(y _).mono ?_;rintro e ak ⟨rfl,rfl⟩))
        exact⟨⟨g+1,d.drop a,by omega,by go_num,r,s⟩,by simp[intOf];omega⟩
       ·have F:¬(a:Int)<(f:Int):=by omega
        go_wp2_with fail
        exact⟨⟨g+1,d.drop a,by omega,by go_num,r,s⟩,by simp[intOf];omega⟩
   ·go_wp2_with fail
    refine(a2 _).mono ?_
    rintro e q ⟨rfl,rfl⟩
    go_wp2_with fail
    refine(a3 _).mono ?_
    rintro e q ⟨rfl,rfl⟩
    go_wp2_with fail
    go_loop [10] (fun G=>∃a:Nat,G= .int .i64 a/\a<=C) (fun G=>C-(intOf G).toNat)
    case atStart=>exact⟨0,rfl,aJ _⟩
    case round=>
     obtain⟨a,rfl,av⟩:=hrel
     have K:=bb.out a av
     have bE:(0:Int)<=(a:Int):=by omega
     by_cases ar:a<C
     ·obtain⟨a6,c,n,t⟩:=K.1 ar
      obtain⟨o,b,rfl,i,al⟩:=z.get n
      have E:(a:Int)<(f:Int):=by omega
      obtain rfl:a=0:=by rcases a6 with h|h;exact absurd h (by decide);exact h
      rw[show o.add 0=o from by unfold Addr.add;rw[ab rfl]]at i
      have l:=fun w=>L c w
      rw[t]at l
      have u:=fun w=>ou c b w
      have y:=fun w=>de b w
      unfold gC at i
      generalize jd (dL c)=am at i u
      go_wp2_with (first|(go_at_call 211;refine(l _).mono ?_;rintro e q ⟨rfl,rfl⟩)|(go_at_call 307;refine(y _).mono ?_;rintro e q ⟨rfl,rfl⟩))
      go_round
      case rel=>exact⟨0+1,by go_num,by omega⟩
      case measure=>simp[intOf];omega
     ·obtain rfl:a=C:=by omega
      by_cases an:a=0
      ·subst an
       have s:Hid (yF (m.drop (g+1)) d H):=by
        have h:=kI ad.out (by rw[B.out];omega)
        rw[B.out,dJ]at h
        exact h
       have r:Hid (ga q (.slice I f J) d/\d.length<=1048576):=⟨z.out,by rw[A.out];exact bc⟩
       by_cases E:0<f
       ·have F:(0:Int)<(f:Int):=by omega
        obtain⟨c,n⟩:=bC A.out E
        have t:ms k c=false:=by
         cases h:ms k c
         ·rfl
         ·exact absurd (K.2 ⟨.inr rfl,c,n,h⟩) (by omega)
        obtain⟨o,b,af,i,al⟩:=z.get n
        subst af
        rw[show o.add 0=o from by unfold Addr.add;rw[ab rfl]]at i
        have l:=fun w=>L c w
        rw[t]at l
        have u:=fun w=>ou c b w
        have y:=fun w=>de b w
        unfold gC at i
        generalize jd (dL c)=am at i u
        go_wp2_with (first|(go_at_call 211;refine(l _).mono ?_;rintro e ak ⟨rfl,rfl⟩)|(go_at_call 307;refine(y _).mono ?_;rintro e ak ⟨rfl,rfl⟩))
        exact⟨⟨g+1,d,by omega,by go_num,r,s⟩,by simp[intOf];omega⟩
       ·have F:¬(0:Int)<(f:Int):=by omega
        go_wp2_with fail
        exact⟨⟨g+1,d,by omega,by go_num,r,s⟩,by simp[intOf];omega⟩
      ·have s:Hid (yF (m.drop (g+1)) (d.drop a) H):=by
        have h:=kI ad.out (by rw[B.out];omega)
        rw[B.out]at h
        exact h
       have r:Hid (ga q (.slice (if J=a then I else Option.map (fun x=>x.add a) I) (f-a) (J-a)) (d.drop a)/\(d.drop a).length<=1048576):=⟨z.sl A (by omega),by rw[dH,A.out];omega⟩
       by_cases E:a<f
       ·have F:(a:Int)<(f:Int):=by omega
        go_wp2_with fail
        exact⟨⟨g+1,d.drop a,by omega,by go_num,r,s⟩,by simp[intOf];omega⟩
       ·have F:¬(a:Int)<(f:Int):=by omega
        go_wp2_with fail
        exact⟨⟨g+1,d.drop a,by omega,by go_num,r,s⟩,by simp[intOf];omega⟩
  ·obtain rfl:g=a5:=by omega
   have bx:=ba.out
   rw[oJ (by rw[bo.out];exact ah _),ey]at bx
   have cb:((d.length:Int)==0)=H:=by
    rw[<-bx]
    cases d with
    |nil=>rfl
    |cons x cv=>simp;omega
   have br:=aj cb
   generalize d.length=f at br⊢
   go_wp2_with fail
   go_ret
   exact⟨by rw[<-br.out];rfl,ao⟩
def ain:ByteArray:=⟨#[116,97,114,103,101,116,32]⟩
def qx(q:Nat):ByteArray:=⟨(Lib.repeatL [116,97,114,103,101,116,32] q).toArray⟩
theorem rp(q:Nat):(qx q).size=7*q:=by
 have a:(qx q).size=(Lib.repeatL [116,97,114,103,101,116,32] q).length:=by simp[qx,ByteArray.size]
 rw[a,Lib.repeatL_length];simp;omega
theorem EC(a b:Nat):qx (a+b)=qx a++qx b:=by
 apply mG
 rw[iB]
 show(Lib.repeatL _ (a+b)).toArray=(Lib.repeatL _ a).toArray++(Lib.repeatL _ b).toArray
 rw[Lib.repeatL_add]
 simp
theorem Kd(q d:Nat)(a:d<=q):(qx q).extract 0 (7*d)=qx d:=by
 obtain⟨c,rfl⟩:=Nat.exists_eq_add_of_le a
 rw[EC]
 apply mG
 rw[ByteArray.data_extract,iB]
 have b:(qx d).data.size=7*d:=rp d
 rw[<-b]
 apply Array.ext'
 simp
 apply bH
 rw[gw]
 exact ah _
theorem ajC(d:Array TypeId)(t:TypeId)(x a z c:Int)(W:World)(b:(if z<(if a<x then a else x) then z else(if a<x then a else x))=c):
  (Builtin.min_ d t #[.int .i64 x,.int .i64 a,.int .i64 z]).run Tryz.prog W= .ok (.int .i64 c) W:=by
 rw[<-b]
 simp[Builtin.min_,Builtin.min2]
theorem ED(m:Nat)(w:World)(bb:m+2<=200):
  Calls Tryz.prog 173 #[.string ⟨#[116,97,114,103,101,116,32]⟩,.int .i64 ((m+2:Nat):Int)] w fun e E=>e= .returned (.string (qx (m+2)))/\Below w.heap.size w E:=by
 have l:=Tryz.bits_Mul 7 (m+2) (by omega) (by omega) w
 rw[Nat.div_eq_of_lt (by omega:7*(m+2)<18446744073709551616),Nat.mod_eq_of_lt (by omega:7*(m+2)<18446744073709551616)]at l
 obtain⟨d,y⟩:=aE (7*(m+2))
 rw[y]at l
 have p:=aj y
 have bf:(d:Int)<=1400:=by omega
 have bk:14<=d:=by omega
 clear y
 go_in
 go_wp2_with (go_at_call 206;refine l.mono ?_;rintro e E ⟨rfl,rfl⟩)
 obtain⟨a,rfl⟩:∃a,a=E:=⟨_,rfl⟩
 have al:=aag a.heap.size a.heap.size d (a.alloc (.cells #[.pointer none,.slice none 0 0] 75)) (ah _) (ay a _) (by simp) (by omega) (by omega)
 refine al.mono ?_
 rintro e am ⟨rfl,K,L⟩
 have ak:Below a.heap.size a (a.alloc (.cells #[.pointer none,.slice none 0 0] 75)):=(ag _ a).alloc (ah _) _
 have t:=ak.trans L
 have G:Bu a.heap.size a.heap.size ⟨#[]⟩ am:= .inr K
 have A:=Ay a.heap.size a.heap.size ⟨#[]⟩ ain am G (by decide) t.size
 rw[show(⟨#[]⟩:ByteArray)++ain=qx 1 from rfl]at A
 have a1:=aj t
 clear al K L ak G t l
 go_wp21
 refine A.mono ?_
 rintro e an ⟨rfl,H,ad⟩
 have av:Hid (Bu a.heap.size a.heap.size (qx 1) an/\Below a.heap.size a an):=⟨H,a1.out.trans ad⟩
 clear A H ad
 go_wp21
 go_loopg [] (m+1) (fun J ar=>∃b:Nat,1<=b/\b+J=m+2/\Hid (Bu a.heap.size a.heap.size (qx b) ar/\Below a.heap.size a ar))
 case atStart=>exact⟨1,ah _,by omega,av⟩
 case round=>
  obtain⟨b,bc,bd,g⟩:=hrel
  have k:=Tryz.Builder_Len_f a.heap.size a.heap.size _ wr g.1
  rw[Lib.strCells_length,rp]at k
  have v:=FI a.heap.size a.heap.size _ wr g.1 g.2.size
  obtain⟨f,n⟩:=aE (7*b)
  have i:=aj n
  rw[n]at k
  obtain⟨r,hS⟩:=aE (qx b)
  have q:=aj hS
  have a3:r.size=f:=by rw[<-hS,rp,n]
  rw[hS]at v
  clear n hS
  cases gk with
  |zero=>
   obtain rfl:b=m+2:=by omega
   have a2:¬((f:Int)<(d:Int)):=by have:=p.out;have:=i.out;omega
   go_wp2_with (first|(go_at_call 208;refine k.mono ?_;rintro e a6 ⟨rfl,z⟩;rw[z])|(go_at_call 29;refine v.mono ?_;rintro e ao ⟨rfl,s,o⟩))
   go_ret
   exact⟨by rw[q.out];rfl,g.2.trans o⟩
  |succ J=>
   obtain⟨c,a4⟩:=aE (min (m+2-b) b)
   have a8:1<=c:=by omega
   have a5:c<=b:=by omega
   have a9:b+c<=m+2:=by omega
   obtain⟨h,x⟩:=aE (7*c)
   have a2:(f:Int)<(d:Int):=by have:=p.out;have:=i.out;omega
   have a7:h<=f:=by have:=i.out;omega
   have ba:∀(C:Array TypeId)(B:TypeId)(j:World),(Builtin.min_ C B #[.int .i64 ((d:Int)-(f:Int)),.int .i64 (f:Int),.int .i64 (d:Int)]).run Tryz.prog j= .ok (.int .i64 (h:Int)) j:=fun C B j=>ajC C B _ _ _ _ j (by
    have:=p.out;have:=i.out
    split<;>split<;>omega)
   have F:Hid (7*c=h/\r.extract 0 h=qx c):=⟨x,by rw[<-x,<-q.out];exact Kd b c a5⟩
   clear a4 x
   go_wp2_with (first|(go_at_call 208;refine k.mono ?_;rintro e a6 ⟨rfl,z⟩;rw[z])|(go_at_call 29;refine v.mono ?_;rintro e ao ⟨rfl,s,o⟩))
   rw[F.out.2]
   have u:=g.2.trans o
   refine(Ay a.heap.size a.heap.size r (qx c) ao s (by rw[a3,rp,F.out.1];omega) u.size).mono ?_
   rintro e ap ⟨rfl,I,af⟩
   have a0:Hid (Bu a.heap.size a.heap.size (qx (b+c)) ap/\Below a.heap.size a ap):=⟨by rw[EC,q.out];exact I,u.trans af⟩
   clear s o I af u
   go_wp21
   go_roundg (m+2-(b+c))
   case measure=>omega
   case rel=>exact⟨b+c,by omega,by omega,a0⟩
theorem Gu(n:Nat)(w:World)(a:n<=200):
  Calls Tryz.prog 173 #[.string ⟨#[116,97,114,103,101,116,32]⟩,.int .i64 (n:Int)] w fun e b=>e= .returned (.string ⟨(Lib.repeatL [116,97,114,103,101,116,32] n).toArray⟩)/\Below w.heap.size w b:=by
 match n,a with
 |0,_=>
  go_in
  go_wp2_with fail
  go_ret
  exact⟨rfl,ag _ _⟩
 |1,_=>
  go_in
  go_wp2_with fail
  go_ret
  exact⟨rfl,ag _ _⟩
 |m+2,a=>exact ED m w a
