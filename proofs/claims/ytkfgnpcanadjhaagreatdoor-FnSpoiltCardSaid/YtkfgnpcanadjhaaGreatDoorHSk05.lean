import Derived.Test.YtkfgnpcanadjhaaGreatDoorHSk02
import Derived.Test.YtkfgnpcanadjhaaGreatDoorHSk03
set_option linter.all false
set_option maxRecDepth 100000
set_option maxHeartbeats 25600000
namespace Go.Proofs.YtkfgnpcanadjhaaGreatDoor
open Go.RowKit
def afu:ByteArray:=⟨#[59]⟩
def aie:ByteArray:=⟨#[10]⟩
def aah:ByteArray:=⟨#[]⟩
def aai(a:Int):Nat->Nat->ByteArray
 |0,_=>aah
 |f+1,k=>if we (cC jG k)=a then cC jG k else aai a f (k+1)
def wh(a:Int):ByteArray:=if a=5 then afu else if 10<=a/\a<32 then cC ej (a-10).toNat else aai a 30 0
def ut:Array Value:=#[.string ⟨#[43]⟩,.string ⟨#[45]⟩,.string ⟨#[42]⟩,.string ⟨#[47]⟩,.string ⟨#[47,47]⟩,.string ⟨#[37]⟩,.string ⟨#[38]⟩,.string ⟨#[124]⟩,.string ⟨#[126]⟩,.string ⟨#[60,60]⟩,.string ⟨#[62,62]⟩,.string ⟨#[46,46]⟩,.string ⟨#[61,61]⟩,.string ⟨#[126,61]⟩,.string ⟨#[60]⟩,.string ⟨#[60,61]⟩,.string ⟨#[62]⟩,.string ⟨#[62,61]⟩]
theorem agd:∀k:Fin 18,ut[k.val]?=some (.string (cC ut k.val)):=by
 intro ⟨k,a⟩
 rcases(show k=0\/k=1\/k=2\/k=3\/k=4\/k=5\/k=6\/k=7\/k=8\/k=9\/k=10\/k=11\/k=12\/k=13\/k=14\/k=15\/k=16\/k=17 by omega) with rfl|rfl|rfl|rfl|rfl|rfl|rfl|rfl|rfl|rfl|rfl|rfl|rfl|rfl|rfl|rfl|rfl|rfl
 all_goals rfl
structure wj (w:World):Prop where
 word:∃tt fr,w.heap[0]?=some (.cells ej tt fr)
 mark:∃tt fr,w.heap[1]?=some (.cells mz tt fr)
 bin:∃tt fr,w.heap[2]?=some (.cells ut tt fr)
theorem wj.below{w g:World}{c:Nat}(k:wj w)(b:Below c w g)(a:w.heap.size<=c):wj g:=by
 obtain⟨⟨l,h,d⟩,⟨m,i,e⟩,⟨n,j,f⟩⟩:=k
 exact⟨⟨l,h,(b.block _ (fi (aw d) a)).trans d⟩,⟨m,i,(b.block _ (fi (aw e) a)).trans e⟩,⟨n,j,(b.block _ (fi (aw f) a)).trans f⟩⟩
def mA(a:Int):ByteArray:=if a=5 then afu else if a=7 then aie else if 10<=a/\a<=31 then cC ej (a-10).toNat else if 40<=a/\a<=50 then cC mz (a-40).toNat else if 61<=a/\a<=78 then cC ut (a-61).toNat else aah
theorem Aa(b:Int)(A: -9223372036854775808<=b)(B:b<=9223372036854775807)(w:World)(m:wj w):Calls Tryz.prog 141 #[.int .i64 b] w fun e t=>e= .returned (.string (mA b))/\t=w:=by
 obtain⟨⟨C,u,s⟩,⟨E,v,r⟩,⟨F,x,n⟩⟩:=m
 unfold mA
 by_cases d:b=5
 ·subst d
  go_in
  go_wp2
  go_ret
  exact⟨rfl,rfl⟩
 by_cases f:b=7
 ·subst f
  go_in
  go_wp2
  go_ret
  exact⟨rfl,rfl⟩
 rw[aa d,aa f]
 have y:(b==5)=false:=by simp[d]
 have z:(b==7)=false:=by simp[f]
 by_cases c:10<=b/\b<=31
 ·rw[ab c]
  obtain⟨a,i⟩:∃a:Nat,b=10+(a:Int):=⟨(b-10).toNat,by omega⟩
  subst i
  rw[show((10+(a:Int))-10).toNat=a by omega]
  have q:a<22:=by omega
  have k:w.cell? ⟨0,a,none⟩=some (.string (cC ej a)):=by rw[au _ _ _ _ _ _ s];exact xm ⟨a,q⟩
  clear c d f
  go_in
  go_wp2
  go_ret
  exact⟨rfl,rfl⟩
 by_cases g:40<=b/\b<=50
 ·rw[aa c,ab g]
  obtain⟨a,i⟩:∃a:Nat,b=40+(a:Int):=⟨(b-40).toNat,by omega⟩
  subst i
  rw[show((40+(a:Int))-40).toNat=a by omega]
  have o:a<11:=by omega
  have k:w.cell? ⟨1,a,none⟩=some (.string (cC mz a)):=by rw[au _ _ _ _ _ _ r];exact LF ⟨a,o⟩
  clear c g d f
  go_in
  go_wp2
  go_ret
  exact⟨rfl,rfl⟩
 by_cases j:61<=b/\b<=78
 ·rw[aa c,aa g,ab j]
  obtain⟨a,i⟩:∃a:Nat,b=61+(a:Int):=⟨(b-61).toNat,by omega⟩
  subst i
  rw[show((61+(a:Int))-61).toNat=a by omega]
  have p:a<18:=by omega
  have k:w.cell? ⟨2,61+a-60-1,none⟩=some (.string (cC ut a)):=by rw[show 61+a-60-1=a by omega,au _ _ _ _ _ _ n];exact agd ⟨a,p⟩
  clear c g j d f
  go_in
  go_wp2
  go_ret
  exact⟨rfl,rfl⟩
 rw[aa c,aa g,aa j]
 rcases(show b<10\/(31<b/\b<40)\/(50<b/\b<=60)\/78<b by omega) with h|⟨h,l⟩|⟨h,l⟩|h
 all_goals
  clear c g j d f
  go_in
  go_wp2
  go_ret
  exact⟨rfl,rfl⟩
theorem ya(c:Int)(w:World):Calls Tryz.prog 155 #[.int .i64 c] w fun e d=>e= .returned (.string (wh c))/\Below w.heap.size w d:=by
 unfold wh
 by_cases x:c=5
 ·subst x
  go_in
  go_wp2
  go_ret
  exact⟨rfl,ag _ _⟩
 rw[aa x]
 by_cases A:10<=c/\c<32
 ·rw[ab A]
  obtain⟨a,y⟩:∃a:Nat,c=10+(a:Int):=⟨(c-10).toNat,by omega⟩
  subst y
  have I:a<22:=by omega
  have H:((10+(a:Int))-10).toNat=a:=by omega
  rw[H]
  have l:Below w.heap.size w (w.alloc (.cells ej 9)):=(ag _ w).alloc (ah _) _
  have s:(w.alloc (.cells ej 9)).cell? ⟨w.heap.size,a,none⟩=some (.string (cC ej a)):=by rw[au _ _ _ _ _ _ (ay w _)];exact xm ⟨a,I⟩
  obtain⟨b,h⟩:∃b,b=w.alloc (.cells ej 9):=⟨_,rfl⟩
  rw[<-h]at s l
  have u:Calls Tryz.prog 117 #[] w fun e d=>e= .returned (.slice (some ⟨w.heap.size,0,none⟩) 22 22)/\b=d:=by rw[h];exact(mL w).mono fun e d g=>⟨g.1,g.2.symm⟩
  clear h
  go_in
  go_wp2_with (go_at_call 117;refine u.mono ?_;rintro e w1 ⟨rfl,rfl⟩)
  go_ret
  exact⟨rfl,l⟩
 ·rw[aa A]
  obtain⟨b,h⟩:∃b,b=w.alloc (.cells ej 9):=⟨_,rfl⟩
  have u:Calls Tryz.prog 117 #[] w fun e d=>e= .returned (.slice (some ⟨w.heap.size,0,none⟩) 22 22)/\b=d:=by rw[h];exact(mL w).mono fun e d g=>⟨g.1,g.2.symm⟩
  have l:Below w.heap.size w b:=by rw[h];exact(ag _ w).alloc (ah _) _
  clear h
  obtain⟨k,n⟩:∃k,k=b.alloc (.cells jG 9):=⟨_,rfl⟩
  have af:Calls Tryz.prog 118 #[] b fun e d=>e= .returned (.slice (some ⟨b.heap.size,0,none⟩) 30 30)/\k=d:=by rw[n];exact(qg b).mono fun e d g=>⟨g.1,g.2.symm⟩
  have G:k.heap[b.heap.size]?=some (.cells jG 9 (0,0)):=by rw[n];exact ay b _
  have F:Below b.heap.size b k:=by rw[n];exact(ag _ b).alloc (ah _) _
  clear n
  obtain⟨C,q⟩:=aE (aai c 30 0)
  rw[q]
  have B:=aj q
  clear q
  have L:=l.size
  rcases(show ¬10<=c\/(10<=c/\¬c<10+22) by omega) with E|⟨al,E⟩
  all_goals
   go_in
   go_wp2_with (first|(go_at_call 117;refine u.mono ?_;rintro e w1 ⟨rfl,rfl⟩)|(go_at_call 118;refine af.mono ?_;rintro e am ⟨rfl,rfl⟩))
   go_loopw [25] (fun t wr=>∃a:Nat,a<=30/\t= .int .i64 a/\Hid (aai c (30-a) a=C)/\wr.heap[b.heap.size]?=some (.cells jG 9 (0,0))/\Below w.heap.size w wr) (fun t _=>30-(intOf t).toNat)
   case atStart=>exact⟨0,by omega,rfl,B,G,l.trans (F.mono L)⟩
   case round=>
    obtain⟨a,y,rfl,v,r,p⟩:=hrel
    have z:=p.size
    by_cases K:a<30
    ·have s:wr.cell? ⟨b.heap.size,a,none⟩=some (.string (cC jG a)):=by rw[au _ _ _ _ _ _ r];exact FE ⟨a,K⟩
     have f:=v.out
     rw[show 30-a=(30-(a+1))+1 by omega]at f
     unfold aai at f
     have J:=aw r
     generalize cC jG a=m at s f
     by_cases i:we m=c
     ·rw[ab i]at f
      have j:=aj f
      have ad:(we m==c)=true:=by simp[i]
      clear f i
      go_wp2_with (go_at_call 191;refine(rL m _).mono ?_;rintro e ak ⟨rfl,o⟩)
      go_ret
      exact⟨by rw[<-j.out];rfl,p.trans (o.mono z)⟩
     ·rw[aa i]at f
      have j:=aj f
      have ad:(we m==c)=false:=by simp[i]
      clear f i
      go_wp2_with (go_at_call 191;refine(rL m _).mono ?_;rintro e ak ⟨rfl,o⟩)
      go_roundw
      case rel=>exact⟨a+1,by omega,by go_num,j,(o.block _ J).trans r,p.trans (o.mono z)⟩
      case measure=>simp[intOf];omega
    ·obtain rfl:a=30:=by omega
     have j:=aj v.out
     go_wp2
     go_ret
     exact⟨by rw[<-j.out];rfl,p⟩
open Go.Maps Go.WideMaps
theorem vr(c:Int)(w:World):Calls Tryz.prog 178 #[.int .u8 c] w fun e d=>e= .returned (.bool (cL c))/\w=d:=by
 rcases(show c<48\/57<c\/(48<=c/\c<=57) by omega) with h|h|⟨f,b⟩
 ·have e:cL c=false:=by simp[cL];omega
  rw[e];clear e
  have a:¬48<=c:=by omega
  go_in
  go_wp2
  go_ret
  exact⟨rfl,rfl⟩
 ·have e:cL c=false:=by simp[cL];omega
  rw[e];clear e
  have a:¬c<=57:=by omega
  have b:48<=c:=by omega
  go_in
  go_wp2
  go_ret
  exact⟨rfl,rfl⟩
 ·have e:cL c=true:=by simp[cL];omega
  rw[e];clear e
  go_in
  go_wp2
  go_ret
  exact⟨rfl,rfl⟩
theorem lr(c:Int)(w:World):Calls Tryz.prog 180 #[.int .u8 c] w fun e j=>e= .returned (.bool (cD c))/\w=j:=by
 rcases(show(97<=c/\c<=122)\/(65<=c/\c<=90)\/c=95\/c<65\/(90<c/\c<97/\c≠95)\/122<c by omega) with⟨f,g⟩|⟨f,g⟩|rfl|h|⟨f,g,l⟩|h
 ·have e:cD c=true:=by simp[cD];omega
  rw[e];clear e
  go_in
  go_wp2
  go_ret
  exact⟨rfl,rfl⟩
 ·have e:cD c=true:=by simp[cD];omega
  rw[e];clear e
  have a:¬97<=c:=by omega
  go_in
  go_wp2
  go_ret
  exact⟨rfl,rfl⟩
 ·go_in
  go_wp2
  go_ret
  exact⟨rfl,rfl⟩
 ·have e:cD c=false:=by simp[cD];omega
  rw[e];clear e
  have a:¬97<=c:=by omega
  have b:¬65<=c:=by omega
  have d:(c==95)=false:=by simp;omega
  go_in
  go_wp2
  go_ret
  exact⟨rfl,rfl⟩
 ·have e:cD c=false:=by simp[cD];omega
  rw[e];clear e
  have a:¬97<=c:=by omega
  have b:65<=c:=by omega
  have i:¬c<=90:=by omega
  have d:(c==95)=false:=by simp;omega
  go_in
  go_wp2
  go_ret
  exact⟨rfl,rfl⟩
 ·have e:cD c=false:=by simp[cD];omega
  rw[e];clear e
  have a:97<=c:=by omega
  have b:¬c<=122:=by omega
  have i:65<=c:=by omega
  have k:¬c<=90:=by omega
  have d:(c==95)=false:=by simp;omega
  go_in
  go_wp2
  go_ret
  exact⟨rfl,rfl⟩
def lk(s:ByteArray)(p:Nat):Int:=if p<s.size then aG s p else 0
theorem H9(s:ByteArray)(p:Nat):0<=lk s p/\lk s p<256:=by
 unfold lk;split
 ·rename_i a;exact rK a
 ·omega
theorem adz(s:ByteArray)(p:Nat):cD (lk s p)=cD (aG s p):=by
 unfold lk;split
 ·rfl
 ·rename_i a;rw[eu a];decide
theorem lJ(s:ByteArray)(p:Nat):cL (lk s p)=cL (aG s p):=by
 unfold lk;split
 ·rfl
 ·rename_i a;rw[eu a];decide
theorem yc(s:ByteArray)(f:s.size<=1100000)(p:Nat)(w:World):Calls Tryz.prog 223 #[.string s,.int .i64 p] w fun e c=>e= .returned (.int .u8 (lk s p))/\w=c:=by
 unfold lk
 by_cases a:p<s.size
 ·rw[ab a]
  have b:=fun w=>dE a w
  generalize aG s p=d at b
  go_in
  go_wp2
  go_ret
  exact⟨rfl,rfl⟩
 ·rw[aa a]
  go_in
  go_wp2
  go_ret
  exact⟨rfl,rfl⟩
def pK(s:ByteArray):Nat->Nat->Nat
 |0,p=>p
 |f+1,p=>if cD (aG s p)=true\/cL (aG s p)=true then pK s f (p+1) else p
theorem Ca{s:ByteArray}{p:Nat}(a:¬p<s.size):¬(cD (aG s p)=true\/cL (aG s p)=true):=by
 rw[eu a];decide
theorem yd(s:ByteArray):∀(f p:Nat),p<=s.size->p<=pK s f p/\pK s f p<=s.size
 |0,p,a=>⟨ah _,a⟩
 |f+1,p,a=>by
  unfold pK
  split
  ·rename_i b
   have c:p<s.size:=by
    rcases ci p s.size with h1|h1
    ·exact h1
    ·exact absurd b (Ca (by omega))
   have:=yd s f (p+1) (by omega)
   omega
  ·exact⟨ah _,a⟩
theorem DK(s:ByteArray)(B:s.size<=1100000)(p:Nat)(x:p<=s.size)(w:World):Calls Tryz.prog 264 #[.string s,.int .i64 p] w fun e h=>e= .returned (.int .i64 (pK s (s.size+1) p))/\h=w:=by
 obtain⟨u,n⟩:=aE (pK s (s.size+1) p)
 rw[n]
 have t:=aj n
 clear n
 go_in
 go_wp21
 go_loop [1] (fun o=>∃(b c:Nat),b<=s.size/\s.size<b+c/\o= .int .i64 b/\Hid (pK s c b=u)) (fun o=>s.size-(intOf o).toNat)
 case atStart=>exact⟨p,s.size+1,x,by omega,rfl,t⟩
 case round=>
  obtain⟨b,c,A,z,rfl,r⟩:=hrel
  obtain⟨c,rfl⟩:∃v,c=v+1:=⟨c-1,by omega⟩
  have a:=r.out
  unfold pK at a
  by_cases q:b<s.size
  ·have y:=fun w=>dE q w
   generalize aG s b=f at y a
   have j:=fun w=>sL f w
   have l:=fun w=>kH f w
   by_cases g:cD f=true
   ·rw[ab (.inl g)]at a
    have d:=aj a
    clear a
    rw[g]at j
    clear g
    go_wp2_with (go_at_call 263;refine(j _).mono ?_;rintro e h ⟨rfl,rfl⟩)
    go_round
    case rel=>exact⟨b+1,c,by omega,by omega,by go_num,d⟩
    case measure=>simp[intOf];omega
   ·have k:cD f=false:=by simpa using g
    rw[k]at j
    by_cases i:cL f=true
    ·rw[ab (.inr i)]at a
     have d:=aj a
     clear a
     rw[i]at l
     clear g k i
     go_wp2_with (first|(go_at_call 263;refine(j _).mono ?_;rintro e h ⟨rfl,rfl⟩)|(go_at_call 243;refine(l _).mono ?_;rintro e h ⟨rfl,rfl⟩))
     go_round
     case rel=>exact⟨b+1,c,by omega,by omega,by go_num,d⟩
     case measure=>simp[intOf];omega
    ·have m:cL f=false:=by simpa using i
     rw[aa (by rw[k,m];simp)]at a
     have d:=aj a
     clear a
     rw[m]at l
     clear g k i m
     go_wp2_with (first|(go_at_call 263;refine(j _).mono ?_;rintro e h ⟨rfl,rfl⟩)|(go_at_call 243;refine(l _).mono ?_;rintro e h ⟨rfl,rfl⟩))
     go_ret
     exact⟨by rw[<-d.out];rfl,rfl⟩
  ·rw[aa (Ca q)]at a
   have d:=aj a
   clear a
   go_wp2
   go_ret
   exact⟨by rw[<-d.out];rfl,rfl⟩
def qj(s:ByteArray):Bool:=(td ej s 22 0).isSome
theorem ye(k:Nat):cC ej k=lI k:=rfl
theorem vv(V:Array Value)(s:ByteArray):∀(f k j:Nat),td V s f k=some j->k<=j/\j<k+f/\(cC V j).toList=s.toList
 |0,k,j,a=>by simp[td]at a
 |f+1,k,j,a=>by
  unfold td at a
  split at a
  ·rename_i b
   obtain rfl:=bh a
   exact⟨ah _,by omega,by simpa using b⟩
  ·have:=vv V s f (k+1) j a
   exact⟨by omega,by omega,this.2.2⟩
theorem DL(V:Array Value)(s:ByteArray):∀(f k:Nat),td V s f k=none->∀j,k<=j->j<k+f->(cC V j).toList≠s.toList
 |0,k,a=>fun j b c=>by omega
 |f+1,k,a=>fun j b c=>by
  unfold td at a
  split at a
  ·cases a
  ·rename_i d
   rcases iD b with rfl|h3
   ·simpa using d
   ·exact DL V s f (k+1) a j h3 (by omega)
theorem D0{H:Type}:∀n,IsMap (FD (H:=H) n)
 |0=>isMap_empty
 |n+1=>(D0 n).put _ _
theorem Ia{H:Type}(l:List UInt8):∀n,(∀j,j<n->(lI j).data.toList≠l)->Maps.has (FD (H:=H) n) (.string l)=false
 |0,_=>rfl
 |n+1,a=>by
  show Maps.has ((FD n).put _ _) _=false
  rw[has_put_other (by intro e;exact a n (by omega) (by injection e with e;exact e.symm))]
  exact Ia l n fun j b=>a j (by omega)
theorem Ib{H:Type}(l:List UInt8)(j:Nat)(c:(lI j).data.toList=l):∀n,j<n->Maps.has (FD (H:=H) n) (.string l)=true
 |0,b=>by omega
 |n+1,b=>by
  show Maps.has ((FD n).put _ _) _=true
  by_cases e:(lI n).data.toList=l
  ·rw[e];exact has_put_same (D0 n) (by trivial) _
  ·rw[has_put_other (by intro a;injection a with a;exact e a.symm)]
   rcases iD (Nat.le_of_lt_succ b) with rfl|h3
   ·exact absurd c e
   ·exact Ib l j c n h3
theorem aaj{H:Type}(s:ByteArray):Maps.has (FD (H:=H) 22) (.string s.data.toList)=qj s:=by
 unfold qj
 cases h:td ej s 22 0 with
 |none=>
  have:=DL ej s 22 0 h
  exact Ia _ 22 fun d g c=>this d (aJ _) (by omega) (by rw[ye,gc,gc];exact c)
 |some b=>
  obtain⟨e,f,a⟩:=vv ej s 22 0 b h
  rw[ye,gc,gc]at a
  exact Ib _ b a 22 (by omega)
theorem FJ{H:Type}(s:ByteArray)(u:s.size<=1100000)(b:Nat)(w:World)(x:w.ownsMap Tryz.prog 9 (plainElem (H:=H) Tryz.prog 3) b 22 (FD 22)):Calls Tryz.prog 242 #[.string s,.map (some b)] w fun e c=>e= .returned (.bool (decide (cD (aG s 0)=true/\pK s (s.size+1) 0=s.size/\qj s=false)))/\c=w:=by
 have r:keyOf Tryz.prog 9 (.string s)=some (.string s.data.toList):=keyOf_string_mk Tryz.underlying9 (by unfold maxLen;omega)
 by_cases m:0<s.size
 ·have v:(s.toList==[])=false:=by
   have:s.toList.length=s.size:=by rw[gc];simp
   cases hs:s.toList with
   |nil=>rw[hs]at this;simp at this;omega
   |cons z E=>rfl
  have y:∀w,(Instr.index 9 (.string s) (.int .i64 0)).run Tryz.prog w= .ok (.int .u8 (aG s 0)) w:=fun w=>dE m w
  have f:=fun w=>sL (aG s 0) w
  have p:=yd s (s.size+1) 0 (by omega)
  have i:=fun w=>DK s u 0 (by omega) w
  generalize aG s 0=g at y f
  generalize pK s (s.size+1) 0=h at i p
  by_cases d:cD g=true
  ·rw[d]at f
   by_cases n:h=s.size
   ·subst n
    have t:¬(s.size:Int)<(s.size:Int):=by omega
    obtain⟨j,l⟩:=aE (qj s)
    have q:Maps.has (FD (H:=H) 22) (.string s.data.toList)=j:=by rw[aaj,l]
    have a:decide (cD g=true/\s.size=s.size/\qj s=false)=!j:=by rw[d,l];cases j<;>simp
    rw[a];clear a l d
    go_in
    go_wp2_with (first|(go_at_call 263;refine(f _).mono ?_;rintro e c ⟨rfl,rfl⟩)|(go_at_call 264;refine(i _).mono ?_;rintro e c ⟨rfl,rfl⟩)|(at_lookup;refine wpList_lookup_own_ok_int _ rfl _ _ 95 rfl 9 3 .i64 aib Tryz.underlying95 Tryz.underlying3 (by kernel_rfl) b 22 _ rfl x _ _ rfl r ?_;intro A B C;rw[q]))
    go_ret
    exact⟨rfl,rfl⟩
   ·have t:(h:Int)<(s.size:Int):=by omega
    have a:decide (cD g=true/\h=s.size/\qj s=false)=false:=by simp[n]
    rw[a];clear a d
    go_in
    go_wp2_with (first|(go_at_call 263;refine(f _).mono ?_;rintro e c ⟨rfl,rfl⟩)|(go_at_call 264;refine(i _).mono ?_;rintro e c ⟨rfl,rfl⟩))
    go_ret
    exact⟨rfl,rfl⟩
  ·have k:cD g=false:=by simpa using d
   rw[k]at f
   have a:decide (cD g=true/\h=s.size/\qj s=false)=false:=by simp[k]
   rw[a];clear a d k
   go_in
   go_wp2_with (first|(go_at_call 263;refine(f _).mono ?_;rintro e c ⟨rfl,rfl⟩)|(go_at_call 264;refine(i _).mono ?_;rintro e c ⟨rfl,rfl⟩))
   go_ret
   exact⟨rfl,rfl⟩
 ·have o:s.toList=[]:=by
   have:s.toList.length=s.size:=by rw[gc];simp
   exact List.length_eq_zero_iff.1 (by omega)
  have v:(s.toList==[])=true:=by rw[o];rfl
  have a:decide (cD (aG s 0)=true/\pK s (s.size+1) 0=s.size/\qj s=false)=false:=by rw[eu m];simp[cD]
  rw[a];clear a o
  go_in
  go_wp2
  go_ret
  exact⟨rfl,rfl⟩
def wdT(s:ByteArray)(p:Nat):Value:=
 match td ej (s.extract p (pK s (s.size+1) p)) 22 0 with
 |some a=> .agg #[.int .i64 (10+(a:Int)),.int .i64 p,.int .i64 (pK s (s.size+1) p),.int .i64 0,.int .i64 0,.string ⟨#[]⟩]
 |none=> .agg #[.int .i64 1,.int .i64 p,.int .i64 (pK s (s.size+1) p),.int .i64 0,.int .i64 0,.string (s.extract p (pK s (s.size+1) p))]
theorem FK(s:ByteArray)(bs:s.size<=1100000)(p:Nat)(am:p<=s.size)(w:World):Calls Tryz.prog 212 #[.string s,.agg #[.int .i64 0,.int .i64 p,.int .i64 0,.int .i64 0,.int .i64 0,.string ⟨#[]⟩]] w fun e g=>e= .returned (.tuple #[wdT s p,.int .i64 (-1)])/\Below w.heap.size w g:=by
 unfold wdT
 obtain⟨J,F⟩:=aE (pK s (s.size+1) p)
 have bb:=yd s (s.size+1) p am
 rw[F]at bb⊢
 have K:=aj F
 clear F
 obtain⟨ba,G⟩:=aE (td ej (s.extract p J) 22 0)
 rw[G]
 have a8:=aj G
 clear G
 go_in
 go_wp21
 generalize ak:(w.alloc _).alloc _=o
 obtain⟨a,L,ad, -⟩:=Dy ak
 have H:fy w.heap.size o 0 p 0 0 0 ⟨#[]⟩:=a
 have al:fy (w.heap.size+1) o 0 0 0 0 0 ⟨#[]⟩:=L
 clear ak a L
 go_loop [6] (fun k=>∃(b h:Nat),b<=s.size/\s.size<b+h/\k= .int .i64 b/\Hid (pK s h b=J)) (fun k=>s.size-(intOf k).toNat)
 case atStart=>exact⟨p,s.size+1,am,by omega,rfl,K⟩
 case round=>
  obtain⟨b,h,bx,bv,rfl,m⟩:=hrel
  obtain⟨h,rfl⟩:∃bc,h=bc+1:=⟨h-1,by omega⟩
  have c:=m.out
  unfold pK at c
  have t:=fun w=>yc s bs b w
  have f:=fun w=>lr (lk s b) w
  have j:=fun w=>vr (lk s b) w
  have i:cD (aG s b)=true\/cL (aG s b)=true->b<s.size:=by
   intro bf
   rcases ci b s.size with h1|h1
   ·exact h1
   ·exact absurd bf (Ca (by omega))
  rw[adz]at f
  rw[lJ]at j
  generalize lk s b=bt at t f j
  generalize aG s b=x at c f j i
  by_cases h1:cD x=true
  ·rw[ab (.inl h1)]at c
   have n:=aj c
   have br:=i (.inl h1)
   clear c i
   rw[h1]at f
   clear h1
   go_wp2_with (first|(go_at_call 223;refine(t _).mono ?_;rintro e g ⟨rfl,rfl⟩)|(go_at_call 180;refine(f _).mono ?_;rintro e g ⟨rfl,rfl⟩))
   go_round
   case rel=>exact⟨b+1,h,by omega,by omega,by go_num,n⟩
   case measure=>simp[intOf];omega
  ·have y:cD x=false:=by simpa using h1
   rw[y]at f
   by_cases l:cL x=true
   ·rw[ab (.inr l)]at c
    have n:=aj c
    have br:=i (.inr l)
    clear c i
    rw[l]at j
    clear h1 y l
    go_wp2_with (first|(go_at_call 223;refine(t _).mono ?_;rintro e g ⟨rfl,rfl⟩)|(go_at_call 180;refine(f _).mono ?_;rintro e g ⟨rfl,rfl⟩)|(go_at_call 178;refine(j _).mono ?_;rintro e g ⟨rfl,rfl⟩))
    go_round
    case rel=>exact⟨b+1,h,by omega,by omega,by go_num,n⟩
    case measure=>simp[intOf];omega
   ·have E:cL x=false:=by simpa using l
    rw[aa (by rw[y,E];simp)]at c
    rw[E]at j
    clear h1 y l E i m K
    subst c
    obtain⟨an,ao,ap,ar,av,a0,a1⟩:=cE H
    have A:=(H.setKind 1).setTo (b:Int)
    have B:=(al.other (a:=⟨w.heap.size,0,none⟩) (by simp) (.int .i64 1)).other (a:=⟨w.heap.size,2,none⟩) (by simp) (.int .i64 (b:Int))
    have z:Below w.heap.size w ((o.setCell ⟨w.heap.size,0,none⟩ (.int .i64 1)).setCell ⟨w.heap.size,2,none⟩ (.int .i64 (b:Int))):=(ad.setCell (by simp) _).setCell (by simp) _
    obtain⟨q,I⟩:=aE ((o.setCell ⟨w.heap.size,0,none⟩ (.int .i64 1)).setCell ⟨w.heap.size,2,none⟩ (.int .i64 (b:Int)))
    rw[I]at A B z
    have a9:=aj I
    clear I
    go_wp2_with (first|(go_at_call 223;refine(t _).mono ?_;rintro e g ⟨rfl,rfl⟩)|(go_at_call 180;refine(f _).mono ?_;rintro e g ⟨rfl,rfl⟩)|(go_at_call 178;refine(j _).mono ?_;rintro e g ⟨rfl,rfl⟩))
    rw[show(o.setCell ⟨w.heap.size,0,none⟩ (.int .i64 1)).setCell ⟨w.heap.size,2,none⟩ (.int .i64 (b:Int))=q from a9.out]
    refine(mL q).mono ?_
    rintro e u ⟨rfl,r⟩
    have bk:fy w.heap.size u 1 p b 0 0 ⟨#[]⟩:=by rw[r];exact(eo _ _ _ (aw A)).trans A
    have bl:fy (w.heap.size+1) u 0 0 0 0 0 ⟨#[]⟩:=by rw[r];exact(eo _ _ _ (aw B)).trans B
    have af:Below w.heap.size w u:=by rw[r];exact z.alloc z.size _
    have bn:u.heap[q.heap.size]?=some (.cells ej 9 (0,0)):=by rw[r];exact ay q _
    clear r A B z H al ad an ao ap ar av a0 a1 t f j
    go_wp21
    obtain⟨an,ao,ap,ar,av,a0,a1⟩:=cE bk
    obtain⟨z0,a3,a4,a5,a6,a7,bD⟩:=cE bl
    go_loop [34] (fun k=>∃d:Nat,d<=22/\k= .int .i64 d/\Hid (td ej (s.extract p b) (22-d) d=ba)) (fun k=>22-(intOf k).toNat)
    case atStart=>exact⟨0,by omega,rfl,a8⟩
    case round=>
     obtain⟨d,bw,rfl,m⟩:=hrel
     by_cases i:d<22
     ·have bo:u.cell? ⟨q.heap.size,d,none⟩=some (.string (cC ej d)):=by rw[au _ _ _ _ _ _ bn];exact xm ⟨d,i⟩
      have c:=m.out
      rw[show 22-d=(22-(d+1))+1 by omega]at c
      unfold td at c
      generalize cC ej d=a2 at bo c
      by_cases C:(a2.toList==(s.extract p b).toList)=true
      ·rw[ab C]at c
       subst c
       go_wp2
       refine aH (v:= .tuple #[.agg #[.int .i64 (10+(d:Int)),.int .i64 p,.int .i64 b,.int .i64 0,.int .i64 0,.string ⟨#[]⟩],.int .i64 (-1)]) (by simp[results,Tryz.results212,go_sem,z0,a3,a4,a5,a6,a7]) rfl ⟨rfl,?_⟩
       iterate 7 refine eL ?_ (by simp) _
       exact af
      ·rw[aa C]at c
       have n:=aj c
       have bA:(a2.toList==(s.extract p b).toList)=false:=by simpa using C
       clear c C
       go_wp2
       go_round
       case rel=>exact⟨d+1,by omega,by go_num,n⟩
       case measure=>simp[intOf];omega
     ·obtain rfl:d=22:=by omega
      have c:=m.out
      simp only[fw,td]at c
      subst c
      go_wp2
      refine aH (v:= .tuple #[.agg #[.int .i64 1,.int .i64 p,.int .i64 b,.int .i64 0,.int .i64 0,.string (s.extract p b)],.int .i64 (-1)]) (by simp[results,Tryz.results212,go_sem,z0,a3,a4,a5,a6,a7]) rfl ⟨rfl,?_⟩
      iterate 7 refine eL ?_ (by simp) _
      exact af
theorem FL{c:Int}(a:cD c=true):65<=c/\c<=122:=by simp[cD]at a;omega
theorem lD{c:Int}(a:cL c=true):48<=c/\c<=57:=by simpa [cL] using a
theorem aak(s:ByteArray)(p:Nat):∃(k:Int) (x:ByteArray),wdT s p= .agg #[.int .i64 k,.int .i64 p,.int .i64 (pK s (s.size+1) p),.int .i64 0,.int .i64 0,.string x]/\((k==1)=!(qj (s.extract p (pK s (s.size+1) p)))):=by
 unfold wdT qj
 cases h:td ej (s.extract p (pK s (s.size+1) p)) 22 0 with
 |none=>exact⟨1,_,rfl,rfl⟩
 |some k=>exact⟨10+(k:Int),_,rfl,by simp;omega⟩
theorem vw(s:ByteArray)(x:s.size<=1100000)(p:Nat)(m:p<s.size)(d:cD (aG s p)=true)(w:World):Calls Tryz.prog 179 #[.string s,.int .i64 p] w fun e o=>e= .returned (.tuple #[wdT s p,.int .i64 (-1)])/\Below w.heap.size w o:=by
 have n:=fun w=>dE m w
 have a:=fun w=>lr (aG s p) w
 have b:=fun w=>FK s x p (jv m) w
 have y:=FL d
 rw[d]at a
 generalize aG s p=t at n a y
 obtain⟨A,C,h,l⟩:=aak s p
 rw[h]at b⊢
 generalize pK s (s.size+1) p=q at b l
 have J:(t==10)=false:=by simp;omega
 clear d l h
 go_in
 go_wp2_with (first|(go_at_call 180;refine(a _).mono ?_;rintro e o ⟨rfl,rfl⟩))
 generalize i:(w.alloc _).alloc _=r
 obtain⟨f, -,g,z⟩:=Dy i
 have j:fy w.heap.size r 0 0 0 0 0 ⟨#[]⟩:=f
 clear i f
 refine(b _).mono ?_
 rintro e B ⟨rfl,c⟩
 have k:=j.below c (by omega)
 have u:=g.trans (c.mono (by omega))
 clear c j g z b a n
 obtain⟨z0,E,F,G,H,I,L⟩:=cE k
 have K:w.heap.size<B.heap.size:=aw k
 go_wp2
 refine aH (v:= .tuple #[.agg #[.int .i64 A,.int .i64 p,.int .i64 q,.int .i64 0,.int .i64 0,.string C],.int .i64 (-1)]) (by simp[results,Tryz.results179,go_sem,z0,E,F,G,H,I]) rfl ⟨rfl,?_⟩
 iterate 6 refine eL ?_ (by simp) _
 exact u
theorem vy(s:ByteArray):s.extract 0 s.size=s:=by
 simp
def lK(s:ByteArray):Bool:=decide (s.size<=40/\cD (aG s 0)=true/\pK s (s.size+1) 0=s.size/\qj s=false)
theorem th(s:ByteArray)(u:s.size<=1100000)(w:World):Calls Tryz.prog 131 #[.string s] w fun e c=>e= .returned (.bool (lK s))/\Below w.heap.size w c:=by
 unfold lK
 by_cases i:0<s.size
 ·have v:((s.size:Int)==0)=false:=by rw[cJ];omega
  by_cases n:s.size<=40
  ·have x:¬(40:Int)<(s.size:Int):=by omega
   have r:∀w,(Instr.index 9 (.string s) (.int .i64 0)).run Tryz.prog w= .ok (.int .u8 (aG s 0)) w:=fun w=>dE i w
   have b:=fun w=>lr (aG s 0) w
   by_cases a:cD (aG s 0)=true
   ·have g:∀w,Calls Tryz.prog 179 #[.string s,.int .i64 0] w fun e c=>e= .returned (.tuple #[wdT s 0,.int .i64 (-1)])/\Below w.heap.size w c:=fun w=>vw s u 0 i a w
    rw[a]at b
    obtain⟨l,z,p,f⟩:=aak s 0
    rw[p]at g
    generalize pK s (s.size+1) 0=h at g f
    generalize aG s 0=m at r b a
    have q:decide (s.size<=40/\cD m=true/\h=s.size/\qj s=false)=((l==1)&&((h:Int)==(s.size:Int))):=by
     by_cases o:h=s.size
     ·subst o;rw[vy]at f;rw[f,a];simp[n]
     ·simp[o];intro _;omega
    rw[q]
    clear q f p a
    by_cases j:l=1
    ·subst j
     go_in
     go_wp2_with (first|(go_at_call 180;refine(b _).mono ?_;rintro e c ⟨rfl,rfl⟩)|(go_at_call 179;refine(g _).mono ?_;rintro e y ⟨rfl,d⟩))
     go_ret
     exact⟨by simp,d.alloc d.size _⟩
    ·have t:(l==1)=false:=by simp[j]
     clear j
     go_in
     go_wp2_with (first|(go_at_call 180;refine(b _).mono ?_;rintro e c ⟨rfl,rfl⟩)|(go_at_call 179;refine(g _).mono ?_;rintro e y ⟨rfl,d⟩))
     go_ret
     exact⟨by simp[t],d.alloc d.size _⟩
   ·have k:cD (aG s 0)=false:=by simpa using a
    rw[show decide (s.size<=40/\cD (aG s 0)=true/\pK s (s.size+1) 0=s.size/\qj s=false)=false by simp[k]]
    rw[k]at b
    clear a k
    generalize aG s 0=m at r b
    go_in
    go_wp2_with (first|(go_at_call 180;refine(b _).mono ?_;rintro e c ⟨rfl,rfl⟩))
    go_ret
    exact⟨rfl,ag _ _⟩
  ·have x:(40:Int)<(s.size:Int):=by omega
   rw[show decide (s.size<=40/\cD (aG s 0)=true/\pK s (s.size+1) 0=s.size/\qj s=false)=false by simp[n]]
   go_in
   go_wp2
   go_ret
   exact⟨rfl,ag _ _⟩
 ·have v:((s.size:Int)==0)=true:=by rw[ib];omega
  rw[show decide (s.size<=40/\cD (aG s 0)=true/\pK s (s.size+1) 0=s.size/\qj s=false)=false by rw[eu i];simp[cD]]
  go_in
  go_wp2
  go_ret
  exact⟨rfl,ag _ _⟩
def ld(c:Int):Bool:=decide (0<=ig c)
theorem qk(c:Int):ld c=true↔(48<=c/\c<=57)\/(97<=c/\c<=102):=by
 unfold ld ig
 rw[mD]
 split
 ·omega
 ·split<;>omega
theorem yg(c:Int)(w:World):Calls Tryz.prog 274 #[.int .u8 c] w fun e f=>e= .returned (.bool (ld c))/\w=f:=by
 have b:=fun w=>kH c w
 by_cases a:cL c=true
 ·rw[show ld c=true by rw[qk];have:=lD a;omega]
  rw[a]at b
  clear a
  go_in
  go_wp2_with (first|(go_at_call 243;refine(b _).mono ?_;rintro e f ⟨rfl,rfl⟩))
  go_ret
  exact⟨rfl,rfl⟩
 ·have d:cL c=false:=by simpa using a
  rw[d]at b
  have h:¬(48<=c/\c<=57):=by simpa [cL] using d
  rcases(show(97<=c/\c<=102)\/c<97\/(97<=c/\102<c) by omega) with⟨j,k⟩|g|⟨j,k⟩
  ·rw[show ld c=true by rw[qk];omega]
   clear a d h
   go_in
   go_wp2_with (first|(go_at_call 243;refine(b _).mono ?_;rintro e f ⟨rfl,rfl⟩))
   go_ret
   exact⟨rfl,rfl⟩
  ·rw[show ld c=false by rw[<-Hv,qk];omega]
   have i:¬97<=c:=by omega
   clear a d h
   go_in
   go_wp2_with (first|(go_at_call 243;refine(b _).mono ?_;rintro e f ⟨rfl,rfl⟩))
   go_ret
   exact⟨rfl,rfl⟩
  ·rw[show ld c=false by rw[<-Hv,qk];omega]
   have i:¬c<=102:=by omega
   clear a d h
   go_in
   go_wp2_with (first|(go_at_call 243;refine(b _).mono ?_;rintro e f ⟨rfl,rfl⟩))
   go_ret
   exact⟨by simp;omega,rfl⟩
def ja(q:Int->Bool)(s:ByteArray):Nat->Nat->Nat
 |0,p=>p
 |f+1,p=>if q (aG s p)=true then ja q s f (p+1) else p
theorem F3{q:Int->Bool}(b:q (-1)=false){s:ByteArray}{p:Nat}(a:q (aG s p)=true):p<s.size:=by
 rcases ci p s.size with h1|h1
 ·exact h1
 ·rw[eu,b]at a;cases a
theorem ng(q:Int->Bool)(b:q (-1)=false)(s:ByteArray):∀(f p:Nat),p<=s.size->p<=ja q s f p/\ja q s f p<=s.size
 |0,p,a=>⟨ah _,a⟩
 |f+1,p,a=>by
  unfold ja
  split
  ·rename_i c
   have d:=F3 b c
   have:=ng q b s f (p+1) (by omega)
   omega
  ·exact⟨ah _,a⟩
theorem yh(q:Int->Bool)(s:ByteArray):∀(f p i:Nat),p<=i->i<ja q s f p->q (aG s i)=true
 |0,p,i,b,a=>by simp[ja]at a;omega
 |f+1,p,i,b,a=>by
  unfold ja at a
  split at a
  ·rename_i c
   rcases iD b with rfl|h3
   ·exact c
   ·exact yh q s f (p+1) i h3 a
  ·omega
theorem ti:cL (-1)=false:=by decide
theorem xn:ld (-1)=false:=by decide
def sa(s:ByteArray)(p:Nat):Nat:=ja cL s (s.size+1) p
def hxE(s:ByteArray)(p:Nat):Nat:=ja ld s (s.size+1) p
theorem ry(s:ByteArray)(y:s.size<=1100000)(p:Nat)(t:p<=s.size)(w:World):Calls Tryz.prog 266 #[.string s,.int .i64 p] w fun e k=>e= .returned (.int .i64 (sa s p))/\k=w:=by
 unfold sa
 obtain⟨q,i⟩:=aE (ja cL s (s.size+1) p)
 rw[i]
 have o:=aj i
 clear i
 go_in
 go_wp21
 go_loop [1] (fun j=>∃(b c:Nat),b<=s.size/\s.size<b+c/\j= .int .i64 b/\Hid (ja cL s c b=q)) (fun j=>s.size-(intOf j).toNat)
 case atStart=>exact⟨p,s.size+1,t,by omega,rfl,o⟩
 case round=>
  obtain⟨b,c,x,v,rfl,n⟩:=hrel
  obtain⟨c,rfl⟩:∃r,c=r+1:=⟨c-1,by omega⟩
  have a:=n.out
  unfold ja at a
  by_cases m:b<s.size
  ·have u:=fun w=>dE m w
   generalize aG s b=h at u a
   have g:=fun w=>kH h w
   by_cases d:cL h=true
   ·rw[ab d]at a
    have f:=aj a
    clear a
    rw[d]at g
    clear d
    go_wp2_with (go_at_call 243;refine(g _).mono ?_;rintro e k ⟨rfl,rfl⟩)
    go_round
    case rel=>exact⟨b+1,c,by omega,by omega,by go_num,f⟩
    case measure=>simp[intOf];omega
   ·have l:cL h=false:=by simpa using d
    rw[aa d]at a
    have f:=aj a
    rw[l]at g
    clear d l a
    go_wp2_with (go_at_call 243;refine(g _).mono ?_;rintro e k ⟨rfl,rfl⟩)
    go_ret
    exact⟨by rw[<-f.out];rfl,rfl⟩
  ·rw[aa (by rw[eu m];decide)]at a
   have f:=aj a
   clear a
   go_wp2
   go_ret
   exact⟨by rw[<-f.out];rfl,rfl⟩
def lu(s:ByteArray)(q:Nat):Nat×Bool:=if q+16<hxE s q then(q+16,false) else(hxE s q,decide (q<hxE s q))
theorem F4(s:ByteArray)(I:s.size<=1100000)(p:Nat)(C:p<=s.size)(w:World):Calls Tryz.prog 265 #[.string s,.int .i64 p] w fun e j=>e= .returned (.tuple #[.int .i64 ((lu s p).1:Int),.bool (lu s p).2])/\j=w:=by
 unfold lu hxE
 obtain⟨i,m⟩:=aE (ja ld s (s.size+1) p)
 rw[m]
 have x:=aj m
 clear m
 obtain⟨o,q,l⟩:∃o q,(if p+16<i then(p+16,false) else(i,decide (p<i)))=(o,q):=⟨_,_,rfl⟩
 rw[l]
 have f:=aj l
 clear l
 go_in
 go_wp21
 go_loop [6] (fun n=>∃(a d:Nat),p<=a/\a<=p+16/\a<=s.size/\s.size<a+d/\n= .int .i64 a/\Hid (ja ld s d a=i)) (fun n=>s.size-(intOf n).toNat)
 case atStart=>exact⟨p,s.size+1,ah _,by omega,C,by omega,rfl,x⟩
 case round=>
  obtain⟨a,d,J,H,G,F,rfl,v⟩:=hrel
  obtain⟨d,rfl⟩:∃A,d=A+1:=⟨d-1,by omega⟩
  have c:=v.out
  unfold ja at c
  by_cases u:a<s.size
  ·have E:=fun w=>dE u w
   generalize aG s a=k at E c
   have h:=fun w=>yg k w
   by_cases g:ld k=true
   ·rw[ab g]at c
    have B:=(ng ld xn s d (a+1) (by omega)).1
    rw[c]at B
    have y:=aj c
    clear c
    rw[g]at h
    clear g
    by_cases t:a=p+16
    ·have b:=f.out
     rw[ab (by omega),<-t]at b
     obtain⟨rfl,rfl⟩:=sH b
     have z:((a:Int)-(p:Int)==16)=true:=by rw[ib];omega
     clear b f t
     go_wp2_with (go_at_call 274;refine(h _).mono ?_;rintro e j ⟨rfl,rfl⟩)
     go_ret2
     exact⟨rfl,rfl⟩
    ·have z:((a:Int)-(p:Int)==16)=false:=by rw[cJ];omega
     go_wp2_with (go_at_call 274;refine(h _).mono ?_;rintro e j ⟨rfl,rfl⟩)
     go_round
     case rel=>exact⟨a+1,d,by omega,by omega,by omega,by omega,by go_num,y⟩
     case measure=>simp[intOf];omega
   ·have r:ld k=false:=by simpa using g
    rw[aa g]at c
    subst c
    rw[r]at h
    clear g r
    have b:=f.out
    rw[aa (by omega)]at b
    obtain⟨rfl,rfl⟩:=sH b
    clear b f
    go_wp2_with (go_at_call 274;refine(h _).mono ?_;rintro e j ⟨rfl,rfl⟩)
    go_ret2
    exact⟨by simp,rfl⟩
  ·rw[aa (by rw[eu u];decide)]at c
   subst c
   have b:=f.out
   rw[aa (by omega)]at b
   obtain⟨rfl,rfl⟩:=sH b
   clear b f
   go_wp2
   go_ret2
   exact⟨by simp,rfl⟩
theorem jz(s:ByteArray)(i:Nat)(b:UInt8):s.data.toList[i]?=some b↔i<s.size/\aG s i=(b.toNat:Int):=by
 unfold aG
 by_cases a:i<s.size
 ·rw[pc a]
  have d:s.data.toList[i]?=some s[i]:=by
   rw[qD]
   exact qF a
  rw[d]
  constructor
  ·intro c;injection c with c;exact⟨a,by rw[c]⟩
  ·intro ⟨_,c⟩;congr 1;exact UInt8.toNat_inj.1 (by omega)
 ·have d:s.data.toList[i]?=none:=by
   rw[qD]
   exact wJ (Nat.not_lt.1 a)
  rw[d]
  simp[a]
theorem Ic(s:ByteArray)(p:Nat)(x b:UInt8):Lib.hasPrefix (s.extract p s.size).data.toList [x,b]=decide (aG s p=(x.toNat:Int)/\aG s (p+1)=(b.toNat:Int)):=by
 have o:(s.extract p s.size).data.toList=s.data.toList.drop p:=by
  rw[<-gc,Lib.extract_toList,bH]
  rw[dH,gw]
  exact ah _
 rw[o]
 unfold Lib.hasPrefix
 rw[BD,xb,mD]
 constructor
 ·rintro ⟨t,h⟩
  have d:(s.data.toList.drop p)[0]?=some x:=by rw[<-h];rfl
  have e:(s.data.toList.drop p)[1]?=some b:=by rw[<-h];rfl
  rw[mF]at d e
  exact⟨((jz s _ x).1 d).2,((jz s _ b).1 e).2⟩
 ·rintro ⟨d,e⟩
  have f:∀a (c:UInt8),aG s a=(c.toNat:Int)->s.data.toList[a]?=some c:=fun a c g=>by
   refine(jz s a c).2 ⟨?_,g⟩
   rcases ci a s.size with h2|h2
   ·exact h2
   ·rw[eu]at g;omega
  have q:=f p x d
  have r:=f (p+1) b e
  refine⟨s.data.toList.drop (p+2),?_⟩
  have i:=List.getElem?_eq_some_iff.1 q
  have j:=List.getElem?_eq_some_iff.1 r
  obtain⟨k,m⟩:=i
  obtain⟨l,n⟩:=j
  rw[ju k,ju l,m,n]
  rfl
def nA0(s:ByteArray)(p:Nat):Nat:=if aG s p=48 then p+1 else sa s (p+1)
def nA1(s:ByteArray)(a:Nat):Nat:=if aG s a=46/\cL (aG s (a+1))=true then sa s (a+1) else a
def nA2(s:ByteArray)(a:Nat):Nat:=if aG s (a+1)=43\/aG s (a+1)=45 then a+1+1 else a+1
def mB(s:ByteArray)(a:Nat):Nat×Bool:=if aG s a=101 then(sa s (nA2 s a),decide (nA2 s a<sa s (nA2 s a))) else(a,true)
def fp(s:ByteArray)(p:Nat):Nat×Bool:=if aG s p=48/\aG s (p+1)=120 then lu s (p+2) else mB s (nA1 s (nA0 s p))
theorem tj(s:ByteArray)(p:Nat)(a:p<=s.size):p<=sa s p/\sa s p<=s.size:=ng cL ti s _ p a
theorem rz(s:ByteArray)(c:s.size<=1100000)(a:Int)(p:Nat)(b:a=(p:Int))(d:p<=s.size)(w:World):Calls Tryz.prog 266 #[.string s,.int .i64 a] w fun e f=>e= .returned (.int .i64 (sa s p))/\f=w:=by
 subst b;exact ry s c p d w
theorem tm{s:ByteArray}(a:Int)(i:Nat)(c:a=(i:Int))(b:i<s.size)(w:World):(Instr.index 9 (.string s) (.int .i64 a)).run Tryz.prog w= .ok (.int .u8 (aG s i)) w:=by
 subst c;exact dE b w
theorem dp{s:ByteArray}{i:Nat}{c:Int}(a:aG s i=c)(b:0<=c:=by omega):i<s.size:=by
 rcases ci i s.size with h2|h2
 ·exact h2
 ·rw[eu]at a;omega
theorem pi{s:ByteArray}{i:Nat}(a:cL (aG s i)=true):i<s.size:=F3 ti a
theorem yi(s:ByteArray)(p:Nat)(w:World):Calls Tryz.prog 207 #[.string (s.extract p s.size),.string ⟨#[48,120]⟩] w fun e b=>e= .returned (.bool (decide (aG s p=48/\aG s (p+1)=120)))/\b=w:=by
 have a:=Tryz.strings_HasPrefix (s.extract p s.size) ⟨#[48,120]⟩ w
 rw[show(⟨#[48,120]⟩:ByteArray).data.toList=[48,120] from rfl,Ic]at a
 exact a
theorem Ab(s:ByteArray)(h:s.size<=1100000)(p:Nat)(d:aG s p=48)(a:aG s (p+1)=120)(w:World):Calls Tryz.prog 244 #[.string s,.int .i64 p] w fun e c=>e= .returned (.tuple #[.int .i64 ((lu s (p+2)).1:Int),.bool (lu s (p+2)).2])/\c=w:=by
 have k:=dp a
 have f:=fun w=>yi s p w
 rw[show decide (aG s p=48/\aG s (p+1)=120)=true by simp[d,a]]at f
 have b:∀w,Calls Tryz.prog 265 #[.string s,.int .i64 ((p:Int)+2)] w fun e c=>e= .returned (.tuple #[.int .i64 ((lu s (p+2)).1:Int),.bool (lu s (p+2)).2])/\c=w:=fun w=>F4 s h (p+2) (by omega) w
 generalize lu s (p+2)=g at b
 obtain⟨i,j⟩:=g
 simp only at b⊢
 clear d a
 go_in
 go_wp2_with (first|(go_at_call 207;refine dj (f _) ?_)|(go_at_call 265;refine dj (b _) ?_))
 go_ret2
 exact⟨rfl,rfl⟩
abbrev IX(s:ByteArray)(a c:Int):Prop:=∀b,(Instr.index 9 (.string s) (.int .i64 a)).run Tryz.prog b= .ok (.int .u8 c) b
abbrev DE(s:ByteArray)(a:Int)(c:Nat):Prop:=∀b,Calls Tryz.prog 266 #[.string s,.int .i64 a] b fun d e=>d= .returned (.int .i64 (c:Int))/\e=b
abbrev DQ(c:Int)(b:Bool):Prop:=∀a,Calls Tryz.prog 243 #[.int .u8 c] a fun d e=>d= .returned (.bool b)/\e=a
theorem ajt(s:ByteArray)(d:s.size<=1100000)(p:Nat)(f:p<s.size):∃a:Int,a=(nA0 s p:Nat)/\nA0 s p<=s.size/\((aG s p=48/\a=(p:Int)+1)\/((aG s p==48)=false/\DE s ((p:Int)+1) (nA0 s p)/\∃c,nA0 s p=c/\a=(c:Int))):=by
 unfold nA0
 split
 ·rename_i b
  exact⟨_,rfl,by omega,.inl ⟨b,by omega⟩⟩
 ·rename_i b
  exact⟨_,rfl,(tj s (p+1) (by omega)).2,.inr ⟨by simp[b],fun e=>ry s d (p+1) (by omega) e,_,rfl,rfl⟩⟩
theorem aju(s:ByteArray)(o:s.size<=1100000)(c:Nat)(n:c<=s.size)(a:Int)(i:a=(c:Int)):∃b:Int,b=(nA1 s c:Nat)/\nA1 s c<=s.size/\((¬a+1<(s.size:Int)/\b=a/\nA1 s c=c)\/(a+1<(s.size:Int)/\IX s a (aG s c)/\((b=a/\nA1 s c=c/\(aG s c==46)=false)\/(aG s c=46/\IX s (a+1) (aG s (c+1))/\((b=a/\nA1 s c=c/\DQ (aG s (c+1)) false)\/(DQ (aG s (c+1)) true/\DE s (a+1) (nA1 s c)/\∃h,nA1 s c=h/\b=(h:Int))))))):=by
 have l:∀f,DQ f (cL f):=fun f e=>(kH _ e).mono fun p q d=>⟨d.1,d.2.symm⟩
 have j:c<s.size->IX s a (aG s c):=fun d e=>tm _ c i d e
 have k:c+1<s.size->IX s (a+1) (aG s (c+1)):=fun d e=>tm _ (c+1) (by omega) d e
 unfold nA1
 split
 ·rename_i d
  have h1:=pi d.2
  exact⟨_,rfl,(tj s (c+1) (by omega)).2,.inr ⟨by omega,j (by omega),.inr ⟨d.1,k h1,.inr ⟨by rw[<-d.2];exact l _,fun e=>rz s o _ (c+1) (by omega) (by omega) e,_,rfl,rfl⟩⟩⟩⟩
 ·rename_i d
  refine⟨a,i,n,?_⟩
  rcases ci (c+1) s.size with h1|h1
  ·refine .inr ⟨by omega,j (by omega),?_⟩
   by_cases g:aG s c=46
   ·refine .inr ⟨g,k h1,.inl ⟨rfl,rfl,?_⟩⟩
    have m:cL (aG s (c+1))=false:=by simpa [g] using d
    rw[<-m]
    exact l _
   ·exact .inl ⟨rfl,rfl,by simp[g]⟩
  ·exact .inl ⟨by omega,rfl,rfl⟩
theorem ajv(s:ByteArray)(m:s.size<=1100000)(a:Nat)(n:a<=s.size)(b:Int)(h:b=(a:Int)):((b==(s.size:Int))=true/\((mB s a).1:Int)=b/\(mB s a).2=true)\/((b==(s.size:Int))=false/\IX s b (aG s a)/\(((aG s a==101)=false/\((mB s a).1:Int)=b/\(mB s a).2=true)\/(aG s a=101/\∃d:Int,((¬b+1<(s.size:Int)/\d=b+1)\/(b+1<(s.size:Int)/\IX s (b+1) (aG s (a+1))/\((aG s (a+1)=43/\d=b+1+1)\/(aG s (a+1)=45/\d=b+1+1)\/((aG s (a+1)==43)=false/\(aG s (a+1)==45)=false/\d=b+1))))/\∃C:Nat,DE s d C/\(mB s a).1=C/\(mB s a).2=decide (d<(C:Int))))):=by
 unfold mB
 have j:a+1<s.size->IX s (b+1) (aG s (a+1)):=fun i e=>tm _ (a+1) (by omega) i e
 by_cases f:aG s a=101
 ·have k:=dp f
  rw[ab f]
  refine .inr ⟨by rw[cJ];omega,fun e=>tm _ a h k e,.inr ⟨f,(nA2 s a:Nat),?_,_,fun e=>rz s m _ (nA2 s a) rfl ?_ e,rfl,by rw[BH];omega⟩⟩
  ·unfold nA2
   rcases(show ¬a+1<s.size\/(a+1<s.size/\aG s (a+1)=43)\/(a+1<s.size/\aG s (a+1)=45)\/(a+1<s.size/\aG s (a+1)≠43/\aG s (a+1)≠45) by omega) with h2|⟨h2,c⟩|⟨h2,c⟩|⟨h2,c,l⟩
   ·rw[aa (by rw[eu h2];omega)]
    exact .inl ⟨by omega,by omega⟩
   ·rw[ab (.inl c)]
    exact .inr ⟨by omega,j h2,.inl ⟨c,by omega⟩⟩
   ·rw[ab (.inr c)]
    exact .inr ⟨by omega,j h2,.inr (.inl ⟨c,by omega⟩)⟩
   ·rw[aa (by omega)]
    exact .inr ⟨by omega,j h2,.inr (.inr ⟨by simp[c],by simp[l],by omega⟩)⟩
  ·unfold nA2
   split
   ·rename_i i
    rcases ci (a+1) s.size with g|g
    ·omega
    ·rw[eu]at i;omega
   ·omega
 ·rw[aa f]
  rcases(show a=s.size\/a<s.size by omega) with h2|h2
  ·exact .inl ⟨by rw[ib];omega,h.symm,rfl⟩
  ·exact .inr ⟨by rw[cJ];omega,fun e=>tm _ a h h2 e,.inl ⟨by simp[f],h.symm,rfl⟩⟩
theorem Ad(s:ByteArray)(f:s.size<=1100000)(p:Nat)(k:p<s.size)(l:¬(aG s p=48/\aG s (p+1)=120))(w:World):Calls Tryz.prog 244 #[.string s,.int .i64 p] w fun e H=>e= .returned (.tuple #[.int .i64 ((mB s (nA1 s (nA0 s p))).1:Int),.bool (mB s (nA1 s (nA0 s p))).2])/\H=w:=by
 have m:=fun w=>yi s p w
 rw[az l]at m
 have an:=fun w=>dE k w
 obtain⟨r,c,i,o⟩:=ajt s f p k
 obtain⟨t,d,j,g⟩:=aju s f _ i r c
 have a:=ajv s f _ j t d
 generalize mB s (nA1 s (nA0 s p))=q at a⊢
 obtain⟨af,ak⟩:=q
 simp only at a⊢
 clear l
 have u:nA0 s p<=1100000:=by omega
 have v:nA1 s (nA0 s p)<=1100000:=by omega
 generalize nA1 s (nA0 s p)=K at d j g a v
 generalize nA0 s p=I at c i o g u
 rcases o with⟨x,rfl⟩|⟨x,A,J,rfl,rfl⟩
 all_goals
  rcases g with⟨G,rfl,rfl⟩|⟨G,ao,⟨rfl,rfl,y⟩|⟨y,ap,⟨rfl,rfl,n⟩|⟨n,B,L,rfl,rfl⟩⟩⟩
  all_goals
   rcases a with⟨E,b,rfl⟩|⟨E,ar,⟨z,b,rfl⟩|⟨z,al,⟨F,rfl⟩|⟨F,av,⟨h,rfl⟩|⟨h,rfl⟩|⟨h,am,rfl⟩⟩,ad,C,rfl,rfl⟩⟩
   all_goals first|omega|skip
   all_goals
    try rw[b]
    try clear b
    clear c d
    go_in
    go_wp2_with (first|(go_at_call 207;refine dj (m _) ?_)|(go_at_call 243;refine dj (n _) ?_)|(go_at_call 266;first|(with_reducible refine dj (A _) ?_)|(with_reducible refine dj (B _) ?_)|(with_reducible refine dj (C _) ?_)))
    all_goals
     go_ret2
     exact⟨rfl,rfl⟩
theorem Ae(s:ByteArray)(b:s.size<=1100000)(p:Nat)(c:p<s.size)(w:World):Calls Tryz.prog 244 #[.string s,.int .i64 p] w fun e d=>e= .returned (.tuple #[.int .i64 ((fp s p).1:Int),.bool (fp s p).2])/\d=w:=by
 unfold fp
 by_cases a:aG s p=48/\aG s (p+1)=120
 ·rw[ab a];exact Ab s b p a.1 a.2 w
 ·rw[aa a];exact Ad s b p c a w
def uu(s:ByteArray)(p:Nat):Nat->Nat
 |0=>0
 |n+1=>uu s p n*16+(ig (aG s (p+n))).toNat
theorem F5(s:ByteArray)(p:Nat):∀n,uu s p n<16 ^ n
 |0=>by simp[uu]
 |n+1=>by
  have b:=F5 s p n
  have c:=qL (aG s (p+n))
  have a:16 ^ (n+1)=16 ^ n*16:=Nat.pow_succ 16 n
  unfold uu
  omega
theorem aal(s:ByteArray)(p n:Nat)(a:n<=15):uu s p n<1152921504606846976:=by
 have b:=F5 s p n
 have c:16 ^ n<=16 ^ 15:=Nat.pow_le_pow_right (by omega) a
 have d:16 ^ 15=1152921504606846976:=by decide
 omega
theorem F6(s:ByteArray)(p n:Nat)(a:n<=16):uu s p n<18446744073709551616:=by
 have b:=F5 s p n
 have c:16 ^ n<=16 ^ 16:=Nat.pow_le_pow_right (by omega) a
 have d:16 ^ 16=18446744073709551616:=by decide
 omega
theorem adA(c:Int)(a:97<=c)(b:c<=102):bits .or .u8 c 32=c:=by
 rcases(show c=97\/c=98\/c=99\/c=100\/c=101\/c=102 by omega) with rfl|rfl|rfl|rfl|rfl|rfl<;>decide+kernel
theorem aam(s:ByteArray)(j:Nat)(a:j<s.size):((s.data.toList.getD j 0).toNat:Int)=aG s j:=by
 have:s.data.toList[j]?=some s[j]:=by
  rw[qD];exact qF a
 rw[List.getD,this]
 unfold aG
 rw[pc a]
 rfl
theorem ajw(t:ByteArray)(v:1<=t.size)(am:t.size<=16)(y:∀i,i<t.size->ld (aG t i)=true)(w:World):
  Calls Tryz.prog 276 #[.string t,.int .i64 16,.int .i64 64] w fun e q=>e= .returned (.tuple #[.int .u64 (uu t 0 t.size:Int),.nilIface])/\q=Lib.bytesWorld w 5 t:=by
 have an:t.toList.isEmpty=false:=by
  rw[<-decide_eq_emptyBytes]
  exact az (fun E=>by rw[E]at v;simp at v)
 have H:=Lib.run_convert_string_bytes (P:=Tryz.prog) w 9 22 5 t (u:= .string) Tryz.underlying9 Tryz.underlying22 Tryz.underlying5
 have j:∀f,f<t.size->(Lib.bytesWorld w 5 t).cell? ⟨w.heap.size,f,none⟩=some (.int .u8 (aG t f)):=fun f z=>by rw[Lib.bytesWorld_cell w 5 t f z,aam t f z]
 obtain⟨s,x⟩:∃s,s=Lib.bytesWorld w 5 t:=⟨_,rfl⟩
 rw[<-x]at H j⊢
 clear x
 have ap:IntKind.u64.wrap (IntKind.u64.wrap 18446744073709551616-1)=18446744073709551615:=by
  rw[IntKind.wrap_u64,IntKind.wrap_u64]
  decide
 obtain⟨n,o⟩:∃n:Int,(uu t 0 t.size:Int)=n:=⟨_,rfl⟩
 rw[o]
 have r:=aj o
 clear o
 go_in
 go_wp2
 go_loop [12,13,101] (fun ad L p=>∃(a:Nat) (b:Int),ad= .bool false/\L= .int .u64 b/\p= .int .i64 a/\a<=t.size/\Hid (b=(uu t 0 a:Int))) (fun _ _ p=>t.size-(intOf p).toNat)
 case atStart=>exact⟨0,0,rfl,rfl,rfl,by omega,rfl⟩
 case round=>
  obtain⟨a,b,rfl,rfl,rfl,ao,d⟩:=hrel
  by_cases A:a<t.size
  ·have G:=j a A
   have C:=(qk _).1 (y a A)
   have F:=aal t 0 a (by omega)
   have af:0<=b:=by rw[d.out];omega
   have ak:b<1152921504606846976:=by rw[d.out];omega
   have g:Hid (∀h:Int,ig (aG t a)=h->0<=h->b*16+h=(uu t 0 (a+1):Int)):=fun h I al=>by
    show _=((uu t 0 a*16+(ig (aG t (0+a))).toNat:Nat):Int)
    rw[qG,I,d.out];omega
   generalize aG t a=c at G C g
   clear j F d y
   rcases C with⟨k,l⟩|⟨k,l⟩
   ·have m:Hid (b*16+(c-48)=(uu t 0 (a+1):Int)):=g.out (c-48) (by unfold ig;rw[ab ⟨k,l⟩]) (by omega)
    clear g
    go_wp2
    refine⟨⟨a+1,b*16+(c-48),rfl,(by first|rfl|(congr 1;omega)),(by first|rfl|(congr 1;omega)),by omega,m⟩,by simp[intOf];omega⟩
   ·have m:Hid (b*16+(c-87)=(uu t 0 (a+1):Int)):=g.out (c-87) (by unfold ig;rw[aa (by omega),ab ⟨k,l⟩]) (by omega)
    clear g
    have B:=adA c k l
    have K:∀w,Calls Tryz.prog 281 #[.int .u8 c] w fun e q=>e= .returned (.int .u8 c)/\q=w:=fun w=>by
     have:=Tryz.internal_strconv_lower c w
     rw[B]at this
     exact this
    clear B
    go_wp2_with (go_at_call 281;refine dj (K _) ?_)
    refine⟨⟨a+1,b*16+(c-87),rfl,(by first|rfl|(congr 1;omega)),(by first|rfl|(congr 1;omega)),by omega,m⟩,by simp[intOf];omega⟩
  ·obtain rfl:a=t.size:=by omega
   have J:b=n:=by rw[<-r.out,d.out]
   subst J
   clear j d r
   go_wp2
   go_ret2
   exact⟨rfl,rfl⟩
structure mC (w:World):Prop where
 syn:∃te pe,w.cell? ⟨10,0,none⟩=some (.iface te pe)
 rng:∃te pe,w.cell? ⟨11,0,none⟩=some (.iface te pe)
theorem lL{b:Nat}{w c:World}(d:Below b w c){a:Addr}(e:a.block<b):c.cell? a=w.cell? a:=by
 unfold World.cell?
 rw[d.block _ e]
theorem Cb{c:Nat}{a w:World}(b:Below c a w)(n:Nat):Below c a (w.drewN n):=⟨b.os,b.tape,b.output,b.size,b.block⟩
theorem mC.below{w f:World}{a:Nat}(g:mC w)(e:Below a w f)(d:w.heap.size<=a):mC f:=by
 obtain⟨⟨k,j,b⟩,⟨l,p2,c⟩⟩:=g
 have h:=sF w _ b
 have i:=sF w _ c
 exact⟨⟨k,j,(lL e (fi h d)).trans b⟩,⟨l,p2,(lL e (fi i d)).trans c⟩⟩
theorem pj(s:ByteArray)(i:Nat):aG s i=match s.data.toList[i]? with|some b=>(b.toNat:Int)|none=> -1:=by
 cases h:s.data.toList[i]? with
 |some b=>exact((jz s i b).1 h).2
 |none=>
  refine eu fun a=>?_
  have:s.data.toList[i]?=some s[i]:=by rw[qD];exact qF a
  rw[this]at h;cases h
def Az(s:ByteArray)(n:Nat):ByteArray:=⟨(s.data.toList.drop n).toArray⟩
theorem pm(s:ByteArray)(n:Nat):(Az s n).size=s.size-n:=by
 show(s.data.toList.drop n).toArray.size=_
 rw[gG,dH,gw]
 rfl
theorem AB(s:ByteArray)(n i:Nat):aG (Az s n) i=aG s (n+i):=by
 rw[pj,pj]
 show(match (s.data.toList.drop n).toArray.toList[i]? with|some a=>(a.toNat:Int)|none=> -1)=_
 rw[List.toList_toArray,mF]
theorem D1(s:ByteArray)(a p:Nat):∀n,uu (Az s a) p n=uu s (a+p) n
 |0=>rfl
 |n+1=>by
  unfold uu
  rw[D1 s a p n,AB,Nat.add_assoc]
theorem aif(t:ByteArray)(d:1<=t.size)(a:t.size<=16)(f:∀i,i<t.size->ld (aG t i)=true)(w:World):
  Calls Tryz.prog 268 #[.string t,.int .i64 16,.int .i64 64] w fun e c=>e= .returned (.tuple #[.int .u64 (uu t 0 t.size:Int),.nilIface])/\Below w.heap.size w c:=by
 have b:=fun w=>ajw t d a f w
 have g:=F6 t 0 t.size a
 generalize (uu t 0 t.size:Int)=h at b
 go_in
 go_wp2_with (go_at_call 276;refine(b _).mono ?_;rintro e c ⟨rfl,rfl⟩)
 go_ret2
 exact⟨rfl,Lib.bytesWorld_below _ _ _⟩
theorem D2(s:ByteArray)(x a:UInt8):Lib.hasPrefix s.data.toList [x,a]=decide (aG s 0=(x.toNat:Int)/\aG s 1=(a.toNat:Int)):=by
 have:=Ic s 0 x a
 rw[vy]at this
 exact this
theorem Jv(q:ByteArray)(j:aG q 0=48)(k:aG q 1=120)(r:3<=q.size)(p:q.size<=18)(d:∀i,2<=i->i<q.size->ld (aG q i)=true)(w:World):
  Calls Tryz.prog 245 #[.string q] w fun e b=>e= .returned (.tuple #[.int .i64 (wrap64 (uu q 2 (q.size-2):Int)),.bool true])/\Below w.heap.size w b:=by
 have f:Lib.hasPrefix q.data.toList [48,120]=true:=by rw[D2];simp[j,k]
 have h:∀w,Calls Tryz.prog 267 #[.string q,.string ⟨#[48,120]⟩] w fun e b=>e= .returned (.tuple #[.string (Az q 2),.bool true])/\b=w:=fun w=>by
  have:=Tryz.strings_CutPrefix q ⟨#[48,120]⟩ w
  rw[show(⟨#[48,120]⟩:ByteArray).data.toList=[48,120] from rfl,Lib.trimPrefix,f]at this
  exact this
 have a:=fun w=>aif (Az q 2) (by rw[pm];omega) (by rw[pm];omega) (fun i n=>by rw[AB];rw[pm]at n;exact d _ (by omega) (by omega)) w
 rw[D1,pm]at a
 have l:=F6 q 2 (q.size-2) (by omega)
 simp only[Nat.add_zero]at a
 obtain⟨c,g⟩:∃c:Int,(uu q 2 (q.size-2):Int)=c:=⟨_,rfl⟩
 have s:0<=c:=by omega
 have t:c<18446744073709551616:=by omega
 rw[g]at a⊢
 clear g l f d
 generalize Az q 2=o at h a
 go_in
 go_wp2_with (first|(go_at_call 267;refine(h _).mono ?_;rintro e b ⟨rfl,rfl⟩)|(go_at_call 268;refine(a _).mono ?_;rintro e b ⟨rfl,m⟩))
 go_quiet (fail)
 go_wp2
 go_ret2
 exact⟨rfl,Cb m _⟩
def wk(q:ByteArray):Option Int:=match Lib.parseIntB 64 q.data.toList with| .ok a=>some a|_=>none
theorem Jw(q:ByteArray)(s:q.size<=1100000)(k:¬(aG q 0=48/\aG q 1=120))(w:World)(o:mC w):
  Calls Tryz.prog 245 #[.string q] w fun e a=>(∃x,e= .returned (.tuple #[.int .i64 x,.bool (wk q).isSome])/\∀v,wk q=some v->x=v)/\Below w.heap.size w a:=by
 have h:Lib.hasPrefix q.data.toList [48,120]=false:=by rw[D2];simpa using k
 have l:∀w,Calls Tryz.prog 267 #[.string q,.string ⟨#[48,120]⟩] w fun e a=>e= .returned (.tuple #[.string ⟨q.data.toList.toArray⟩,.bool false])/\a=w:=fun w=>by
  have:=Tryz.strings_CutPrefix q ⟨#[48,120]⟩ w
  rw[show(⟨#[48,120]⟩:ByteArray).data.toList=[48,120] from rfl,Lib.trimPrefix,h]at this
  exact this
 generalize (⟨q.data.toList.toArray⟩:ByteArray)=r at l
 obtain⟨⟨z,t,j⟩,⟨A,u,i⟩⟩:=o
 unfold wk
 cases hp:Lib.parseIntB 64 q.data.toList with
 |ok v=>
  have d:=Tryz.strconv_ParseInt_10_at64_ok q (by omega) v hp w
  have f:Calls Tryz.prog 269 #[.string q,.int .i64 10,.int .i64 64] w fun e a=>e= .returned (.tuple #[.int .i64 v,.nilIface])/\Below w.heap.size w a:=d.mono fun e a c=>⟨c.1,by
   rcases c.2 with rfl|⟨y,rfl⟩
   ·exact ag _ _
   ·exact Lib.bytesWorld_below _ _ _⟩
  clear d hp h k j i
  go_in
  go_wp2_with (first|(go_at_call 267;refine(l _).mono ?_;rintro e a ⟨rfl,rfl⟩)|(go_at_call 269;refine f.mono ?_;rintro e a ⟨rfl,g⟩))
  go_quiet (fail)
  go_wp2
  go_ret2
  exact⟨⟨v,rfl,fun _ c=>bh c⟩,Cb g _⟩
 | «syntax» =>
  have d:=Tryz.strconv_ParseInt_10_at64_syntax q (by omega) hp _ w j (.inr ⟨_,_,rfl⟩)
  have f:Calls Tryz.prog 269 #[.string q,.int .i64 10,.int .i64 64] w fun e a=>∃b,e= .returned (.tuple #[.int .i64 0,.iface 290 (.pointer (some ⟨b,0,none⟩))])/\Below w.heap.size w a:=d.mono fun e a ⟨b,m,_,_,n⟩=>⟨b,m,n⟩
  clear d hp h k j i
  go_in
  go_wp2_with (first|(go_at_call 267;refine(l _).mono ?_;rintro e a ⟨rfl,rfl⟩)|(go_at_call 269;refine f.mono ?_;rintro e a ⟨b,rfl,g⟩))
  go_quiet (fail)
  go_wp2
  go_ret2
  exact⟨⟨0,rfl,fun _ c=>by cases c⟩,Cb g _⟩
 |range=>
  have d:=Tryz.strconv_ParseInt_10_at64_range q (by omega) hp _ w i (.inr ⟨_,_,rfl⟩)
  have f:Calls Tryz.prog 269 #[.string q,.int .i64 10,.int .i64 64] w fun e a=>∃b,e= .returned (.tuple #[.int .i64 (Lib.intSat 64 q.data.toList),.iface 290 (.pointer (some ⟨b,0,none⟩))])/\Below w.heap.size w a:=d.mono fun e a ⟨b,m,_,_,n⟩=>⟨b,m,n⟩
  clear d hp h k j i
  generalize Lib.intSat 64 q.data.toList=p at f
  go_in
  go_wp2_with (first|(go_at_call 267;refine(l _).mono ?_;rintro e a ⟨rfl,rfl⟩)|(go_at_call 269;refine f.mono ?_;rintro e a ⟨b,rfl,g⟩))
  go_quiet (fail)
  go_wp2
  go_ret2
  exact⟨⟨p,rfl,fun _ c=>by cases c⟩,Cb g _⟩
def stp(a:Option Nat)(c:UInt8):Option Nat:=match a with|none=>none|some b=>if b*10+(c.toNat-48)<=9223372036854775807 then some (b*10+(c.toNat-48)) else none
theorem D3:∀l:List UInt8,l.foldl stp none=none
 |[]=>rfl
 |c::r=>D3 r
theorem age:∀(l:List UInt8)(a:Nat),(∀c∈l,48<=c.toNat/\c.toNat<=57)->9223372036854775808<=a->Lib.parseUintM (2 ^ 64-1) a l= .range\/∃u,Lib.parseUintM (2 ^ 64-1) a l= .ok u/\9223372036854775808<=u
 |[],a,_,b=> .inr ⟨a,rfl,b⟩
 |c::r,a,e,b=>by
  have d:=e c (by simp)
  unfold Lib.parseUintM
  rw[ab d,ab (by omega)]
  exact .inl rfl
theorem aan:∀(l:List UInt8)(a:Nat),(∀c∈l,48<=c.toNat/\c.toNat<=57)->a<=9223372036854775807->(∀u,l.foldl stp (some a)=some u->Lib.parseUintM (2 ^ 64-1) a l= .ok u/\u<=9223372036854775807)/\(l.foldl stp (some a)=none->Lib.parseUintM (2 ^ 64-1) a l= .range\/∃u,Lib.parseUintM (2 ^ 64-1) a l= .ok u/\9223372036854775808<=u)
 |[],a,_,f=>by
  refine⟨fun u b=>?_,fun n=>by simp at n⟩
  simp at b
  subst b
  exact⟨rfl,f⟩
 |c::r,a,j,f=>by
  have i:=j c (by simp)
  have k:∀d∈r,48<=d.toNat/\d.toNat<=57:=fun d o=>j d (by simp[o])
  rw[mK,show stp (some a) c=if a*10+(c.toNat-48)<=9223372036854775807 then some (a*10+(c.toNat-48)) else none from rfl]
  by_cases e:a*10+(c.toNat-48)<=9223372036854775807
  ·rw[ab e]
   have p:=aan r (a*10+(c.toNat-48)) k e
   have m:Lib.parseUintM (2 ^ 64-1) a (c::r)=Lib.parseUintM (2 ^ 64-1) (a*10+(c.toNat-48)) r:=by
    rw[Lib.parseUintM,ab i,aa (by omega),aa (by omega)]
   rw[m]
   exact p
  ·rw[aa e,D3 r]
   refine⟨fun u b=>(by cases b),fun _=>?_⟩
   rw[Lib.parseUintM,ab i]
   by_cases g:1844674407370955162<=a
   ·rw[ab g];exact .inl rfl
   ·rw[aa g]
    by_cases h:2 ^ 64-1<a*10+(c.toNat-48)
    ·rw[ab h];exact .inl rfl
    ·rw[aa h];exact age r _ k (by omega)
theorem aao:∀(l:List UInt8)(d:Nat),(∃c∈l,¬(48<=c.toNat/\c.toNat<=57))->∀u,Lib.parseUintM (2 ^ 64-1) d l≠ .ok u
 |[],_,a,u=>by obtain⟨c,b,_⟩:=a;simp at b
 |c::g,d,a,u=>by
  rw[Lib.parseUintM]
  by_cases b:48<=c.toNat/\c.toNat<=57
  ·rw[ab b]
   split
   ·intro a;cases a
   ·split
    ·intro a;cases a
    ·refine aao g _ ?_ u
     obtain⟨f,hd,e⟩:=a
     rcases List.mem_cons.1 hd with rfl|hd
     ·exact absurd b e
     ·exact⟨f,hd,e⟩
  ·rw[aa b];intro a;cases a
def wm(s:ByteArray)(p:Nat):Nat->Option Nat
 |0=>some 0
 |n+1=>match wm s p n with|none=>none|some x=>if x*10+(aG s (p+n)-48).toNat<=9223372036854775807 then some (x*10+(aG s (p+n)-48).toNat) else none
theorem D4(s:ByteArray)(p:Nat):∀n,p+n<=s.size->wm s p n=((s.data.toList.drop p).take n).foldl stp (some 0)
 |0,_=>rfl
 |n+1,d=>by
  have a:p+n<s.data.toList.length:=by rw[gw];exact d
  have b:(s.data.toList.drop p)[n]?=some (s.data.toList[p+n]):=by rw[mF];exact aF a
  have e:aG s (p+n)=((s.data.toList[p+n]).toNat:Int):=((jz s (p+n) _).1 (aF a)).2
  rw[gv,b,List.foldl_append,<-D4 s p n (by omega),wm,e]
  simp only[BG,mK,List.foldl_nil,stp]
  have c:(((s.data.toList[p+n]).toNat:Int)-48).toNat=(s.data.toList[p+n]).toNat-48:=by omega
  rw[c]
theorem aap(s:ByteArray)(p:Nat):∀n u,wm s p n=some u->u<=9223372036854775807
 |0,u,a=>by simp[wm]at a;omega
 |n+1,u,a=>by
  unfold wm at a
  split at a
  ·cases a
  ·split at a
   ·rename_i b;cases a;exact b
   ·cases a
theorem aaq(q:ByteArray)(a:∀i,i<q.size->cL (aG q i)=true):∀c∈q.data.toList,48<=c.toNat/\c.toNat<=57:=by
 intro c b
 obtain⟨i,e,rfl⟩:=List.mem_iff_getElem.1 b
 have:=(jz q i _).1 (aF e)
 have d:=lD (a i this.1)
 rw[this.2]at d
 omega
theorem D5(q:ByteArray)(a:cL (aG q 0)=true):∃c r,q.data.toList=c::r/\48<=c.toNat/\c.toNat<=57:=by
 have d:=pi a
 cases hq:q.data.toList with
 |nil=>
  have:q.data.toList.length=q.size:=by rw[gw];rfl
  rw[hq]at this;simp at this;omega
 |cons c r=>
  refine⟨c,r,rfl,?_⟩
  have:=(jz q 0 c).1 (by rw[hq];rfl)
  have b:=lD a
  rw[this.2]at b
  omega
theorem Id(c:UInt8)(r:List UInt8)(b:48<=c.toNat)(d:c.toNat<=57):Lib.parseIntB 64 (c::r)=match Lib.parseUintM (2 ^ 64-1) 0 (c::r) with| .syntax=> .syntax| .range=> .range| .ok u=>if 9223372036854775808<=u then .range else .ok (u:Int):=by
 simp only[Lib.parseIntB,Lib.parseUintB]
 rw[aa (show ¬(c.toNat=43\/c.toNat=45) by omega),aa (show ¬(c::r=[]) by simp)]
 have a:¬c.toNat=45:=by omega
 cases Lib.parseUintM (2 ^ 64-1) 0 (c::r) with
 |ok u=>simp[a]
 | «syntax» =>rfl
 |range=>rfl
theorem aar(q:ByteArray)(j:0<q.size)(d:∀i,i<q.size->cL (aG q i)=true):wk q=Option.map (fun u:Nat=>(u:Int)) (wm q 0 q.size):=by
 obtain⟨a,c,m,k,l⟩:=D5 q (d 0 j)
 have e:=aaq q d
 have f:=D4 q 0 q.size (by omega)
 rw[dJ,bH (by rw[gw];exact ah _)]at f
 unfold wk
 rw[f]
 rw[m]at e⊢
 rw[Id a c k l]
 have g:=aan (a::c) 0 e (by omega)
 cases hx:(a::c).foldl stp (some 0) with
 |some u=>
  obtain⟨h,o⟩:=g.1 u hx
  rw[h]
  simp only[qI]
  rw[aa (by omega)]
 |none=>
  rcases g.2 hx with b|⟨u,b,n⟩
  ·rw[b];rfl
  ·rw[b];simp only[ab n];rfl
theorem D6(q:ByteArray)(f:cL (aG q 0)=true)(i:Nat)(j:i<q.size)(k:cL (aG q i)=false):wk q=none:=by
 obtain⟨a,b,l,g,h⟩:=D5 q f
 have c:∃a∈q.data.toList,¬(48<=a.toNat/\a.toNat<=57):=by
  have d:i<q.data.toList.length:=by rw[gw];exact j
  refine⟨q.data.toList[i],xg d,?_⟩
  have:=(jz q i _).1 (aF d)
  have e:¬(48<=aG q i/\aG q i<=57):=by simpa [cL] using k
  rw[this.2]at e
  omega
 unfold wk
 rw[l]at c⊢
 rw[Id a b g h]
 have:=aao (a::b) 0 c
 cases hx:Lib.parseUintM (2 ^ 64-1) 0 (a::b) with
 |ok m=>exact absurd hx (this m)
 | «syntax» =>rfl
 |range=>rfl
def nF(q:ByteArray):Bool:=decide (cL (aG q 0)=true/\fp q 0=(q.size,true)/\¬(aG q 0=48/\aG q 1=120)/\wk q=none)
theorem agf(s:ByteArray)(p:Nat)(a:p<=s.size):p<=hxE s p/\hxE s p<=s.size:=ng ld xn s _ p a
theorem aas{s:ByteArray}{p e:Nat}(a:lu s p=(e,true)):p<e/\e<=p+16/\e=hxE s p/\∀i,p<=i->i<e->ld (aG s i)=true:=by
 unfold lu at a
 split at a
 ·cases a
 ·rename_i f
  obtain⟨c,b⟩:=sH a
  subst c
  exact⟨by simpa using b,by omega,rfl,fun i d b=>yh ld s _ p i d b⟩
theorem F7{q:ByteArray}(b:0<q.size):(q.toList==[])=false:=by
 have:q.toList.length=q.size:=by rw[gc];simp
 cases hs:q.toList with
 |nil=>rw[hs]at this;simp at this;omega
 |cons a c=>rfl
theorem D7{q:ByteArray}(a:¬0<q.size):(q.toList==[])=true:=by
 have:q.toList.length=q.size:=by rw[gc];simp
 have:q.toList=[]:=List.length_eq_zero_iff.1 (by omega)
 rw[this];rfl
theorem AC{c:Int}{b:Bool}(f:cL c=b)(w:World):Calls Tryz.prog 243 #[.int .u8 c] w fun e d=>e= .returned (.bool b)/\d=w:=(kH c w).mono fun e d a=>⟨by rw[a.1,f],a.2.symm⟩
theorem F8(s:ByteArray)(b:s.size<=1100000)(a:0<s.size)(w:World):Calls Tryz.prog 244 #[.string s,.int .i64 0] w fun e c=>e= .returned (.tuple #[.int .i64 ((fp s 0).1:Int),.bool (fp s 0).2])/\c=w:=Ae s b 0 a w
theorem aat(s:ByteArray)(a:Nat)(b:a<=s.size):a<=(mB s a).1/\(mB s a).1<=s.size:=by
 unfold mB
 split
 ·rename_i d
  have e:=dp d
  have c:nA2 s a<=s.size/\a<nA2 s a:=by
   unfold nA2
   split
   ·rename_i hs
    rcases hs with hs|hs
    ·have:=dp hs;omega
    ·have:=dp hs;omega
   ·omega
  have:=tj s (nA2 s a) c.1
  simp only
  omega
 ·exact⟨ah _,b⟩
theorem aau(s:ByteArray)(p:Nat)(a:p<s.size):p<nA0 s p/\nA0 s p<=s.size:=by
 unfold nA0
 split
 ·omega
 ·have:=tj s (p+1) (by omega);omega
theorem aav(s:ByteArray)(a:Nat)(c:a<=s.size):a<=nA1 s a/\nA1 s a<=s.size:=by
 unfold nA1
 split
 ·rename_i b
  have:=tj s (a+1) (by have:=pi b.2;omega);omega
 ·omega
theorem adB(s:ByteArray)(p:Nat)(a:p<=s.size):p<=(lu s p).1/\(lu s p).1<=s.size:=by
 have:=agf s p a
 unfold lu
 split
 ·simp only;omega
 ·exact this
theorem Ie(s:ByteArray)(p:Nat)(a:p<s.size):p<(fp s p).1/\(fp s p).1<=s.size:=by
 unfold fp
 split
 ·rename_i d
  have:=dp d.2
  have:=adB s (p+2) (by omega)
  omega
 ·have b:=aau s p a
  have c:=aav s _ b.2
  have e:=aat s _ c.2
  omega
theorem D8(q:ByteArray)(v:q.size<=1100000)(w:World)(A:mC w):Calls Tryz.prog 205 #[.string q] w fun e r=>e= .returned (.bool (nF q))/\Below w.heap.size w r:=by
 by_cases h:0<q.size
 ·have C:=F7 h
  have k:∀w,(Instr.index 9 (.string q) (.int .i64 0)).run Tryz.prog w= .ok (.int .u8 (aG q 0)) w:=fun w=>dE h w
  by_cases f:cL (aG q 0)=true
  ·have b:=fun w=>AC f w
   have d:=fun w=>F8 q v h w
   have s:=(Ie q 0 h).2
   by_cases c:(fp q 0).2=true
   ·by_cases i:(fp q 0).1=q.size
    ·have j:fp q 0=(q.size,true):=Prod.ext i c
     rw[j]at d
     by_cases g:aG q 0=48/\aG q 1=120
     ·have a:nF q=false:=by unfold nF;simp[g]
      rw[a]
      have u:lu q 2=(q.size,true):=by rw[<-j];unfold fp;rw[ab g]
      obtain⟨F,G,z,t⟩:=aas u
      have l:=fun w=>Jv q g.1 g.2 (by omega) (by omega) t w
      generalize wrap64 (uu q 2 (q.size-2):Int)=H at l
      clear a u z t j c i g f
      generalize aG q 0=m at k b
      go_in
      go_wp2_with (first|(go_at_call 243;refine dj (b _) ?_)|(go_at_call 244;refine dj (d _) ?_)|(go_at_call 245;refine(l _).mono ?_;rintro e r ⟨rfl,o⟩))
      go_ret
      exact⟨rfl,o⟩
     ·have l:=Jw q v g w A
      have a:nF q=!(wk q).isSome:=by
       unfold nF
       cases hdc:wk q<;>simp[f,j,g]
      rw[a]
      generalize (wk q).isSome=E at l
      clear a j c i g f
      generalize aG q 0=m at k b
      go_in
      go_wp2_with (first|(go_at_call 243;refine dj (b _) ?_)|(go_at_call 244;refine dj (d _) ?_)|(go_at_call 245;refine l.mono ?_;rintro e r ⟨⟨I,rfl,_⟩,o⟩))
      go_ret
      exact⟨rfl,o⟩
    ·have a:nF q=false:=by unfold nF;rw[oK];rintro ⟨_,n,_⟩;rw[n]at i;exact i rfl
     rw[a]
     have B:((fp q 0).1:Int)<(q.size:Int):=by omega
     rw[c]at d
     generalize (fp q 0).1=y at d B
     clear a c i f s
     generalize aG q 0=m at k b
     go_in
     go_wp2_with (first|(go_at_call 243;refine dj (b _) ?_)|(go_at_call 244;refine dj (d _) ?_))
     go_ret
     exact⟨rfl,ag _ _⟩
   ·have x:(fp q 0).2=false:=by simpa using c
    have a:nF q=false:=by unfold nF;rw[oK];rintro ⟨_,n,_⟩;rw[n]at c;exact c rfl
    rw[a]
    rw[x]at d
    generalize (fp q 0).1=y at d s
    clear a c x f
    generalize aG q 0=m at k b
    go_in
    go_wp2_with (first|(go_at_call 243;refine dj (b _) ?_)|(go_at_call 244;refine dj (d _) ?_))
    go_ret
    exact⟨rfl,ag _ _⟩
  ·have p:cL (aG q 0)=false:=by simpa using f
   have b:=fun w=>AC p w
   have a:nF q=false:=by unfold nF;simp[p]
   rw[a]
   clear a f p
   generalize aG q 0=m at k b
   go_in
   go_wp2_with (first|(go_at_call 243;refine dj (b _) ?_))
   go_ret
   exact⟨rfl,ag _ _⟩
 ·have C:=D7 h
  have a:nF q=false:=by unfold nF;rw[eu h];simp[ti]
  rw[a]
  clear a
  go_in
  go_wp2
  go_ret
  exact⟨rfl,ag _ _⟩
theorem di{c:Int}{b:Bool}(f:cL c=b)(w:World):Calls Tryz.prog 178 #[.int .u8 c] w fun e d=>e= .returned (.bool b)/\d=w:=(vr c w).mono fun e d a=>⟨by rw[a.1,f],a.2.symm⟩
theorem fs(s:ByteArray)(f:s.size<=1100000)(a:Int)(i:Nat)(d:a=(i:Int))(w:World):Calls Tryz.prog 223 #[.string s,.int .i64 a] w fun e c=>e= .returned (.int .u8 (lk s i))/\c=w:=by
 subst d;exact(yc s f i w).mono fun e c b=>⟨b.1,b.2.symm⟩
theorem uv(c:Int)(i:0<=c)(j:c<256)(w:World):Calls Tryz.prog 254 #[.int .u8 c] w fun e h=>e= .returned (.int .i64 (ig c))/\h=w:=by
 unfold ig
 by_cases a:cL c=true
 ·have b:=fun w=>di a w
  have d:=lD a
  rw[ab d]
  clear a
  go_in
  go_wp2_with (first|(go_at_call 178;refine dj (b _) ?_))
  go_ret
  exact⟨rfl,rfl⟩
 ·have f:cL c=false:=by simpa using a
  have b:=fun w=>di f w
  have d:¬(48<=c/\c<=57):=by simpa [cL] using f
  rw[aa d]
  clear a f d
  rcases(show(97<=c/\c<=102)\/¬97<=c\/(97<=c/\¬c<=102) by omega) with⟨g1,g⟩|g1|⟨g1,g⟩
  ·rw[ab ⟨g1,g⟩]
   go_in
   go_wp2_with (first|(go_at_call 178;refine dj (b _) ?_))
   go_ret
   exact⟨by simp;omega,rfl⟩
  ·rw[aa (by omega)]
   go_in
   go_wp2_with (first|(go_at_call 178;refine dj (b _) ?_))
   go_ret
   exact⟨rfl,rfl⟩
  ·rw[aa (by omega)]
   go_in
   go_wp2_with (first|(go_at_call 178;refine dj (b _) ?_))
   go_ret
   exact⟨rfl,rfl⟩
theorem If(s:ByteArray)(i:Nat):ig (lk s i)=ig (aG s i):=by
 unfold lk;split
 ·rfl
 ·rename_i a;rw[eu a];decide
theorem po{s:ByteArray}{i:Nat}(a:i<s.size):lk s i=aG s i:=by unfold lk;rw[ab a]
def hxA(s:ByteArray)(p:Nat):Value:=if(lu s (p+2)).2=true then .agg #[.int .i64 2,.int .i64 p,.int .i64 ((lu s (p+2)).1:Int),.int .i64 0,.int .i64 (wrap64 (uu s (p+2) ((lu s (p+2)).1-(p+2)):Int)),.string ⟨#[]⟩] else .agg #[.int .i64 2,.int .i64 p,.int .i64 0,.int .i64 0,.int .i64 0,.string ⟨#[]⟩]
def hxF(s:ByteArray)(p:Nat):Int:=if(lu s (p+2)).2=true then -1 else((lu s (p+2)).1:Int)
theorem D9(s:ByteArray)(a8:s.size<=1100000)(p:Nat)(ba:p+2<=s.size)(w:World):Calls Tryz.prog 253 #[.string s,.agg #[.int .i64 2,.int .i64 p,.int .i64 0,.int .i64 0,.int .i64 0,.string ⟨#[]⟩]] w fun e bk=>e= .returned (.tuple #[hxA s p,.int .i64 (hxF s p)])/\Below w.heap.size w bk:=by
 obtain⟨bl,l⟩:=aE (hxA s p)
 obtain⟨ao,hF⟩:=aE (hxF s p)
 rw[l,hF]
 unfold hxA at l
 unfold hxF at hF
 unfold lu at l hF
 obtain⟨H,r⟩:=aE (hxE s (p+2))
 rw[r]at l hF
 unfold hxE at r
 have u:=aj r
 have m:=aj l
 have n:=aj hF
 clear r l hF
 go_in
 go_wp2_with fail
 generalize ak:(w.alloc _).alloc _=x
 obtain⟨b,I,y, -⟩:=Dy ak
 have a5:fy w.heap.size x 2 p 0 0 0 ⟨#[]⟩:=b
 have al:fy (w.heap.size+1) x 0 0 0 0 0 ⟨#[]⟩:=I
 clear ak b I
 have bv:w.heap.size+1<x.heap.size:=aw al
 obtain⟨bw,bx,bA,bD,bE,bF,b0⟩:=cE a5
 obtain⟨z0,A,B,C,E,F,b1⟩:=cE al
 go_loop [6,7] (fun z bf=>∃(a h:Nat) (b:Int),p+2<=a/\a<=p+18/\a<=s.size/\s.size<a+h/\z= .int .i64 a/\bf= .int .u64 b/\Hid (ja ld s h a=H)/\Hid (b=(uu s (p+2) (a-(p+2)):Int))) (fun z _=>s.size-(intOf z).toNat)
 case atStart=>exact⟨p+2,s.size+1,0,by omega,by omega,ba,by omega,by simp,rfl,u,by show(0:Int)=_;rw[fw];rfl⟩
 case round=>
  obtain⟨a,h,b,bt,bs,br,bo,rfl,rfl,t,g⟩:=hrel
  obtain⟨h,rfl⟩:∃a4,h=a4+1:=⟨h-1,by omega⟩
  have j:=t.out
  unfold ja at j
  have k:=fun w=>fs s a8 (a:Int) a rfl w
  have f:=fun w=>uv (lk s a) (H9 s a).1 (H9 s a).2 w
  rw[If]at f
  by_cases i:ld (aG s a)=true
  ·have am:a<s.size:=F3 xn i
   have bd:=fun w=>dE am w
   rw[po am]at k f
   rw[ab i]at j
   have a6:=(ng ld xn s h (a+1) (by omega)).1
   rw[j]at a6
   have ap:=aj j
   have bb:0<=ig (aG s a):=by simpa [ld] using i
   have bc:=qL (aG s a)
   have af:a≠p+18->uu s (p+2) (a-(p+2))<1152921504606846976:=fun K=>aal s (p+2) _ (by omega)
   have G:Hid (b*16+ig (aG s a)=(uu s (p+2) (a+1-(p+2)):Int)):=by
    show _=_
    rw[show a+1-(p+2)=(a-(p+2))+1 by omega,uu,show p+2+(a-(p+2))=a by omega,g.out]
    omega
   have ar:0<=b:=by rw[g.out];omega
   have q:a≠p+18->b<1152921504606846976:=fun K=>by have:=af K;rw[g.out];omega
   generalize ig (aG s a)=J at f bb bc G
   generalize aG s a=av at k f bd
   clear j i af
   by_cases L:a=p+18
   ·have c:=m.out
    have d:=n.out
    simp only[ab (show p+2+16<H by omega)]at c d
    simp at c d
    subst c
    have a7:ao=(a:Int):=by omega
    clear d
    subst a7
    have a2:((a:Int)-(p:Int)==18)=true:=by rw[ib];omega
    clear m n L q
    go_wp2_with (first|(go_at_call 223;refine dj (k _) ?_)|(go_at_call 254;refine dj (f _) ?_))
    refine aH (v:= .tuple #[.agg #[.int .i64 2,.int .i64 p,.int .i64 0,.int .i64 0,.int .i64 0,.string ⟨#[]⟩],.int .i64 (a:Int)]) (by simp[results,Tryz.results253,go_sem,z0,A,B,C,E,F]) rfl ⟨rfl,?_⟩
    iterate 6 refine eL ?_ (by simp) _
    exact y
   ·have a2:((a:Int)-(p:Int)==18)=false:=by rw[cJ];omega
    have bn:=q L
    clear q
    go_wp2_with (first|(go_at_call 223;refine dj (k _) ?_)|(go_at_call 254;refine dj (f _) ?_))
    go_round
    case rel=>exact⟨a+1,h,b*16+J,by omega,by omega,by omega,by omega,by go_num,by first|rfl|(congr 1;omega),ap,G⟩
    case measure=>simp[intOf];omega
  ·have an:ig (aG s a)<0:=by
    have:¬0<=ig (aG s a):=by simpa [ld] using i
    omega
   rw[aa i]at j
   subst j
   have a9:¬(0:Int)<=ig (aG s a):=by omega
   have ar:0<=b:=by rw[g.out];omega
   have q:b<18446744073709551616:=by rw[g.out];have:=F6 s (p+2) (a-(p+2)) (by omega);omega
   generalize ig (aG s a)=J at f a9
   generalize lk s a=av at k f
   have c:=m.out
   have d:=n.out
   simp only[aa (show ¬p+2+16<a by omega)]at c d
   by_cases ad:a=p+2
   ·have o:decide (p+2<a)=false:=by rw[oK];omega
    simp only[o]at c d
    simp at c d
    subst c d
    have a3:((a:Int)==(p:Int)+2)=true:=by rw[ib];omega
    clear m n i an ad o g t u
    go_wp2_with (first|(go_at_call 223;refine dj (k _) ?_)|(go_at_call 254;refine dj (f _) ?_))
    refine aH (v:= .tuple #[.agg #[.int .i64 2,.int .i64 p,.int .i64 0,.int .i64 0,.int .i64 0,.string ⟨#[]⟩],.int .i64 (a:Int)]) (by simp[results,Tryz.results253,go_sem,z0,A,B,C,E,F]) rfl ⟨rfl,?_⟩
    iterate 6 refine eL ?_ (by simp) _
    exact y
   ·have o:decide (p+2<a)=true:=by rw[mD];omega
    simp only[o]at c d
    simp only[qH]at c d
    rw[<-g.out]at c
    subst c d
    have a3:((a:Int)==(p:Int)+2)=false:=by rw[cJ];omega
    clear m n i an ad o g t u
    go_wp2_with (first|(go_at_call 223;refine dj (k _) ?_)|(go_at_call 254;refine dj (f _) ?_))
    refine aH (v:= .tuple #[.agg #[.int .i64 2,.int .i64 p,.int .i64 (a:Int),.int .i64 0,.int .i64 (wrap64 b),.string ⟨#[]⟩],.int .i64 (-1)]) (by simp[results,Tryz.results253,go_sem,z0,A,B,C,E,F]) rfl ⟨rfl,?_⟩
    iterate 8 refine eL ?_ (by simp) _
    exact y
