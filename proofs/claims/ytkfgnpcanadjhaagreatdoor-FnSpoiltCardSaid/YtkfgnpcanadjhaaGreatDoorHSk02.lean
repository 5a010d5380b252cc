import Derived.WalkSpells
import Derived.Deep.RegionHeld3
import Derived.Deep.AppendLies
import Derived.Test.YtkfgnpcanadjhaaGreatDoorHSk01
import Derived.BigQuiet
import Derived.OneCell
import Derived.Lib.Bytealg
set_option linter.all false
set_option maxRecDepth 100000
set_option maxHeartbeats 3200000
namespace Go.Proofs.YtkfgnpcanadjhaaGreatDoor
open Go.RowKit
theorem Tryz.info5:(Tryz.prog.info? 5).map (fun i=>(i.zero,i.size,i.bytes))=some (some (.int .u8 0),1,1):=by kernel_rfl
def B8(l:List Int):List Value:=l.map (Value.int .u8)
theorem LA(a b:List Int):B8 (a++b)=B8 a++B8 b:=by simp[B8]
theorem LB(a:List Int):(B8 a).length=a.length:=by simp[B8]
theorem sI{w:World}{base n:Nat}{v:Value}{l:List Int}(a:w.ownsRow base 5 1 v n (B8 l)):l.length=n:=by
 have:=a.1;simpa [B8] using this
theorem gH{f:Array Oper}{h:List Oper}{o:Oper}{a:Act}{c:Exit->Act->World->Prop}{w:World}(p:o.guard=none)(s x:Operand)
  (z:o.op= .call {callee:= .builtin .append,args:=#[s,x],argTypes:=#[22,22]}) (base:Nat) (v:Value) (n:Nat) (l:List Int) (B:a.eval s=v)
  (d:w.ownsRow base 5 1 v n (B8 l)) (j:base<=w.heap.size) (K:n<=100000) (b:List Int) (m:Nat) (u:b.length=m) (y:0<m) (J:m<=100) (cs:Array Value) (k:cs.toList=B8 b)
  (C:a.eval x= .slice (some ⟨w.heap.size,0,none⟩) m m)
  (i:∀g cap w1,w1.ownsRow base 5 1 (.slice (some ⟨g,0,none⟩) (n+m) cap) (n+m) (B8 (l++b))->Below base w w1->wpList Tryz.prog f c h (a.put o.dst (.slice (some ⟨g,0,none⟩) (n+m) cap)) w1):
  wpList Tryz.prog f c (o::h) a (w.alloc (.cells cs 5)):=by
 obtain⟨H,r,E,F,G⟩:=dD Tryz.info5
 refine wpList_append_lies _ p s x 22 z base 5 H (.int .u8 0) 1 1 Tryz.underlying22 r E F G rfl (by decide) v n (B8 l) B (d.alloc _) ⟨w.heap.size,0,none⟩ m m (B8 b) C (by simp[B8,u])
  (by rw[<-k];exact World.news_of_block (fr:=(0,0)) (ay w _)) (by intro ad e;simp[B8]at e;obtain⟨L,_,rfl⟩:=e;rfl) y (by unfold maxLen;omega) (by omega) (by simp;omega) (w.heap.size+1) (by simp) ?_
 intro g cap w1 A q _ _
 refine i g cap w1 (by rw[LA];exact A) (((ag base w).alloc j _).grown q (by simp;omega) (fun I t=>(d.lt I t).1))
def lc(d:Int):Int:=if d<10 then 48+d else 87+d
def Au(c:Int):List Int:=if c=10 then [92,110] else if c=9 then [92,116] else if c=34\/c=92 then [92,c] else if c<32\/126<c then [92,120,lc (c / 16),lc (c%16)] else [c]
theorem ah9(v:Value)(n base:Nat)(l:List Int)(w:World)(d:w.ownsRow base 5 1 v n (B8 l))(b:base<=w.heap.size)(c:n<=100000):
  Calls Tryz.prog 150 #[v,.int .u8 10] w fun e w'=>∃g cap,e= .returned (.slice (some ⟨g,0,none⟩) (n+2) cap)/\
   w'.ownsRow base 5 1 (.slice (some ⟨g,0,none⟩) (n+2) cap) (n+2) (B8 (l++[92,110]))/\Below base w w':=by
 go_in
 go_wp2_with (at_builtin;refine gH rfl (.tmp 8) (.tmp 9) rfl base v n l rfl d b c [92,110] 2 rfl (by decide) (by decide) _ rfl rfl ?_;intro g cap w1 f a)
 go_wp2
 go_ret
 exact⟨g,cap,rfl,f,a⟩
theorem afL(v:Value)(n base:Nat)(l:List Int)(w:World)(d:w.ownsRow base 5 1 v n (B8 l))(b:base<=w.heap.size)(c:n<=100000):
  Calls Tryz.prog 150 #[v,.int .u8 9] w fun e w'=>∃g cap,e= .returned (.slice (some ⟨g,0,none⟩) (n+2) cap)/\
   w'.ownsRow base 5 1 (.slice (some ⟨g,0,none⟩) (n+2) cap) (n+2) (B8 (l++[92,116]))/\Below base w w':=by
 go_in
 go_wp2_with (at_builtin;refine gH rfl (.tmp 14) (.tmp 15) rfl base v n l rfl d b c [92,116] 2 rfl (by decide) (by decide) _ rfl rfl ?_;intro g cap w1 f a)
 go_wp2
 go_ret
 exact⟨g,cap,rfl,f,a⟩
theorem af0(v:Value)(n base:Nat)(l:List Int)(c:Int)(i:c=34\/c=92)(w:World)(h:w.ownsRow base 5 1 v n (B8 l))(d:base<=w.heap.size)(f:n<=100000):
  Calls Tryz.prog 150 #[v,.int .u8 c] w fun e w'=>∃g cap,e= .returned (.slice (some ⟨g,0,none⟩) (n+2) cap)/\
   w'.ownsRow base 5 1 (.slice (some ⟨g,0,none⟩) (n+2) cap) (n+2) (B8 (l++[92,c]))/\Below base w w':=by
 rcases i with rfl|rfl
 ·go_in
  go_wp2_with (at_builtin;refine gH rfl (.tmp 24) (.tmp 26) rfl base v n l rfl h d f [92,34] 2 rfl (by decide) (by decide) _ rfl rfl ?_;intro g cap w1 b a)
  go_wp2
  go_ret
  exact⟨g,cap,rfl,b,a⟩
 ·go_in
  go_wp2_with (at_builtin;refine gH rfl (.tmp 24) (.tmp 26) rfl base v n l rfl h d f [92,92] 2 rfl (by decide) (by decide) _ rfl rfl ?_;intro g cap w1 b a)
  go_wp2
  go_ret
  exact⟨g,cap,rfl,b,a⟩
theorem ada(v:Value)(n base:Nat)(l:List Int)(c:Int)(i:32<=c)(j:c<=126)(k:(c==34)=false)(m:(c==92)=false)(w:World)(f:w.ownsRow base 5 1 v n (B8 l))(b:base<=w.heap.size)(d:n<=100000):
  Calls Tryz.prog 150 #[v,.int .u8 c] w fun e w'=>∃g cap,e= .returned (.slice (some ⟨g,0,none⟩) (n+1) cap)/\
   w'.ownsRow base 5 1 (.slice (some ⟨g,0,none⟩) (n+1) cap) (n+1) (B8 (l++[c]))/\Below base w w':=by
 go_in
 go_wp2_with (at_builtin;refine gH rfl (.tmp 44) (.tmp 46) rfl base v n l rfl f b d [c] 1 rfl (by decide) (by decide) _ rfl rfl ?_;intro g cap w1 h a)
 go_wp2
 go_ret
 exact⟨g,cap,rfl,h,a⟩
def DG:ByteArray:=⟨#[48,49,50,51,52,53,54,55,56,57,97,98,99,100,101,102]⟩
theorem af1:∀i:Fin 16,((DG[i.val]'(by have:=i.isLt;exact this)).toNat:Int)=lc (i.val:Int):=by decide
theorem aft(d:Int)(c:0<=d)(e:d<16)(b:d.toNat<DG.size):((DG[d.toNat]'b).toNat:Int)=lc d:=by
 have:=af1 ⟨d.toNat,by omega⟩
 have a:((d.toNat:Nat):Int)=d:=by omega
 simp only[a]at this
 exact this
theorem um(d:Int)(b:0<=d)(c:d<16)(w:World):(Instr.index 9 (.string ⟨#[48,49,50,51,52,53,54,55,56,57,97,98,99,100,101,102]⟩) (.int .u8 d)).run Tryz.prog w= .ok (.int .u8 (lc d)) w:=by
 have a:d.toNat<DG.size:=by simp only[DG];show d.toNat<16;omega
 have e:=aft d b c a
 go_simp
 exact e
theorem af2(c:Int)(a:0<=c)(b:c<256):bits .and .u8 c 15=c%16:=by
 have:=bits_mask .u8 8 (by decide) wraps_u8 4 (by decide) c a b
 simpa using this
theorem xl{J:Array Oper}{o:Oper}{a:Act}{c:Act->World->Prop}{f:Exit->Act->World->Prop}{E:Prop}{w:World}(k:o.guard=none)(s x:Operand)
  (y:o.op= .call {callee:= .builtin .append,args:=#[s,x],argTypes:=#[22,22]}) (base:Nat) (v:Value) (n:Nat) (l:List Int) (A:a.eval s=v)
  (d:w.ownsRow base 5 1 v n (B8 l)) (i:base<=w.heap.size) (L:n<=100000) (b:List Int) (m:Nat) (t:b.length=m) (u:0<m) (K:m<=100) (cs:Array Value) (j:cs.toList=B8 b)
  (B:a.eval x= .slice (some ⟨w.heap.size,0,none⟩) m m)
  (h:∀g cap w1,w1.ownsRow base 5 1 (.slice (some ⟨g,0,none⟩) (n+m) cap) (n+m) (B8 (l++b))->Below base w w1->c (a.put o.dst (.slice (some ⟨g,0,none⟩) (n+m) cap)) w1):
  if Region.wanted o (yielded J a.tmps)=true then Oper.wp Tryz.prog o a (w.alloc (.cells cs 5)).drew c f else E:=by
 obtain⟨H,q,C,F,G⟩:=dD Tryz.info5
 refine step_append_lies _ k s x 22 y base 5 H (.int .u8 0) 1 1 Tryz.underlying22 q C F G rfl (by decide) v n (B8 l) A ((d.alloc _).drew) ⟨w.heap.size,0,none⟩ m m (B8 b) B (by simp[B8,t])
  (by rw[<-j];exact World.news_of_block (fr:=(0,0)) (ay w _)) (by intro af e;simp[B8]at e;obtain⟨ad,_,rfl⟩:=e;rfl) u (by unfold maxLen;omega) (by omega) (by simp;omega) (w.heap.size+1) (by simp) ?_
 intro g cap w1 z p _ _
 refine h g cap w1 (by rw[LA];exact z) ((((ag base w).alloc i _).drew).grown p (by simp;omega) (fun I r=>(d.lt I r).1))
theorem af3(v:Value)(n base:Nat)(l:List Int)(c:Int)(a:0<=c)(m:c<32)(o:(c==10)=false)(p:(c==9)=false)(q:(c==34)=false)(r:(c==92)=false)(w:World)(f:w.ownsRow base 5 1 v n (B8 l))(b:base<=w.heap.size)(d:n<=100000):
  Calls Tryz.prog 150 #[v,.int .u8 c] w fun e w'=>∃g cap,e= .returned (.slice (some ⟨g,0,none⟩) (n+4) cap)/\
   w'.ownsRow base 5 1 (.slice (some ⟨g,0,none⟩) (n+4) cap) (n+4) (B8 (l++[92,120,lc (c / 16),lc (c%16)]))/\Below base w w':=by
 have x:=um (c / 16) (by omega) (by omega)
 have y:=um (c%16) (by omega) (by omega)
 have t:bits .and .u8 c 15=c%16:=af2 c a (by omega)
 have h:0<=c / 16:=by omega
 have i:c / 16<16:=by omega
 have j:0<=c%16:=by omega
 have k:c%16<16:=by omega
 go_in
 go_wp2_with fail
 go_region_held3 (fun w'=>True) (trivial) ((refine xl (by rfl) _ _ (by rfl) base v n l (by rfl) f b d [92,120,_,_] 4 (by rfl) (by decide) (by decide) _ (by rfl) (by rfl) ?_;intro g cap w1 u s))
 all_goals
  go_wp2
  go_ret
  exact⟨_,_,rfl,by assumption,by assumption⟩
theorem LC(v:Value)(n base:Nat)(l:List Int)(c:Int)(m:126<c)(a:c<256)(o:(c==10)=false)(p:(c==9)=false)(q:(c==34)=false)(r:(c==92)=false)(w:World)(f:w.ownsRow base 5 1 v n (B8 l))(b:base<=w.heap.size)(d:n<=100000):
  Calls Tryz.prog 150 #[v,.int .u8 c] w fun e w'=>∃g cap,e= .returned (.slice (some ⟨g,0,none⟩) (n+4) cap)/\
   w'.ownsRow base 5 1 (.slice (some ⟨g,0,none⟩) (n+4) cap) (n+4) (B8 (l++[92,120,lc (c / 16),lc (c%16)]))/\Below base w w':=by
 have x:=um (c / 16) (by omega) (by omega)
 have y:=um (c%16) (by omega) (by omega)
 have t:bits .and .u8 c 15=c%16:=af2 c (by omega) a
 have h:0<=c / 16:=by omega
 have i:c / 16<16:=by omega
 have j:0<=c%16:=by omega
 have k:c%16<16:=by omega
 go_in
 go_wp2_with fail
 go_region_held3 (fun w'=>True) (trivial) ((refine xl (by rfl) _ _ (by rfl) base v n l (by rfl) f b d [92,120,_,_] 4 (by rfl) (by decide) (by decide) _ (by rfl) (by rfl) ?_;intro g cap w1 u s))
 all_goals
  go_wp2
  go_ret
  exact⟨_,_,rfl,by assumption,by assumption⟩
theorem af4(v:Value)(n base:Nat)(l:List Int)(c:Int)(j:0<=c)(k:c<256)(w:World)(h:w.ownsRow base 5 1 v n (B8 l))(d:base<=w.heap.size)(f:n<=100000):
  Calls Tryz.prog 150 #[v,.int .u8 c] w fun e w'=>∃g cap,e= .returned (.slice (some ⟨g,0,none⟩) (n+(Au c).length) cap)/\
   w'.ownsRow base 5 1 (.slice (some ⟨g,0,none⟩) (n+(Au c).length) cap) (n+(Au c).length) (B8 (l++Au c))/\Below base w w':=by
 by_cases a:c=10
 ·subst a;exact ah9 v n base l w h d f
 by_cases b:c=9
 ·subst b;exact afL v n base l w h d f
 by_cases i:c=34\/c=92
 ·have:Au c=[92,c]:=by unfold Au;rw[aa a,aa b,ab i]
  rw[this];exact af0 v n base l c i w h d f
 by_cases e4:c<32\/126<c
 ·have:Au c=[92,120,lc (c / 16),lc (c%16)]:=by unfold Au;rw[aa a,aa b,aa i,ab e4]
  rw[this]
  rcases e4 with e4|e4
  ·exact af3 v n base l c j e4 (by simp[a]) (by simp[b]) (by simp;omega) (by simp;omega) w h d f
  ·exact LC v n base l c e4 k (by simp[a]) (by simp[b]) (by simp;omega) (by simp;omega) w h d f
 ·have:Au c=[c]:=by unfold Au;rw[aa a,aa b,aa i,aa e4]
  rw[this];exact ada v n base l c (by omega) (by omega) (by simp;omega) (by simp;omega) w h d f
def eI(l:List Int):ByteArray:=l.foldl (fun b a=>b.push (UInt8.ofNat a.toNat)) ByteArray.empty
theorem jx{w:World}{base g n cap:Nat}{l:List Int}(b:w.ownsRow base 5 1 (.slice (some ⟨g,0,none⟩) n cap) n (B8 l)):
  (convert 22 9 (.slice (some ⟨g,0,none⟩) n cap)).run Tryz.prog w= .ok (.string (eI l)) w:=by
 rw[BI w 22 9 5 _ _ _ Tryz.underlying22 Tryz.underlying5 Tryz.underlying9]
 have e:=sI b
 refine run_bytesToString w _ n cap l ?_
 rcases b.2 with⟨c,_⟩|⟨o,k,m,h,_,d,_,_,p,f⟩
 ·cases c
 ·cases h
  have:=run_loadCells_list (P:=Tryz.prog) w ⟨g,0,none⟩ (B8 l) (fun i j a=>by
   refine World.news_of_block d i j ?_
   rw[<-f]at a
   rw[iE]at a
   split at a
   ·exact a
   ·cases a)
  rw[LB,e]at this
  exact this
theorem qJ(w:World)(c:Int):(w.alloc (.cells #[.int .u8 c] 5)).ownsRow w.heap.size 5 1 (.slice (some ⟨w.heap.size,0,none⟩) 1 1) 1 (B8 [c]):=
 ⟨rfl,.inr ⟨w.heap.size,1,#[.int .u8 c],rfl,ah _,ay w _,ah _,by unfold maxLen;omega,rfl,rfl⟩⟩
theorem adb(c:Int):(Au c).length<=4:=by
 unfold Au;split
 ·decide
 split
 ·decide
 split
 ·simp
 split<;>simp
def qt(s:ByteArray)(k:Nat):List Int:=34::(s.data.toList.take k).flatMap fun a=>Au (a.toNat:Int)
theorem BL(s:ByteArray)(k:Nat)(a:k<s.size):qt s (k+1)=qt s k++Au (s[k].toNat:Int):=by
 unfold qt
 rw[List.take_succ_eq_append_getElem (by simpa using a)]
 simp only[Ht,xd,List.flatMap_nil,dA,fl]
 rfl
theorem xC(s:ByteArray):∀k,k<=s.size->(qt s k).length<=1+4*k
 |0,_=>by simp[qt]
 |k+1,a=>by
  have:=xC s k (by omega)
  have b:=adb (s[k].toNat:Int)
  rw[BL s k (by omega),aD]
  omega
def iK(s:ByteArray):List Int:=qt s s.size++[34]
theorem Jp(s:ByteArray)(u:s.size<=4000)(w:World):
  Calls Tryz.prog 88 #[.string s] w fun e w'=>e= .returned (.string (eI (iK s)))/\Below w.heap.size w w':=by
 go_in
 go_wp2_with fail
 go_loopw [3,11] (fun q h wr=>∃a b:Nat,a<=s.size/\h= .int .i64 a/\wr.ownsRow w.heap.size 5 1 q b (B8 (qt s a))/\Below w.heap.size w wr) (fun _ h _=>s.size-(intOf h).toNat)
 case atStart=>exact⟨0,1,aJ _,rfl,qJ w 34,(ag _ _).alloc (ah _) _⟩
 case round=>
  obtain⟨a,b,k,rfl,f,c⟩:=hrel
  have m:=sI f
  have o:=xC s a k
  have t:b<=20000:=by omega
  clear m o
  by_cases n:a<s.size
  ·have p:Hid (qt s (a+1)=qt s a++Au (s[a].toNat:Int)):=BL s a n
   have r:(s[a].toNat:Int)<256:=by have:=s[a].toNat_lt;omega
   go_wp2_with (go_at_call 150;refine(af4 _ b w.heap.size (qt s a) _ (by omega) (by omega) _ f c.size (by omega)).mono ?_;rintro e w' ⟨j,i,rfl,g,d⟩)
   go_roundw
   case rel=>exact⟨a+1,_,by omega,by go_num,by rw[p.out];exact g,c.trans d⟩
   case measure=>simp[intOf];omega
  ·have l:a=s.size:=by omega
   subst l
   go_wp2_with (at_builtin;refine gH rfl (.tmp 20) (.tmp 21) rfl w.heap.size _ b (qt s s.size) rfl f c.size (by omega) [34] 1 rfl (by decide) (by decide) _ rfl rfl ?_;intro j i w1 g d;have v:=jx g)
   go_ret
   exact⟨rfl,c.trans d⟩
structure Cd where
 len:Nat
 cd:Nat->Int
 ok:len<=1048576
 bt:∀i,0<=cd i/\cd i<256
def Code(C:Cd)(base:Nat)(w:World)(d:Option Addr):Prop:=
 C.len=0\/∃a c,d=some ⟨a,c,none⟩/\a<base/\∀b,b<C.len->w.cell? ⟨a,c+b,none⟩=some (.int .u8 (C.cd b))
theorem Code.below{C:Cd}{base:Nat}{w g:World}{b:Option Addr}(a:Code C base w b)(i:Below base w g):Code C base g b:=by
 rcases a with a|⟨c,f,h,d,j⟩
 ·exact .inl a
 ·exact .inr ⟨c,f,h,d,fun e k=>(i.cell (p:=⟨c,f+e,none⟩) d).trans (j e k)⟩
structure Bs where
 base:Nat
 cb:Nat
 bb:Nat
 a0:Option Addr
 cap:Nat
abbrev cV(E:Bs):Value:= .pointer (some ⟨E.cb,0,none⟩)
structure Cr where
 p:Int
 q:Int
 r:Int
abbrev cuO(C:Cd)(E:Bs)(c:Cr):Obj:= .cells #[.slice E.a0 C.len E.cap,.int .i64 c.p,.int .u64 c.q,.int .i64 c.r] 40 (0,0)
structure Cu (C:Cd) (E:Bs) (w:World) (c:Cr):Prop where
 lo:E.base<=E.cb/\E.base<=w.heap.size
 code:Code C E.base w E.a0
 cur:w.heap[E.cb]?=some (cuO C E c)
theorem sJ(w:World)(b:Nat):w.grownBy w (some b):=⟨rfl,rfl,rfl,ah _,fun _ _ _=>rfl⟩
theorem DA{c w:World}{b:Nat}(a:c.grownBy w (some b))(n:Nat):c.grownBy (w.drewN n) (some b):=⟨a.os,a.tape,a.output,a.size,a.block⟩
theorem uo{d w:World}{b:Nat}(a:d.grownBy w (some b))(i:Nat)(v:Value):d.grownBy (w.setCell ⟨b,i,none⟩ v) (some b):=
 ⟨a.os,a.tape,a.output,by simpa [World.setCell] using a.size,fun g f c=>by rw[aK _ _ _ _ (fun e=>c (by rw[e]))];exact a.block g f c⟩
theorem jb{x f z:World}{b:Nat}(a:x.grownBy f (some b))(k:f.grownBy z (some b)):x.grownBy z (some b):=
 ⟨k.os.trans a.os,k.tape.trans a.tape,k.output.trans a.output,ch a.size k.size,fun e c d=>(k.block e (fi c a.size) d).trans (a.block e c d)⟩
theorem jy{x a:World}{b base:Nat}(d:x.grownBy a (some b))(e:base<=b)(f:base<=x.heap.size):Below base x a:=
 (ag base x).grown d f (fun g c=>by cases c;exact e)
theorem ajq(x:Int):0<=wrap64 (bits .and .u64 (IntKind.u64.wrap x / 1099511627776) 255)/\wrap64 (bits .and .u64 (IntKind.u64.wrap x / 1099511627776) 255)<256:=by
 have b:IntKind.u64.wrap x=x%18446744073709551616:=by simp[IntKind.wrap,IntKind.bits,IntKind.signed]
 have f:0<=IntKind.u64.wrap x / 1099511627776:=by rw[b];omega
 have g:IntKind.u64.wrap x / 1099511627776<2 ^ 24:=by rw[b];omega
 have h:∀a:Int,0<=a->a<2 ^ 24->IntKind.u64.wrap a=a:=fun a i j=>by
  have c:IntKind.u64.wrap a=a%18446744073709551616:=by simp[IntKind.wrap,IntKind.bits,IntKind.signed]
  rw[c];omega
 have:=bits_mask .u64 24 (by decide) h 8 (by decide) _ f g
 have d:((2:Int) ^ 8-1)=255:=by decide
 rw[d]at this
 have e:((2:Int) ^ 8)=256:=by decide
 rw[this,e]
 unfold wrap64
 omega
def Rc(C:Cd)(f:FuncId)(a:List Value)(c:Cr)(v:Value)(b:Cr):Prop:=
 ∀ ⦃E:Bs⦄ ⦃w:World⦄,Cu C E w c->Calls Tryz.prog f (cV E::a).toArray w fun d w'=>d= .returned v/\Cu C E w' b/\w.grownBy w' (some E.cb)
section
variable {C : Cd} {E : Bs} {w w' W : World} {c c' : Cr}
theorem Cu.lt(a:Cu C E w c):E.cb<w.heap.size:=aw a.cur
theorem Cu.cells(a:Cu C E w c):(w.cell? ⟨E.cb,0,none⟩=some (.slice E.a0 C.len E.cap)/\w.cell? ⟨E.cb,1,none⟩=some (.int .i64 c.p)/\w.cell? ⟨E.cb,2,none⟩=some (.int .u64 c.q)/\w.cell? ⟨E.cb,3,none⟩=some (.int .i64 c.r))/\∀i,w.frozen? ⟨E.cb,i,none⟩=false:=by
 have r:=fun i=>au w E.cb i _ _ _ a.cur
 exact⟨⟨r 0,r 1,r 2,r 3⟩,fun i=>cA _ _ _ _ _ a.cur⟩
theorem Cu.grown(a:Cu C E w c)(g:w.grownBy w' (some E.cb))(d:w'.heap[E.cb]?=some (cuO C E c')):Cu C E w' c':=by
 have b:=jy g a.lo.1 a.lo.2
 exact⟨⟨a.lo.1,ch a.lo.2 b.size⟩,a.code.below b,d⟩
theorem Cu.below(a:Cu C E w c)(b:Below w.heap.size w w'):Cu C E w' c:=⟨⟨a.lo.1,ch a.lo.2 b.size⟩,a.code.below (b.mono a.lo.2),(b.block _ a.lt).trans a.cur⟩
theorem B3(C:Cd)(c:Cr)(s:0<=c.p)(t:c.p<=1000000000):∃z c',(0<=z/\z<256)/\(c'.p=c.p+1/\c'.r=c.r)/\Rc C 33 [] c (.int .i64 z) c':=by
 obtain⟨p,u,r⟩:=c
 have B:=C.ok
 have s:0<=p:=s
 have t:p<=1000000000:=t
 by_cases A:p<C.len
 ·obtain⟨z,l⟩:=aE (C.cd p.toNat)
  have j:=C.bt p.toNat
  rw[l]at j
  refine⟨z,⟨p+1,IntKind.u64.wrap (IntKind.u64.wrap (IntKind.u64.wrap (u*6364136223846793005)+z)+1442695040888963407),r⟩,j,⟨rfl,rfl⟩,fun a f g=>?_⟩
  have o:=g.cells
  rcases g.code with y|⟨x,G,n,_,q⟩
  ·omega
  have v:=q p.toNat (by omega)
  rw[l]at v
  rw[n]at o
  have i:∀b d e,f.grownBy (((f.drewN b).setCell ⟨a.cb,1,none⟩ d).setCell ⟨a.cb,2,none⟩ e) (some a.cb):=fun b d e=>uo (uo (DA (sJ f a.cb) b) 1 d) 2 e
  have k:=fun b d e=>bI ((f.drewN b).setCell ⟨a.cb,1,none⟩ d) a.cb 2 _ _ e (bI (f.drewN b) a.cb 1 _ _ d g.cur)
  have E:=j.1
  have F:=j.2
  have h:=jw g i k
  clear i k g j n q l
  go_in
  go_wp2
  go_quiet (fail)
  go_wp2
  go_quiet (fail)
  go_wp2
  go_ret
  exact⟨rfl,h.1.grown (h.2.1 _ _ _) (h.2.2 _ _ _),h.2.1 _ _ _⟩
 ·obtain⟨m,w⟩:=aE (IntKind.u64.wrap (u*6364136223846793005)+1442695040888963407)
  refine⟨wrap64 (bits .and .u64 (IntKind.u64.wrap m / 1099511627776) 255),⟨p+1,IntKind.u64.wrap m,r⟩,ajq m,⟨rfl,rfl⟩,fun a f g=>?_⟩
  subst w
  have o:=g.cells
  have i:∀b d e,f.grownBy (((f.drewN b).setCell ⟨a.cb,2,none⟩ d).setCell ⟨a.cb,1,none⟩ e) (some a.cb):=fun b d e=>uo (uo (DA (sJ f a.cb) b) 2 d) 1 e
  have k:=fun b d e=>bI ((f.drewN b).setCell ⟨a.cb,2,none⟩ d) a.cb 1 _ _ e (bI (f.drewN b) a.cb 2 _ _ d g.cur)
  have h:=jw g i k
  clear i k g
  go_in
  go_wp2
  go_quiet (fail)
  go_wp2
  go_ret
  exact⟨rfl,h.1.grown (h.2.1 _ _ _) (h.2.2 _ _ _),h.2.1 _ _ _⟩
end
theorem xD(w:World):(convert 22 9 (.slice none 0 0)).run Tryz.prog w= .ok (.string ByteArray.empty) w:=by
 rw[BI w 22 9 5 _ _ _ Tryz.underlying22 Tryz.underlying5 Tryz.underlying9]
 simp[Conv.bytesToString,Sem.run_pure]
theorem Jq(l:List Int):∀r:ByteArray,(l.foldl (fun r n=>r.push (UInt8.ofNat n.toNat)) r).size=r.size+l.length:=by
 induction l with
 |nil=>intro r;rfl
 |cons b l a=>intro r;simp only[mK,co];rw[a,ByteArray.size_push];omega
theorem qK(l:List Int):(eI l).size=l.length:=by
 unfold eI;rw[Jq];simp
theorem af5{w:World}{base e size:Nat}{v:Value}{n:Nat}{xs:List Value}{b:Nat}(a:w.ownsRow base e size v n xs)(c:b<base):v.ownBlock=none\/v.ownBlock≠some b:=by
 right;intro e;have:=(a.lt b e).1;omega
theorem LD{x e z:World}{b:Nat}(a:x.grownBy e (some b))(k:Below x.heap.size e z):x.grownBy z (some b):=
 ⟨k.os.trans a.os,k.tape.trans a.tape,k.output.trans a.output,ch a.size k.size,fun d c f=>(k.block d c).trans (a.block d c f)⟩
structure Cw (C:Cd) (E:Bs) (W w:World) (c:Cr):Prop where
 cu:Cu C E w c
 gr:W.grownBy w (some E.cb)
section
variable {C : Cd} {E : Bs} {w w' W : World} {c c' : Cr} {v : Value} {ar : List Value} {f : FuncId} {Q : Ending → World → Prop}
theorem Cu.cw(a:Cu C E w c):Cw C E w w c:=⟨a,sJ _ _⟩
theorem Cw.below(a:Cw C E W w c)(b:Below w.heap.size w w'):Cw C E W w' c:=⟨a.cu.below b,LD a.gr (b.mono a.gr.size)⟩
theorem Cw.own(a:Cw C E W w c)(b:Below W.heap.size w w')(d:E.cb<W.heap.size):Cw C E W w' c:=by
 have:=a.cu.lo.1
 exact⟨⟨⟨a.cu.lo.1,ch a.cu.lo.2 b.size⟩,a.cu.code.below (b.mono (by omega)),(b.block _ d).trans a.cu.cur⟩,LD a.gr b⟩
theorem Cw.al{o:Obj}(a:Cw C E W w c):Cw C E W (w.alloc o) c:=a.below (dh w o)
theorem Cw.run(a:Cw C E W w c)(k:Rc C f ar c v c')(d:∀w',Cw C E W w' c'->w.grownBy w' (some E.cb)->Q (.returned v) w'):Calls Tryz.prog f (cV E::ar).toArray w Q:=
 (k a.cu).mono fun e w' b=>b.1 ▸ d w' ⟨b.2.1,jb a.gr b.2.2⟩ b.2.2
theorem nE{cs:Array Value}{t:TypeId}(b:Cu C E w c)(g:(w.alloc (.cells cs t)).grownBy w' (some E.cb))(i:Nat):w'.cell? ⟨w.heap.size,i,none⟩=cs[i]?:=
 au w' w.heap.size i _ _ _ ((g.block _ (by simp) (fun a=>by have:=b.lt;have:=bh a;omega)).trans (ay w _))
theorem dc(C:Cd)(c:Cr)(k:Int)(l:2<=k)(m:k<=200)(h:0<=c.p)(i:c.p<=1000000000):∃z c',(0<=z/\z<k)/\(c'.p=c.p+1/\c'.r=c.r)/\Rc C 13 [.int .i64 k] c (.int .i64 z) c':=by
 obtain⟨z,c',b,g,d⟩:=B3 C c h i
 have z0:=b.1
 have o:=b.2
 refine⟨z%k,c',⟨Int.emod_nonneg _ (by omega),Int.emod_lt_of_pos _ (by omega)⟩,g,fun j n f=>?_⟩
 have e:=f.cw
 go_in
 go_wp2_with (go_at_call 33;refine e.run d fun w1 a _=>?_)
 go_ret
 exact⟨rfl,a.cu,a.gr⟩
theorem Av(C:Cd)(c:Cr)(k:Int)(w:1<=k)(x:k<=1000000000)(g:0<=c.p)(y:c.p<=900000000):∃z c',(0<=z/\z<k)/\(c.p<=c'.p/\c'.p<=c.p+2/\c'.r=c.r)/\Rc C 13 [.int .i64 k] c (.int .i64 z) c':=by
 by_cases n:k=1
 ·subst n
  refine⟨0,c,by decide,by omega,fun h s d=>?_⟩
  have a:=d.cw
  go_in
  go_wp2
  go_ret
  exact⟨rfl,a.cu,a.gr⟩
 by_cases o:k<=200
 ·obtain⟨z,c',q,t,b⟩:=dc C c k (by omega) o g (by omega)
  exact⟨z,c',q,by omega,b⟩
 obtain⟨z,l,F,u,b⟩:=B3 C c g (by omega)
 obtain⟨e,m,E,v,i⟩:=B3 C l (by omega) (by omega)
 refine⟨(z*256+e)%k,m,⟨Int.emod_nonneg _ (by omega),Int.emod_lt_of_pos _ (by omega)⟩,by omega,fun h s d=>?_⟩
 have a:=d.cw
 have A:IntKind.i64.wrap (z*256)=z*256:=by rw[bm];omega
 have B:IntKind.i64.wrap (z*256+e)=z*256+e:=by rw[bm];omega
 go_in
 go_wp2_with fail
 refine a.run b fun w1 j _=>?_
 go_wp2_with fail
 refine j.run i fun G f _=>?_
 go_wp2_with fail
 go_ret
 exact⟨rfl,f.cu,f.gr⟩
inductive Byc (C:Cd):Nat->Cr->List Int->Cr->Prop
 |nil (c:Cr):Byc C 0 c [] c
 |cons {n:Nat}{c c1 c2:Cr}{z:Int}{l:List Int}:(0<=z/\z<256)->Rc C 33 [] c (.int .i64 z) c1->Byc C n c1 l c2->Byc C (n+1) c (z::l) c2
theorem byc(C:Cd):∀(n:Nat)(c:Cr),n<=100->0<=c.p->c.p<=900000000+100-n->∃l c',l.length=n/\(c'.p=c.p+n/\c'.r=c.r)/\Byc C n c l c':=by
 intro n
 induction n with
 |zero=>exact fun c _ _ _=>⟨[],c,rfl,by simp,.nil c⟩
 |succ n i=>
  intro c o g q
  obtain⟨j,d,h,k,b⟩:=B3 C c g (by omega)
  obtain⟨l,e,f,m,a⟩:=i d (by omega) (by omega) (by omega)
  exact⟨j::l,e,by simp[f],by omega,.cons h b a⟩
theorem B5(C:Cd)(c:Cr)(n:Nat)(ak:n<=100)(an:0<=c.p)(a8:c.p<=900000000):∃s c',s.size=n/\(c'.p=c.p+n/\c'.r=c.r)/\Rc C 103 [.int .i64 n] c (.string s) c':=by
 obtain⟨h,o,v,x,m⟩:=byc C n c ak an (by omega)
 refine⟨eI h,o,by rw[qK,v],x,fun G l t=>?_⟩
 have I:=t.cw
 have w:=t.lt
 clear x
 go_in
 go_wp21
 go_loopw [1,5] (fun k ar wr=>∃(a d:Nat) (f j:List Int) (i:Cr),k= .int .i64 a/\a+d=n/\wr.ownsRow l.heap.size 5 1 ar d (B8 f)/\Cw C G l wr i/\Byc C a i j o/\f++j=h) (fun k _ _=>(intOf k).toNat)
 case atStart=>exact⟨n,0,[],h,c,rfl,rfl,dy _ _ _ _,I,m,rfl⟩
 case round=>
  obtain⟨a,d,f,j,i,rfl,A,e,b,E,q⟩:=hrel
  have z:=sI e
  have a9:=b.gr.size
  have a5:d<=n:=by omega
  have a7:a<=n:=by omega
  have g:=jw A z q
  clear A z q m v
  cases E with
  |@cons a _ K _ bf ap B H F=>
   have z0:=B.1
   have bk:=B.2
   have a6:(0:Int)<((a+1:Nat):Int):=by omega
   have bb:IntKind.i64.wrap (((a+1:Nat):Int)-1)=(a:Int):=by rw[bm];omega
   go_wp2_with (first
    |(go_at_call 33;refine b.run H fun w1 J y=>?_;have al:=e.kept y (af5 e w);have ba:=y.size)
    |(at_builtin;refine gH rfl (.tmp 10) (.tmp 14) rfl l.heap.size _ d f rfl al (by omega) (by omega) [_] 1 rfl (by decide) (by decide) _ rfl rfl ?_;intro ad L bd am af))
   go_roundw
   case rel=>exact⟨a,d+1,_,ap,K,by go_num,by have:=g.1;omega,am,J.own af w,F,by rw[cG];exact g.2.2⟩
   case measure=>simp[intOf]
  |nil=>
   obtain⟨a2,a3,u⟩:=g.out
   rw[dA]at u
   subst u
   rcases e.2 with⟨rfl,a4⟩|⟨ad,L,av,rfl,bc⟩
   ·have ao:=xD
    go_wp2
    go_ret
    refine⟨?_,b.cu,b.gr⟩
    have:f=[]:=fj (by omega)
    subst this
    rfl
   ·have ao:=jx e
    go_wp2
    go_ret
    exact⟨rfl,b.cu,b.gr⟩
end
def aia:Value->Nat| .string t=>t.size|_=>0
def ur(c:Int):Bool:=decide (c=32\/c=9\/c=13)
def cD(c:Int):Bool:=decide ((97<=c/\c<=122)\/(65<=c/\c<=90)\/c=95)
def cL(c:Int):Bool:=decide (48<=c/\c<=57)
theorem kH(c:Int)(w:World):Calls Tryz.prog 243 #[.int .u8 c] w fun e w'=>e= .returned (.bool (cL c))/\w=w':=by
 rcases(show c<48\/57<c\/(48<=c/\c<=57) by omega) with h|h|⟨d,b⟩
 ·have e:cL c=false:=by simp[cL];omega
  rw[e];clear e
  have a:¬48<=c:=by omega
  go_in
  go_wp2
  go_ret
  exact⟨rfl,rfl⟩
 ·have e:cL c=false:=by simp[cL];omega
  rw[e];clear e
  have a:¬c<=57:=by omega
  have b:48<=c:=by omega
  go_in
  go_wp2
  go_ret
  exact⟨rfl,rfl⟩
 ·have e:cL c=true:=by simp[cL];omega
  rw[e];clear e
  go_in
  go_wp2
  go_ret
  exact⟨rfl,rfl⟩
theorem sL(c:Int)(w:World):Calls Tryz.prog 263 #[.int .u8 c] w fun e w'=>e= .returned (.bool (cD c))/\w=w':=by
 rcases(show(97<=c/\c<=122)\/(65<=c/\c<=90)\/c=95\/c<65\/(90<c/\c<97/\c≠95)\/122<c by omega) with⟨f,g⟩|⟨f,g⟩|rfl|h|⟨f,g,k⟩|h
 ·have e:cD c=true:=by simp[cD];omega
  rw[e];clear e
  go_in
  go_wp2
  go_ret
  exact⟨rfl,rfl⟩
 ·have e:cD c=true:=by simp[cD];omega
  rw[e];clear e
  have a:¬97<=c:=by omega
  go_in
  go_wp2
  go_ret
  exact⟨rfl,rfl⟩
 ·go_in
  go_wp2
  go_ret
  exact⟨rfl,rfl⟩
 ·have e:cD c=false:=by simp[cD];omega
  rw[e];clear e
  have a:¬97<=c:=by omega
  have b:¬65<=c:=by omega
  have d:(c==95)=false:=by simp;omega
  go_in
  go_wp2
  go_ret
  exact⟨rfl,rfl⟩
 ·have e:cD c=false:=by simp[cD];omega
  rw[e];clear e
  have a:¬97<=c:=by omega
  have b:65<=c:=by omega
  have i:¬c<=90:=by omega
  have d:(c==95)=false:=by simp;omega
  go_in
  go_wp2
  go_ret
  exact⟨rfl,rfl⟩
 ·have e:cD c=false:=by simp[cD];omega
  rw[e];clear e
  have a:97<=c:=by omega
  have b:¬c<=122:=by omega
  have i:65<=c:=by omega
  have j:¬c<=90:=by omega
  have d:(c==95)=false:=by simp;omega
  go_in
  go_wp2
  go_ret
  exact⟨rfl,rfl⟩
def ig(c:Int):Int:=if 48<=c/\c<=57 then c-48 else if 97<=c/\c<=102 then c-87 else -1
def aG(s:ByteArray)(i:Nat):Int:=if h:i<s.size then(s[i].toNat:Int) else -1
theorem rK{s:ByteArray}{i:Nat}(a:i<s.size):0<=aG s i/\aG s i<256:=by
 unfold aG;rw[pc a];have:=s[i].toNat_lt;omega
theorem eu{s:ByteArray}{i:Nat}(a:¬i<s.size:=by omega):aG s i= -1:=by unfold aG;rw[dif_neg a]
theorem dE{s:ByteArray}{i:Nat}(a:i<s.size)(w:World):(Instr.index 9 (.string s) (.int .i64 (i:Int))).run Tryz.prog w= .ok (.int .u8 (aG s i)) w:=by
 unfold aG;rw[pc a];go_simp
theorem DB{s:ByteArray}{i:Nat}(b:i+1<s.size)(w:World):(Instr.index 9 (.string s) (.int .i64 ((i:Int)+1))).run Tryz.prog w= .ok (.int .u8 (aG s (i+1))) w:=by
 have:=dE b w
 have a:((i+1:Nat):Int)=(i:Int)+1:=by omega
 rw[a]at this;exact this
theorem qL(c:Int):ig c<16:=by unfold ig;split;omega;split<;>omega
def DC(s:ByteArray)(p:Nat):Int×Nat×Bool:=
 if ig (aG s p)<0 then(0,p,false) else if ig (aG s (p+1))<0 then(0,p+1,false) else(ig (aG s p)*16+ig (aG s (p+1)),p+1+1,true)
def lH(s:ByteArray)(p:Nat):Int×Nat×Bool:=
 if aG s p=110 then(10,p+1,true) else if aG s p=116 then(9,p+1,true) else if aG s p=34\/aG s p=92 then(aG s p,p+1,true) else if aG s p=120 then DC s (p+1) else(0,p,false)
theorem adc(s:ByteArray)(p:Nat)(h:p<=s.size):p<=(DC s p).2.1/\(DC s p).2.1<=s.size/\0<=(DC s p).1/\(DC s p).1<256:=by
 have b:ig (-1)= -1:=by decide
 have g:=qL (aG s p)
 have j:=qL (aG s (p+1))
 unfold DC
 split
 ·simp;omega
 ·rename_i c
  have e:p<s.size:=by
   rcases ci p s.size with h|h
   ·exact h
   ·have a:=eu (s:=s) (i:=p) (by omega);rw[a,b]at c;omega
  split
  ·simp;omega
  ·rename_i d
   have f:p+1<s.size:=by
    rcases ci (p+1) s.size with h|h
    ·exact h
    ·have a:=eu (s:=s) (i:=p+1) (by omega);rw[a,b]at d;omega
   simp;omega
theorem ade(s:ByteArray)(p:Nat)(c:p<=s.size):p<=(lH s p).2.1/\(lH s p).2.1<=s.size/\0<=(lH s p).1/\(lH s p).1<256:=by
 unfold lH
 by_cases a:p<s.size
 ·have d:=rK a
  split
  ·simp;omega
  split
  ·simp;omega
  split
  ·simp;omega
  split
  ·have:=adc s (p+1) (by omega);omega
  ·simp;omega
 ·have b:=eu (s:=s) (i:=p) a
  rw[b];simp;omega
def fy(b:Nat)(w:World)(k f t l n:Int)(x:ByteArray):Prop:=
 w.heap[b]?=some (.cells #[.int .i64 k,.int .i64 f,.int .i64 t,.int .i64 l,.int .i64 n,.string x] 205 (0,0))
theorem cE{b:Nat}{w:World}{k f t l n:Int}{x:ByteArray}(a:fy b w k f t l n x):
  w.cell? ⟨b,0,none⟩=some (.int .i64 k)/\w.cell? ⟨b,1,none⟩=some (.int .i64 f)/\w.cell? ⟨b,2,none⟩=some (.int .i64 t)/\w.cell? ⟨b,3,none⟩=some (.int .i64 l)/\w.cell? ⟨b,4,none⟩=some (.int .i64 n)/\w.cell? ⟨b,5,none⟩=some (.string x)/\
  (∀j,w.frozen? ⟨b,j,none⟩=false):=by
 unfold fy at a
 exact⟨by rw[au _ _ _ _ _ _ a];rfl,by rw[au _ _ _ _ _ _ a];rfl,by rw[au _ _ _ _ _ _ a];rfl,by rw[au _ _ _ _ _ _ a];rfl,by rw[au _ _ _ _ _ _ a];rfl,by rw[au _ _ _ _ _ _ a];rfl,fun j=>cA _ _ _ _ _ a⟩
theorem fy.other{b:Nat}{w:World}{k f t l n:Int}{x:ByteArray}(c:fy b w k f t l n x){a:Addr}(d:b≠a.block)(v:Value):fy b (w.setCell a v) k f t l n x:=(aK w a b v d).trans c
theorem fy.drewN{b:Nat}{w:World}{k f t l n:Int}{x:ByteArray}(a:fy b w k f t l n x)(q:Nat):fy b (w.drewN q) k f t l n x:=a
theorem fy.below{a b:Nat}{w c:World}{k f t l n:Int}{x:ByteArray}(d:fy b w k f t l n x)(e:Below a w c)(g:b<a):fy b c k f t l n x:=(e.block b g).trans d
theorem fy.setKind{b:Nat}{w:World}{k f t l n:Int}{x:ByteArray}(c:fy b w k f t l n x)(a:Int):fy b (w.setCell ⟨b,0,none⟩ (.int .i64 a)) a f t l n x:=bI w b 0 _ _ _ c
theorem fy.setTo{b:Nat}{w:World}{k f t l n:Int}{x:ByteArray}(c:fy b w k f t l n x)(a:Int):fy b (w.setCell ⟨b,2,none⟩ (.int .i64 a)) k f a l n x:=bI w b 2 _ _ _ c
def ic(s:ByteArray):Nat->Nat->List Int->Bool×Nat×List Int
 |0,p,a=>(false,p,a)
 |f+1,p,a=>if s.size<=p then(false,p,a) else if aG s p=34 then(true,p+1,a) else if aG s p=10 then(false,p,a) else if aG s p=92 then
   (if(lH s (p+1)).2.2=true then ic s f (lH s (p+1)).2.1 (a++[(lH s (p+1)).1]) else(false,(lH s (p+1)).2.1,a))
  else ic s f (p+1) (a++[aG s p])
theorem ta(s:ByteArray):∀(f p:Nat)(a:List Int),p<=s.size->p<=(ic s f p a).2.1/\(ic s f p a).2.1<=s.size/\(ic s f p a).2.2.length<=a.length+(s.size-p)
 |0,p,a,b=>by simp[ic];omega
 |f+1,p,a,b=>by
  unfold ic
  split
  ·simp;omega
  split
  ·simp;omega
  split
  ·simp;omega
  split
  ·have e:=ade s (p+1) (by omega)
   split
   ·rename_i c
    have:=ta s f (lH s (p+1)).2.1 (a++[(lH s (p+1)).1]) e.2.1
    simp at this⊢;omega
   ·simp;omega
  ·have:=ta s f (p+1) (a++[aG s p]) (by omega)
   simp at this⊢;omega
structure DD (b t:Nat) (w w':World):Prop where
 os:w'.os=w.os
 tape:w'.tape=w.tape
 output:w'.output=w.output
 size:w.heap.size<=w'.heap.size
 block:∀k,k<w.heap.size->k≠b->k≠t->w'.heap[k]?=w.heap[k]?
theorem DD.refl(b t:Nat)(w:World):DD b t w w:=⟨rfl,rfl,rfl,ah _,fun _ _ _ _=>rfl⟩
theorem DD.trans{b t:Nat}{x g z:World}(a:DD b t x g)(k:DD b t g z):DD b t x z:=
 ⟨k.os.trans a.os,k.tape.trans a.tape,k.output.trans a.output,ch a.size k.size,fun f e c d=>(k.block f (fi e a.size) c d).trans (a.block f e c d)⟩
theorem DD.drewN{b t:Nat}{x c:World}(a:DD b t x c)(n:Nat):DD b t x (c.drewN n):=⟨a.os,a.tape,a.output,a.size,a.block⟩
theorem DD.drew{b t:Nat}{x c:World}(a:DD b t x c):DD b t x c.drew:=⟨a.os,a.tape,a.output,a.size,a.block⟩
theorem DD.below{b t:Nat}{x e z:World}(a:DD b t x e)(k:Below x.heap.size e z):DD b t x z:=
 ⟨k.os.trans a.os,k.tape.trans a.tape,k.output.trans a.output,ch a.size k.size,fun d c f g=>(k.block d c).trans (a.block d c f g)⟩
theorem DD.to{b t base:Nat}{x c:World}(a:DD b t x c)(e:base<=b)(ht:base<=t)(g:base<=x.heap.size):Below base x c:=
 ⟨a.os,a.tape,a.output,a.size,fun d f=>a.block d (by omega) (by omega) (by omega)⟩
open Go.Maps Go.WideMaps
def ej:Array Value:=#[.string ⟨#[97,110,100]⟩,.string ⟨#[98,114,101,97,107]⟩,.string ⟨#[99,97,116,99,104]⟩,.string ⟨#[99,111,110,115,116]⟩,.string ⟨#[100,101,102,101,114]⟩,.string ⟨#[101,108,105,102]⟩,.string ⟨#[101,108,115,101]⟩,.string ⟨#[102,97,108,115,101]⟩,.string ⟨#[102,110]⟩,.string ⟨#[102,111,114]⟩,.string ⟨#[105,102]⟩,.string ⟨#[105,110]⟩,.string ⟨#[108,101,116]⟩,.string ⟨#[110,101,120,116]⟩,.string ⟨#[110,105,108]⟩,.string ⟨#[110,111,116]⟩,.string ⟨#[111,114]⟩,.string ⟨#[114,101,116,117,114,110]⟩,.string ⟨#[116,104,114,111,119]⟩,.string ⟨#[116,114,117,101]⟩,.string ⟨#[116,114,121]⟩,.string ⟨#[119,104,105,108,101]⟩]
def lI(k:Nat):ByteArray:=match ej[k]? with|some (.string a)=>a|_=>ByteArray.empty
theorem ajr(k:Nat)(a:k<22)(w:World):(Instr.index 136 (.agg ej) (.int .i64 (k:Int))).run Tryz.prog w= .ok (.string (lI k)) w:=by
 rcases(show k=0\/k=1\/k=2\/k=3\/k=4\/k=5\/k=6\/k=7\/k=8\/k=9\/k=10\/k=11\/k=12\/k=13\/k=14\/k=15\/k=16\/k=17\/k=18\/k=19\/k=20\/k=21 by omega) with rfl|rfl|rfl|rfl|rfl|rfl|rfl|rfl|rfl|rfl|rfl|rfl|rfl|rfl|rfl|rfl|rfl|rfl|rfl|rfl|rfl|rfl
 all_goals kernel_rfl
theorem DF:∀k:Fin 22,(lI k.val).size<=100:=by decide
def FD{H:Type}:Nat->DataW H
 |0=> .map []
 |k+1=>(FD k).put (.string (lI k).data.toList) (.lit (.int .i64 (10+(k:Int))))
theorem aib:Keyed Tryz.prog 9:=string_keyed Tryz.underlying9
theorem zI{H:Type}(w:World)(fr:Nat×Nat)(f:TypeId)(g:w.heap[0]?=some (.cells ej f fr)):
  Calls Tryz.prog 41 #[] w fun e w'=>e= .returned (.map (some w.heap.size))/\w'.ownsMap Tryz.prog 9 (plainElem (H:=H) Tryz.prog 3) w.heap.size 22 (FD 22)/\Below w.heap.size w w':=by
 have b:=aw g
 have q:∀w:World,(Instr.makeMap 95 (some (.int .i64 22))).run Tryz.prog w= .ok (.map (some w.heap.size)) (w.alloc (.map #[] 0)):=fun w=>by kernel_rfl
 have i:(w.alloc (.map #[] 0)).heap[0]?=some (.cells ej f fr):=(eo w _ _ b).trans g
 go_in
 go_wp2_with (refine Hs rfl 136 _ rfl 0 rfl f _ fr _ i Tryz.underlying136 rfl (by kernel_rfl) ?_)
 go_loopw [6] (fun d wr=>∃a:Nat,a<=22/\d= .int .i64 a/\wr.ownsMap Tryz.prog 9 (plainElem (H:=H) Tryz.prog 3) w.heap.size a (FD a)/\Below w.heap.size w wr) (fun d _=>22-(intOf d).toNat)
 case atStart=>exact⟨0,by omega,rfl,World.ownsMap_made _ _ _ _,(ag _ _).alloc (ah _) _⟩
 case round=>
  obtain⟨a,p,rfl,h,c⟩:=hrel
  by_cases b:a<22
  ·have o:=fun w=>ajr a b w
   have r:(lI a).size<=100:=DF ⟨a,b⟩
   have l:keyOf Tryz.prog 9 (.string (lI a))=some (.string (lI a).data.toList):=keyOf_string_mk Tryz.underlying9 (by unfold maxLen;omega)
   have n:Hid (FD (H:=H) (a+1)=(FD a).put (.string (lI a).data.toList) (.lit (.int .i64 (10+(a:Int))))):=rfl
   go_wp2_with (at_mapUpdate;refine wpList_mapUpdate_own _ rfl _ _ _ 95 rfl 9 3 aib Tryz.underlying95 _ w.heap.size a _ rfl h (by unfold maxLen;omega) _ _ _ rfl rfl l _ [] (plainElem_int Tryz.underlying3 (WalkArith.wf_i64 (by omega))) ?_;intro w1 m j)
   go_roundw
   case rel=>exact⟨a+1,by omega,by go_num,by rw[n.out];exact m,c.grown j c.size (fun s k=>by cases k;exact ah _)⟩
   case measure=>simp[intOf];omega
  ·obtain rfl:a=22:=by omega
   go_wp2
   go_ret
   exact⟨rfl,h,c⟩
def xF:Array Value:=#[.string ⟨#[]⟩,.string ⟨#[43]⟩,.string ⟨#[45]⟩,.string ⟨#[42]⟩,.string ⟨#[47]⟩,.string ⟨#[47,47]⟩,.string ⟨#[37]⟩,.string ⟨#[38]⟩,.string ⟨#[124]⟩,.string ⟨#[126]⟩,.string ⟨#[60,60]⟩,.string ⟨#[62,62]⟩,.string ⟨#[46,46]⟩,.string ⟨#[61,61]⟩,.string ⟨#[126,61]⟩,.string ⟨#[60]⟩,.string ⟨#[60,61]⟩,.string ⟨#[62]⟩,.string ⟨#[62,61]⟩]
def mz:Array Value:=#[.string ⟨#[40]⟩,.string ⟨#[41]⟩,.string ⟨#[123]⟩,.string ⟨#[125]⟩,.string ⟨#[91]⟩,.string ⟨#[93]⟩,.string ⟨#[44]⟩,.string ⟨#[61]⟩,.string ⟨#[46]⟩,.string ⟨#[46,46,46]⟩,.string ⟨#[35]⟩]
def jG:Array Value:=#[.string ⟨#[46,46,46]⟩,.string ⟨#[46,46]⟩,.string ⟨#[46]⟩,.string ⟨#[60,60]⟩,.string ⟨#[60,61]⟩,.string ⟨#[60]⟩,.string ⟨#[62,62]⟩,.string ⟨#[62,61]⟩,.string ⟨#[62]⟩,.string ⟨#[61,61]⟩,.string ⟨#[61]⟩,.string ⟨#[126,61]⟩,.string ⟨#[126]⟩,.string ⟨#[47,47]⟩,.string ⟨#[47]⟩,.string ⟨#[40]⟩,.string ⟨#[41]⟩,.string ⟨#[123]⟩,.string ⟨#[125]⟩,.string ⟨#[91]⟩,.string ⟨#[93]⟩,.string ⟨#[44]⟩,.string ⟨#[59]⟩,.string ⟨#[35]⟩,.string ⟨#[43]⟩,.string ⟨#[45]⟩,.string ⟨#[42]⟩,.string ⟨#[37]⟩,.string ⟨#[38]⟩,.string ⟨#[124]⟩]
theorem adf:(#[.string ⟨#[]⟩,.string ⟨#[43]⟩,.string ⟨#[45]⟩,.string ⟨#[42]⟩,.string ⟨#[47]⟩,.string ⟨#[47,47]⟩,.string ⟨#[37]⟩,.string ⟨#[38]⟩,.string ⟨#[124]⟩,.string ⟨#[126]⟩,.string ⟨#[60,60]⟩,.string ⟨#[62,62]⟩,.string ⟨#[46,46]⟩,.string ⟨#[61,61]⟩,.string ⟨#[126,61]⟩,.string ⟨#[60]⟩,.string ⟨#[60,61]⟩,.string ⟨#[62]⟩,.string ⟨#[62,61]⟩]:Array Value)=xF:=rfl
theorem adg:(#[.string ⟨#[40]⟩,.string ⟨#[41]⟩,.string ⟨#[123]⟩,.string ⟨#[125]⟩,.string ⟨#[91]⟩,.string ⟨#[93]⟩,.string ⟨#[44]⟩,.string ⟨#[61]⟩,.string ⟨#[46]⟩,.string ⟨#[46,46,46]⟩,.string ⟨#[35]⟩]:Array Value)=mz:=rfl
def cC(V:Array Value)(k:Nat):ByteArray:=match V[k]? with|some (.string a)=>a|_=>ByteArray.empty
theorem af6:∀k:Fin 19,xF[k.val]?=some (.string (cC xF k.val)):=by
 intro ⟨k,a⟩
 rcases(show k=0\/k=1\/k=2\/k=3\/k=4\/k=5\/k=6\/k=7\/k=8\/k=9\/k=10\/k=11\/k=12\/k=13\/k=14\/k=15\/k=16\/k=17\/k=18 by omega) with rfl|rfl|rfl|rfl|rfl|rfl|rfl|rfl|rfl|rfl|rfl|rfl|rfl|rfl|rfl|rfl|rfl|rfl|rfl
 all_goals rfl
theorem LF:∀k:Fin 11,mz[k.val]?=some (.string (cC mz k.val)):=by
 intro ⟨k,a⟩
 rcases(show k=0\/k=1\/k=2\/k=3\/k=4\/k=5\/k=6\/k=7\/k=8\/k=9\/k=10 by omega) with rfl|rfl|rfl|rfl|rfl|rfl|rfl|rfl|rfl|rfl|rfl
 all_goals rfl
theorem FE:∀k:Fin 30,jG[k.val]?=some (.string (cC jG k.val)):=by
 intro ⟨k,a⟩
 rcases(show k=0\/k=1\/k=2\/k=3\/k=4\/k=5\/k=6\/k=7\/k=8\/k=9\/k=10\/k=11\/k=12\/k=13\/k=14\/k=15\/k=16\/k=17\/k=18\/k=19\/k=20\/k=21\/k=22\/k=23\/k=24\/k=25\/k=26\/k=27\/k=28\/k=29 by omega) with rfl|rfl|rfl|rfl|rfl|rfl|rfl|rfl|rfl|rfl|rfl|rfl|rfl|rfl|rfl|rfl|rfl|rfl|rfl|rfl|rfl|rfl|rfl|rfl|rfl|rfl|rfl|rfl|rfl|rfl
 all_goals rfl
theorem xm:∀k:Fin 22,ej[k.val]?=some (.string (cC ej k.val)):=by
 intro ⟨k,a⟩
 rcases(show k=0\/k=1\/k=2\/k=3\/k=4\/k=5\/k=6\/k=7\/k=8\/k=9\/k=10\/k=11\/k=12\/k=13\/k=14\/k=15\/k=16\/k=17\/k=18\/k=19\/k=20\/k=21 by omega) with rfl|rfl|rfl|rfl|rfl|rfl|rfl|rfl|rfl|rfl|rfl|rfl|rfl|rfl|rfl|rfl|rfl|rfl|rfl|rfl|rfl|rfl
 all_goals rfl
def td(V:Array Value)(s:ByteArray):Nat->Nat->Option Nat
 |0,_=>none
 |f+1,k=>if((cC V k).toList==s.toList)=true then some k else td V s f (k+1)
def we(s:ByteArray):Int:=match td xF s 18 1 with|some a=>60+(a:Int)|none=>(match td mz s 11 0 with|some a=>40+(a:Int)|none=>5)
theorem mL(w:World):Calls Tryz.prog 117 #[] w fun e w'=>e= .returned (.slice (some ⟨w.heap.size,0,none⟩) 22 22)/\w'=w.alloc (.cells ej 9):=by
 go_in
 go_wp2
 go_ret
 exact⟨rfl,rfl⟩
theorem qg(w:World):Calls Tryz.prog 118 #[] w fun e w'=>e= .returned (.slice (some ⟨w.heap.size,0,none⟩) 30 30)/\w'=w.alloc (.cells jG 9):=by
 go_in
 go_wp2
 go_ret
 exact⟨rfl,rfl⟩
theorem rL(s:ByteArray)(w:World):Calls Tryz.prog 191 #[.string s] w fun e w'=>e= .returned (.int .i64 (we s))/\Below w.heap.size w w':=by
 go_in
 go_wp21
 rw[adf]
 have t:=ay w (.cells xF 9)
 have l:Below w.heap.size w (w.alloc (.cells xF 9)):=(ag _ w).alloc (ah _) _
 generalize w.alloc (.cells xF 9)=i at t l⊢
 obtain⟨v,q⟩:=aE (td xF s 18 1)
 have k:=aj q
 clear q
 go_loop [4] (fun d=>∃a:Nat,1<=a/\a<=19/\d= .int .i64 a/\Hid (td xF s (19-a) a=v)) (fun d=>19-(intOf d).toNat)
 case atStart=>exact⟨1,by omega,by omega,rfl,k⟩
 case round=>
  obtain⟨a,C,z,rfl,g⟩:=hrel
  by_cases p:a<19
  ·have o:i.cell? ⟨w.heap.size,a,none⟩=some (.string (cC xF a)):=by rw[au _ _ _ _ _ _ t];exact af6 ⟨a,p⟩
   have b:=g.out
   rw[show 19-a=(19-(a+1))+1 by omega]at b
   unfold td at b
   generalize cC xF a=j at o b
   by_cases c:(j.toList==s.toList)=true
   ·rw[ab c]at b
    have f:=aj b
    clear b
    go_wp2
    go_ret
    refine⟨?_,l⟩
    unfold we
    rw[k.out,<-f.out]
    rfl
   ·rw[aa c]at b
    have f:=aj b
    have B:(j.toList==s.toList)=false:=by simpa using c
    clear b c
    go_wp2
    go_round
    case rel=>exact⟨a+1,by omega,by omega,by go_num,f⟩
    case measure=>simp[intOf];omega
  ·obtain rfl:a=19:=by omega
   have f:=aj g.out
   go_wp21
   rw[adg]
   have u:=ay i (.cells mz 9)
   have A:=l.size
   have n:Below w.heap.size w (i.alloc (.cells mz 9)):=l.alloc A _
   generalize i.alloc (.cells mz 9)=y at u n⊢
   obtain⟨x,r⟩:=aE (td mz s 11 0)
   have m:=aj r
   clear r
   go_loop [26] (fun d=>∃a:Nat,a<=11/\d= .int .i64 a/\Hid (td mz s (11-a) a=x)) (fun d=>11-(intOf d).toNat)
   case atStart=>exact⟨0,by omega,rfl,m⟩
   case round=>
    obtain⟨a,z,rfl,g⟩:=hrel
    by_cases p:a<11
    ·have o:y.cell? ⟨i.heap.size,a,none⟩=some (.string (cC mz a)):=by rw[au _ _ _ _ _ _ u];exact LF ⟨a,p⟩
     have b:=g.out
     rw[show 11-a=(11-(a+1))+1 by omega]at b
     unfold td at b
     generalize cC mz a=j at o b
     by_cases c:(j.toList==s.toList)=true
     ·rw[ab c]at b
      have h:=aj b
      clear b
      go_wp2
      go_ret
      refine⟨?_,n⟩
      unfold we
      rw[k.out,<-f.out,m.out,<-h.out]
      rfl
     ·rw[aa c]at b
      have h:=aj b
      have B:(j.toList==s.toList)=false:=by simpa using c
      clear b c
      go_wp2
      go_round
      case rel=>exact⟨a+1,by omega,by go_num,h⟩
      case measure=>simp[intOf];omega
    ·obtain rfl:a=11:=by omega
     have h:=aj g.out
     go_wp2
     go_ret
     refine⟨?_,n⟩
     unfold we
     rw[k.out,<-f.out,m.out,<-h.out]
     rfl
