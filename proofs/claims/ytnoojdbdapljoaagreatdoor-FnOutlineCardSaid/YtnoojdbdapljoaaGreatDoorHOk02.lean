import Derived.WalkSpells
import Derived.Deep.RegionHeld3
import Derived.Deep.AppendLies
import Derived.BigQuiet
import Derived.OneCell
import Derived.Test.YtnoojdbdapljoaaGreatDoorHOk01
import Derived.Lib.Bytealg
set_option linter.all false
set_option maxRecDepth 100000
set_option maxHeartbeats 1600000
open Go.Proofs.Tryz renaming prog->M
open Go renaming World->N,Value->Y,Calls->Z,maxLen->A5
open Option renaming some->O,none->R
open Go.Value renaming string->Q,int->S,slice->W,pointer->A3
open Go.Ending renaming returned->T
open Bool renaming false->U,true->A4
open Go.IntKind renaming i64->V,u8->A0,u64->A7
open Go.RowKit renaming Below->X,intOf->A6
open Go.World renaming news_of_block->Ax
open ByteArray renaming empty->A1
open Go.Instr renaming index->A2
namespace Go.Proofs.YtnoojdbdapljoaaGreatDoor
open Go.RowKit
theorem Tryz.info5:(Tryz.prog.info? 5).map (fun i=>(i.zero,i.size,i.bytes))=O (O (S A0 0),1,1):=by kernel_rfl
def B8(a:List Int):List Y:=a.map (Value.int A0)
theorem aaE(a b:List Int):B8 (a++b)=B8 a++B8 b:=by simp[B8]
theorem GD(a:List Int):(B8 a).length=a.length:=by simp[B8]
theorem tJ{w:N}{base n:Nat}{v:Y}{a:List Int}(h:w.ownsRow base 5 1 v n (B8 a)):a.length=n:=by
 have:=h.1;simpa [B8] using this
theorem gE{j:Array Oper}{k:List Oper}{c:Oper}{a:Act}{e:Exit->Act->N->Prop}{w:N}(p:c.guard=R)(s x:Operand)
  (z:c.op= .call {callee:= .builtin .append,args:=#[s,x],argTypes:=#[22,22]}) (base:Nat) (v:Y) (n:Nat) (d:List Int) (B:a.eval s=v)
  (f:w.ownsRow base 5 1 v n (B8 d)) (l:base<=w.heap.size) (K:n<=100000) (b:List Int) (m:Nat) (u:b.length=m) (y:0<m) (J:m<=100) (cs:Array Y) (o:cs.toList=B8 b)
  (C:a.eval x= .slice (O ⟨w.heap.size,0,R⟩) m m)
  (h:∀g cap w1,w1.ownsRow base 5 1 (.slice (O ⟨g,0,R⟩) (n+m) cap) (n+m) (B8 (d++b))->X base w w1->wpList M j e k (a.put c.dst (.slice (O ⟨g,0,R⟩) (n+m) cap)) w1):
  wpList M j e (c::k) a (w.alloc (.cells cs 5)):=by
 obtain⟨H,r,E,F,G⟩:=dC Tryz.info5;refine wpList_append_lies _ p s x 22 z base 5 H (.int .u8 0) 1 1 Tryz.underlying22 r E F G rfl (by decide) v n (B8 d) B (f.alloc _) ⟨w.heap.size,0,R⟩ m m (B8 b) C (by simp[B8,u])
  (by rw[<-o];exact Ax (fr:=(0,0)) (aw w _)) (by intro ad i;simp[B8]at i;obtain⟨L,_,rfl⟩:=i;rfl) y (by unfold A5;omega) (by omega) (by simp;omega) (w.heap.size+1) (by simp) ?_
 intro g cap w1 A q _ _;refine h g cap w1 (by rw[aaE];exact A) (((aj base w).alloc l _).grown q (by simp;omega) (fun I t=>(f.lt I t).1))
def qo(d:Int):Int:=if d<10 then 48+d else 87+d
def By(c:Int):List Int:=if c=10 then [92,110] else if c=9 then [92,116] else if c=34\/c=92 then [92,c] else if c<32\/126<c then [92,120,qo (c / 16),qo (c%16)] else [c]
theorem ajp(v:Y)(n base:Nat)(a:List Int)(w:N)(h:w.ownsRow base 5 1 v n (B8 a))(d:base<=w.heap.size)(f:n<=100000):
  Z M 74 #[v,S A0 10] w fun e b=>∃g cap,e= T (W (O ⟨g,0,R⟩) (n+2) cap)/\
   b.ownsRow base 5 1 (W (O ⟨g,0,R⟩) (n+2) cap) (n+2) (B8 (a++[92,110]))/\X base w b:=by
 go_in;go_wp2_with (at_builtin;refine gE rfl (.tmp 8) (.tmp 9) rfl base v n a rfl h d f [92,110] 2 rfl (by decide) (by decide) _ rfl rfl ?_;intro g cap w1 i c);go_wp2;go_ret;exact⟨g,cap,rfl,i,c⟩
theorem ahp(v:Y)(n base:Nat)(a:List Int)(w:N)(h:w.ownsRow base 5 1 v n (B8 a))(d:base<=w.heap.size)(f:n<=100000):
  Z M 74 #[v,S A0 9] w fun e b=>∃g cap,e= T (W (O ⟨g,0,R⟩) (n+2) cap)/\
   b.ownsRow base 5 1 (W (O ⟨g,0,R⟩) (n+2) cap) (n+2) (B8 (a++[92,116]))/\X base w b:=by
 go_in;go_wp2_with (at_builtin;refine gE rfl (.tmp 14) (.tmp 15) rfl base v n a rfl h d f [92,116] 2 rfl (by decide) (by decide) _ rfl rfl ?_;intro g cap w1 i c);go_wp2;go_ret;exact⟨g,cap,rfl,i,c⟩
theorem ahq(v:Y)(n base:Nat)(a:List Int)(c:Int)(k:c=34\/c=92)(w:N)(i:w.ownsRow base 5 1 v n (B8 a))(f:base<=w.heap.size)(h:n<=100000):
  Z M 74 #[v,S A0 c] w fun e j=>∃g cap,e= T (W (O ⟨g,0,R⟩) (n+2) cap)/\
   j.ownsRow base 5 1 (W (O ⟨g,0,R⟩) (n+2) cap) (n+2) (B8 (a++[92,c]))/\X base w j:=by
 rcases k with rfl|rfl
 ·go_in;go_wp2_with (at_builtin;refine gE rfl (.tmp 24) (.tmp 26) rfl base v n a rfl i f h [92,34] 2 rfl (by decide) (by decide) _ rfl rfl ?_;intro g cap w1 d b);go_wp2;go_ret;exact⟨g,cap,rfl,d,b⟩
 ·go_in;go_wp2_with (at_builtin;refine gE rfl (.tmp 24) (.tmp 26) rfl base v n a rfl i f h [92,92] 2 rfl (by decide) (by decide) _ rfl rfl ?_;intro g cap w1 d b);go_wp2;go_ret;exact⟨g,cap,rfl,d,b⟩
theorem aeA(v:Y)(n base:Nat)(a:List Int)(c:Int)(k:32<=c)(l:c<=126)(m:(c==34)=U)(o:(c==92)=U)(w:N)(i:w.ownsRow base 5 1 v n (B8 a))(f:base<=w.heap.size)(h:n<=100000):
  Z M 74 #[v,S A0 c] w fun e b=>∃g cap,e= T (W (O ⟨g,0,R⟩) (n+1) cap)/\
   b.ownsRow base 5 1 (W (O ⟨g,0,R⟩) (n+1) cap) (n+1) (B8 (a++[c]))/\X base w b:=by
 go_in;go_wp2_with (at_builtin;refine gE rfl (.tmp 44) (.tmp 46) rfl base v n a rfl i f h [c] 1 rfl (by decide) (by decide) _ rfl rfl ?_;intro g cap w1 j d);go_wp2;go_ret;exact⟨g,cap,rfl,j,d⟩
def DG:ByteArray:=⟨#[48,49,50,51,52,53,54,55,56,57,97,98,99,100,101,102]⟩
theorem ahr:∀i:Fin 16,((DG[i.val]'(by have:=i.isLt;exact this)).toNat:Int)=qo (i.val:Int):=by decide
theorem ag5(d:Int)(b:0<=d)(c:d<16)(h:d.toNat<DG.size):((DG[d.toNat]'h).toNat:Int)=qo d:=by
 have:=ahr ⟨d.toNat,by omega⟩;have a:((d.toNat:Nat):Int)=d:=by omega
 simp only[a]at this;exact this
theorem vh(d:Int)(b:0<=d)(c:d<16)(w:N):(A2 9 (Q ⟨#[48,49,50,51,52,53,54,55,56,57,97,98,99,100,101,102]⟩) (S A0 d)).run M w= .ok (S A0 (qo d)) w:=by
 have a:d.toNat<DG.size:=by simp only[DG];show d.toNat<16;omega
 have e:=ag5 d b c a;go_simp;exact e
theorem ahs(c:Int)(a:0<=c)(b:c<256):bits .and A0 c 15=c%16:=by
 have:=bits_mask A0 8 (by decide) wraps_u8 4 (by decide) c a b;simpa using this
theorem yA{J:Array Oper}{b:Oper}{a:Act}{e:Act->N->Prop}{j:Exit->Act->N->Prop}{E:Prop}{w:N}(o:b.guard=R)(s x:Operand)
  (y:b.op= .call {callee:= .builtin .append,args:=#[s,x],argTypes:=#[22,22]}) (base:Nat) (v:Y) (n:Nat) (d:List Int) (A:a.eval s=v)
  (f:w.ownsRow base 5 1 v n (B8 d)) (k:base<=w.heap.size) (L:n<=100000) (c:List Int) (m:Nat) (t:c.length=m) (u:0<m) (K:m<=100) (cs:Array Y) (l:cs.toList=B8 c)
  (B:a.eval x= .slice (O ⟨w.heap.size,0,R⟩) m m)
  (h:∀g cap w1,w1.ownsRow base 5 1 (.slice (O ⟨g,0,R⟩) (n+m) cap) (n+m) (B8 (d++c))->X base w w1->e (a.put b.dst (.slice (O ⟨g,0,R⟩) (n+m) cap)) w1):
  if Region.wanted b (yielded J a.tmps)=A4 then Oper.wp M b a (w.alloc (.cells cs 5)).drew e j else E:=by
 obtain⟨H,q,C,F,G⟩:=dC Tryz.info5;refine step_append_lies _ o s x 22 y base 5 H (.int .u8 0) 1 1 Tryz.underlying22 q C F G rfl (by decide) v n (B8 d) A ((f.alloc _).drew) ⟨w.heap.size,0,R⟩ m m (B8 c) B (by simp[B8,t])
  (by rw[<-l];exact Ax (fr:=(0,0)) (aw w _)) (by intro af i;simp[B8]at i;obtain⟨ad,_,rfl⟩:=i;rfl) u (by unfold A5;omega) (by omega) (by simp;omega) (w.heap.size+1) (by simp) ?_
 intro g cap w1 z p _ _;refine h g cap w1 (by rw[aaE];exact z) ((((aj base w).alloc k _).drew).grown p (by simp;omega) (fun I r=>(f.lt I r).1))
theorem aht(v:Y)(n base:Nat)(a:List Int)(c:Int)(d:0<=c)(o:c<32)(p:(c==10)=U)(q:(c==9)=U)(r:(c==34)=U)(s:(c==92)=U)(w:N)(i:w.ownsRow base 5 1 v n (B8 a))(f:base<=w.heap.size)(h:n<=100000):
  Z M 74 #[v,S A0 c] w fun e b=>∃g cap,e= T (W (O ⟨g,0,R⟩) (n+4) cap)/\
   b.ownsRow base 5 1 (W (O ⟨g,0,R⟩) (n+4) cap) (n+4) (B8 (a++[92,120,qo (c / 16),qo (c%16)]))/\X base w b:=by
 have y:=vh (c / 16) (by omega) (by omega);have z:=vh (c%16) (by omega) (by omega);have u:bits .and A0 c 15=c%16:=ahs c d (by omega);have j:0<=c / 16:=by omega
 have k:c / 16<16:=by omega
 have l:0<=c%16:=by omega
 have m:c%16<16:=by omega
 go_in;go_wp2_with fail;go_region_held3 (fun b=>True) (trivial) ((refine yA (by rfl) _ _ (by rfl) base v n a (by rfl) i f h [92,120,_,_] 4 (by rfl) (by decide) (by decide) _ (by rfl) (by rfl) ?_;intro g cap w1 x t))
 all_goals
  go_wp2;go_ret;exact⟨_,_,rfl,by assumption,by assumption⟩
theorem aaF(v:Y)(n base:Nat)(a:List Int)(c:Int)(o:126<c)(d:c<256)(p:(c==10)=U)(q:(c==9)=U)(r:(c==34)=U)(s:(c==92)=U)(w:N)(i:w.ownsRow base 5 1 v n (B8 a))(f:base<=w.heap.size)(h:n<=100000):
  Z M 74 #[v,S A0 c] w fun e b=>∃g cap,e= T (W (O ⟨g,0,R⟩) (n+4) cap)/\
   b.ownsRow base 5 1 (W (O ⟨g,0,R⟩) (n+4) cap) (n+4) (B8 (a++[92,120,qo (c / 16),qo (c%16)]))/\X base w b:=by
 have y:=vh (c / 16) (by omega) (by omega);have z:=vh (c%16) (by omega) (by omega);have u:bits .and A0 c 15=c%16:=ahs c (by omega) d;have j:0<=c / 16:=by omega
 have k:c / 16<16:=by omega
 have l:0<=c%16:=by omega
 have m:c%16<16:=by omega
 go_in;go_wp2_with fail;go_region_held3 (fun b=>True) (trivial) ((refine yA (by rfl) _ _ (by rfl) base v n a (by rfl) i f h [92,120,_,_] 4 (by rfl) (by decide) (by decide) _ (by rfl) (by rfl) ?_;intro g cap w1 x t))
 all_goals
  go_wp2;go_ret;exact⟨_,_,rfl,by assumption,by assumption⟩
theorem ahu(v:Y)(n base:Nat)(a:List Int)(c:Int)(l:0<=c)(m:c<256)(w:N)(i:w.ownsRow base 5 1 v n (B8 a))(f:base<=w.heap.size)(h:n<=100000):
  Z M 74 #[v,S A0 c] w fun e k=>∃g cap,e= T (W (O ⟨g,0,R⟩) (n+(By c).length) cap)/\
   k.ownsRow base 5 1 (W (O ⟨g,0,R⟩) (n+(By c).length) cap) (n+(By c).length) (B8 (a++By c))/\X base w k:=by
 by_cases b:c=10
 ·subst b;exact ajp v n base a w i f h
 by_cases d:c=9
 ·subst d;exact ahp v n base a w i f h
 by_cases j:c=34\/c=92
 ·have:By c=[92,c]:=by unfold By;rw[aa b,aa d,ab j]
  rw[this];exact ahq v n base a c j w i f h
 by_cases e4:c<32\/126<c
 ·have:By c=[92,120,qo (c / 16),qo (c%16)]:=by unfold By;rw[aa b,aa d,aa j,ab e4]
  rw[this];rcases e4 with e4|e4
  ·exact aht v n base a c l e4 (by simp[b]) (by simp[d]) (by simp;omega) (by simp;omega) w i f h
  ·exact aaF v n base a c e4 m (by simp[b]) (by simp[d]) (by simp;omega) (by simp;omega) w i f h
 ·have:By c=[c]:=by unfold By;rw[aa b,aa d,aa j,aa e4]
  rw[this];exact aeA v n base a c (by omega) (by omega) (by simp;omega) (by simp;omega) w i f h
def ga(a:List Int):ByteArray:=a.foldl (fun c b=>c.push (UInt8.ofNat b.toNat)) A1
theorem je{w:N}{base g n cap:Nat}{b:List Int}(c:w.ownsRow base 5 1 (.slice (O ⟨g,0,R⟩) n cap) n (B8 b)):
  (convert 22 9 (.slice (O ⟨g,0,R⟩) n cap)).run M w= .ok (.string (ga b)) w:=by
 rw[CD w 22 9 5 _ _ _ Tryz.underlying22 Tryz.underlying5 Tryz.underlying9];have f:=tJ c;refine run_bytesToString w _ n cap b ?_;rcases c.2 with⟨d,_⟩|⟨o,l,m,i,_,e,_,_,p,h⟩
 ·cases d
 ·cases i;have:=run_loadCells_list (P:=M) w ⟨g,0,R⟩ (B8 b) (fun j k a=>by
   refine Ax e j k ?_;rw[<-h]at a;rw[lc]at a;split at a
   ·exact a
   ·cases a)
  rw[GD,f]at this;exact this
theorem oI(w:N)(c:Int):(w.alloc (.cells #[S A0 c] 5)).ownsRow w.heap.size 5 1 (W (O ⟨w.heap.size,0,R⟩) 1 1) 1 (B8 [c]):=
 ⟨rfl,.inr ⟨w.heap.size,1,#[S A0 c],rfl,ah _,aw w _,ah _,by unfold A5;omega,rfl,rfl⟩⟩
theorem aeB(c:Int):(By c).length<=4:=by
 unfold By;split
 ·decide
 split
 ·decide
 split
 ·simp
 split<;>simp
def qt(s:ByteArray)(k:Nat):List Int:=34::(s.data.toList.take k).flatMap fun a=>By (a.toNat:Int)
theorem CF(s:ByteArray)(k:Nat)(h:k<s.size):qt s (k+1)=qt s k++By (s[k].toNat:Int):=by
 unfold qt;rw[List.take_succ_eq_append_getElem (by simpa using h)];simp only[mj,rt,List.flatMap_nil,dA,fF];rfl
theorem CG(s:ByteArray):∀k,k<=s.size->(qt s k).length<=1+4*k
 |0,_=>by simp[qt]
 |k+1,h=>by
  have:=CG s k (by omega);have a:=aeB (s[k].toNat:Int);rw[CF s k (by omega),aC];omega
def yK(s:ByteArray):List Int:=qt s s.size++[34]
theorem Kn(s:ByteArray)(v:s.size<=4000)(w:N):
  Z M 41 #[Q s] w fun e i=>e= T (Q (ga (yK s)))/\X w.heap.size w i:=by
 go_in;go_wp2_with fail;go_loopw [3,11] (fun r h wr=>∃a b:Nat,a<=s.size/\h= S V a/\wr.ownsRow w.heap.size 5 1 r b (B8 (qt s a))/\X w.heap.size w wr) (fun _ h _=>s.size-(A6 h).toNat)
 case atStart=>exact⟨0,1,be _,rfl,oI w 34,(aj _ _).alloc (ah _) _⟩
 case round=>
  obtain⟨a,b,l,rfl,f,c⟩:=hrel;have n:=tJ f;have p:=CG s a l;have u:b<=20000:=by omega
  clear n p;by_cases o:a<s.size
  ·have q:Hid (qt s (a+1)=qt s a++By (s[a].toNat:Int)):=CF s a o;have t:(s[a].toNat:Int)<256:=by have:=s[a].toNat_lt;omega
   go_wp2_with (go_at_call 74;refine(ahu _ b w.heap.size (qt s a) _ (by omega) (by omega) _ f c.size (by omega)).mono ?_;rintro e i ⟨k,j,rfl,g,d⟩);go_roundw
   case rel=>exact⟨a+1,_,by omega,by go_num,by rw[q.out];exact g,c.trans d⟩
   case measure=>simp[A6];omega
  ·have m:a=s.size:=by omega
   subst m;go_wp2_with (at_builtin;refine gE rfl (.tmp 20) (.tmp 21) rfl w.heap.size _ b (qt s s.size) rfl f c.size (by omega) [34] 1 rfl (by decide) (by decide) _ rfl rfl ?_;intro k j w1 g d;have x:=je g);go_ret;exact⟨rfl,c.trans d⟩
def Code(base:Nat)(w:N)(f:Option Addr)(d:Nat):Prop:=
 d=0\/∃a e,f=O ⟨a,e,R⟩/\a<base/\∀c,c<d->∃b:Int,0<=b/\b<256/\w.cell? ⟨a,e+c,R⟩=O (S A0 b)
theorem Code.below{base:Nat}{w g:N}{a:Option Addr}{e:Nat}(h:Code base w a e)(j:X base w g):Code base g a e:=by
 rcases h with h|⟨b,f,i,c,k⟩
 ·exact .inl h
 ·exact .inr ⟨b,f,i,c,fun d l=>by obtain⟨n,z0,o,m⟩:=k d l;exact⟨n,z0,o,(j.cell (p:=⟨b,f+d,R⟩) c).trans m⟩⟩
def eL(b:Nat)(w:N)(a:Option Addr)(c cap:Nat)(p q r:Int):Prop:=
 w.heap[b]?=O (.cells #[W a c cap,S V p,S A7 q,S V r] 50 (0,0))
theorem vq{b:Nat}{w:N}{a:Option Addr}{c cap:Nat}{p q r:Int}(h:eL b w a c cap p q r):
  w.cell? ⟨b,0,R⟩=O (W a c cap)/\w.cell? ⟨b,1,R⟩=O (S V p)/\w.cell? ⟨b,2,R⟩=O (S A7 q)/\w.cell? ⟨b,3,R⟩=O (S V r)/\
  w.frozen? ⟨b,1,R⟩=U/\w.frozen? ⟨b,2,R⟩=U/\w.frozen? ⟨b,3,R⟩=U:=by
 unfold eL at h;refine⟨by rw[az _ _ _ _ _ _ h];rfl,by rw[az _ _ _ _ _ _ h];rfl,by rw[az _ _ _ _ _ _ h];rfl,by rw[az _ _ _ _ _ _ h];rfl,du _ _ _ _ _ h,du _ _ _ _ _ h,du _ _ _ _ _ h⟩
theorem eL.set1{b:Nat}{w:N}{a:Option Addr}{c cap:Nat}{p q r:Int}(h:eL b w a c cap p q r)(x:Int):eL b (w.setCell ⟨b,1,R⟩ (S V x)) a c cap x q r:=cD w b 1 _ _ _ h
theorem eL.set2{b:Nat}{w:N}{a:Option Addr}{c cap:Nat}{p q r:Int}(h:eL b w a c cap p q r)(x:Int):eL b (w.setCell ⟨b,2,R⟩ (S A7 x)) a c cap p x r:=cD w b 2 _ _ _ h
theorem eL.set3{b:Nat}{w:N}{a:Option Addr}{c cap:Nat}{p q r:Int}(h:eL b w a c cap p q r)(x:Int):eL b (w.setCell ⟨b,3,R⟩ (S V x)) a c cap p q x:=cD w b 3 _ _ _ h
theorem eL.drewN{b:Nat}{w:N}{a:Option Addr}{c cap:Nat}{p q r:Int}(h:eL b w a c cap p q r)(n:Nat):eL b (w.drewN n) a c cap p q r:=h
theorem eL.lt{b:Nat}{w:N}{a:Option Addr}{c cap:Nat}{p q r:Int}(h:eL b w a c cap p q r):b<w.heap.size:=ax h
theorem tL(w:N)(b:Nat):w.grownBy w (O b):=⟨rfl,rfl,rfl,ah _,fun _ _ _=>rfl⟩
theorem Eb{w0 w:N}{b:Nat}(h:w0.grownBy w (O b))(n:Nat):w0.grownBy (w.drewN n) (O b):=⟨h.os,h.tape,h.output,h.size,h.block⟩
theorem vv{w0 w:N}{b:Nat}(h:w0.grownBy w (O b))(i:Nat)(v:Y):w0.grownBy (w.setCell ⟨b,i,R⟩ v) (O b):=
 ⟨h.os,h.tape,h.output,by simpa [World.setCell] using h.size,fun e d a=>by rw[bh _ _ _ _ (fun c=>a (by rw[c]))];exact h.block e d a⟩
theorem Ec{x y z:N}{b:Nat}(h:x.grownBy y (O b))(k:y.grownBy z (O b)):x.grownBy z (O b):=
 ⟨k.os.trans h.os,k.tape.trans h.tape,k.output.trans h.output,bz h.size k.size,fun d a c=>(k.block d (gh a h.size) c).trans (h.block d a c)⟩
theorem ua{x y:N}{b base:Nat}(h:x.grownBy y (O b))(c:base<=b)(d:base<=x.heap.size):X base x y:=
 (aj base x).grown h d (fun e a=>by cases a;exact c)
theorem ako(x:Int):0<=wrap64 (bits .and A7 (IntKind.u64.wrap x / 1099511627776) 255)/\wrap64 (bits .and A7 (IntKind.u64.wrap x / 1099511627776) 255)<256:=by
 have b:IntKind.u64.wrap x=x%18446744073709551616:=by simp[IntKind.wrap,IntKind.bits,IntKind.signed]
 have f:0<=IntKind.u64.wrap x / 1099511627776:=by rw[b];omega
 have g:IntKind.u64.wrap x / 1099511627776<2 ^ 24:=by rw[b];omega
 have h:∀a:Int,0<=a->a<2 ^ 24->IntKind.u64.wrap a=a:=fun a i j=>by
  have c:IntKind.u64.wrap a=a%18446744073709551616:=by simp[IntKind.wrap,IntKind.bits,IntKind.signed]
  rw[c];omega
 have:=bits_mask A7 24 (by decide) h 8 (by decide) _ f g;have d:((2:Int) ^ 8-1)=255:=by decide
 rw[d]at this;have e:((2:Int) ^ 8)=256:=by decide
 rw[this,e];unfold wrap64;omega
theorem aeC(b base:Nat)(w:N)(c d a cap:Nat)(p q r:Int)(f:eL b w (O ⟨c,d,R⟩) a cap p q r)(u:0<=p)(s:p<a)(t:a<=1048576)
  (z:Int) (z0:0<=z) (x:z<256) (v:w.cell? ⟨c,d+p.toNat,R⟩=O (S A0 z)):
  Z M 109 #[A3 (O ⟨b,0,R⟩)] w fun e g=>e= T (S V z)/\∃h,eL b g (O ⟨c,d,R⟩) a cap (p+1) h r/\w.grownBy g (O b):=by
 obtain⟨i,j,k,l,m,n,o⟩:=vq f;go_in;go_wp2;go_quiet (fail)
 go_wp2;go_quiet (fail)
 go_wp2;go_ret;exact⟨rfl,_,((f.drewN _).set1 _).set2 _,vv (vv (Eb (tL w b) _) _ _) _ _⟩
theorem aaG(b base:Nat)(w:N)(c:Option Addr)(a cap:Nat)(p q r:Int)(f:eL b w c a cap p q r)(u:0<=p)(v:p<=1000000000)(s:¬p<a)(t:a<=1048576):
  Z M 109 #[A3 (O ⟨b,0,R⟩)] w fun e g=>∃z:Int,0<=z/\z<256/\e= T (S V z)/\∃h,eL b g c a cap (p+1) h r/\w.grownBy g (O b):=by
 obtain⟨i,j,k,l,m,n,o⟩:=vq f;go_in;go_wp2;go_quiet (fail)
 go_wp2;go_ret;have d:=ako (IntKind.u64.wrap (q*6364136223846793005)+1442695040888963407);exact⟨_,d.1,d.2,rfl,_,((f.drewN _).set2 _).set1 _,vv (vv (Eb (tL w b) _) _ _) _ _⟩
theorem ub(b base:Nat)(w:N)(c:Option Addr)(a cap:Nat)(p q r:Int)(f:eL b w c a cap p q r)(l:Code base w c a)(i:0<=p)(o:p<=1000000000)(h:a<=1048576):
  Z M 109 #[A3 (O ⟨b,0,R⟩)] w fun e d=>∃z:Int,0<=z/\z<256/\e= T (S V z)/\∃v,eL b d c a cap (p+1) v r/\w.grownBy d (O b):=by
 by_cases g:p<a
 ·rcases l with x|⟨k,u,rfl,y,m⟩
  ·omega
  ·obtain⟨z,z0,j,t⟩:=m p.toNat (by omega);exact(aeC b base w k u a cap p q r f i g h z z0 j t).mono fun e d ⟨n,s⟩=>⟨z,z0,j,n,s⟩
 ·exact aaG b base w c a cap p q r f i o g h
theorem Ed(k:Int)(o:2<=k)(s:k<=200)(b base:Nat)(w:N)(c:Option Addr)(a cap:Nat)(p q r:Int)(h:eL b w c a cap p q r)(j:Code base w c a)(m:0<=p)(n:p<=1000000000)(l:a<=1048576):
  Z M 58 #[A3 (O ⟨b,0,R⟩),S V k] w fun e f=>∃z:Int,0<=z/\z<k/\e= T (S V z)/\∃d,eL b f c a cap (p+1) d r/\w.grownBy f (O b):=by
 go_in;go_wp2_with (go_at_call 109;refine(ub b base w c a cap p q r h j m n l).mono ?_;rintro e f ⟨z,z0,t,rfl,d,i,g⟩);go_ret;exact⟨z%k,Int.emod_nonneg _ (by omega),Int.emod_lt_of_pos _ (by omega),rfl,d,i,g⟩
theorem eL.below{a b:Nat}{w e:N}{c:Option Addr}{d cap:Nat}{p q r:Int}(h:eL b w c d cap p q r)(f:X a w e)(g:b<a):eL b e c d cap p q r:=
 (f.block b g).trans h
theorem yL(w:N):(convert 22 9 (.slice R 0 0)).run M w= .ok (.string A1) w:=by
 rw[CD w 22 9 5 _ _ _ Tryz.underlying22 Tryz.underlying5 Tryz.underlying9];simp[Conv.bytesToString,Sem.run_pure]
theorem Ko(a:List Int):∀r:ByteArray,(a.foldl (fun r n=>r.push (UInt8.ofNat n.toNat)) r).size=r.size+a.length:=by
 induction a with
 |nil=>intro r;rfl
 |cons c a b=>intro r;simp only[rx,di];rw[b,ByteArray.size_push];omega
theorem Bz(a:List Int):(ga a).size=a.length:=by
 unfold ga;rw[Ko];simp
theorem ahv{w:N}{base e size:Nat}{v:Y}{n:Nat}{a:List Y}{b:Nat}(h:w.ownsRow base e size v n a)(c:b<base):v.ownBlock=R\/v.ownBlock≠O b:=by
 right;intro e;have:=(h.lt b e).1;omega
theorem ahw{x y z:N}{b:Nat}(h:x.grownBy y (O b))(k:X x.heap.size y z):x.grownBy z (O b):=
 ⟨k.os.trans h.os,k.tape.trans h.tape,k.output.trans h.output,bz h.size k.size,fun c a d=>(k.block c a).trans (h.block c a d)⟩
theorem Kr(n:Nat)(a2:n<=100)(b base:Nat)(w:N)(h:Option Addr)(g cap:Nat)(p q r:Int)(G:base<=b)(H:base<=w.heap.size)(x:eL b w h g cap p q r)(J:Code base w h g)(af:0<=p)(a3:p<=900000000)(K:g<=1048576):
  Z M 195 #[A3 (O ⟨b,0,R⟩),S V n] w fun e A=>∃s:ByteArray,s.size<=n/\e= T (Q s)/\∃a f,0<=a/\a<=p+n/\eL b A h g cap a f r/\w.grownBy A (O b):=by
 have v:=x.lt;go_in;go_wp2_with fail;go_loopw [1,5] (fun t an wr=>∃(d c:Nat) (o:List Int) (a f:Int),t= S V d/\d+c=n/\wr.ownsRow w.heap.size 5 1 an c (B8 o)/\eL b wr h g cap a f r/\0<=a/\a<=p+c/\w.grownBy wr (O b)) (fun t _ _=>(A6 t).toNat)
 case atStart=>exact⟨n,0,[],p,q,rfl,rfl,bk _ _ _ _,x,af,by omega,tL w b⟩
 case round=>
  obtain⟨d,c,o,a,f,rfl,z,j,k,m,a4,i⟩:=hrel;have y:=tJ j;have a5:=i.size;have C:=aq z;have ar:c<=n:=by omega
  have a1:d<=n:=by omega
  have B:=aq y;clear z y;by_cases av:0<d
  ·go_wp2_with (first
    |(go_at_call 109;refine(ub b base wr h g cap a f r k (J.below (ua i G H)) m (by omega) K).mono ?_;rintro e w1 ⟨a9,z0,bb,rfl,am,I,l⟩;have L:=j.kept l (ahv j v);have a6:=l.size)
    |(at_builtin;refine gE rfl (.tmp 10) (.tmp 14) rfl w.heap.size _ c o rfl L (by omega) (by omega) [_] 1 rfl (by decide) (by decide) _ rfl rfl ?_;intro F E a8 ad u))
   go_roundw
   case rel=>exact⟨d-1,c+1,_,a+1,am,by go_num,by have:=C.out;omega,ad,I.below u v,by omega,by omega,ahw (Ec i l) u⟩
   case measure=>simp[A6];omega
  ·obtain rfl:d=0:=by omega
   rcases j.2 with⟨rfl,ap⟩|⟨F,E,ao,rfl,a7⟩
   ·have ak:=yL;go_wp2;go_ret;exact⟨_,by simp,rfl,a,f,m,by omega,k,i⟩
   ·have ak:=je j;go_wp2;go_ret;exact⟨_,by rw[Bz];have:=B.out;omega,rfl,a,f,m,by omega,k,i⟩
def Ten(n:Nat):Prop:=n=10\/n=20\/n=40\/n=80\/n=160\/n=320\/n=640\/n=1280\/n=2560\/n=5120
theorem Ks{t:ByteArray}(h:Ten t.size)(a:t.size<4000):Ten (t++t).size:=by
 rw[ag];unfold Ten at *;omega
theorem aeD{n:Nat}(h:Ten n)(a:¬n<4000):4001<=n:=by unfold Ten at h;omega
theorem aeE{n:Nat}(h:Ten n):n<=5120:=by unfold Ten at h;omega
theorem aeF{n:Nat}(h:Ten n):10<=n:=by unfold Ten at h;omega
def akp:Y->Nat| .string t=>t.size|_=>0
def CH(c:Int):Bool:=decide (c=32\/c=9\/c=13)
def cK(c:Int):Bool:=decide ((97<=c/\c<=122)\/(65<=c/\c<=90)\/c=95)
def dl(c:Int):Bool:=decide (48<=c/\c<=57)
theorem lq(c:Int)(w:N):Z M 183 #[S A0 c] w fun e d=>e= T (.bool (dl c))/\w=d:=by
 rcases(show c<48\/57<c\/(48<=c/\c<=57) by omega) with h|h|⟨f,b⟩
 ·have e:dl c=U:=by simp[dl];omega
  rw[e];clear e;have a:¬48<=c:=by omega
  go_in;go_wp2;go_ret;exact⟨rfl,rfl⟩
 ·have e:dl c=U:=by simp[dl];omega
  rw[e];clear e;have a:¬c<=57:=by omega
  have b:48<=c:=by omega
  go_in;go_wp2;go_ret;exact⟨rfl,rfl⟩
 ·have e:dl c=A4:=by simp[dl];omega
  rw[e];clear e;go_in;go_wp2;go_ret;exact⟨rfl,rfl⟩
theorem uc(c:Int)(w:N):Z M 196 #[S A0 c] w fun e j=>e= T (.bool (cK c))/\w=j:=by
 rcases(show(97<=c/\c<=122)\/(65<=c/\c<=90)\/c=95\/c<65\/(90<c/\c<97/\c≠95)\/122<c by omega) with⟨f,g⟩|⟨f,g⟩|rfl|h|⟨f,g,l⟩|h
 ·have e:cK c=A4:=by simp[cK];omega
  rw[e];clear e;go_in;go_wp2;go_ret;exact⟨rfl,rfl⟩
 ·have e:cK c=A4:=by simp[cK];omega
  rw[e];clear e;have a:¬97<=c:=by omega
  go_in;go_wp2;go_ret;exact⟨rfl,rfl⟩
 ·go_in;go_wp2;go_ret;exact⟨rfl,rfl⟩
 ·have e:cK c=U:=by simp[cK];omega
  rw[e];clear e;have a:¬97<=c:=by omega
  have b:¬65<=c:=by omega
  have d:(c==95)=U:=by simp;omega
  go_in;go_wp2;go_ret;exact⟨rfl,rfl⟩
 ·have e:cK c=U:=by simp[cK];omega
  rw[e];clear e;have a:¬97<=c:=by omega
  have b:65<=c:=by omega
  have i:¬c<=90:=by omega
  have d:(c==95)=U:=by simp;omega
  go_in;go_wp2;go_ret;exact⟨rfl,rfl⟩
 ·have e:cK c=U:=by simp[cK];omega
  rw[e];clear e;have a:97<=c:=by omega
  have b:¬c<=122:=by omega
  have i:65<=c:=by omega
  have k:¬c<=90:=by omega
  have d:(c==95)=U:=by simp;omega
  go_in;go_wp2;go_ret;exact⟨rfl,rfl⟩
def iy(c:Int):Int:=if 48<=c/\c<=57 then c-48 else if 97<=c/\c<=102 then c-87 else -1
def aK(s:ByteArray)(i:Nat):Int:=if h:i<s.size then(s[i].toNat:Int) else -1
theorem sC{s:ByteArray}{i:Nat}(h:i<s.size):0<=aK s i/\aK s i<256:=by
 unfold aK;rw[oe h];have:=s[i].toNat_lt;omega
theorem er{s:ByteArray}{i:Nat}(h:¬i<s.size):aK s i= -1:=by unfold aK;rw[dif_neg h]
theorem dL{s:ByteArray}{i:Nat}(h:i<s.size)(w:N):(A2 9 (Q s) (S V (i:Int))).run M w= .ok (S A0 (aK s i)) w:=by
 unfold aK;rw[oe h];go_simp
theorem Ee{s:ByteArray}{i:Nat}(h:i+1<s.size)(w:N):(A2 9 (Q s) (S V ((i:Int)+1))).run M w= .ok (S A0 (aK s (i+1))) w:=by
 have:=dL h w;have a:((i+1:Nat):Int)=(i:Int)+1:=by omega
 rw[a]at this;exact this
theorem ry(c:Int):iy c<16:=by unfold iy;split;omega;split<;>omega
def Ef(s:ByteArray)(p:Nat):Int×Nat×Bool:=
 if iy (aK s p)<0 then(0,p,U) else if iy (aK s (p+1))<0 then(0,p+1,U) else(iy (aK s p)*16+iy (aK s (p+1)),p+1+1,A4)
def lr(s:ByteArray)(p:Nat):Int×Nat×Bool:=
 if aK s p=110 then(10,p+1,A4) else if aK s p=116 then(9,p+1,A4) else if aK s p=34\/aK s p=92 then(aK s p,p+1,A4) else if aK s p=120 then Ef s (p+1) else(0,p,U)
theorem IK(s:ByteArray)(p:Nat)(h:p<=s.size):p<=(Ef s p).2.1/\(Ef s p).2.1<=s.size/\0<=(Ef s p).1/\(Ef s p).1<256:=by
 have b:iy (-1)= -1:=by decide
 have g:=ry (aK s p);have j:=ry (aK s (p+1));unfold Ef;split
 ·simp;omega
 ·rename_i c;have e:p<s.size:=by
   rcases cA p s.size with h|h
   ·exact h
   ·have a:=er (s:=s) (i:=p) (by omega);rw[a,b]at c;omega
  split
  ·simp;omega
  ·rename_i d;have f:p+1<s.size:=by
    rcases cA (p+1) s.size with h|h
    ·exact h
    ·have a:=er (s:=s) (i:=p+1) (by omega);rw[a,b]at d;omega
   simp;omega
theorem aeG(s:ByteArray)(p:Nat)(h:p<=s.size):p<=(lr s p).2.1/\(lr s p).2.1<=s.size/\0<=(lr s p).1/\(lr s p).1<256:=by
 unfold lr;by_cases a:p<s.size
 ·have c:=sC a;split
  ·simp;omega
  split
  ·simp;omega
  split
  ·simp;omega
  split
  ·have:=IK s (p+1) (by omega);omega
  ·simp;omega
 ·have b:=er (s:=s) (i:=p) a;rw[b];simp;omega
theorem aaH(s:ByteArray)(p:Nat)(h:p<=s.size)(c:(lr s p).2.2=A4):p+1<=(lr s p).2.1:=by
 revert c;unfold lr;split
 ·simp
 split
 ·simp
 split
 ·simp
 split
 ·rename_i a;have d:p<s.size:=by
   rcases cA p s.size with h|h
   ·exact h
   ·have b:=er (s:=s) (i:=p) (by omega);rw[b]at a;omega
  intro _;exact(IK s (p+1) (by omega)).1
 ·simp
def fy(b:Nat)(w:N)(k a t c n:Int)(x:ByteArray):Prop:=
 w.heap[b]?=O (.cells #[S V k,S V a,S V t,S V c,S V n,Q x] 109 (0,0))
theorem da{b:Nat}{w:N}{k a t c n:Int}{x:ByteArray}(h:fy b w k a t c n x):
  w.cell? ⟨b,0,R⟩=O (S V k)/\w.cell? ⟨b,1,R⟩=O (S V a)/\w.cell? ⟨b,2,R⟩=O (S V t)/\w.cell? ⟨b,3,R⟩=O (S V c)/\w.cell? ⟨b,4,R⟩=O (S V n)/\w.cell? ⟨b,5,R⟩=O (Q x)/\
  (∀j,w.frozen? ⟨b,j,R⟩=U):=by
 unfold fy at h;exact⟨by rw[az _ _ _ _ _ _ h];rfl,by rw[az _ _ _ _ _ _ h];rfl,by rw[az _ _ _ _ _ _ h];rfl,by rw[az _ _ _ _ _ _ h];rfl,by rw[az _ _ _ _ _ _ h];rfl,by rw[az _ _ _ _ _ _ h];rfl,fun j=>du _ _ _ _ _ h⟩
theorem fy.other{b:Nat}{w:N}{k c t d n:Int}{x:ByteArray}(h:fy b w k c t d n x){a:Addr}(e:b≠a.block)(v:Y):fy b (w.setCell a v) k c t d n x:=(bh w a b v e).trans h
theorem fy.drewN{b:Nat}{w:N}{k a t c n:Int}{x:ByteArray}(h:fy b w k a t c n x)(q:Nat):fy b (w.drewN q) k a t c n x:=h
theorem fy.below{a b:Nat}{w e:N}{k c t d n:Int}{x:ByteArray}(h:fy b w k c t d n x)(f:X a w e)(g:b<a):fy b e k c t d n x:=(f.block b g).trans h
theorem fy.setKind{b:Nat}{w:N}{k a t c n:Int}{x:ByteArray}(h:fy b w k a t c n x)(y:Int):fy b (w.setCell ⟨b,0,R⟩ (S V y)) y a t c n x:=cD w b 0 _ _ _ h
theorem fy.setTo{b:Nat}{w:N}{k a t c n:Int}{x:ByteArray}(h:fy b w k a t c n x)(y:Int):fy b (w.setCell ⟨b,2,R⟩ (S V y)) k a y c n x:=cD w b 2 _ _ _ h
def iu(s:ByteArray):Nat->Nat->List Int->Bool×Nat×List Int
 |0,p,a=>(U,p,a)
 |f+1,p,a=>if s.size<=p then(U,p,a) else if aK s p=34 then(A4,p+1,a) else if aK s p=10 then(U,p,a) else if aK s p=92 then
   (if(lr s (p+1)).2.2=A4 then iu s f (lr s (p+1)).2.1 (a++[(lr s (p+1)).1]) else(U,(lr s (p+1)).2.1,a))
  else iu s f (p+1) (a++[aK s p])
theorem ud(s:ByteArray):∀(f p:Nat)(a:List Int),p<=s.size->p<=(iu s f p a).2.1/\(iu s f p a).2.1<=s.size/\(iu s f p a).2.2.length<=a.length+(s.size-p)
 |0,p,a,h=>by simp[iu];omega
 |f+1,p,a,h=>by
  unfold iu;split
  ·simp;omega
  split
  ·simp;omega
  split
  ·simp;omega
  split
  ·have e:=aeG s (p+1) (by omega);split
   ·rename_i b;have c:=aaH s (p+1) (by omega) b;have:=ud s f (lr s (p+1)).2.1 (a++[(lr s (p+1)).1]) e.2.1;simp at this⊢;omega
   ·simp;omega
  ·have:=ud s f (p+1) (a++[aK s p]) (by omega);simp at this⊢;omega
structure Eg (b t:Nat) (w w':N):Prop where
 os:w'.os=w.os
 tape:w'.tape=w.tape
 output:w'.output=w.output
 size:w.heap.size<=w'.heap.size
 block:∀k,k<w.heap.size->k≠b->k≠t->w'.heap[k]?=w.heap[k]?
theorem Eg.refl(b t:Nat)(w:N):Eg b t w w:=⟨rfl,rfl,rfl,ah _,fun _ _ _ _=>rfl⟩
theorem Eg.trans{b t:Nat}{x y z:N}(h:Eg b t x y)(k:Eg b t y z):Eg b t x z:=
 ⟨k.os.trans h.os,k.tape.trans h.tape,k.output.trans h.output,bz h.size k.size,fun e d a c=>(k.block e (gh d h.size) a c).trans (h.block e d a c)⟩
theorem Eg.drewN{b t:Nat}{x y:N}(h:Eg b t x y)(n:Nat):Eg b t x (y.drewN n):=⟨h.os,h.tape,h.output,h.size,h.block⟩
theorem Eg.drew{b t:Nat}{x y:N}(h:Eg b t x y):Eg b t x y.drew:=⟨h.os,h.tape,h.output,h.size,h.block⟩
theorem Eg.below{b t:Nat}{x y z:N}(h:Eg b t x y)(k:X x.heap.size y z):Eg b t x z:=
 ⟨k.os.trans h.os,k.tape.trans h.tape,k.output.trans h.output,bz h.size k.size,fun c a d e=>(k.block c a).trans (h.block c a d e)⟩
theorem Eg.to{b t base:Nat}{x y:N}(h:Eg b t x y)(c:base<=b)(f:base<=t)(e:base<=x.heap.size):X base x y:=
 ⟨h.os,h.tape,h.output,h.size,fun a d=>h.block a (by omega) (by omega) (by omega)⟩
open Go.Maps Go.WideMaps
def eE:Array Y:=#[Q ⟨#[97,110,100]⟩,Q ⟨#[98,114,101,97,107]⟩,Q ⟨#[99,97,116,99,104]⟩,Q ⟨#[99,111,110,115,116]⟩,Q ⟨#[100,101,102,101,114]⟩,Q ⟨#[101,108,105,102]⟩,Q ⟨#[101,108,115,101]⟩,Q ⟨#[102,97,108,115,101]⟩,Q ⟨#[102,110]⟩,Q ⟨#[102,111,114]⟩,Q ⟨#[105,102]⟩,Q ⟨#[105,110]⟩,Q ⟨#[108,101,116]⟩,Q ⟨#[110,101,120,116]⟩,Q ⟨#[110,105,108]⟩,Q ⟨#[110,111,116]⟩,Q ⟨#[111,114]⟩,Q ⟨#[114,101,116,117,114,110]⟩,Q ⟨#[116,104,114,111,119]⟩,Q ⟨#[116,114,117,101]⟩,Q ⟨#[116,114,121]⟩,Q ⟨#[119,104,105,108,101]⟩]
def mF(k:Nat):ByteArray:=match eE[k]? with|some (.string a)=>a|_=>A1
theorem akq(k:Nat)(a:k<22)(w:N):(A2 129 (.agg eE) (S V (k:Int))).run M w= .ok (Q (mF k)) w:=by
 rcases(show k=0\/k=1\/k=2\/k=3\/k=4\/k=5\/k=6\/k=7\/k=8\/k=9\/k=10\/k=11\/k=12\/k=13\/k=14\/k=15\/k=16\/k=17\/k=18\/k=19\/k=20\/k=21 by omega) with rfl|rfl|rfl|rfl|rfl|rfl|rfl|rfl|rfl|rfl|rfl|rfl|rfl|rfl|rfl|rfl|rfl|rfl|rfl|rfl|rfl|rfl;all_goals kernel_rfl
theorem Eh:∀k:Fin 22,(mF k.val).size<=100:=by decide
def GE{H:Type}:Nat->DataW H
 |0=> .map []
 |k+1=>(GE k).put (.string (mF k).data.toList) (.lit (.int .i64 (10+(k:Int))))
theorem ajq:Keyed M 9:=string_keyed Tryz.underlying9
theorem AF{H:Type}(w:N)(fr:Nat×Nat)(f:TypeId)(g:w.heap[0]?=O (.cells eE f fr)):
  Z M 33 #[] w fun e i=>e= .returned (.map (O w.heap.size))/\i.ownsMap M 9 (plainElem (H:=H) M 3) w.heap.size 22 (GE 22)/\X w.heap.size w i:=by
 have b:0<w.heap.size:=ax g;have r:∀w:N,(Instr.makeMap 90 (O (.int .i64 22))).run M w= .ok (.map (O w.heap.size)) (w.alloc (.map #[] 0)):=fun w=>by kernel_rfl
 have j:(w.alloc (.map #[] 0)).heap[0]?=O (.cells eE f fr):=(dr w _ _ b).trans g;go_in;go_wp2_with (refine wpList_load_row rfl 129 _ rfl 0 rfl f _ fr _ j Tryz.underlying129 rfl (by kernel_rfl) ?_);go_loopw [6] (fun d wr=>∃a:Nat,a<=22/\d= .int .i64 a/\wr.ownsMap M 9 (plainElem (H:=H) M 3) w.heap.size a (GE a)/\X w.heap.size w wr) (fun d _=>22-(A6 d).toNat)
 case atStart=>exact⟨0,by omega,rfl,World.ownsMap_made _ _ _ _,(aj _ _).alloc (ah _) _⟩
 case round=>
  obtain⟨a,q,rfl,h,c⟩:=hrel;by_cases b:a<22
  ·have p:=fun w=>akq a b w;have s:(mF a).size<=100:=Eh ⟨a,b⟩;have m:keyOf M 9 (.string (mF a))=O (.string (mF a).data.toList):=keyOf_string_mk Tryz.underlying9 (by unfold A5;omega);have o:Hid (GE (H:=H) (a+1)=(GE a).put (.string (mF a).data.toList) (.lit (.int .i64 (10+(a:Int))))):=rfl;go_wp2_with (at_mapUpdate;refine wpList_mapUpdate_own _ rfl _ _ _ 90 rfl 9 3 ajq Tryz.underlying90 _ w.heap.size a _ rfl h (by unfold A5;omega) _ _ _ rfl rfl m _ [] (plainElem_int Tryz.underlying3 (WalkArith.wf_i64 (by omega))) ?_;intro w1 n k);go_roundw
   case rel=>exact⟨a+1,by omega,by go_num,by rw[o.out];exact n,c.grown k c.size (fun t l=>by cases l;exact ah _)⟩
   case measure=>simp[A6];omega
  ·obtain rfl:a=22:=by omega
   go_wp2;go_ret;exact⟨rfl,h,c⟩
