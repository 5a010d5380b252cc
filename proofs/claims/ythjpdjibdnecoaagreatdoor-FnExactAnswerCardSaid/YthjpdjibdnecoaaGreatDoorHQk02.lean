import Derived.WalkSpells
import Derived.Deep.RegionHeld3
import Derived.Deep.AppendLies
import Derived.BigQuiet
import Derived.OneCell
import Derived.Test.YthjpdjibdnecoaaGreatDoorHQk01
import Derived.Lib.Bytealg
set_option linter.all false
set_option maxRecDepth 100000
set_option maxHeartbeats 6400000
open Go.Proofs.Tryz renaming prog->M
open Go renaming World->N,Value->X,Calls->A0,maxLen->A9
open Go.Value renaming string->O,int->U,slice->Ax,bool->A5,tuple->A8
open Bool renaming false->S,true->A4
open Option renaming none->T,some->V
open Go.Ending renaming returned->W
open Go.IntKind renaming i64->Y,u8->A2
open ByteArray renaming empty->Z
open Go.RowKit renaming Below->A1,intOf->Bs
open Go.World renaming news_of_block->A3,setCell->A6
open Go.Instr renaming index->A7
namespace Go.Proofs.YthjpdjibdnecoaaGreatDoor
open Go.RowKit
theorem Tryz.info5:(Tryz.prog.info? 5).map (fun i=>(i.zero,i.size,i.bytes))=V (V (U A2 0),1,1):=by kernel_rfl
def B8(l:List Int):List X:=l.map (Value.int A2)
theorem acm(a b:List Int):B8 (a++b)=B8 a++B8 b:=by simp[B8]
theorem Jn(a:List Int):(B8 a).length=a.length:=by simp[B8]
theorem xl{w:N}{base n:Nat}{v:X}{l:List Int}(h:w.ownsRow base 5 1 v n (B8 l)):l.length=n:=by
 have:=h.1;simpa [B8] using this
theorem gL{f:Array Oper}{i:List Oper}{o:Oper}{a:Act}{Q:Exit->Act->N->Prop}{w:N}(p:o.guard=T)(s x:Operand)
  (z:o.op= .call {callee:= .builtin .append,args:=#[s,x],argTypes:=#[49,49]}) (base:Nat) (v:X) (n:Nat) (l:List Int) (B:a.eval s=v)
  (d:w.ownsRow base 5 1 v n (B8 l)) (j:base<=w.heap.size) (K:n<=100000) (c:List Int) (m:Nat) (u:c.length=m) (y:0<m) (J:m<=100) (cs:Array X) (k:cs.toList=B8 c)
  (C:a.eval x= .slice (V ⟨w.heap.size,0,T⟩) m m)
  (h:∀g cap b,b.ownsRow base 5 1 (.slice (V ⟨g,0,T⟩) (n+m) cap) (n+m) (B8 (l++c))->A1 base w b->wpList M f Q i (a.put o.dst (.slice (V ⟨g,0,T⟩) (n+m) cap)) b):
  wpList M f Q (o::i) a (w.alloc (.cells cs 5)):=by
 obtain⟨H,r,E,F,G⟩:=dt Tryz.info5;refine wpList_append_lies _ p s x 49 z base 5 H (.int .u8 0) 1 1 Tryz.underlying49 r E F G rfl (by decide) v n (B8 l) B (d.alloc _) ⟨w.heap.size,0,T⟩ m m (B8 c) C (by simp[B8,u])
  (by rw[<-k];exact A3 (fr:=(0,0)) (aj w _)) (by intro ad e;simp[B8]at e;obtain⟨L,_,rfl⟩:=e;rfl) y (by unfold A9;omega) (by omega) (by simp;omega) (w.heap.size+1) (by simp) ?_
 intro g cap b A q _ _;refine h g cap b (by rw[acm];exact A) (((ag base w).alloc j _).grown q (by simp;omega) (fun I t=>(d.lt I t).1))
def xm(a:Int):Int:=if a<10 then 48+a else 87+a
def Do(c:Int):List Int:=if c=10 then [92,110] else if c=9 then [92,116] else if c=34\/c=92 then [92,c] else if c<32\/126<c then [92,120,xm (c / 16),xm (c%16)] else [c]
theorem akt(v:X)(n base:Nat)(l:List Int)(w:N)(f:w.ownsRow base 5 1 v n (B8 l))(c:base<=w.heap.size)(d:n<=100000):
  A0 M 83 #[v,U A2 10] w fun e a=>∃g cap,e= W (Ax (V ⟨g,0,T⟩) (n+2) cap)/\
   a.ownsRow base 5 1 (Ax (V ⟨g,0,T⟩) (n+2) cap) (n+2) (B8 (l++[92,110]))/\A1 base w a:=by
 go_in;go_wp2_with (at_builtin;refine gL rfl (.tmp 8) (.tmp 9) rfl base v n l rfl f c d [92,110] 2 rfl (by decide) (by decide) _ rfl rfl ?_;intro g cap i h b);go_wp2;go_ret;exact⟨g,cap,rfl,h,b⟩
theorem aio(v:X)(n base:Nat)(l:List Int)(w:N)(f:w.ownsRow base 5 1 v n (B8 l))(c:base<=w.heap.size)(d:n<=100000):
  A0 M 83 #[v,U A2 9] w fun e a=>∃g cap,e= W (Ax (V ⟨g,0,T⟩) (n+2) cap)/\
   a.ownsRow base 5 1 (Ax (V ⟨g,0,T⟩) (n+2) cap) (n+2) (B8 (l++[92,116]))/\A1 base w a:=by
 go_in;go_wp2_with (at_builtin;refine gL rfl (.tmp 14) (.tmp 15) rfl base v n l rfl f c d [92,116] 2 rfl (by decide) (by decide) _ rfl rfl ?_;intro g cap i h b);go_wp2;go_ret;exact⟨g,cap,rfl,h,b⟩
theorem aip(v:X)(n base:Nat)(l:List Int)(c:Int)(j:c=34\/c=92)(w:N)(h:w.ownsRow base 5 1 v n (B8 l))(d:base<=w.heap.size)(f:n<=100000):
  A0 M 83 #[v,U A2 c] w fun e i=>∃g cap,e= W (Ax (V ⟨g,0,T⟩) (n+2) cap)/\
   i.ownsRow base 5 1 (Ax (V ⟨g,0,T⟩) (n+2) cap) (n+2) (B8 (l++[92,c]))/\A1 base w i:=by
 rcases j with rfl|rfl
 ·go_in;go_wp2_with (at_builtin;refine gL rfl (.tmp 24) (.tmp 26) rfl base v n l rfl h d f [92,34] 2 rfl (by decide) (by decide) _ rfl rfl ?_;intro g cap k b a);go_wp2;go_ret;exact⟨g,cap,rfl,b,a⟩
 ·go_in;go_wp2_with (at_builtin;refine gL rfl (.tmp 24) (.tmp 26) rfl base v n l rfl h d f [92,92] 2 rfl (by decide) (by decide) _ rfl rfl ?_;intro g cap k b a);go_wp2;go_ret;exact⟨g,cap,rfl,b,a⟩
theorem afJ(v:X)(n base:Nat)(l:List Int)(c:Int)(j:32<=c)(k:c<=126)(m:(c==34)=S)(o:(c==92)=S)(w:N)(h:w.ownsRow base 5 1 v n (B8 l))(d:base<=w.heap.size)(f:n<=100000):
  A0 M 83 #[v,U A2 c] w fun e a=>∃g cap,e= W (Ax (V ⟨g,0,T⟩) (n+1) cap)/\
   a.ownsRow base 5 1 (Ax (V ⟨g,0,T⟩) (n+1) cap) (n+1) (B8 (l++[c]))/\A1 base w a:=by
 go_in;go_wp2_with (at_builtin;refine gL rfl (.tmp 44) (.tmp 46) rfl base v n l rfl h d f [c] 1 rfl (by decide) (by decide) _ rfl rfl ?_;intro g cap p i b);go_wp2;go_ret;exact⟨g,cap,rfl,i,b⟩
def DG:ByteArray:=⟨#[48,49,50,51,52,53,54,55,56,57,97,98,99,100,101,102]⟩
theorem aiq:∀i:Fin 16,((DG[i.val]'(by have:=i.isLt;exact this)).toNat:Int)=xm (i.val:Int):=by decide
theorem aku(a:Int)(c:0<=a)(d:a<16)(h:a.toNat<DG.size):((DG[a.toNat]'h).toNat:Int)=xm a:=by
 have:=aiq ⟨a.toNat,by omega⟩;have b:((a.toNat:Nat):Int)=a:=by omega
 simp only[b]at this;exact this
theorem ym(a:Int)(c:0<=a)(d:a<16)(w:N):(A7 9 (O ⟨#[48,49,50,51,52,53,54,55,56,57,97,98,99,100,101,102]⟩) (U A2 a)).run M w= .ok (U A2 (xm a)) w:=by
 have b:a.toNat<DG.size:=by simp only[DG];show a.toNat<16;omega
 have e:=aku a c d b;go_simp;exact e
theorem air(c:Int)(a:0<=c)(b:c<256):bits .and A2 c 15=c%16:=by
 have:=bits_mask A2 8 (by decide) wraps_u8 4 (by decide) c a b;simpa using this
theorem AL{I:Array Oper}{o:Oper}{a:Act}{K:Act->N->Prop}{Q:Exit->Act->N->Prop}{E:Prop}{w:N}(j:o.guard=T)(s x:Operand)
  (u:o.op= .call {callee:= .builtin .append,args:=#[s,x],argTypes:=#[49,49]}) (base:Nat) (v:X) (n:Nat) (l:List Int) (z:a.eval s=v)
  (d:w.ownsRow base 5 1 v n (B8 l)) (f:base<=w.heap.size) (L:n<=100000) (c:List Int) (m:Nat) (r:c.length=m) (t:0<m) (J:m<=100) (cs:Array X) (i:cs.toList=B8 c)
  (A:a.eval x= .slice (V ⟨w.heap.size,0,T⟩) m m)
  (h:∀g cap b,b.ownsRow base 5 1 (.slice (V ⟨g,0,T⟩) (n+m) cap) (n+m) (B8 (l++c))->A1 base w b->K (a.put o.dst (.slice (V ⟨g,0,T⟩) (n+m) cap)) b):
  if Region.wanted o (yielded I a.tmps)=A4 then Oper.wp M o a (w.alloc (.cells cs 5)).drew K Q else E:=by
 obtain⟨G,p,B,C,F⟩:=dt Tryz.info5;refine step_append_lies _ j s x 49 u base 5 G (.int .u8 0) 1 1 Tryz.underlying49 p B C F rfl (by decide) v n (B8 l) z ((d.alloc _).drew) ⟨w.heap.size,0,T⟩ m m (B8 c) A (by simp[B8,r])
  (by rw[<-i];exact A3 (fr:=(0,0)) (aj w _)) (by intro af e;simp[B8]at e;obtain⟨ad,_,rfl⟩:=e;rfl) t (by unfold A9;omega) (by omega) (by simp;omega) (w.heap.size+1) (by simp) ?_
 intro g cap b y k _ _;refine h g cap b (by rw[acm];exact y) ((((ag base w).alloc f _).drew).grown k (by simp;omega) (fun H q=>(d.lt H q).1))
theorem ais(v:X)(n base:Nat)(l:List Int)(c:Int)(b:0<=c)(o:c<32)(p:(c==10)=S)(q:(c==9)=S)(r:(c==34)=S)(s:(c==92)=S)(w:N)(h:w.ownsRow base 5 1 v n (B8 l))(d:base<=w.heap.size)(f:n<=100000):
  A0 M 83 #[v,U A2 c] w fun e a=>∃g cap,e= W (Ax (V ⟨g,0,T⟩) (n+4) cap)/\
   a.ownsRow base 5 1 (Ax (V ⟨g,0,T⟩) (n+4) cap) (n+4) (B8 (l++[92,120,xm (c / 16),xm (c%16)]))/\A1 base w a:=by
 have y:=ym (c / 16) (by omega) (by omega);have z:=ym (c%16) (by omega) (by omega);have u:bits .and A2 c 15=c%16:=air c b (by omega);have i:0<=c / 16:=by omega
 have j:c / 16<16:=by omega
 have k:0<=c%16:=by omega
 have m:c%16<16:=by omega
 go_in;go_wp2_with fail;go_region_held3 (fun a=>True) (trivial) ((refine AL (by rfl) _ _ (by rfl) base v n l (by rfl) h d f [92,120,_,_] 4 (by rfl) (by decide) (by decide) _ (by rfl) (by rfl) ?_;intro g cap A x t))
 all_goals
  go_wp2;go_ret;exact⟨_,_,rfl,by assumption,by assumption⟩
theorem acn(v:X)(n base:Nat)(l:List Int)(c:Int)(o:126<c)(b:c<256)(p:(c==10)=S)(q:(c==9)=S)(r:(c==34)=S)(s:(c==92)=S)(w:N)(h:w.ownsRow base 5 1 v n (B8 l))(d:base<=w.heap.size)(f:n<=100000):
  A0 M 83 #[v,U A2 c] w fun e a=>∃g cap,e= W (Ax (V ⟨g,0,T⟩) (n+4) cap)/\
   a.ownsRow base 5 1 (Ax (V ⟨g,0,T⟩) (n+4) cap) (n+4) (B8 (l++[92,120,xm (c / 16),xm (c%16)]))/\A1 base w a:=by
 have y:=ym (c / 16) (by omega) (by omega);have z:=ym (c%16) (by omega) (by omega);have u:bits .and A2 c 15=c%16:=air c (by omega) b;have i:0<=c / 16:=by omega
 have j:c / 16<16:=by omega
 have k:0<=c%16:=by omega
 have m:c%16<16:=by omega
 go_in;go_wp2_with fail;go_region_held3 (fun a=>True) (trivial) ((refine AL (by rfl) _ _ (by rfl) base v n l (by rfl) h d f [92,120,_,_] 4 (by rfl) (by decide) (by decide) _ (by rfl) (by rfl) ?_;intro g cap A x t))
 all_goals
  go_wp2;go_ret;exact⟨_,_,rfl,by assumption,by assumption⟩
theorem ait(v:X)(n base:Nat)(l:List Int)(c:Int)(k:0<=c)(m:c<256)(w:N)(h:w.ownsRow base 5 1 v n (B8 l))(d:base<=w.heap.size)(f:n<=100000):
  A0 M 83 #[v,U A2 c] w fun e j=>∃g cap,e= W (Ax (V ⟨g,0,T⟩) (n+(Do c).length) cap)/\
   j.ownsRow base 5 1 (Ax (V ⟨g,0,T⟩) (n+(Do c).length) cap) (n+(Do c).length) (B8 (l++Do c))/\A1 base w j:=by
 by_cases a:c=10
 ·subst a;exact akt v n base l w h d f
 by_cases b:c=9
 ·subst b;exact aio v n base l w h d f
 by_cases i:c=34\/c=92
 ·have:Do c=[92,c]:=by unfold Do;rw[aa a,aa b,ab i]
  rw[this];exact aip v n base l c i w h d f
 by_cases e4:c<32\/126<c
 ·have:Do c=[92,120,xm (c / 16),xm (c%16)]:=by unfold Do;rw[aa a,aa b,aa i,ab e4]
  rw[this];rcases e4 with e4|e4
  ·exact ais v n base l c k e4 (by simp[a]) (by simp[b]) (by simp;omega) (by simp;omega) w h d f
  ·exact acn v n base l c e4 m (by simp[a]) (by simp[b]) (by simp;omega) (by simp;omega) w h d f
 ·have:Do c=[c]:=by unfold Do;rw[aa a,aa b,aa i,aa e4]
  rw[this];exact afJ v n base l c (by omega) (by omega) (by simp;omega) (by simp;omega) w h d f
def ic(l:List Int):ByteArray:=l.foldl (fun b a=>b.push (UInt8.ofNat a.toNat)) Z
theorem ou{w:N}{base g n cap:Nat}{l:List Int}(b:w.ownsRow base 5 1 (.slice (V ⟨g,0,T⟩) n cap) n (B8 l)):
  (convert 49 9 (.slice (V ⟨g,0,T⟩) n cap)).run M w= .ok (.string (ic l)) w:=by
 rw[Lo w 49 9 5 _ _ _ Tryz.underlying49 Tryz.underlying5 Tryz.underlying9];have e:=xl b;refine run_bytesToString w _ n cap l ?_;rcases b.2 with⟨c,_⟩|⟨o,k,m,h,_,d,_,_,p,f⟩
 ·cases c
 ·cases h;have:=run_loadCells_list (P:=M) w ⟨g,0,T⟩ (B8 l) (fun i j a=>by
   refine A3 d i j ?_;rw[<-f]at a;rw[kE]at a;split at a
   ·exact a
   ·cases a)
  rw[Jn,e]at this;exact this
theorem ue(w:N)(c:Int):(w.alloc (.cells #[U A2 c] 5)).ownsRow w.heap.size 5 1 (Ax (V ⟨w.heap.size,0,T⟩) 1 1) 1 (B8 [c]):=
 ⟨rfl,.inr ⟨w.heap.size,1,#[U A2 c],rfl,ae _,aj w _,ae _,by unfold A9;omega,rfl,rfl⟩⟩
theorem afK(c:Int):(Do c).length<=4:=by
 unfold Do;split
 ·decide
 split
 ·decide
 split
 ·simp
 split<;>simp
def qt(s:ByteArray)(k:Nat):List Int:=34::(s.data.toList.take k).flatMap fun a=>Do (a.toNat:Int)
theorem Ez(s:ByteArray)(k:Nat)(h:k<s.size):qt s (k+1)=qt s k++Do (s[k].toNat:Int):=by
 unfold qt;rw[List.take_succ_eq_append_getElem (by simpa using h)];simp only[xa,xg,List.flatMap_nil,da,ej];rfl
theorem EA(s:ByteArray):∀k,k<=s.size->(qt s k).length<=1+4*k
 |0,_=>by simp[qt]
 |k+1,h=>by
  have:=EA s k (by omega);have a:=afK (s[k].toNat:Int);rw[Ez s k (by omega),aH];omega
def EB(s:ByteArray):List Int:=qt s s.size++[34]
theorem aa6(s:ByteArray)(v:s.size<=4000)(w:N):
  A0 M 44 #[O s] w fun e i=>e= W (O (ic (EB s)))/\A1 w.heap.size w i:=by
 go_in;go_wp2_with fail;go_loopw [3,11] (fun r h wr=>∃a b:Nat,a<=s.size/\h= U Y a/\wr.ownsRow w.heap.size 5 1 r b (B8 (qt s a))/\A1 w.heap.size w wr) (fun _ h _=>s.size-(Bs h).toNat)
 case atStart=>exact⟨0,1,aL _,rfl,ue w 34,(ag _ _).alloc (ae _) _⟩
 case round=>
  obtain⟨a,b,l,rfl,f,c⟩:=hrel;have n:=xl f;have p:=EA s a l;have u:b<=20000:=by omega
  clear n p;by_cases o:a<s.size
  ·have q:Hid (qt s (a+1)=qt s a++Do (s[a].toNat:Int)):=Ez s a o;have t:(s[a].toNat:Int)<256:=by have:=s[a].toNat_lt;omega
   go_wp2_with (go_at_call 83;refine(ait _ b w.heap.size (qt s a) _ (by omega) (by omega) _ f c.size (by omega)).mono ?_;rintro e i ⟨k,j,rfl,g,d⟩);go_roundw
   case rel=>exact⟨a+1,_,by omega,by go_num,by rw[q.out];exact g,c.trans d⟩
   case measure=>simp[Bs];omega
  ·have m:a=s.size:=by omega
   subst m;go_wp2_with (at_builtin;refine gL rfl (.tmp 20) (.tmp 21) rfl w.heap.size _ b (qt s s.size) rfl f c.size (by omega) [34] 1 rfl (by decide) (by decide) _ rfl rfl ?_;intro k j y g d;have x:=ou g);go_ret;exact⟨rfl,c.trans d⟩
def Code(base:Nat)(w:N)(f:Option Addr)(d:Nat):Prop:=
 d=0\/∃a e,f=V ⟨a,e,T⟩/\a<base/\∀c,c<d->∃b:Int,0<=b/\b<256/\w.cell? ⟨a,e+c,T⟩=V (U A2 b)
theorem Code.below{base:Nat}{w g:N}{a:Option Addr}{e:Nat}(h:Code base w a e)(j:A1 base w g):Code base g a e:=by
 rcases h with h|⟨b,f,i,c,k⟩
 ·exact .inl h
 ·exact .inr ⟨b,f,i,c,fun d l=>by obtain⟨n,z0,o,m⟩:=k d l;exact⟨n,z0,o,(j.cell (p:=⟨b,f+d,T⟩) c).trans m⟩⟩
theorem EC(w:N)(b:Nat):w.grownBy w (V b):=⟨rfl,rfl,rfl,ae _,fun _ _ _=>rfl⟩
theorem Bl{a w:N}{b:Nat}(h:a.grownBy w (V b))(n:Nat):a.grownBy (w.drewN n) (V b):=⟨h.os,h.tape,h.output,h.size,h.block⟩
theorem aa7(base:Nat)(w:N)(n:Nat):A1 base w (w.drewN n):=⟨rfl,rfl,rfl,ae _,fun _ _=>rfl⟩
theorem Gv(w:N):(convert 49 9 (.slice T 0 0)).run M w= .ok (.string Z) w:=by
 rw[Lo w 49 9 5 _ _ _ Tryz.underlying49 Tryz.underlying5 Tryz.underlying9];simp[Conv.bytesToString,Sem.run_pure]
theorem aa8(l:List Int):∀r:ByteArray,(l.foldl (fun r n=>r.push (UInt8.ofNat n.toNat)) r).size=r.size+l.length:=by
 induction l with
 |nil=>intro r;rfl
 |cons b l a=>intro r;simp only[xk,bv];rw[a,ByteArray.size_push];omega
theorem aa9(l:List Int):(ic l).size=l.length:=by
 unfold ic;rw[aa8];simp
def kK(c:Int):Bool:=decide (c=32\/c=9\/c=13)
def cd(c:Int):Bool:=decide ((97<=c/\c<=122)\/(65<=c/\c<=90)\/c=95)
def cu(c:Int):Bool:=decide (48<=c/\c<=57)
theorem Gw(c:Int)(w:N):A0 M 123 #[U A2 c] w fun e f=>e= W (A5 (kK c))/\w=f:=by
 rcases(show c=32\/c=9\/c=13\/(c≠32/\c≠9/\c≠13) by omega) with rfl|rfl|rfl|⟨a,b,d⟩
 ·go_in;go_wp2;go_ret;exact⟨rfl,rfl⟩
 ·go_in;go_wp2;go_ret;exact⟨rfl,rfl⟩
 ·go_in;go_wp2;go_ret;exact⟨rfl,rfl⟩
 ·have g:(c==32)=S:=by simp[a]
  have h:(c==9)=S:=by simp[b]
  have i:(c==13)=S:=by simp[d]
  have e:kK c=S:=by simp[kK,a,b,d]
  rw[e];clear e a b d;go_in;go_wp2;go_ret;exact⟨rfl,rfl⟩
theorem ip(c:Int)(w:N):A0 M 166 #[U A2 c] w fun e d=>e= W (A5 (cu c))/\w=d:=by
 rcases(show c<48\/57<c\/(48<=c/\c<=57) by omega) with h|h|⟨f,b⟩
 ·have e:cu c=S:=by simp[cu];omega
  rw[e];clear e;have a:¬48<=c:=by omega
  go_in;go_wp2;go_ret;exact⟨rfl,rfl⟩
 ·have e:cu c=S:=by simp[cu];omega
  rw[e];clear e;have a:¬c<=57:=by omega
  have b:48<=c:=by omega
  go_in;go_wp2;go_ret;exact⟨rfl,rfl⟩
 ·have e:cu c=A4:=by simp[cu];omega
  rw[e];clear e;go_in;go_wp2;go_ret;exact⟨rfl,rfl⟩
theorem kL(c:Int)(w:N):A0 M 164 #[U A2 c] w fun e j=>e= W (A5 (cd c))/\w=j:=by
 rcases(show(97<=c/\c<=122)\/(65<=c/\c<=90)\/c=95\/c<65\/(90<c/\c<97/\c≠95)\/122<c by omega) with⟨f,g⟩|⟨f,g⟩|rfl|h|⟨f,g,l⟩|h
 ·have e:cd c=A4:=by simp[cd];omega
  rw[e];clear e;go_in;go_wp2;go_ret;exact⟨rfl,rfl⟩
 ·have e:cd c=A4:=by simp[cd];omega
  rw[e];clear e;have a:¬97<=c:=by omega
  go_in;go_wp2;go_ret;exact⟨rfl,rfl⟩
 ·go_in;go_wp2;go_ret;exact⟨rfl,rfl⟩
 ·have e:cd c=S:=by simp[cd];omega
  rw[e];clear e;have a:¬97<=c:=by omega
  have b:¬65<=c:=by omega
  have d:(c==95)=S:=by simp;omega
  go_in;go_wp2;go_ret;exact⟨rfl,rfl⟩
 ·have e:cd c=S:=by simp[cd];omega
  rw[e];clear e;have a:¬97<=c:=by omega
  have b:65<=c:=by omega
  have i:¬c<=90:=by omega
  have d:(c==95)=S:=by simp;omega
  go_in;go_wp2;go_ret;exact⟨rfl,rfl⟩
 ·have e:cd c=S:=by simp[cd];omega
  rw[e];clear e;have a:97<=c:=by omega
  have b:¬c<=122:=by omega
  have i:65<=c:=by omega
  have k:¬c<=90:=by omega
  have d:(c==95)=S:=by simp;omega
  go_in;go_wp2;go_ret;exact⟨rfl,rfl⟩
def gj(c:Int):Int:=if 48<=c/\c<=57 then c-48 else if 97<=c/\c<=102 then c-87 else -1
theorem aco:∀n:Fin 256,Lib.indexByte [48,49,50,51,52,53,54,55,56,57,97,98,99,100,101,102] (n.val.toUInt8)=gj (n.val:Int):=by decide+kernel
theorem afL(c:Int)(b:0<=c)(d:c<256):Lib.indexByte [48,49,50,51,52,53,54,55,56,57,97,98,99,100,101,102] c.toNat.toUInt8=gj c:=by
 have:=aco ⟨c.toNat,by omega⟩;have a:((c.toNat:Nat):Int)=c:=by omega
 simp only[a]at this;exact this
theorem acp(c:Int)(a:0<=c)(b:c<256)(w:N):A0 M 147 #[O ⟨#[48,49,50,51,52,53,54,55,56,57,97,98,99,100,101,102]⟩,U A2 c] w fun e d=>e= W (U Y (gj c))/\d=w:=by
 rw[<-afL c a b];go_in;go_wp2;rw[jw Tryz.func201 (by kernel_rfl) (by kernel_rfl) (by kernel_rfl) (e:=Extern.BytealgIndexByte.indexByte) (by kernel_rfl),Lib.run_indexByteString];simp only[Result.andThen];rw[Oper.upon_value];go_wp2;go_ret;exact⟨rfl,rfl⟩
theorem ug(c:Int)(b:0<=c)(d:c<256)(w:N):A0 M 253 #[O ⟨#[48,49,50,51,52,53,54,55,56,57,97,98,99,100,101,102]⟩,U A2 c] w fun e a=>e= W (U Y (gj c))/\a=w:=by
 go_in;go_wp2_with (go_at_call 147;refine(acp c b d _).mono ?_;rintro e a ⟨rfl,rfl⟩);go_ret;exact⟨rfl,rfl⟩
def az(s:ByteArray)(i:Nat):Int:=if h:i<s.size then(s[i].toNat:Int) else -1
theorem jo{s:ByteArray}{i:Nat}(h:i<s.size):0<=az s i/\az s i<256:=by
 unfold az;rw[kJ h];have:=s[i].toNat_lt;omega
theorem dE{s:ByteArray}{i:Nat}(h:¬i<s.size):az s i= -1:=by unfold az;rw[dif_neg h]
theorem cD{s:ByteArray}{i:Nat}(h:i<s.size)(w:N):(A7 9 (O s) (U Y (i:Int))).run M w= .ok (U A2 (az s i)) w:=by
 unfold az;rw[kJ h];go_simp
theorem xn{s:ByteArray}{i:Nat}(h:i+1<s.size)(w:N):(A7 9 (O s) (U Y ((i:Int)+1))).run M w= .ok (U A2 (az s (i+1))) w:=by
 have:=cD h w;have a:((i+1:Nat):Int)=(i:Int)+1:=by omega
 rw[a]at this;exact this
theorem mm(c:Int):gj c<16:=by unfold gj;split;omega;split<;>omega
theorem or4(a b:Int)(e:0<=a)(f:a<256)(g:a%16=0)(c:0<=b)(d:b<16):bits .or Y a b=a+b:=
 bits_join Y 8 (by decide) (fun h a b=>by rw[di];omega) 4 a b e g f c d (by omega)
theorem or0(b:Int)(a:0<=b)(c:b<16):bits .or Y 0 b=b:=by
 have:=or4 0 b (by omega) (by omega) (by omega) a c;rw[this];omega
def C0(s:ByteArray)(p:Nat):Int×Nat×Bool:=
 if gj (az s p)<0 then(0,p,S) else if gj (az s (p+1))<0 then(0,p+1,S) else(gj (az s p)*16+gj (az s (p+1)),p+1+1,A4)
def acq(r:Int×Nat×Bool):X:= A8 #[U A2 r.1,U Y (r.2.1:Int),A5 r.2.2]
theorem Gx(s:ByteArray)(y:s.size<=100000)(p:Nat)(m:p+1<s.size)(x a:Int)(g:gj (az s p)=x)(h:gj (az s (p+1))=a)(x0:0<=x)(r:0<=a)(w:N):
  A0 M 237 #[O s,U Y p] w fun e j=>e= W (A8 #[U A2 (x*16+a),U Y ((p:Int)+1+1),A5 A4])/\j=w:=by
 have q:x<16:=by rw[<-g];exact mm _
 have t:a<16:=by rw[<-h];exact mm _
 have n:=fun w=>cD (s:=s) (i:=p) (by omega) w;have o:=fun w=>xn (s:=s) (i:=p) (by omega) w;have z:((p:Int)==(s.size:Int))=S:=by simp;omega
 have A:((p:Int)+1==(s.size:Int))=S:=by simp;omega
 have u:bits .or Y 0 x=x:=or0 x x0 q;have v:bits .or Y (x*16) a=x*16+a:=or4 (x*16) a (by omega) (by omega) (by omega) r t;have b:=jo (s:=s) (i:=p) (by omega);have c:=jo (s:=s) (i:=p+1) m;obtain⟨k,d⟩:=ay (az s p);obtain⟨l,f⟩:=ay (az s (p+1));rw[d]at g n b;rw[f]at h o c;clear d f;go_in;go_wp2_with fail;refine mh 3 ?_;rw[gF];go_wp2_with (go_at_call 253;refine(ug k b.1 b.2 _).mono ?_;rintro e j ⟨rfl,rfl⟩);rw[gF];go_wp2_with (go_at_call 253;refine(ug l c.1 c.2 _).mono ?_;rintro e B ⟨rfl,rfl⟩);rw[gF];go_wp2;go_ret3
 exact⟨rfl,rfl⟩
theorem C1(s:ByteArray)(j:s.size<=100000)(p:Nat)(h:p<s.size)(x:Int)(f:gj (az s p)=x)(x0:x<0)(w:N):
  A0 M 237 #[O s,U Y p] w fun e c=>e= W (A8 #[U A2 0,U Y (p:Int),A5 S])/\c=w:=by
 have g:=fun w=>cD (s:=s) (i:=p) (by omega) w;have k:((p:Int)==(s.size:Int))=S:=by simp;omega
 have a:=jo (s:=s) (i:=p) (by omega);obtain⟨d,b⟩:=ay (az s p);rw[b]at f g a;clear b;go_in;go_wp2_with fail;refine mh 1 ?_;rw[gF];go_wp2_with (go_at_call 253;refine(ug d a.1 a.2 _).mono ?_;rintro e c ⟨rfl,rfl⟩);go_ret3
 exact⟨rfl,rfl⟩
theorem Gy(s:ByteArray)(c:s.size<=100000)(p:Nat)(a:p=s.size)(w:N):
  A0 M 237 #[O s,U Y p] w fun e b=>e= W (A8 #[U A2 0,U Y (p:Int),A5 S])/\b=w:=by
 subst a;go_in;go_wp2_with fail;refine mh 1 ?_;rw[gF];go_wp2;go_ret3
 exact⟨rfl,rfl⟩
theorem Bm(s:ByteArray)(t:s.size<=100000)(p:Nat)(l:p+1<s.size)(x h:Int)(f:gj (az s p)=x)(m:gj (az s (p+1))=h)(x0:0<=x)(z:h<0)(w:N):
  A0 M 237 #[O s,U Y p] w fun e g=>e= W (A8 #[U A2 0,U Y ((p:Int)+1),A5 S])/\g=w:=by
 have q:x<16:=by rw[<-f];exact mm _
 have n:=fun w=>cD (s:=s) (i:=p) (by omega) w;have o:=fun w=>xn (s:=s) (i:=p) (by omega) w;have u:((p:Int)==(s.size:Int))=S:=by simp;omega
 have v:((p:Int)+1==(s.size:Int))=S:=by simp;omega
 have r:bits .or Y 0 x=x:=or0 x x0 q;have a:=jo (s:=s) (i:=p) (by omega);have b:=jo (s:=s) (i:=p+1) l;obtain⟨j,c⟩:=ay (az s p);obtain⟨k,d⟩:=ay (az s (p+1));rw[c]at f n a;rw[d]at m o b;clear c d;go_in;go_wp2_with fail;refine mh 2 ?_;rw[gF];go_wp2_with (go_at_call 253;refine(ug j a.1 a.2 _).mono ?_;rintro e g ⟨rfl,rfl⟩);rw[gF];go_wp2_with (go_at_call 253;refine(ug k b.1 b.2 _).mono ?_;rintro e y ⟨rfl,rfl⟩);go_ret3
 exact⟨rfl,rfl⟩
theorem Gz(s:ByteArray)(l:s.size<=100000)(p:Nat)(g:p+1=s.size)(x:Int)(c:gj (az s p)=x)(x0:0<=x)(w:N):
  A0 M 237 #[O s,U Y p] w fun e d=>e= W (A8 #[U A2 0,U Y ((p:Int)+1),A5 S])/\d=w:=by
 have j:x<16:=by rw[<-c];exact mm _
 have h:=fun w=>cD (s:=s) (i:=p) (by omega) w;have m:((p:Int)==(s.size:Int))=S:=by simp;omega
 have n:((p:Int)+1==(s.size:Int))=A4:=by simp;omega
 have o:p<=100000:=by omega
 have k:bits .or Y 0 x=x:=or0 x x0 j;have a:=jo (s:=s) (i:=p) (by omega);obtain⟨f,b⟩:=ay (az s p);rw[b]at c h a;clear b g;go_in;go_wp2_with fail;refine mh 2 ?_;rw[gF];go_wp2_with (go_at_call 253;refine(ug f a.1 a.2 _).mono ?_;rintro e d ⟨rfl,rfl⟩);rw[gF];go_wp2;go_ret3
 exact⟨rfl,rfl⟩
theorem GA(s:ByteArray)(a:s.size<=100000)(p:Nat)(h:p<=s.size)(w:N):
  A0 M 237 #[O s,U Y p] w fun e j=>e= W (acq (C0 s p))/\j=w:=by
 have g:gj (-1)= -1:=by decide
 unfold C0 acq;by_cases f:p<s.size
 ·by_cases c:gj (az s p)<0
  ·rw[ab c];exact C1 s a p f _ rfl c w
  ·rw[aa c];by_cases b:p+1<s.size
   ·by_cases d:gj (az s (p+1))<0
    ·rw[ab d];exact Bm s a p b _ _ rfl rfl (by omega) d w
    ·rw[aa d];exact Gx s a p b _ _ rfl rfl (by omega) (by omega) w
   ·have e:=dE (s:=s) (i:=p+1) b;rw[ab (by rw[e,g];omega)];exact Gz s a p (by omega) _ rfl (by omega) w
 ·have e:=dE (s:=s) (i:=p) f;rw[ab (by rw[e,g];omega)];exact Gy s a p (by omega) w
def jA(s:ByteArray)(p:Nat):Int×Nat×Bool:=
 if az s p=110 then(10,p+1,A4) else if az s p=116 then(9,p+1,A4) else if az s p=34\/az s p=92 then(az s p,p+1,A4) else if az s p=120 then C0 s (p+1) else(0,p,S)
theorem GC(s:ByteArray)(q:s.size<=100000)(p:Nat)(h:p<=s.size)(w:N):
  A0 M 209 #[O s,U Y p] w fun e m=>e= W (acq (jA s p))/\m=w:=by
 by_cases o:p<s.size
 ·have r:=fun w=>cD (s:=s) (i:=p) (by omega) w;have z:((p:Int)==(s.size:Int))=S:=by simp;omega
  have y:=jo (s:=s) (i:=p) (by omega);have j:=GA s q (p+1) (by omega);have n:((p+1:Nat):Int)=(p:Int)+1:=by omega
  rw[n]at j;unfold jA;obtain⟨a,k⟩:=ay (az s p);rw[k]at r y⊢;clear k;by_cases b:a=110
  ·subst b;go_in;go_wp2;go_ret3
   exact⟨rfl,rfl⟩
  rw[aa b];have t:(a==110)=S:=by simp[b]
  by_cases c:a=116
  ·subst c;go_in;go_wp2;go_ret3
   exact⟨rfl,rfl⟩
  rw[aa c];have u:(a==116)=S:=by simp[c]
  by_cases d:a=34
  ·subst d;go_in;go_wp2;go_ret3
   exact⟨rfl,rfl⟩
  have v:(a==34)=S:=by simp[d]
  by_cases f:a=92
  ·subst f;go_in;go_wp2;go_ret3
   exact⟨rfl,rfl⟩
  have x:(a==92)=S:=by simp[f]
  rw[aa (by omega)];by_cases g:a=120
  ·subst g;rw[ab rfl];clear b c d f t u v x;unfold acq at j⊢;go_in;go_wp2_with (go_at_call 237;refine(j _).mono ?_;rintro e m ⟨rfl,rfl⟩);go_ret3
   exact⟨rfl,rfl⟩
  rw[aa g];have A:(a==120)=S:=by simp[g]
  clear b c d f g;go_in;go_wp2;go_ret3
  exact⟨rfl,rfl⟩
 ·have e:=dE (s:=s) (i:=p) o;have l:jA s p=(0,p,S):=by unfold jA;rw[e];simp
  rw[l];obtain rfl:p=s.size:=by omega
  clear e l;go_in;go_wp2;go_ret3
  exact⟨rfl,rfl⟩
theorem Lp(s:ByteArray)(p:Nat)(h:p<=s.size):p<=(C0 s p).2.1/\(C0 s p).2.1<=s.size/\0<=(C0 s p).1/\(C0 s p).1<256:=by
 have b:gj (-1)= -1:=by decide
 have g:=mm (az s p);have j:=mm (az s (p+1));unfold C0;split
 ·simp;omega
 ·rename_i c;have e:p<s.size:=by
   rcases co p s.size with h|h
   ·exact h
   ·have a:=dE (s:=s) (i:=p) (by omega);rw[a,b]at c;omega
  split
  ·simp;omega
  ·rename_i d;have f:p+1<s.size:=by
    rcases co (p+1) s.size with h|h
    ·exact h
    ·have a:=dE (s:=s) (i:=p+1) (by omega);rw[a,b]at d;omega
   simp;omega
theorem Lq(s:ByteArray)(p:Nat)(h:p<=s.size):p<=(jA s p).2.1/\(jA s p).2.1<=s.size/\0<=(jA s p).1/\(jA s p).1<256:=by
 unfold jA;by_cases a:p<s.size
 ·have c:=jo a;split
  ·simp;omega
  split
  ·simp;omega
  split
  ·simp;omega
  split
  ·have:=Lp s (p+1) (by omega);omega
  ·simp;omega
 ·have b:=dE (s:=s) (i:=p) a;rw[b];simp;omega
theorem GD(s:ByteArray)(p:Nat)(h:p<=s.size)(c:(jA s p).2.2=A4):p+1<=(jA s p).2.1:=by
 revert c;unfold jA;split
 ·simp
 split
 ·simp
 split
 ·simp
 split
 ·rename_i a;have d:p<s.size:=by
   rcases co p s.size with h|h
   ·exact h
   ·have b:=dE (s:=s) (i:=p) (by omega);rw[b]at a;omega
  intro _;exact(Lp s (p+1) (by omega)).1
 ·simp
def fH(b:Nat)(w:N)(s:ByteArray)(m:X)(fr p l:Int)(k:Bool):Prop:=
 w.heap[b]?=V (.cells #[O s,m,U Y fr,U Y p,U Y l,A5 k] 150 (0,0))
def dj(b:Nat)(w:N)(k f t l n:Int)(x:ByteArray):Prop:=
 w.heap[b]?=V (.cells #[U Y k,U Y f,U Y t,U Y l,U Y n,O x] 96 (0,0))
theorem eI{b:Nat}{w:N}{s:ByteArray}{m:X}{fr p l:Int}{k:Bool}(h:fH b w s m fr p l k):
  w.cell? ⟨b,0,T⟩=V (O s)/\w.cell? ⟨b,1,T⟩=V m/\w.cell? ⟨b,3,T⟩=V (U Y p)/\w.cell? ⟨b,4,T⟩=V (U Y l)/\w.cell? ⟨b,5,T⟩=V (A5 k)/\
  w.frozen? ⟨b,3,T⟩=S/\w.frozen? ⟨b,4,T⟩=S/\w.frozen? ⟨b,5,T⟩=S:=by
 unfold fH at h;exact⟨by rw[aq _ _ _ _ _ _ h];rfl,by rw[aq _ _ _ _ _ _ h];rfl,by rw[aq _ _ _ _ _ _ h];rfl,by rw[aq _ _ _ _ _ _ h];rfl,by rw[aq _ _ _ _ _ _ h];rfl,cC _ _ _ _ _ h,cC _ _ _ _ _ h,cC _ _ _ _ _ h⟩
theorem ED{b:Nat}{w:N}{s:ByteArray}{m:X}{fr p l:Int}{k:Bool}(h:fH b w s m fr p l k):w.cell? ⟨b,2,T⟩=V (U Y fr)/\w.frozen? ⟨b,2,T⟩=S:=by
 unfold fH at h;exact⟨by rw[aq _ _ _ _ _ _ h];rfl,cC _ _ _ _ _ h⟩
theorem fH.setF{b:Nat}{w:N}{s:ByteArray}{m:X}{fr p l:Int}{k:Bool}(h:fH b w s m fr p l k)(x:Int):fH b (w.setCell ⟨b,2,T⟩ (U Y x)) s m x p l k:=bi w b 2 _ _ _ h
theorem bf{b:Nat}{w:N}{k f t l n:Int}{x:ByteArray}(h:dj b w k f t l n x):
  w.cell? ⟨b,0,T⟩=V (U Y k)/\w.cell? ⟨b,1,T⟩=V (U Y f)/\w.cell? ⟨b,2,T⟩=V (U Y t)/\w.cell? ⟨b,3,T⟩=V (U Y l)/\w.cell? ⟨b,4,T⟩=V (U Y n)/\w.cell? ⟨b,5,T⟩=V (O x)/\
  (∀j,w.frozen? ⟨b,j,T⟩=S):=by
 unfold dj at h;exact⟨by rw[aq _ _ _ _ _ _ h];rfl,by rw[aq _ _ _ _ _ _ h];rfl,by rw[aq _ _ _ _ _ _ h];rfl,by rw[aq _ _ _ _ _ _ h];rfl,by rw[aq _ _ _ _ _ _ h];rfl,by rw[aq _ _ _ _ _ _ h];rfl,fun j=>cC _ _ _ _ _ h⟩
theorem fH.setP{b:Nat}{w:N}{s:ByteArray}{m:X}{fr p l:Int}{k:Bool}(h:fH b w s m fr p l k)(x:Int):fH b (w.setCell ⟨b,3,T⟩ (U Y x)) s m fr x l k:=bi w b 3 _ _ _ h
theorem fH.setL{b:Nat}{w:N}{s:ByteArray}{m:X}{fr p l:Int}{k:Bool}(h:fH b w s m fr p l k)(x:Int):fH b (w.setCell ⟨b,4,T⟩ (U Y x)) s m fr p x k:=bi w b 4 _ _ _ h
theorem fH.setK{b:Nat}{w:N}{s:ByteArray}{m:X}{fr p l:Int}{k:Bool}(h:fH b w s m fr p l k)(x:Bool):fH b (w.setCell ⟨b,5,T⟩ (A5 x)) s m fr p l x:=bi w b 5 _ _ _ h
theorem fH.other{b:Nat}{w:N}{s:ByteArray}{m:X}{fr p l:Int}{k:Bool}(h:fH b w s m fr p l k){a:Addr}(c:b≠a.block)(v:X):fH b (w.setCell a v) s m fr p l k:=(aD w a b v c).trans h
theorem fH.drewN{b:Nat}{w:N}{s:ByteArray}{m:X}{fr p l:Int}{k:Bool}(h:fH b w s m fr p l k)(n:Nat):fH b (w.drewN n) s m fr p l k:=h
theorem fH.below{B b:Nat}{w a:N}{s:ByteArray}{m:X}{fr p l:Int}{k:Bool}(h:fH b w s m fr p l k)(c:A1 B w a)(d:b<B):fH b a s m fr p l k:=(c.block b d).trans h
theorem dj.other{b:Nat}{w:N}{k f t l n:Int}{x:ByteArray}(h:dj b w k f t l n x){a:Addr}(c:b≠a.block)(v:X):dj b (w.setCell a v) k f t l n x:=(aD w a b v c).trans h
theorem dj.drewN{b:Nat}{w:N}{k f t l n:Int}{x:ByteArray}(h:dj b w k f t l n x)(q:Nat):dj b (w.drewN q) k f t l n x:=h
theorem dj.below{B b:Nat}{w a:N}{k f t l n:Int}{x:ByteArray}(h:dj b w k f t l n x)(c:A1 B w a)(d:b<B):dj b a k f t l n x:=(c.block b d).trans h
theorem dj.setKind{b:Nat}{w:N}{k f t l n:Int}{x:ByteArray}(h:dj b w k f t l n x)(a:Int):dj b (w.setCell ⟨b,0,T⟩ (U Y a)) a f t l n x:=bi w b 0 _ _ _ h
theorem dj.setTo{b:Nat}{w:N}{k f t l n:Int}{x:ByteArray}(h:dj b w k f t l n x)(a:Int):dj b (w.setCell ⟨b,2,T⟩ (U Y a)) k f a l n x:=bi w b 2 _ _ _ h
theorem dj.setNum{b:Nat}{w:N}{k f t l n:Int}{x:ByteArray}(h:dj b w k f t l n x)(a:Int):dj b (w.setCell ⟨b,4,T⟩ (U Y a)) k f t l a x:=bi w b 4 _ _ _ h
theorem dj.setText{b:Nat}{w:N}{k f t l n:Int}{x:ByteArray}(h:dj b w k f t l n x)(a:ByteArray):dj b (w.setCell ⟨b,5,T⟩ (O a)) k f t l n a:=bi w b 5 _ _ _ h
def gx(s:ByteArray):Nat->Nat->List Int->Bool×Nat×List Int
 |0,p,a=>(S,p,a)
 |f+1,p,a=>if s.size<=p then(S,p,a) else if az s p=34 then(A4,p+1,a) else if az s p=10 then(S,p,a) else if az s p=92 then
   (if(jA s (p+1)).2.2=A4 then gx s f (jA s (p+1)).2.1 (a++[(jA s (p+1)).1]) else(S,(jA s (p+1)).2.1,a))
  else gx s f (p+1) (a++[az s p])
theorem so(s:ByteArray):∀(f p:Nat)(a:List Int),p<=s.size->p<=(gx s f p a).2.1/\(gx s f p a).2.1<=s.size/\(gx s f p a).2.2.length<=a.length+(s.size-p)
 |0,p,a,h=>by simp[gx];omega
 |f+1,p,a,h=>by
  unfold gx;split
  ·simp;omega
  split
  ·simp;omega
  split
  ·simp;omega
  split
  ·have e:=Lq s (p+1) (by omega);split
   ·rename_i b;have c:=GD s (p+1) (by omega) b;have:=so s f (jA s (p+1)).2.1 (a++[(jA s (p+1)).1]) e.2.1;simp at this⊢;omega
   ·simp;omega
  ·have:=so s f (p+1) (a++[az s p]) (by omega);simp at this⊢;omega
structure ql (b t:Nat) (w w':N):Prop where
 os:w'.os=w.os
 tape:w'.tape=w.tape
 output:w'.output=w.output
 size:w.heap.size<=w'.heap.size
 block:∀k,k<w.heap.size->k≠b->k≠t->w'.heap[k]?=w.heap[k]?
theorem ql.refl(b t:Nat)(w:N):ql b t w w:=⟨rfl,rfl,rfl,ae _,fun _ _ _ _=>rfl⟩
theorem ql.trans{b t:Nat}{x f z:N}(h:ql b t x f)(k:ql b t f z):ql b t x z:=
 ⟨k.os.trans h.os,k.tape.trans h.tape,k.output.trans h.output,bF h.size k.size,fun e d a c=>(k.block e (eF d h.size) a c).trans (h.block e d a c)⟩
theorem ql.drewN{b t:Nat}{x a:N}(h:ql b t x a)(n:Nat):ql b t x (a.drewN n):=⟨h.os,h.tape,h.output,h.size,h.block⟩
theorem ql.drew{b t:Nat}{x a:N}(h:ql b t x a):ql b t x a.drew:=⟨h.os,h.tape,h.output,h.size,h.block⟩
theorem ql.setB{b t:Nat}{x c:N}(h:ql b t x c)(i:Nat)(v:X):ql b t x (c.setCell ⟨b,i,T⟩ v):=
 ⟨h.os,h.tape,h.output,by simpa [A6] using h.size,fun f e a d=>by rw[aD _ _ _ _ a];exact h.block f e a d⟩
theorem ql.setT{b t:Nat}{x c:N}(h:ql b t x c)(i:Nat)(v:X):ql b t x (c.setCell ⟨t,i,T⟩ v):=
 ⟨h.os,h.tape,h.output,by simpa [A6] using h.size,fun f e d a=>by rw[aD _ _ _ _ a];exact h.block f e d a⟩
theorem ql.below{b t:Nat}{x d z:N}(h:ql b t x d)(k:A1 x.heap.size d z):ql b t x z:=
 ⟨k.os.trans h.os,k.tape.trans h.tape,k.output.trans h.output,bF h.size k.size,fun c a e f=>(k.block c a).trans (h.block c a e f)⟩
theorem ql.to{b t base:Nat}{x a:N}(h:ql b t x a)(d:base<=b)(g:base<=t)(f:base<=x.heap.size):A1 base x a:=
 ⟨h.os,h.tape,h.output,h.size,fun c e=>h.block c (by omega) (by omega) (by omega)⟩
theorem Lr{d:Array Oper}{e:List Oper}{o:Oper}{a:Act}{Q:Exit->Act->N->Prop}{w:N}(k:o.guard=T)(s x:Operand)
  (u:o.op= .call {callee:= .builtin .append,args:=#[s,x],argTypes:=#[49,49]}) (base:Nat) (v:X) (n:Nat) (l:List Int) (z:a.eval s=v)
  (y:w.ownsRow base 5 1 v n (B8 l)) (i:base<=w.heap.size) (t:n<=100000) (b:List Int) (m:Nat) (p:b.length=m) (q:0<m) (r:m<=100) (cs:Array X) (j:cs.toList=B8 b)
  (H:Nat) (A:a.eval x= Ax (V ⟨H,0,T⟩) m m) (f:w.heap.size=H)
  (h:∀g cap c,c.ownsRow base 5 1 (Ax (V ⟨g,0,T⟩) (n+m) cap) (n+m) (B8 (l++b))->A1 base w c->wpList M d Q e (a.put o.dst (Ax (V ⟨g,0,T⟩) (n+m) cap)) c):
  wpList M d Q (o::e) a (w.alloc (.cells cs 5)):=by
 subst f;exact gL k s x u base v n l z y i t b m p q r cs j A h
theorem qm(w:N)(n:Nat)(a:Addr)(v:X):((w.drewN n).setCell a v).heap.size=w.heap.size:=by simp[A6,World.drewN]
theorem amb{w:N}{base e size:Nat}{v:X}{n:Nat}{c:List X}{b:Nat}(h:w.ownsRow base e size v n c)(d:b<base)(q r:Nat)(x f:X):((((w.drewN q).setCell ⟨b,3,T⟩ x).drewN r).setCell ⟨b,3,T⟩ f).ownsRow base e size v n c:=by
 have g:((w.drewN q).setCell ⟨b,3,T⟩ x).ownsRow base e size v n c:=qK (w:=w.drewN q) (a:=⟨b,3,T⟩) h d x;exact qK (w:=((w.drewN q).setCell ⟨b,3,T⟩ x).drewN r) (a:=⟨b,3,T⟩) g d f
def Dp(b:Nat)(w:N):Nat:=match w.cell? ⟨b,3,T⟩ with|some (.int _ a)=>a.toNat|_=>0
theorem sr{fr:Int}{b:Nat}{w:N}{s:ByteArray}{m:X}{p:Nat}{l:Int}{k:Bool}(h:fH b w s m fr p l k):Dp b w=p:=by
 unfold Dp;rw[(eI h).2.2.1];simp
def lB(b t:Nat)(a:N)(s:ByteArray)(m:X)(fr:Int)(l f c:Int)(R:Bool×Nat×List Int):Prop:=
 if R.1=A4 then fH b a s m fr R.2.1 l S/\dj t a 4 f 0 c 0 (ic R.2.2) else fH b a s m fr R.2.1 l A4/\dj t a 0 f 0 c 0 Z
theorem lB.yes{fr:Int}{b t:Nat}{c:N}{s:ByteArray}{m:X}{l f d:Int}{R:Bool×Nat×List Int}{p:Nat}{a:List Int}(h:(A4,p,a)=R)(e:fH b c s m fr p l S)(g:dj t c 4 f 0 d 0 (ic a)):lB b t c s m fr l f d R:=by
 subst h;unfold lB;rw[ab rfl];exact⟨e,g⟩
theorem lB.no{fr:Int}{b t:Nat}{c:N}{s:ByteArray}{m:X}{l f d:Int}{R:Bool×Nat×List Int}{p:Nat}{a:List Int}(h:(S,p,a)=R)(e:fH b c s m fr p l A4)(g:dj t c 0 f 0 d 0 Z):lB b t c s m fr l f d R:=by
 subst h;unfold lB;rw[aa (by simp)];exact⟨e,g⟩
theorem Lt(p:Nat):((p+1:Nat):Int)=(p:Int)+1:=by omega
theorem Bn{fr:Int}(s:ByteArray)(bA:s.size<=70000)(b t:Nat)(w:N)(m:X)(p:Nat)(l f I:Int)(bE:p<s.size)(g:b≠t)(hS:fH b w s m fr p l S)(av:dj t w 0 f 0 I 0 Z):
  A0 M 168 #[.pointer (V ⟨b,0,T⟩),.pointer (V ⟨t,0,T⟩)] w fun e a6=>e= W (A8 #[])/\ql b t w a6/\
   lB b t a6 s m fr l f I (gx s (s.size+1) (p+1) []):=by
 obtain⟨bd,G⟩:=ay (gx s (s.size+1) (p+1) []);rw[G];have bb:=aw G;clear G;have y:b<w.heap.size:=ah hS;have a5:t<w.heap.size:=ah av;obtain⟨L,ad,af,ak,al,an,ao,ap⟩:=eI hS;go_in;go_wp2_with fail;go_loopw [4] (fun bs wr=>∃(d u n:Nat) (j:List Int),fH b wr s m fr d l S/\dj t wr 0 f 0 I 0 Z/\wr.ownsRow w.heap.size 5 1 bs u (B8 j)/\s.size<d+n/\d<=s.size/\u<=d/\Hid (gx s n d j=bd)/\ql b t w wr) (fun _ wr=>s.size-Dp b wr)
 case atStart=>exact⟨p+1,0,s.size+1,[],hS.setP _,av.other (dD g) _,bc _ _ _ _,by omega,by omega,by omega,bb,(ql.refl b t w).setB _ _⟩
 case round=>
  obtain⟨d,u,n,j,i,o,z,bx,b0,bD,K,q⟩:=hrel;clear L ad af ak al an ao ap;obtain⟨L,ad,af,ak,al,an,ao,ap⟩:=eI i;obtain⟨b5,b6,b7,b8,b9,ca,cb⟩:=bf o;have a4:=q.size;obtain⟨n,rfl⟩:∃A,n=A+1:=⟨n-1,by omega⟩;by_cases a3:d<s.size
  ·have bn:=jo a3;have bk:=fun w=>cD a3 w;have c:=K.out;unfold gx at c;rw[aa (by omega)]at c;obtain⟨k,a2⟩:=ay (az s d);rw[a2]at bn bk c;clear a2;by_cases B:k=34
   ·subst B;rw[ab rfl]at c;have h:=aw c;clear c;rcases z.2 with⟨rfl,bh⟩|⟨A,am,bt,rfl,b4⟩
    ·have a0:j=[]:=by have:=xl z;rw[bh]at this;exact jK this
     have a9:=aw a0;clear a0;have bl:=Gv;go_wp2_with fail;go_quiet (fail)
     go_wp2_with fail;go_quiet (fail)
     go_wp2;refine ba (jg rfl _ _ _) rfl ?_;refine⟨rfl,(((q.drewN _).setB _ _).setT _ _).setT _ _,lB.yes h.out (by rw[Lt];exact(((i.drewN _).setP _).other g _).other g _) ?_⟩;rw[a9.out];exact(((o.drewN _).other (dD g) _).setKind _).setText _
    ·have bl:=fun br=>ou (qK (w:=wr.drewN br) (a:=⟨b,3,T⟩) z y (U Y ((d:Int)+1)));go_wp2_with fail;go_quiet (fail)
     go_wp2_with fail;go_quiet (fail)
     go_wp2;refine ba (jg rfl _ _ _) rfl ?_;exact⟨rfl,(((q.drewN _).setB _ _).setT _ _).setT _ _,lB.yes h.out (by rw[Lt];exact(((i.drewN _).setP _).other g _).other g _) ((((o.drewN _).other (dD g) _).setKind _).setText _)⟩
   rw[aa B]at c;have b1:(k==34)=S:=by simp[B]
   by_cases C:k=10
   ·subst C;rw[ab rfl]at c;have h:=aw c;clear c;go_wp2_with fail;go_quiet (fail)
    go_wp2_with fail;go_quiet (fail)
    go_wp2;refine ba (jg rfl _ _ _) rfl ?_;exact⟨rfl,(q.drewN _).setB _ _,lB.no h.out ((i.drewN _).setK _) ((o.drewN _).other (dD g) _)⟩
   rw[aa C]at c;have b2:(k==10)=S:=by simp[C]
   by_cases F:k=92
   ·subst F;rw[ab rfl]at c;have v:=GC s (by omega) (d+1) (by omega);have a1:=Lq s (d+1) (by omega);have E:=GD s (d+1) (by omega);rw[Lt]at v;obtain⟨a8,ar⟩:=ay (jA s (d+1));rw[ar]at v a1 E c;clear ar B C;obtain⟨a7,e,bo⟩:=a8;simp only at a1 E c;unfold acq at v;simp only at v;cases bo
    ·rw[aa (by simp)]at c;have h:=aw c;clear c;go_wp2_with fail;go_quiet (fail)
     go_wp2_with fail;go_quiet (fail)
     go_wp2_with fail;go_quiet ((go_at_call 209;exact Calls.quiet_of_same (v _)))
     go_wp2;refine ba (jg rfl _ _ _) rfl ?_;exact⟨rfl,(((((q.drewN _).setB _ _).drewN _).setB _ _).setB _ _),lB.no h.out (((((i.drewN _).setP _).drewN _).setP _).setK _) (((((o.drewN _).other (dD g) _).drewN _).other (dD g) _).other (dD g) _)⟩
    ·rw[ab rfl]at c;have bw:=E rfl;have h:=aw c;clear c E;go_wp2_with fail;go_quiet (fail)
     go_wp2_with fail;go_quiet (fail)
     go_wp2_with fail;go_quiet ((go_at_call 209;exact Calls.quiet_of_same (v _)))
     go_wp2_with (at_builtin;refine Lr rfl (.tmp 100) (.tmp 102) rfl w.heap.size _ u j rfl (amb z y _ _ _ _) (by rw[qm,qm];exact a4) (by omega) [a7] 1 rfl (by decide) (by decide) _ rfl wr.heap.size rfl (by rw[qm,qm]) ?_;intro A am J H r);have x:fH b J s m fr (e:Int) l S:=((((i.drewN _).setP _).drewN _).setP _).below r y;go_roundw
     case rel=>exact⟨e,u+1,n,j++[a7],x,((((o.drewN _).other (dD g) _).drewN _).other (dD g) _).below r a5,H,by omega,by omega,by omega,h,((((q.drewN _).setB _ _).drewN _).setB _ _).below r⟩
     case measure=>rw[sr x,sr i];omega
   rw[aa F]at c;have b3:(k==92)=S:=by simp[F]
   have h:=aw c;clear c;go_wp2_with fail;go_quiet (fail)
   go_wp2_with fail;go_quiet (fail)
   go_wp2_with (at_builtin;refine Lr rfl (.tmp 43) (.tmp 45) rfl w.heap.size _ u j rfl (qK (a:=⟨b,3,T⟩) (w:=wr.drewN _) z y _) (by rw[qm];exact a4) (by omega) [k] 1 rfl (by decide) (by decide) _ rfl wr.heap.size rfl (qm _ _ _ _) ?_;intro A am J H r);have x:fH b J s m fr ((d+1:Nat):Int) l S:=by rw[Lt];exact((i.drewN _).setP _).below r y
   go_roundw
   case rel=>exact⟨d+1,u+1,n,j++[k],x,((o.drewN _).other (dD g) _).below r a5,H,by omega,by omega,by omega,h,((q.drewN _).setB _ _).below r⟩
   case measure=>rw[sr x,sr i];omega
  ·have c:=K.out;unfold gx at c;rw[ab (by omega)]at c;have h:=aw c;clear c;obtain rfl:d=s.size:=by omega
   go_wp2_with fail;go_quiet (fail)
   go_wp2;go_end0
   exact⟨rfl,(q.drewN _).setB _ _,lB.no h.out ((i.drewN _).setK _) ((o.drewN _).other (dD g) _)⟩
theorem vA{w x:N}{b:Nat}{a:Addr}(h:w.grownBy x (V b))(v:X)(f:w.heap.size<=a.block):w.grownBy (x.setCell a v) (V b):=
 ⟨h.os,h.tape,h.output,by simpa [A6] using h.size,fun e c d=>by rw[aD _ _ _ _ (by omega)];exact h.block e c d⟩
theorem aiu{w x d:N}{b t:Nat}(h:A1 w.heap.size w x)(k:ql b t x d)(g:w.heap.size<=t):w.grownBy d (V b):=
 ⟨k.os.trans h.os,k.tape.trans h.tape,k.output.trans h.output,bF h.size k.size,fun c a f=>(k.block c (eF a h.size) (fun e=>f (by rw[e])) (by omega)).trans (h.block c a)⟩
open Go.Maps Go.WideMaps
def ez:Array X:=#[O ⟨#[97,110,100]⟩,O ⟨#[98,114,101,97,107]⟩,O ⟨#[99,97,116,99,104]⟩,O ⟨#[99,111,110,115,116]⟩,O ⟨#[100,101,102,101,114]⟩,O ⟨#[101,108,105,102]⟩,O ⟨#[101,108,115,101]⟩,O ⟨#[102,97,108,115,101]⟩,O ⟨#[102,110]⟩,O ⟨#[102,111,114]⟩,O ⟨#[105,102]⟩,O ⟨#[105,110]⟩,O ⟨#[108,101,116]⟩,O ⟨#[110,101,120,116]⟩,O ⟨#[110,105,108]⟩,O ⟨#[110,111,116]⟩,O ⟨#[111,114]⟩,O ⟨#[114,101,116,117,114,110]⟩,O ⟨#[116,104,114,111,119]⟩,O ⟨#[116,114,117,101]⟩,O ⟨#[116,114,121]⟩,O ⟨#[119,104,105,108,101]⟩]
def jB(k:Nat):ByteArray:=match ez[k]? with|some (.string a)=>a|_=>Z
theorem amc(k:Nat)(a:k<22)(w:N):(A7 192 (.agg ez) (U Y (k:Int))).run M w= .ok (O (jB k)) w:=by
 rcases(show k=0\/k=1\/k=2\/k=3\/k=4\/k=5\/k=6\/k=7\/k=8\/k=9\/k=10\/k=11\/k=12\/k=13\/k=14\/k=15\/k=16\/k=17\/k=18\/k=19\/k=20\/k=21 by omega) with rfl|rfl|rfl|rfl|rfl|rfl|rfl|rfl|rfl|rfl|rfl|rfl|rfl|rfl|rfl|rfl|rfl|rfl|rfl|rfl|rfl|rfl;all_goals kernel_rfl
theorem GE:∀k:Fin 22,(jB k.val).size<=100:=by decide
def yl{H:Type}:Nat->DataW H
 |0=> .map []
 |k+1=>(yl k).put (.string (jB k).data.toList) (.lit (.int .i64 (10+(k:Int))))
theorem af0:Keyed M 9:=string_keyed Tryz.underlying9
theorem pL{H:Type}(w:N)(fr:Nat×Nat)(f:TypeId)(g:w.heap[3]?=V (.cells ez f fr)):
  A0 M 70 #[] w fun e i=>e= .returned (.map (V w.heap.size))/\i.ownsMap M 9 (plainElem (H:=H) M 3) w.heap.size 22 (yl 22)/\A1 w.heap.size w i:=by
 have b:3<w.heap.size:=ah g;have r:∀w:N,(Instr.makeMap 147 (V (.int .i64 22))).run M w= .ok (.map (V w.heap.size)) (w.alloc (.map #[] 0)):=fun w=>by kernel_rfl
 have j:(w.alloc (.map #[] 0)).heap[3]?=V (.cells ez f fr):=(bm w _ _ b).trans g;go_in;go_wp2_with (refine tL rfl 192 _ rfl 3 rfl f _ fr _ j Tryz.underlying192 rfl (by kernel_rfl) ?_);go_loopw [6] (fun d wr=>∃a:Nat,a<=22/\d= .int .i64 a/\wr.ownsMap M 9 (plainElem (H:=H) M 3) w.heap.size a (yl a)/\A1 w.heap.size w wr) (fun d _=>22-(Bs d).toNat)
 case atStart=>exact⟨0,by omega,rfl,World.ownsMap_made _ _ _ _,(ag _ _).alloc (ae _) _⟩
 case round=>
  obtain⟨a,q,rfl,h,c⟩:=hrel;by_cases b:a<22
  ·have p:=fun w=>amc a b w;have s:(jB a).size<=100:=GE ⟨a,b⟩;have m:keyOf M 9 (.string (jB a))=V (.string (jB a).data.toList):=keyOf_string_mk Tryz.underlying9 (by unfold A9;omega);have o:Hid (yl (H:=H) (a+1)=(yl a).put (.string (jB a).data.toList) (.lit (.int .i64 (10+(a:Int))))):=rfl;go_wp2_with (at_mapUpdate;refine wpList_mapUpdate_own _ rfl _ _ _ 147 rfl 9 3 af0 Tryz.underlying147 _ w.heap.size a _ rfl h (by unfold A9;omega) _ _ _ rfl rfl m _ [] (plainElem_int Tryz.underlying3 (WalkArith.wf_i64 (by omega))) ?_;intro u n k);go_roundw
   case rel=>exact⟨a+1,by omega,by go_num,by rw[o.out];exact n,c.grown k c.size (fun t l=>by cases l;exact ae _)⟩
   case measure=>simp[Bs];omega
  ·obtain rfl:a=22:=by omega
   go_wp2;go_ret;exact⟨rfl,h,c⟩
