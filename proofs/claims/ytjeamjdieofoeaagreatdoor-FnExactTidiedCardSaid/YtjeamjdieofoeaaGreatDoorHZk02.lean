import Derived.WalkSpells
import Derived.Deep.RegionHeld3
import Derived.Deep.AppendLies
import Derived.BigQuiet
import Derived.OneCell
import Derived.Test.YtjeamjdieofoeaaGreatDoorHZk01
import Derived.Lib.Bytealg
set_option linter.all false
set_option maxRecDepth 100000
set_option maxHeartbeats 6400000
open Go.Value renaming string->M,int->O,slice->A5,tuple->B1,bool->B4,agg->C2
open Go.Proofs.Tryz renaming prog->N
open Bool renaming false->S,true->Z
open Go.IntKind renaming i64->T,u8->B0
open Go.Ending renaming returned->U
open Option renaming none->W,some->X
open Go renaming World->Y,Value->Ax,Calls->A0,maxLen->Cb
open Go.RowKit renaming Below->A2,intOf->Bs,Hid->Er
open ByteArray renaming empty->A9
open Go.Obj renaming cells->Br
open Go.Instr renaming index->B3
open Go.World renaming news_of_block->B6,setCell->B7
namespace Go.Proofs.YtjeamjdieofoeaaGreatDoor
open Go.RowKit
variable{B b i t:Nat}{Q:Exit->Act->World->Prop}{R:Bool×Nat×List Int}{a:Act}{f fr l n p:Int}{k:Bool}{m:Value}{o:Oper}{ops:Array Oper}{s:ByteArray}{w w' y:World}
theorem Tryz.info5:(Tryz.prog.info? 5).map (fun i=>(i.zero,i.size,i.bytes))=X (X (O B0 0),1,1):=by kernel_rfl
def B8(l:List Int):List Ax:=l.map (Value.int B0)
theorem aed(a b:List Int):B8 (a++b)=B8 a++B8 b:=by simp[B8]
theorem aee(a:List Int):(B8 a).length=a.length:=by simp[B8]
theorem xC{base n:Nat}{v:Ax}{l:List Int}(h:w.ownsRow base 5 1 v n (B8 l)):l.length=n:=by
 have:=h.1;simpa [B8] using this
theorem jc{i:List Oper}(p:o.guard=W)(s x:Operand)
  (z:o.op= .call {callee:= .builtin .append,args:=#[s,x],argTypes:=#[39,39]}) (base:Nat) (v:Ax) (n:Nat) (l:List Int) (B:a.eval s=v)
  (e:w.ownsRow base 5 1 v n (B8 l)) (j:base<=w.heap.size) (K:n<=100000) (d:List Int) (m:Nat) (u:d.length=m) (y:0<m) (J:m<=100) (cs:Array Ax) (k:cs.toList=B8 d)
  (C:a.eval x= .slice (X ⟨w.heap.size,0,W⟩) m m)
  (h:∀g c b,b.ownsRow base 5 1 (.slice (X ⟨g,0,W⟩) (n+m) c) (n+m) (B8 (l++d))->A2 base w b->wpList N ops Q i (a.put o.dst (.slice (X ⟨g,0,W⟩) (n+m) c)) b):
  wpList N ops Q (o::i) a (w.alloc (.cells cs 5)):=by
 obtain⟨H,r,E,F,G⟩:=du Tryz.info5;refine wpList_append_lies _ p s x 39 z base 5 H (.int .u8 0) 1 1 Tryz.underlying39 r E F G rfl (by decide) v n (B8 l) B (e.alloc _) ⟨w.heap.size,0,W⟩ m m (B8 d) C (by simp[B8,u])
  (by rw[<-k];exact B6 (fr:=(0,0)) (aA w _)) (by intro ad f;simp[B8]at f;obtain⟨L,_,rfl⟩:=f;rfl) y (by unfold Cb;omega) (by omega) (by simp;omega) (w.heap.size+1) (by simp) ?_
 intro g c b A q _ _;refine h g c b (by rw[aed];exact A) (((ah base w).alloc j _).grown q (by simp;omega) (fun I t=>(e.lt I t).1))
def nH(a:Int):Int:=if a<10 then 48+a else 87+a
def en(c:Int):List Int:=if c=10 then [92,110] else if c=9 then [92,116] else if c=34\/c=92 then [92,c] else if c<32\/126<c then [92,120,nH (c / 16),nH (c%16)] else [c]
theorem am3(v:Ax)(n base:Nat)(l:List Int)(w:Y)(f:w.ownsRow base 5 1 v n (B8 l))(c:base<=w.heap.size)(d:n<=100000):
  A0 N 194 #[v,O B0 10] w fun e w'=>∃g a,e= U (A5 (X ⟨g,0,W⟩) (n+2) a)/\
   w'.ownsRow base 5 1 (A5 (X ⟨g,0,W⟩) (n+2) a) (n+2) (B8 (l++[92,110]))/\A2 base w w':=by
 go_in;go_wp2_with (at_builtin;refine jc rfl (.tmp 8) (.tmp 9) rfl base v n l rfl f c d [92,110] 2 rfl (by decide) (by decide) _ rfl rfl ?_;intro g a i h b);go_wp2;go_ret;exact⟨g,a,rfl,h,b⟩
theorem akw(v:Ax)(n base:Nat)(l:List Int)(w:Y)(f:w.ownsRow base 5 1 v n (B8 l))(c:base<=w.heap.size)(d:n<=100000):
  A0 N 194 #[v,O B0 9] w fun e w'=>∃g a,e= U (A5 (X ⟨g,0,W⟩) (n+2) a)/\
   w'.ownsRow base 5 1 (A5 (X ⟨g,0,W⟩) (n+2) a) (n+2) (B8 (l++[92,116]))/\A2 base w w':=by
 go_in;go_wp2_with (at_builtin;refine jc rfl (.tmp 14) (.tmp 15) rfl base v n l rfl f c d [92,116] 2 rfl (by decide) (by decide) _ rfl rfl ?_;intro g a i h b);go_wp2;go_ret;exact⟨g,a,rfl,h,b⟩
theorem akx(v:Ax)(n base:Nat)(l:List Int)(c:Int)(j:c=34\/c=92)(w:Y)(i:w.ownsRow base 5 1 v n (B8 l))(f:base<=w.heap.size)(h:n<=100000):
  A0 N 194 #[v,O B0 c] w fun e w'=>∃g a,e= U (A5 (X ⟨g,0,W⟩) (n+2) a)/\
   w'.ownsRow base 5 1 (A5 (X ⟨g,0,W⟩) (n+2) a) (n+2) (B8 (l++[92,c]))/\A2 base w w':=by
 rcases j with rfl|rfl
 ·go_in;go_wp2_with (at_builtin;refine jc rfl (.tmp 24) (.tmp 26) rfl base v n l rfl i f h [92,34] 2 rfl (by decide) (by decide) _ rfl rfl ?_;intro g a k d b);go_wp2;go_ret;exact⟨g,a,rfl,d,b⟩
 ·go_in;go_wp2_with (at_builtin;refine jc rfl (.tmp 24) (.tmp 26) rfl base v n l rfl i f h [92,92] 2 rfl (by decide) (by decide) _ rfl rfl ?_;intro g a k d b);go_wp2;go_ret;exact⟨g,a,rfl,d,b⟩
theorem ahF(v:Ax)(n base:Nat)(l:List Int)(c:Int)(j:32<=c)(k:c<=126)(m:(c==34)=S)(o:(c==92)=S)(w:Y)(h:w.ownsRow base 5 1 v n (B8 l))(d:base<=w.heap.size)(f:n<=100000):
  A0 N 194 #[v,O B0 c] w fun e w'=>∃g a,e= U (A5 (X ⟨g,0,W⟩) (n+1) a)/\
   w'.ownsRow base 5 1 (A5 (X ⟨g,0,W⟩) (n+1) a) (n+1) (B8 (l++[c]))/\A2 base w w':=by
 go_in;go_wp2_with (at_builtin;refine jc rfl (.tmp 44) (.tmp 46) rfl base v n l rfl h d f [c] 1 rfl (by decide) (by decide) _ rfl rfl ?_;intro g a p i b);go_wp2;go_ret;exact⟨g,a,rfl,i,b⟩
def DG:ByteArray:=⟨#[48,49,50,51,52,53,54,55,56,57,97,98,99,100,101,102]⟩
theorem aky:∀i:Fin 16,((DG[i.val]'(by have:=i.isLt;exact this)).toNat:Int)=nH (i.val:Int):=by decide
theorem akb(a:Int)(c:0<=a)(d:a<16)(h:a.toNat<DG.size):((DG[a.toNat]'h).toNat:Int)=nH a:=by
 have:=aky ⟨a.toNat,by omega⟩;have b:((a.toNat:Nat):Int)=a:=by omega
 simp only[b]at this;exact this
theorem yD(a:Int)(c:0<=a)(d:a<16)(w:Y):(B3 9 (M ⟨#[48,49,50,51,52,53,54,55,56,57,97,98,99,100,101,102]⟩) (O B0 a)).run N w= .ok (O B0 (nH a)) w:=by
 have b:a.toNat<DG.size:=by simp only[DG];show a.toNat<16;omega
 have e:=akb a c d b;go_simp;exact e
theorem akz(c:Int)(a:0<=c)(b:c<256):bits .and B0 c 15=c%16:=by
 have:=bits_mask B0 8 (by decide) wraps_u8 4 (by decide) c a b;simpa using this
theorem Bd{K:Act->Y->Prop}{E:Prop}(k:o.guard=W)(s x:Operand)
  (y:o.op= .call {callee:= .builtin .append,args:=#[s,x],argTypes:=#[39,39]}) (base:Nat) (v:Ax) (n:Nat) (l:List Int) (A:a.eval s=v)
  (e:w.ownsRow base 5 1 v n (B8 l)) (i:base<=w.heap.size) (L:n<=100000) (d:List Int) (m:Nat) (t:d.length=m) (u:0<m) (J:m<=100) (cs:Array Ax) (j:cs.toList=B8 d)
  (B:a.eval x= .slice (X ⟨w.heap.size,0,W⟩) m m)
  (h:∀g c b,b.ownsRow base 5 1 (.slice (X ⟨g,0,W⟩) (n+m) c) (n+m) (B8 (l++d))->A2 base w b->K (a.put o.dst (.slice (X ⟨g,0,W⟩) (n+m) c)) b):
  if Region.wanted o (yielded ops a.tmps)=Z then Oper.wp N o a (w.alloc (.cells cs 5)).drew K Q else E:=by
 obtain⟨H,q,C,F,G⟩:=du Tryz.info5;refine step_append_lies _ k s x 39 y base 5 H (.int .u8 0) 1 1 Tryz.underlying39 q C F G rfl (by decide) v n (B8 l) A ((e.alloc _).drew) ⟨w.heap.size,0,W⟩ m m (B8 d) B (by simp[B8,t])
  (by rw[<-j];exact B6 (fr:=(0,0)) (aA w _)) (by intro af f;simp[B8]at f;obtain⟨ad,_,rfl⟩:=f;rfl) u (by unfold Cb;omega) (by omega) (by simp;omega) (w.heap.size+1) (by simp) ?_
 intro g c b z p _ _;refine h g c b (by rw[aed];exact z) ((((ah base w).alloc i _).drew).grown p (by simp;omega) (fun I r=>(e.lt I r).1))
theorem akA(v:Ax)(n base:Nat)(l:List Int)(c:Int)(b:0<=c)(o:c<32)(p:(c==10)=S)(q:(c==9)=S)(r:(c==34)=S)(s:(c==92)=S)(w:Y)(h:w.ownsRow base 5 1 v n (B8 l))(d:base<=w.heap.size)(f:n<=100000):
  A0 N 194 #[v,O B0 c] w fun e w'=>∃g a,e= U (A5 (X ⟨g,0,W⟩) (n+4) a)/\
   w'.ownsRow base 5 1 (A5 (X ⟨g,0,W⟩) (n+4) a) (n+4) (B8 (l++[92,120,nH (c / 16),nH (c%16)]))/\A2 base w w':=by
 have y:=yD (c / 16) (by omega) (by omega);have z:=yD (c%16) (by omega) (by omega);have u:bits .and B0 c 15=c%16:=akz c b (by omega);have i:0<=c / 16:=by omega
 have j:c / 16<16:=by omega
 have k:0<=c%16:=by omega
 have m:c%16<16:=by omega
 go_in;go_wp2_with fail;go_region_held3 (fun w'=>True) (trivial) ((refine Bd (by rfl) _ _ (by rfl) base v n l (by rfl) h d f [92,120,_,_] 4 (by rfl) (by decide) (by decide) _ (by rfl) (by rfl) ?_;intro g a A x t))
 all_goals
  go_wp2;go_ret;exact⟨_,_,rfl,by assumption,by assumption⟩
theorem aef(v:Ax)(n base:Nat)(l:List Int)(c:Int)(o:126<c)(b:c<256)(p:(c==10)=S)(q:(c==9)=S)(r:(c==34)=S)(s:(c==92)=S)(w:Y)(h:w.ownsRow base 5 1 v n (B8 l))(d:base<=w.heap.size)(f:n<=100000):
  A0 N 194 #[v,O B0 c] w fun e w'=>∃g a,e= U (A5 (X ⟨g,0,W⟩) (n+4) a)/\
   w'.ownsRow base 5 1 (A5 (X ⟨g,0,W⟩) (n+4) a) (n+4) (B8 (l++[92,120,nH (c / 16),nH (c%16)]))/\A2 base w w':=by
 have y:=yD (c / 16) (by omega) (by omega);have z:=yD (c%16) (by omega) (by omega);have u:bits .and B0 c 15=c%16:=akz c (by omega) b;have i:0<=c / 16:=by omega
 have j:c / 16<16:=by omega
 have k:0<=c%16:=by omega
 have m:c%16<16:=by omega
 go_in;go_wp2_with fail;go_region_held3 (fun w'=>True) (trivial) ((refine Bd (by rfl) _ _ (by rfl) base v n l (by rfl) h d f [92,120,_,_] 4 (by rfl) (by decide) (by decide) _ (by rfl) (by rfl) ?_;intro g a A x t))
 all_goals
  go_wp2;go_ret;exact⟨_,_,rfl,by assumption,by assumption⟩
theorem akB(v:Ax)(n base:Nat)(l:List Int)(c:Int)(k:0<=c)(m:c<256)(w:Y)(h:w.ownsRow base 5 1 v n (B8 l))(d:base<=w.heap.size)(f:n<=100000):
  A0 N 194 #[v,O B0 c] w fun e w'=>∃g j,e= U (A5 (X ⟨g,0,W⟩) (n+(en c).length) j)/\
   w'.ownsRow base 5 1 (A5 (X ⟨g,0,W⟩) (n+(en c).length) j) (n+(en c).length) (B8 (l++en c))/\A2 base w w':=by
 by_cases a:c=10
 ·subst a;exact am3 v n base l w h d f
 by_cases b:c=9
 ·subst b;exact akw v n base l w h d f
 by_cases i:c=34\/c=92
 ·have:en c=[92,c]:=by unfold en;rw[aa a,aa b,ab i]
  rw[this];exact akx v n base l c i w h d f
 by_cases e4:c<32\/126<c
 ·have:en c=[92,120,nH (c / 16),nH (c%16)]:=by unfold en;rw[aa a,aa b,aa i,ab e4]
  rw[this];rcases e4 with e4|e4
  ·exact akA v n base l c k e4 (by simp[a]) (by simp[b]) (by simp;omega) (by simp;omega) w h d f
  ·exact aef v n base l c e4 m (by simp[a]) (by simp[b]) (by simp;omega) (by simp;omega) w h d f
 ·have:en c=[c]:=by unfold en;rw[aa a,aa b,aa i,aa e4]
  rw[this];exact ahF v n base l c (by omega) (by omega) (by simp;omega) (by simp;omega) w h d f
def fG(l:List Int):ByteArray:=l.foldl (fun a n=>a.push (UInt8.ofNat n.toNat)) A9
theorem oI{base g n b:Nat}{l:List Int}(c:w.ownsRow base 5 1 (.slice (X ⟨g,0,W⟩) n b) n (B8 l)):
  (convert 39 9 (.slice (X ⟨g,0,W⟩) n b)).run N w= .ok (.string (fG l)) w:=by
 rw[FE w 39 9 5 _ _ _ Tryz.underlying39 Tryz.underlying5 Tryz.underlying9];have f:=xC c;refine run_bytesToString w _ n b l ?_;rcases c.2 with⟨d,_⟩|⟨p,m,o,i,_,e,_,_,q,h⟩
 ·cases d
 ·cases i;have:=run_loadCells_list (P:=N) w ⟨g,0,W⟩ (B8 l) (fun j k a=>by
   refine B6 e j k ?_;rw[<-h]at a;rw[jH]at a;split at a
   ·exact a
   ·cases a)
  rw[aee,f]at this;exact this
theorem uG(w:Y)(c:Int):(w.alloc (Br #[O B0 c] 5)).ownsRow w.heap.size 5 1 (A5 (X ⟨w.heap.size,0,W⟩) 1 1) 1 (B8 [c]):=
 ⟨rfl,.inr ⟨w.heap.size,1,#[O B0 c],rfl,ag _,aA w _,ag _,by unfold Cb;omega,rfl,rfl⟩⟩
theorem ahG(c:Int):(en c).length<=4:=by
 unfold en;split
 ·decide
 split
 ·decide
 split
 ·simp
 split<;>simp
def qt(s:ByteArray)(k:Nat):List Int:=34::(s.data.toList.take k).flatMap fun b=>en (b.toNat:Int)
theorem FJ(s:ByteArray)(k:Nat)(h:k<s.size):qt s (k+1)=qt s k++en (s[k].toNat:Int):=by
 unfold qt;rw[List.take_succ_eq_append_getElem (by simpa using h)];simp only[xq,xx,List.flatMap_nil,dA,ej];rfl
theorem FK(s:ByteArray):∀k,k<=s.size->(qt s k).length<=1+4*k
 |0,_=>by simp[qt]
 |k+1,h=>by
  have:=FK s k (by omega);have a:=ahG (s[k].toNat:Int);rw[FJ s k (by omega),aK];omega
def oJ(s:ByteArray):List Int:=qt s s.size++[34]
theorem acy(s:ByteArray)(u:s.size<=4000)(w:Y):
  A0 N 118 #[M s] w fun e w'=>e= U (M (fG (oJ s)))/\A2 w.heap.size w w':=by
 go_in;go_wp2_with fail;go_loopw [3,11] (fun q h wr=>∃a b:Nat,a<=s.size/\h= O T a/\wr.ownsRow w.heap.size 5 1 q b (B8 (qt s a))/\A2 w.heap.size w wr) (fun _ h _=>s.size-(Bs h).toNat)
 case atStart=>exact⟨0,1,aL _,rfl,uG w 34,(ah _ _).alloc (ag _) _⟩
 case round=>
  obtain⟨a,b,k,rfl,f,c⟩:=hrel;have m:=xC f;have o:=FK s a k;have t:b<=20000:=by omega
  clear m o;by_cases n:a<s.size
  ·have p:Er (qt s (a+1)=qt s a++en (s[a].toNat:Int)):=FJ s a n;have r:(s[a].toNat:Int)<256:=by have:=s[a].toNat_lt;omega
   go_wp2_with (go_at_call 194;refine(akB _ b w.heap.size (qt s a) _ (by omega) (by omega) _ f c.size (by omega)).mono ?_;rintro e w' ⟨j,i,rfl,g,d⟩);go_roundw
   case rel=>exact⟨a+1,_,by omega,by go_num,by rw[p.out];exact g,c.trans d⟩
   case measure=>simp[Bs];omega
  ·have l:a=s.size:=by omega
   subst l;go_wp2_with (at_builtin;refine jc rfl (.tmp 20) (.tmp 21) rfl w.heap.size _ b (qt s s.size) rfl f c.size (by omega) [34] 1 rfl (by decide) (by decide) _ rfl rfl ?_;intro j i x g d;have v:=oI g);go_ret;exact⟨rfl,c.trans d⟩
theorem FL(w:Y)(b:Nat):w.grownBy w (X b):=⟨rfl,rfl,rfl,ag _,fun _ _ _=>rfl⟩
theorem Bw{a:Y}(h:a.grownBy w (X b))(n:Nat):a.grownBy (w.drewN n) (X b):=⟨h.os,h.tape,h.output,h.size,h.block⟩
theorem acz(base:Nat)(w:Y)(n:Nat):A2 base w (w.drewN n):=⟨rfl,rfl,rfl,ag _,fun _ _=>rfl⟩
theorem Ih(w:Y):(convert 39 9 (.slice W 0 0)).run N w= .ok (.string A9) w:=by
 rw[FE w 39 9 5 _ _ _ Tryz.underlying39 Tryz.underlying5 Tryz.underlying9];simp[Conv.bytesToString,Sem.run_pure]
theorem acA(l:List Int):∀r:ByteArray,(l.foldl (fun r n=>r.push (UInt8.ofNat n.toNat)) r).size=r.size+l.length:=by
 induction l with
 |nil=>intro r;rfl
 |cons b l a=>intro r;simp only[qe,bB];rw[a,ByteArray.size_push];omega
theorem acB(l:List Int):(fG l).size=l.length:=by
 unfold fG;rw[acA];simp
def lJ(c:Int):Bool:=decide (c=32\/c=9\/c=13)
def bJ(c:Int):Bool:=decide ((97<=c/\c<=122)\/(65<=c/\c<=90)\/c=95)
def cp(c:Int):Bool:=decide (48<=c/\c<=57)
theorem Ii(c:Int)(w:Y):A0 N 129 #[O B0 c] w fun e w'=>e= U (B4 (lJ c))/\w=w':=by
 rcases(show c=32\/c=9\/c=13\/(c≠32/\c≠9/\c≠13) by omega) with rfl|rfl|rfl|⟨a,b,d⟩
 ·go_in;go_wp2;go_ret;exact⟨rfl,rfl⟩
 ·go_in;go_wp2;go_ret;exact⟨rfl,rfl⟩
 ·go_in;go_wp2;go_ret;exact⟨rfl,rfl⟩
 ·have f:(c==32)=S:=by simp[a]
  have g:(c==9)=S:=by simp[b]
  have h:(c==13)=S:=by simp[d]
  have e:lJ c=S:=by simp[lJ,a,b,d]
  rw[e];clear e a b d;go_in;go_wp2;go_ret;exact⟨rfl,rfl⟩
theorem iH(c:Int)(w:Y):A0 N 200 #[O B0 c] w fun e w'=>e= U (B4 (cp c))/\w=w':=by
 rcases(show c<48\/57<c\/(48<=c/\c<=57) by omega) with h|h|⟨d,b⟩
 ·have e:cp c=S:=by simp[cp];omega
  rw[e];clear e;have a:¬48<=c:=by omega
  go_in;go_wp2;go_ret;exact⟨rfl,rfl⟩
 ·have e:cp c=S:=by simp[cp];omega
  rw[e];clear e;have a:¬c<=57:=by omega
  have b:48<=c:=by omega
  go_in;go_wp2;go_ret;exact⟨rfl,rfl⟩
 ·have e:cp c=Z:=by simp[cp];omega
  rw[e];clear e;go_in;go_wp2;go_ret;exact⟨rfl,rfl⟩
theorem lK(c:Int)(w:Y):A0 N 198 #[O B0 c] w fun e w'=>e= U (B4 (bJ c))/\w=w':=by
 rcases(show(97<=c/\c<=122)\/(65<=c/\c<=90)\/c=95\/c<65\/(90<c/\c<97/\c≠95)\/122<c by omega) with⟨f,g⟩|⟨f,g⟩|rfl|h|⟨f,g,k⟩|h
 ·have e:bJ c=Z:=by simp[bJ];omega
  rw[e];clear e;go_in;go_wp2;go_ret;exact⟨rfl,rfl⟩
 ·have e:bJ c=Z:=by simp[bJ];omega
  rw[e];clear e;have a:¬97<=c:=by omega
  go_in;go_wp2;go_ret;exact⟨rfl,rfl⟩
 ·go_in;go_wp2;go_ret;exact⟨rfl,rfl⟩
 ·have e:bJ c=S:=by simp[bJ];omega
  rw[e];clear e;have a:¬97<=c:=by omega
  have b:¬65<=c:=by omega
  have d:(c==95)=S:=by simp;omega
  go_in;go_wp2;go_ret;exact⟨rfl,rfl⟩
 ·have e:bJ c=S:=by simp[bJ];omega
  rw[e];clear e;have a:¬97<=c:=by omega
  have b:65<=c:=by omega
  have i:¬c<=90:=by omega
  have d:(c==95)=S:=by simp;omega
  go_in;go_wp2;go_ret;exact⟨rfl,rfl⟩
 ·have e:bJ c=S:=by simp[bJ];omega
  rw[e];clear e;have a:97<=c:=by omega
  have b:¬c<=122:=by omega
  have i:65<=c:=by omega
  have j:¬c<=90:=by omega
  have d:(c==95)=S:=by simp;omega
  go_in;go_wp2;go_ret;exact⟨rfl,rfl⟩
def fK(c:Int):Int:=if 48<=c/\c<=57 then c-48 else if 97<=c/\c<=102 then c-87 else -1
theorem aeg:∀n:Fin 256,Lib.indexByte [48,49,50,51,52,53,54,55,56,57,97,98,99,100,101,102] (n.val.toUInt8)=fK (n.val:Int):=by decide+kernel
theorem ahH(c:Int)(b:0<=c)(d:c<256):Lib.indexByte [48,49,50,51,52,53,54,55,56,57,97,98,99,100,101,102] c.toNat.toUInt8=fK c:=by
 have:=aeg ⟨c.toNat,by omega⟩;have a:((c.toNat:Nat):Int)=c:=by omega
 simp only[a]at this;exact this
theorem aeh(c:Int)(a:0<=c)(b:c<256)(w:Y):A0 N 311 #[M ⟨#[48,49,50,51,52,53,54,55,56,57,97,98,99,100,101,102]⟩,O B0 c] w fun e w'=>e= U (O T (fK c))/\w'=w:=by
 rw[<-ahH c a b];go_in;go_wp2;rw[aa0 Tryz.func315 (by kernel_rfl) (by kernel_rfl) (by kernel_rfl) (e:=Extern.BytealgIndexByte.indexByte) (by kernel_rfl),Lib.run_indexByteString];simp only[Result.andThen];rw[Oper.upon_value];go_wp2;go_ret;exact⟨rfl,rfl⟩
theorem uH(c:Int)(a:0<=c)(b:c<256)(w:Y):A0 N 298 #[M ⟨#[48,49,50,51,52,53,54,55,56,57,97,98,99,100,101,102]⟩,O B0 c] w fun e w'=>e= U (O T (fK c))/\w'=w:=by
 go_in;go_wp2_with (go_at_call 311;refine(aeh c a b _).mono ?_;rintro e w' ⟨rfl,rfl⟩);go_ret;exact⟨rfl,rfl⟩
def ax(s:ByteArray)(i:Nat):Int:=if h:i<s.size then(s[i].toNat:Int) else -1
theorem jt(h:i<s.size):0<=ax s i/\ax s i<256:=by
 unfold ax;rw[mJ h];have:=s[i].toNat_lt;omega
theorem dj(h:¬i<s.size:=by omega):ax s i= -1:=by unfold ax;rw[dif_neg h]
theorem cL(h:i<s.size)(w:Y):(B3 9 (M s) (O T (i:Int))).run N w= .ok (O B0 (ax s i)) w:=by
 unfold ax;rw[mJ h];go_simp
theorem xD(h:i+1<s.size)(w:Y):(B3 9 (M s) (O T ((i:Int)+1))).run N w= .ok (O B0 (ax s (i+1))) w:=by
 have:=cL h w;have a:((i+1:Nat):Int)=(i:Int)+1:=by omega
 rw[a]at this;exact this
theorem mK(c:Int):fK c<16:=by unfold fK;split;omega;split<;>omega
theorem or4(a b:Int)(e:0<=a)(f:a<256)(g:a%16=0)(c:0<=b)(d:b<16):bits .or T a b=a+b:=
 bits_join T 8 (by decide) (fun h a b=>by rw[ed];omega) 4 a b e g f c d (by omega)
theorem or0(b:Int)(a:0<=b)(c:b<16):bits .or T 0 b=b:=by
 have:=or4 0 b (by omega) (by omega) (by omega) a c;rw[this];omega
def dc(s:ByteArray)(p:Nat):Int×Nat×Bool:=
 if fK (ax s p)<0 then(0,p,S) else if fK (ax s (p+1))<0 then(0,p+1,S) else(fK (ax s p)*16+fK (ax s (p+1)),p+1+1,Z)
def aei(r:Int×Nat×Bool):Ax:= B1 #[O B0 r.1,O T (r.2.1:Int),B4 r.2.2]
theorem Ij(s:ByteArray)(v:s.size<=100000)(p:Nat)(l:p+1<s.size)(x a:Int)(g:fK (ax s p)=x)(h:fK (ax s (p+1))=a)(x0:0<=x)(q:0<=a)(w:Y):
  A0 N 281 #[M s,O T p] w fun e w'=>e= U (B1 #[O B0 (x*16+a),O T ((p:Int)+1+1),B4 Z])/\w'=w:=by
 have o:x<16:=by rw[<-g];exact mK _
 have r:a<16:=by rw[<-h];exact mK _
 have m:=fun w=>cL (s:=s) (i:=p) (by omega) w;have n:=fun w=>xD (s:=s) (i:=p) (by omega) w;have t:=or0 x x0 o;have u:=or4 (x*16) a (by omega) (by omega) (by omega) q r;have b:=jt (s:=s) (i:=p) (by omega);have c:=jt (s:=s) (i:=p+1) l;obtain⟨j,d⟩:=az (ax s p);obtain⟨k,f⟩:=az (ax s (p+1));rw[d]at g m b;rw[f]at h n c;clear d f;go_in;go_wp21
 refine pH 3 ?_;rw[iK];go_wp2_with (go_at_call 298;refine(uH j b.1 b.2 _).mono ?_;rintro e w' ⟨rfl,rfl⟩);rw[iK];go_wp2_with (go_at_call 298;refine(uH k c.1 c.2 _).mono ?_;rintro e y ⟨rfl,rfl⟩);rw[iK];go_wp2;go_ret3
 exact⟨rfl,rfl⟩
theorem DH(s:ByteArray)(h:s.size<=100000)(p:Nat)(g:p<s.size)(x:Int)(d:fK (ax s p)=x)(x0:x<0)(w:Y):
  A0 N 281 #[M s,O T p] w fun e w'=>e= U (B1 #[O B0 0,O T (p:Int),B4 S])/\w'=w:=by
 have f:=fun w=>cL (s:=s) (i:=p) (by omega) w;have a:=jt (s:=s) (i:=p) (by omega);obtain⟨c,b⟩:=az (ax s p);rw[b]at d f a;clear b;go_in;go_wp21
 refine pH 1 ?_;rw[iK];go_wp2_with (go_at_call 298;refine(uH c a.1 a.2 _).mono ?_;rintro e w' ⟨rfl,rfl⟩);go_ret3
 exact⟨rfl,rfl⟩
theorem Ik(s:ByteArray)(b:s.size<=100000)(p:Nat)(a:p=s.size)(w:Y):
  A0 N 281 #[M s,O T p] w fun e w'=>e= U (B1 #[O B0 0,O T (p:Int),B4 S])/\w'=w:=by
 subst a;go_in;go_wp2_with fail;refine pH 1 ?_;rw[iK];go_wp2;go_ret3
 exact⟨rfl,rfl⟩
theorem By(s:ByteArray)(o:s.size<=100000)(p:Nat)(k:p+1<s.size)(x g:Int)(f:fK (ax s p)=x)(l:fK (ax s (p+1))=g)(x0:0<=x)(t:g<0)(w:Y):
  A0 N 281 #[M s,O T p] w fun e w'=>e= U (B1 #[O B0 0,O T ((p:Int)+1),B4 S])/\w'=w:=by
 have r:x<16:=by rw[<-f];exact mK _
 have m:=fun w=>cL (s:=s) (i:=p) (by omega) w;have n:=fun w=>xD (s:=s) (i:=p) (by omega) w;have a:=jt (s:=s) (i:=p) (by omega);have b:=jt (s:=s) (i:=p+1) k;obtain⟨h,c⟩:=az (ax s p);obtain⟨j,d⟩:=az (ax s (p+1));rw[c]at f m a;rw[d]at l n b;clear c d;go_in;go_wp21
 refine pH 2 ?_;rw[iK];go_wp2_with (go_at_call 298;refine(uH h a.1 a.2 _).mono ?_;rintro e w' ⟨rfl,rfl⟩);rw[iK];go_wp2_with (go_at_call 298;refine(uH j b.1 b.2 _).mono ?_;rintro e q ⟨rfl,rfl⟩);go_ret3
 exact⟨rfl,rfl⟩
theorem Il(s:ByteArray)(h:s.size<=100000)(p:Nat)(f:p+1=s.size)(x:Int)(c:fK (ax s p)=x)(x0:0<=x)(w:Y):
  A0 N 281 #[M s,O T p] w fun e w'=>e= U (B1 #[O B0 0,O T ((p:Int)+1),B4 S])/\w'=w:=by
 have l:x<16:=by rw[<-c];exact mK _
 have g:=fun w=>cL (s:=s) (i:=p) (by omega) w;have j:((p:Int)+1==(s.size:Int))=Z:=by simp;omega
 have k:p<=100000:=by omega
 have a:=jt (s:=s) (i:=p) (by omega);obtain⟨d,b⟩:=az (ax s p);rw[b]at c g a;clear b f;go_in;go_wp21
 refine pH 2 ?_;rw[iK];go_wp2_with (go_at_call 298;refine(uH d a.1 a.2 _).mono ?_;rintro e w' ⟨rfl,rfl⟩);rw[iK];go_wp2;go_ret3
 exact⟨rfl,rfl⟩
theorem In(s:ByteArray)(a:s.size<=100000)(p:Nat)(h:p<=s.size)(w:Y):
  A0 N 281 #[M s,O T p] w fun e w'=>e= U (aei (dc s p))/\w'=w:=by
 have g:fK (-1)= -1:=by decide
 unfold dc aei;by_cases f:p<s.size
 ·by_cases c:fK (ax s p)<0
  ·rw[ab c];exact DH s a p f _ rfl c w
  ·rw[aa c];by_cases b:p+1<s.size
   ·by_cases d:fK (ax s (p+1))<0
    ·rw[ab d];exact By s a p b _ _ rfl rfl (by omega) d w
    ·rw[aa d];exact Ij s a p b _ _ rfl rfl (by omega) (by omega) w
   ·have e:=dj (s:=s) (i:=p+1) b;rw[ab (by rw[e,g];omega)];exact Il s a p (by omega) _ rfl (by omega) w
 ·have e:=dj (s:=s) (i:=p) f;rw[ab (by rw[e,g];omega)];exact Ik s a p (by omega) w
def jg(s:ByteArray)(p:Nat):Int×Nat×Bool:=
 if ax s p=110 then(10,p+1,Z) else if ax s p=116 then(9,p+1,Z) else if ax s p=34\/ax s p=92 then(ax s p,p+1,Z) else if ax s p=120 then dc s (p+1) else(0,p,S)
theorem Io(s:ByteArray)(o:s.size<=100000)(p:Nat)(h:p<=s.size)(w:Y):
  A0 N 246 #[M s,O T p] w fun e w'=>e= U (aei (jg s p))/\w'=w:=by
 by_cases n:p<s.size
 ·have q:=fun w=>cL (s:=s) (i:=p) (by omega) w;have x:=jt (s:=s) (i:=p) (by omega);have j:=In s o (p+1) (by omega);have m:((p+1:Nat):Int)=(p:Int)+1:=by omega
  rw[m]at j;unfold jg;obtain⟨a,k⟩:=az (ax s p);rw[k]at q x⊢;clear k;by_cases b:a=110
  ·subst b;go_in;go_wp2;go_ret3
   exact⟨rfl,rfl⟩
  rw[aa b];have r:(a==110)=S:=by simp[b]
  by_cases c:a=116
  ·subst c;go_in;go_wp2;go_ret3
   exact⟨rfl,rfl⟩
  rw[aa c];have t:(a==116)=S:=by simp[c]
  by_cases d:a=34
  ·subst d;go_in;go_wp2;go_ret3
   exact⟨rfl,rfl⟩
  have u:(a==34)=S:=by simp[d]
  by_cases f:a=92
  ·subst f;go_in;go_wp2;go_ret3
   exact⟨rfl,rfl⟩
  have v:(a==92)=S:=by simp[f]
  rw[aa (by omega)];by_cases g:a=120
  ·subst g;rw[ab rfl];clear b c d f r t u v;unfold aei at j⊢;go_in;go_wp2_with (go_at_call 281;refine(j _).mono ?_;rintro e w' ⟨rfl,rfl⟩);go_ret3
   exact⟨rfl,rfl⟩
  rw[aa g];have y:(a==120)=S:=by simp[g]
  clear b c d f g;go_in;go_wp2;go_ret3
  exact⟨rfl,rfl⟩
 ·have e:=dj (s:=s) (i:=p) n;have l:jg s p=(0,p,S):=by unfold jg;rw[e];simp
  rw[l];obtain rfl:p=s.size:=by omega
  clear e l;go_in;go_wp2;go_ret3
  exact⟨rfl,rfl⟩
theorem aa4(s:ByteArray)(p:Nat)(h:p<=s.size):p<=(dc s p).2.1/\(dc s p).2.1<=s.size/\0<=(dc s p).1/\(dc s p).1<256:=by
 have b:fK (-1)= -1:=by decide
 have g:=mK (ax s p);have j:=mK (ax s (p+1));unfold dc;split
 ·simp;omega
 ·rename_i c;have e:p<s.size:=by
   rcases bj p s.size with h|h
   ·exact h
   ·have a:=dj (s:=s) (i:=p) (by omega);rw[a,b]at c;omega
  split
  ·simp;omega
  ·rename_i d;have f:p+1<s.size:=by
    rcases bj (p+1) s.size with h|h
    ·exact h
    ·have a:=dj (s:=s) (i:=p+1) (by omega);rw[a,b]at d;omega
   simp;omega
theorem aa5(s:ByteArray)(p:Nat)(h:p<=s.size):p<=(jg s p).2.1/\(jg s p).2.1<=s.size/\0<=(jg s p).1/\(jg s p).1<256:=by
 unfold jg;by_cases a:p<s.size
 ·have c:=jt a;split
  ·simp;omega
  split
  ·simp;omega
  split
  ·simp;omega
  split
  ·have:=aa4 s (p+1) (by omega);omega
  ·simp;omega
 ·have b:=dj (s:=s) (i:=p) a;rw[b];simp;omega
theorem aej(s:ByteArray)(p:Nat)(h:p<=s.size)(c:(jg s p).2.2=Z):p+1<=(jg s p).2.1:=by
 revert c;unfold jg;split
 ·simp
 split
 ·simp
 split
 ·simp
 split
 ·rename_i a;have d:p<s.size:=by
   rcases bj p s.size with h|h
   ·exact h
   ·have b:=dj (s:=s) (i:=p) (by omega);rw[b]at a;omega
  intro _;exact(aa4 s (p+1) (by omega)).1
 ·simp
def gc(b:Nat)(w:Y)(s:ByteArray)(m:Ax)(fr p l:Int)(k:Bool):Prop:=
 w.heap[b]?=X (Br #[M s,m,O T fr,O T p,O T l,B4 k] 117 (0,0))
def dD(b:Nat)(w:Y)(k f t l n:Int)(x:ByteArray):Prop:=
 w.heap[b]?=X (Br #[O T k,O T f,O T t,O T l,O T n,M x] 67 (0,0))
theorem eK(h:gc b w s m fr p l k):
  w.cell? ⟨b,0,W⟩=X (M s)/\w.cell? ⟨b,1,W⟩=X m/\w.cell? ⟨b,3,W⟩=X (O T p)/\w.cell? ⟨b,4,W⟩=X (O T l)/\w.cell? ⟨b,5,W⟩=X (B4 k)/\
  w.frozen? ⟨b,3,W⟩=S/\w.frozen? ⟨b,4,W⟩=S/\w.frozen? ⟨b,5,W⟩=S:=by
 unfold gc at h;exact⟨by rw[au _ _ _ _ _ _ h];rfl,by rw[au _ _ _ _ _ _ h];rfl,by rw[au _ _ _ _ _ _ h];rfl,by rw[au _ _ _ _ _ _ h];rfl,by rw[au _ _ _ _ _ _ h];rfl,co _ _ _ _ _ h,co _ _ _ _ _ h,co _ _ _ _ _ h⟩
theorem F3(h:gc b w s m fr p l k):w.cell? ⟨b,2,W⟩=X (O T fr)/\w.frozen? ⟨b,2,W⟩=S:=by
 unfold gc at h;exact⟨by rw[au _ _ _ _ _ _ h];rfl,co _ _ _ _ _ h⟩
theorem gc.setF(h:gc b w s m fr p l k)(x:Int):gc b (w.setCell ⟨b,2,W⟩ (O T x)) s m x p l k:=bz w b 2 _ _ _ h
theorem bg{k t:Int}{x:ByteArray}(h:dD b w k f t l n x):
  w.cell? ⟨b,0,W⟩=X (O T k)/\w.cell? ⟨b,1,W⟩=X (O T f)/\w.cell? ⟨b,2,W⟩=X (O T t)/\w.cell? ⟨b,3,W⟩=X (O T l)/\w.cell? ⟨b,4,W⟩=X (O T n)/\w.cell? ⟨b,5,W⟩=X (M x)/\
  (∀j,w.frozen? ⟨b,j,W⟩=S):=by
 unfold dD at h;exact⟨by rw[au _ _ _ _ _ _ h];rfl,by rw[au _ _ _ _ _ _ h];rfl,by rw[au _ _ _ _ _ _ h];rfl,by rw[au _ _ _ _ _ _ h];rfl,by rw[au _ _ _ _ _ _ h];rfl,by rw[au _ _ _ _ _ _ h];rfl,fun j=>co _ _ _ _ _ h⟩
theorem gc.setP(h:gc b w s m fr p l k)(x:Int):gc b (w.setCell ⟨b,3,W⟩ (O T x)) s m fr x l k:=bz w b 3 _ _ _ h
theorem gc.setL(h:gc b w s m fr p l k)(x:Int):gc b (w.setCell ⟨b,4,W⟩ (O T x)) s m fr p x k:=bz w b 4 _ _ _ h
theorem gc.setK(h:gc b w s m fr p l k)(x:Bool):gc b (w.setCell ⟨b,5,W⟩ (B4 x)) s m fr p l x:=bz w b 5 _ _ _ h
theorem gc.other(h:gc b w s m fr p l k){a:Addr}(c:b≠a.block)(v:Ax):gc b (w.setCell a v) s m fr p l k:=(aB w a b v c).trans h
theorem gc.drewN(h:gc b w s m fr p l k)(n:Nat):gc b (w.drewN n) s m fr p l k:=h
theorem gc.below(h:gc b w s m fr p l k)(a:A2 B w w')(c:b<B):gc b w' s m fr p l k:=(a.block b c).trans h
theorem dD.other{k t:Int}{x:ByteArray}(h:dD b w k f t l n x){a:Addr}(c:b≠a.block)(v:Ax):dD b (w.setCell a v) k f t l n x:=(aB w a b v c).trans h
theorem dD.drewN{k t:Int}{x:ByteArray}(h:dD b w k f t l n x)(q:Nat):dD b (w.drewN q) k f t l n x:=h
theorem dD.below{k t:Int}{x:ByteArray}(h:dD b w k f t l n x)(a:A2 B w w')(c:b<B):dD b w' k f t l n x:=(a.block b c).trans h
theorem dD.setKind{k t:Int}{x:ByteArray}(h:dD b w k f t l n x)(a:Int):dD b (w.setCell ⟨b,0,W⟩ (O T a)) a f t l n x:=bz w b 0 _ _ _ h
theorem dD.setTo{k t:Int}{x:ByteArray}(h:dD b w k f t l n x)(a:Int):dD b (w.setCell ⟨b,2,W⟩ (O T a)) k f a l n x:=bz w b 2 _ _ _ h
theorem dD.setNum{k t:Int}{x:ByteArray}(h:dD b w k f t l n x)(a:Int):dD b (w.setCell ⟨b,4,W⟩ (O T a)) k f t l a x:=bz w b 4 _ _ _ h
theorem dD.setText{k t:Int}{x:ByteArray}(h:dD b w k f t l n x)(a:ByteArray):dD b (w.setCell ⟨b,5,W⟩ (M a)) k f t l n a:=bz w b 5 _ _ _ h
def fp(s:ByteArray):Nat->Nat->List Int->Bool×Nat×List Int
 |0,p,a=>(S,p,a)
 |f+1,p,a=>if s.size<=p then(S,p,a) else if ax s p=34 then(Z,p+1,a) else if ax s p=10 then(S,p,a) else if ax s p=92 then
   (if(jg s (p+1)).2.2=Z then fp s f (jg s (p+1)).2.1 (a++[(jg s (p+1)).1]) else(S,(jg s (p+1)).2.1,a))
  else fp s f (p+1) (a++[ax s p])
theorem tE(s:ByteArray):∀(f p:Nat)(a:List Int),p<=s.size->p<=(fp s f p a).2.1/\(fp s f p a).2.1<=s.size/\(fp s f p a).2.2.length<=a.length+(s.size-p)
 |0,p,a,h=>by simp[fp];omega
 |f+1,p,a,h=>by
  unfold fp;split
  ·simp;omega
  split
  ·simp;omega
  split
  ·simp;omega
  split
  ·have e:=aa5 s (p+1) (by omega);split
   ·rename_i b;have:=tE s f (jg s (p+1)).2.1 (a++[(jg s (p+1)).1]) e.2.1;simp at this⊢;omega
   ·simp;omega
  ·have:=tE s f (p+1) (a++[ax s p]) (by omega);simp at this⊢;omega
structure qJ (b t:Nat) (w w':Y):Prop where
 os:w'.os=w.os
 tape:w'.tape=w.tape
 output:w'.output=w.output
 size:w.heap.size<=w'.heap.size
 block:∀k,k<w.heap.size->k≠b->k≠t->w'.heap[k]?=w.heap[k]?
theorem qJ.refl(b t:Nat)(w:Y):qJ b t w w:=⟨rfl,rfl,rfl,ag _,fun _ _ _ _=>rfl⟩
theorem qJ.trans{x z:Y}(h:qJ b t x y)(k:qJ b t y z):qJ b t x z:=
 ⟨k.os.trans h.os,k.tape.trans h.tape,k.output.trans h.output,bL h.size k.size,fun e d a c=>(k.block e (fD d h.size) a c).trans (h.block e d a c)⟩
theorem qJ.drewN{x:Y}(h:qJ b t x y)(n:Nat):qJ b t x (y.drewN n):=⟨h.os,h.tape,h.output,h.size,h.block⟩
theorem qJ.drew{x:Y}(h:qJ b t x y):qJ b t x y.drew:=⟨h.os,h.tape,h.output,h.size,h.block⟩
theorem qJ.setB{x:Y}(h:qJ b t x y)(i:Nat)(v:Ax):qJ b t x (y.setCell ⟨b,i,W⟩ v):=
 ⟨h.os,h.tape,h.output,by simpa [B7] using h.size,fun e d a c=>by rw[aB _ _ _ _ a];exact h.block e d a c⟩
theorem qJ.setT{x:Y}(h:qJ b t x y)(i:Nat)(v:Ax):qJ b t x (y.setCell ⟨t,i,W⟩ v):=
 ⟨h.os,h.tape,h.output,by simpa [B7] using h.size,fun e d c a=>by rw[aB _ _ _ _ a];exact h.block e d c a⟩
theorem qJ.below{x z:Y}(h:qJ b t x y)(k:A2 x.heap.size y z):qJ b t x z:=
 ⟨k.os.trans h.os,k.tape.trans h.tape,k.output.trans h.output,bL h.size k.size,fun c a d e=>(k.block c a).trans (h.block c a d e)⟩
theorem aa6{e:List Oper}(k:o.guard=W)(s x:Operand)
  (u:o.op= .call {callee:= .builtin .append,args:=#[s,x],argTypes:=#[39,39]}) (base:Nat) (v:Ax) (n:Nat) (l:List Int) (z:a.eval s=v)
  (y:w.ownsRow base 5 1 v n (B8 l)) (i:base<=w.heap.size) (t:n<=100000) (b:List Int) (m:Nat) (p:b.length=m) (q:0<m) (r:m<=100) (cs:Array Ax) (j:cs.toList=B8 b)
  (H:Nat) (A:a.eval x= A5 (X ⟨H,0,W⟩) m m) (f:w.heap.size=H)
  (h:∀g d c,c.ownsRow base 5 1 (A5 (X ⟨g,0,W⟩) (n+m) d) (n+m) (B8 (l++b))->A2 base w c->wpList N ops Q e (a.put o.dst (A5 (X ⟨g,0,W⟩) (n+m) d)) c):
  wpList N ops Q (o::e) a (w.alloc (Br cs 5)):=by
 subst f;exact jc k s x u base v n l z y i t b m p q r cs j A h
theorem qK(w:Y)(n:Nat)(a:Addr)(v:Ax):((w.drewN n).setCell a v).heap.size=w.heap.size:=by simp[B7,World.drewN]
theorem aoq{base e size:Nat}{v:Ax}{n:Nat}{xs:List Ax}(h:w.ownsRow base e size v n xs)(c:b<base)(q r:Nat)(x d:Ax):((((w.drewN q).setCell ⟨b,3,W⟩ x).drewN r).setCell ⟨b,3,W⟩ d).ownsRow base e size v n xs:=by
 have f:=sa (w:=w.drewN q) (a:=⟨b,3,W⟩) h c x;exact sa (w:=((w.drewN q).setCell ⟨b,3,W⟩ x).drewN r) (a:=⟨b,3,W⟩) f c d
def Ei(b:Nat)(w:Y):Nat:=match w.cell? ⟨b,3,W⟩ with|some (.int _ a)=>a.toNat|_=>0
theorem tF{p:Nat}(h:gc b w s m fr p l k):Ei b w=p:=by
 unfold Ei;rw[(eK h).2.2.1];simp
def mq(b t:Nat)(w':Y)(s:ByteArray)(m:Ax)(fr:Int)(l f a:Int)(R:Bool×Nat×List Int):Prop:=
 if R.1=Z then gc b w' s m fr R.2.1 l S/\dD t w' 4 f 0 a 0 (fG R.2.2) else gc b w' s m fr R.2.1 l Z/\dD t w' 0 f 0 a 0 A9
theorem mq.yes{c:Int}{p:Nat}{a:List Int}(h:(Z,p,a)=R)(d:gc b w' s m fr p l S)(e:dD t w' 4 f 0 c 0 (fG a)):mq b t w' s m fr l f c R:=by
 subst h;unfold mq;rw[ab rfl];exact⟨d,e⟩
theorem mq.no{c:Int}{p:Nat}{a:List Int}(h:(S,p,a)=R)(d:gc b w' s m fr p l Z)(e:dD t w' 0 f 0 c 0 A9):mq b t w' s m fr l f c R:=by
 subst h;unfold mq;rw[aa (by simp)];exact⟨d,e⟩
theorem aa7(p:Nat):((p+1:Nat):Int)=(p:Int)+1:=by omega
theorem Bz(s:ByteArray)(br:s.size<=70000)(b t:Nat)(w:Y)(m:Ax)(p:Nat)(l f H:Int)(bt:p<s.size)(g:b≠t)(hS:gc b w s m fr p l S)(ar:dD t w 0 f 0 H 0 A9):
  A0 N 202 #[.pointer (X ⟨b,0,W⟩),.pointer (X ⟨t,0,W⟩)] w fun e w'=>e= U (B1 #[])/\qJ b t w w'/\
   mq b t w' s m fr l f H (fp s (s.size+1) (p+1) []):=by
 obtain⟨ba,E⟩:=az (fp s (s.size+1) (p+1) []);rw[E];have a9:=aq E;clear E;have y:=ai hS;have a4:=ai ar;obtain⟨J,K,L,ad,af,al,am,an⟩:=eK hS;go_in;go_wp21
 go_loopw [4] (fun bl wr=>∃(d r k:Nat) (j:List Int),gc b wr s m fr d l S/\dD t wr 0 f 0 H 0 A9/\wr.ownsRow w.heap.size 5 1 bl r (B8 j)/\s.size<d+k/\d<=s.size/\r<=d/\Er (fp s k d j=ba)/\qJ b t w wr) (fun _ wr=>s.size-Ei b wr)
 case atStart=>exact⟨p+1,0,s.size+1,[],hS.setP _,ar.other (dv g) _,dr _ _ _ _,by omega,by omega,by omega,a9,(qJ.refl b t w).setB _ _⟩
 case round=>
  obtain⟨d,r,k,j,i,n,z,bo,bw,bs,I,o⟩:=hrel;clear J K L ad af al am an;obtain⟨J,K,L,ad,af,al,am,an⟩:=eK i;obtain⟨bA,bD,bE,bF,b0,b1,b2⟩:=bg n;have a3:=o.size;obtain⟨k,rfl⟩:∃A,k=A+1:=⟨k-1,by omega⟩;by_cases a2:d<s.size
  ·have bf:=jt a2;have bc:=fun w=>cL a2 w;have c:=I.out;unfold fp at c;rw[aa (by omega)]at c;obtain⟨v,a1⟩:=az (ax s d);rw[a1]at bf bc c;clear a1;by_cases B:v=34
   ·subst B;rw[ab rfl]at c;have h:=aq c;clear c;rcases z.2 with⟨rfl,bb⟩|⟨A,ak,bn,rfl,bx⟩
    ·have av:j=[]:=by have:=xC z;rw[bb]at this;exact ia this
     have a8:=aq av;clear av;have bd:=Ih;go_wp21
     go_quiet (fail)
     go_wp21
     go_quiet (fail)
     go_wp2;refine aI (dJ rfl _ _ _) rfl ?_;refine⟨rfl,(((o.drewN _).setB _ _).setT _ _).setT _ _,mq.yes h (by rw[aa7];exact(((i.drewN _).setP _).other g _).other g _) ?_⟩;rw[a8.out];exact(((n.drewN _).other (dv g) _).setKind _).setText _
    ·have bd:=fun bk=>oI (sa (w:=wr.drewN bk) (a:=⟨b,3,W⟩) z y (O T ((d:Int)+1)));go_wp21
     go_quiet (fail)
     go_wp21
     go_quiet (fail)
     go_wp2;refine aI (dJ rfl _ _ _) rfl ?_;exact⟨rfl,(((o.drewN _).setB _ _).setT _ _).setT _ _,mq.yes h (by rw[aa7];exact(((i.drewN _).setP _).other g _).other g _) ((((n.drewN _).other (dv g) _).setKind _).setText _)⟩
   rw[aa B]at c;by_cases C:v=10
   ·subst C;rw[ab rfl]at c;have h:=aq c;clear c;go_wp21
    go_quiet (fail)
    go_wp21
    go_quiet (fail)
    go_wp2;refine aI (dJ rfl _ _ _) rfl ?_;exact⟨rfl,(o.drewN _).setB _ _,mq.no h ((i.drewN _).setK _) ((n.drewN _).other (dv g) _)⟩
   rw[aa C]at c;by_cases ao:v=92
   ·subst ao;rw[ab rfl]at c;have u:=Io s (by omega) (d+1) (by omega);have a0:=aa5 s (d+1) (by omega);have F:=aej s (d+1) (by omega);rw[aa7]at u;obtain⟨a7,ap⟩:=az (jg s (d+1));rw[ap]at u a0 F c;clear ap B C;obtain⟨a6,e,bh⟩:=a7;simp only at a0 F c;unfold aei at u;simp only at u;cases bh
    ·rw[aa (by simp)]at c;have h:=aq c;clear c;go_wp21
     go_quiet (fail)
     go_wp21
     go_quiet (fail)
     go_wp21
     go_quiet ((go_at_call 246;exact Calls.quiet_of_same (u _)))
     go_wp2;refine aI (dJ rfl _ _ _) rfl ?_;exact⟨rfl,(((((o.drewN _).setB _ _).drewN _).setB _ _).setB _ _),mq.no h (((((i.drewN _).setP _).drewN _).setP _).setK _) (((((n.drewN _).other (dv g) _).drewN _).other (dv g) _).other (dv g) _)⟩
    ·rw[ab rfl]at c;have h:=aq c;clear c F;go_wp21
     go_quiet (fail)
     go_wp21
     go_quiet (fail)
     go_wp21
     go_quiet ((go_at_call 246;exact Calls.quiet_of_same (u _)))
     go_wp2_with (at_builtin;refine aa6 rfl (.tmp 100) (.tmp 102) rfl w.heap.size _ r j rfl (aoq z y _ _ _ _) (by rw[qK,qK];exact a3) (by omega) [a6] 1 rfl (by decide) (by decide) _ rfl wr.heap.size rfl (by rw[qK,qK]) ?_;intro A ak a5 G q);have x:=((((i.drewN _).setP _).drewN _).setP _).below q y;go_roundw
     case rel=>exact⟨e,r+1,k,j++[a6],x,((((n.drewN _).other (dv g) _).drewN _).other (dv g) _).below q a4,G,by omega,by omega,by omega,h,((((o.drewN _).setB _ _).drewN _).setB _ _).below q⟩
     case measure=>rw[tF x,tF i];omega
   rw[aa ao]at c;have h:=aq c;clear c;go_wp21
   go_quiet (fail)
   go_wp21
   go_quiet (fail)
   go_wp2_with (at_builtin;refine aa6 rfl (.tmp 43) (.tmp 45) rfl w.heap.size _ r j rfl (sa (a:=⟨b,3,W⟩) (w:=wr.drewN _) z y _) (by rw[qK];exact a3) (by omega) [v] 1 rfl (by decide) (by decide) _ rfl wr.heap.size rfl (qK _ _ _ _) ?_;intro A ak a5 G q);have x:gc b a5 s m fr ((d+1:Nat):Int) l S:=by rw[aa7];exact((i.drewN _).setP _).below q y
   go_roundw
   case rel=>exact⟨d+1,r+1,k,j++[v],x,((n.drewN _).other (dv g) _).below q a4,G,by omega,by omega,by omega,h,((o.drewN _).setB _ _).below q⟩
   case measure=>rw[tF x,tF i];omega
  ·have c:=I.out;unfold fp at c;rw[ab (by omega)]at c;have h:=aq c;clear c;obtain rfl:d=s.size:=by omega
   go_wp21
   go_quiet (fail)
   go_wp2;go_end0
   exact⟨rfl,(o.drewN _).setB _ _,mq.no h ((i.drewN _).setK _) ((n.drewN _).other (dv g) _)⟩
theorem wo{x:Y}{a:Addr}(h:w.grownBy x (X b))(v:Ax)(f:w.heap.size<=a.block):w.grownBy (x.setCell a v) (X b):=
 ⟨h.os,h.tape,h.output,by simpa [B7] using h.size,fun e c d=>by rw[aB _ _ _ _ (by omega)];exact h.block e c d⟩
theorem akC{x:Y}(h:A2 w.heap.size w x)(k:qJ b t x y)(f:w.heap.size<=t):w.grownBy y (X b):=
 ⟨k.os.trans h.os,k.tape.trans h.tape,k.output.trans h.output,bL h.size k.size,fun c a e=>(k.block c (fD a h.size) (fun d=>e (by rw[d])) (by omega)).trans (h.block c a)⟩
open Go.Maps Go.WideMaps
def ez:Array Ax:=#[M ⟨#[97,110,100]⟩,M ⟨#[98,114,101,97,107]⟩,M ⟨#[99,97,116,99,104]⟩,M ⟨#[99,111,110,115,116]⟩,M ⟨#[100,101,102,101,114]⟩,M ⟨#[101,108,105,102]⟩,M ⟨#[101,108,115,101]⟩,M ⟨#[102,97,108,115,101]⟩,M ⟨#[102,110]⟩,M ⟨#[102,111,114]⟩,M ⟨#[105,102]⟩,M ⟨#[105,110]⟩,M ⟨#[108,101,116]⟩,M ⟨#[110,101,120,116]⟩,M ⟨#[110,105,108]⟩,M ⟨#[110,111,116]⟩,M ⟨#[111,114]⟩,M ⟨#[114,101,116,117,114,110]⟩,M ⟨#[116,104,114,111,119]⟩,M ⟨#[116,114,117,101]⟩,M ⟨#[116,114,121]⟩,M ⟨#[119,104,105,108,101]⟩]
def kL(k:Nat):ByteArray:=match ez[k]? with|some (.string s)=>s|_=>A9
theorem aor(k:Nat)(a:k<22)(w:Y):(B3 143 (C2 ez) (O T (k:Int))).run N w= .ok (M (kL k)) w:=by
 rcases(show k=0\/k=1\/k=2\/k=3\/k=4\/k=5\/k=6\/k=7\/k=8\/k=9\/k=10\/k=11\/k=12\/k=13\/k=14\/k=15\/k=16\/k=17\/k=18\/k=19\/k=20\/k=21 by omega) with rfl|rfl|rfl|rfl|rfl|rfl|rfl|rfl|rfl|rfl|rfl|rfl|rfl|rfl|rfl|rfl|rfl|rfl|rfl|rfl|rfl|rfl;all_goals kernel_rfl
theorem Ip:∀k:Fin 22,(kL k.val).size<=100:=by decide
def xF{H:Type}:Nat->DataW H
 |0=> .map []
 |k+1=>(xF k).put (.string (kL k).data.toList) (.lit (.int .i64 (10+(k:Int))))
theorem ahI:Keyed N 9:=string_keyed Tryz.underlying9
theorem qu{H:Type}(w:Y)(fr:Nat×Nat)(f:TypeId)(g:w.heap[0]?=X (.cells ez f fr)):
  A0 N 36 #[] w fun e w'=>e= .returned (.map (X w.heap.size))/\w'.ownsMap N 9 (plainElem (H:=H) N 3) w.heap.size 22 (xF 22)/\A2 w.heap.size w w':=by
 have b:=ai g;have q:∀w:Y,(Instr.makeMap 91 (X (.int .i64 22))).run N w= .ok (.map (X w.heap.size)) (w.alloc (.map #[] 0)):=fun w=>by kernel_rfl
 have i:(w.alloc (.map #[] 0)).heap[0]?=X (.cells ez f fr):=(dg w _ _ b).trans g;go_in;go_wp2_with (refine uB rfl 143 _ rfl 0 rfl f _ fr _ i Tryz.underlying143 rfl (by kernel_rfl) ?_);go_loopw [6] (fun d wr=>∃a:Nat,a<=22/\d= .int .i64 a/\wr.ownsMap N 9 (plainElem (H:=H) N 3) w.heap.size a (xF a)/\A2 w.heap.size w wr) (fun d _=>22-(Bs d).toNat)
 case atStart=>exact⟨0,by omega,rfl,World.ownsMap_made _ _ _ _,(ah _ _).alloc (ag _) _⟩
 case round=>
  obtain⟨a,p,rfl,h,c⟩:=hrel;by_cases b:a<22
  ·have o:=fun w=>aor a b w;have r:(kL a).size<=100:=Ip ⟨a,b⟩;have l:keyOf N 9 (.string (kL a))=X (.string (kL a).data.toList):=keyOf_string_mk Tryz.underlying9 (by unfold Cb;omega);have n:Er (xF (H:=H) (a+1)=(xF a).put (.string (kL a).data.toList) (.lit (.int .i64 (10+(a:Int))))):=rfl;go_wp2_with (at_mapUpdate;refine wpList_mapUpdate_own _ rfl _ _ _ 91 rfl 9 3 ahI Tryz.underlying91 _ w.heap.size a _ rfl h (by unfold Cb;omega) _ _ _ rfl rfl l _ [] (plainElem_int Tryz.underlying3 (WalkArith.wf_i64 (by omega))) ?_;intro t m j);go_roundw
   case rel=>exact⟨a+1,by omega,by go_num,by rw[n.out];exact m,c.grown j c.size (fun s k=>by cases k;exact ag _)⟩
   case measure=>simp[Bs];omega
  ·obtain rfl:a=22:=by omega
   go_wp2;go_ret;exact⟨rfl,h,c⟩
def BA:Array Ax:=#[M ⟨#[]⟩,M ⟨#[43]⟩,M ⟨#[45]⟩,M ⟨#[42]⟩,M ⟨#[47]⟩,M ⟨#[47,47]⟩,M ⟨#[37]⟩,M ⟨#[38]⟩,M ⟨#[124]⟩,M ⟨#[126]⟩,M ⟨#[60,60]⟩,M ⟨#[62,62]⟩,M ⟨#[46,46]⟩,M ⟨#[61,61]⟩,M ⟨#[126,61]⟩,M ⟨#[60]⟩,M ⟨#[60,61]⟩,M ⟨#[62]⟩,M ⟨#[62,61]⟩]
def jh:Array Ax:=#[M ⟨#[40]⟩,M ⟨#[41]⟩,M ⟨#[123]⟩,M ⟨#[125]⟩,M ⟨#[91]⟩,M ⟨#[93]⟩,M ⟨#[44]⟩,M ⟨#[61]⟩,M ⟨#[46]⟩,M ⟨#[46,46,46]⟩,M ⟨#[35]⟩]
def jd:Array Ax:=#[M ⟨#[46,46,46]⟩,M ⟨#[46,46]⟩,M ⟨#[46]⟩,M ⟨#[60,60]⟩,M ⟨#[60,61]⟩,M ⟨#[60]⟩,M ⟨#[62,62]⟩,M ⟨#[62,61]⟩,M ⟨#[62]⟩,M ⟨#[61,61]⟩,M ⟨#[61]⟩,M ⟨#[126,61]⟩,M ⟨#[126]⟩,M ⟨#[47,47]⟩,M ⟨#[47]⟩,M ⟨#[40]⟩,M ⟨#[41]⟩,M ⟨#[123]⟩,M ⟨#[125]⟩,M ⟨#[91]⟩,M ⟨#[93]⟩,M ⟨#[44]⟩,M ⟨#[59]⟩,M ⟨#[35]⟩,M ⟨#[43]⟩,M ⟨#[45]⟩,M ⟨#[42]⟩,M ⟨#[37]⟩,M ⟨#[38]⟩,M ⟨#[124]⟩]
theorem ahJ:(#[M ⟨#[]⟩,M ⟨#[43]⟩,M ⟨#[45]⟩,M ⟨#[42]⟩,M ⟨#[47]⟩,M ⟨#[47,47]⟩,M ⟨#[37]⟩,M ⟨#[38]⟩,M ⟨#[124]⟩,M ⟨#[126]⟩,M ⟨#[60,60]⟩,M ⟨#[62,62]⟩,M ⟨#[46,46]⟩,M ⟨#[61,61]⟩,M ⟨#[126,61]⟩,M ⟨#[60]⟩,M ⟨#[60,61]⟩,M ⟨#[62]⟩,M ⟨#[62,61]⟩]:Array Ax)=BA:=rfl
theorem ahK:(#[M ⟨#[40]⟩,M ⟨#[41]⟩,M ⟨#[123]⟩,M ⟨#[125]⟩,M ⟨#[91]⟩,M ⟨#[93]⟩,M ⟨#[44]⟩,M ⟨#[61]⟩,M ⟨#[46]⟩,M ⟨#[46,46,46]⟩,M ⟨#[35]⟩]:Array Ax)=jh:=rfl
def bK(V:Array Ax)(k:Nat):ByteArray:=match V[k]? with|some (.string s)=>s|_=>A9
theorem akD:∀k:Fin 19,BA[k.val]?=X (M (bK BA k.val)):=by
 intro ⟨k,a⟩;rcases(show k=0\/k=1\/k=2\/k=3\/k=4\/k=5\/k=6\/k=7\/k=8\/k=9\/k=10\/k=11\/k=12\/k=13\/k=14\/k=15\/k=16\/k=17\/k=18 by omega) with rfl|rfl|rfl|rfl|rfl|rfl|rfl|rfl|rfl|rfl|rfl|rfl|rfl|rfl|rfl|rfl|rfl|rfl|rfl;all_goals rfl
theorem aek:∀k:Fin 11,jh[k.val]?=X (M (bK jh k.val)):=by
 intro ⟨k,a⟩;rcases(show k=0\/k=1\/k=2\/k=3\/k=4\/k=5\/k=6\/k=7\/k=8\/k=9\/k=10 by omega) with rfl|rfl|rfl|rfl|rfl|rfl|rfl|rfl|rfl|rfl|rfl;all_goals rfl
theorem ael:∀k:Fin 30,jd[k.val]?=X (M (bK jd k.val)):=by
 intro ⟨k,a⟩;rcases(show k=0\/k=1\/k=2\/k=3\/k=4\/k=5\/k=6\/k=7\/k=8\/k=9\/k=10\/k=11\/k=12\/k=13\/k=14\/k=15\/k=16\/k=17\/k=18\/k=19\/k=20\/k=21\/k=22\/k=23\/k=24\/k=25\/k=26\/k=27\/k=28\/k=29 by omega) with rfl|rfl|rfl|rfl|rfl|rfl|rfl|rfl|rfl|rfl|rfl|rfl|rfl|rfl|rfl|rfl|rfl|rfl|rfl|rfl|rfl|rfl|rfl|rfl|rfl|rfl|rfl|rfl|rfl|rfl;all_goals rfl
theorem F4:∀k:Fin 22,ez[k.val]?=X (M (bK ez k.val)):=by
 intro ⟨k,a⟩;rcases(show k=0\/k=1\/k=2\/k=3\/k=4\/k=5\/k=6\/k=7\/k=8\/k=9\/k=10\/k=11\/k=12\/k=13\/k=14\/k=15\/k=16\/k=17\/k=18\/k=19\/k=20\/k=21 by omega) with rfl|rfl|rfl|rfl|rfl|rfl|rfl|rfl|rfl|rfl|rfl|rfl|rfl|rfl|rfl|rfl|rfl|rfl|rfl|rfl|rfl|rfl;all_goals rfl
def vH(V:Array Ax)(s:ByteArray):Nat->Nat->Option Nat
 |0,_=>W
 |f+1,k=>if((bK V k).toList==s.toList)=Z then X k else vH V s f (k+1)
def xG(s:ByteArray):Int:=match vH BA s 18 1 with|some k=>60+(k:Int)|none=>(match vH jh s 11 0 with|some k=>40+(k:Int)|none=>5)
theorem tG(w:Y):A0 N 178 #[] w fun e w'=>e= U (A5 (X ⟨w.heap.size,0,W⟩) 22 22)/\w'=w.alloc (Br ez 9):=by
 go_in;go_wp2;go_ret;exact⟨rfl,rfl⟩
theorem zB(w:Y):A0 N 149 #[] w fun e w'=>e= U (A5 (X ⟨w.heap.size,0,W⟩) 30 30)/\w'=w.alloc (Br jd 9):=by
 go_in;go_wp2;go_ret;exact⟨rfl,rfl⟩
theorem wt(s:ByteArray)(w:Y):A0 N 150 #[M s] w fun e w'=>e= U (O T (xG s))/\A2 w.heap.size w w':=by
 go_in;go_wp21
 rw[ahJ];have t:=aA w (Br BA 9);have l:A2 w.heap.size w (w.alloc (Br BA 9)):=(ah _ w).alloc (ag _) _;generalize w.alloc (Br BA 9)=i at t l⊢;obtain⟨v,q⟩:=az (vH BA s 18 1);have k:=aq q;clear q;go_loop [4] (fun d=>∃a:Nat,1<=a/\a<=19/\d= O T a/\Er (vH BA s (19-a) a=v)) (fun d=>19-(Bs d).toNat)
 case atStart=>exact⟨1,by omega,by omega,rfl,k⟩
 case round=>
  obtain⟨a,C,z,rfl,g⟩:=hrel;by_cases p:a<19
  ·have o:i.cell? ⟨w.heap.size,a,W⟩=X (M (bK BA a)):=by rw[au _ _ _ _ _ _ t];exact akD ⟨a,p⟩
   have b:=g.out;rw[show 19-a=(19-(a+1))+1 by omega]at b;unfold vH at b;generalize bK BA a=j at o b;by_cases c:(j.toList==s.toList)=Z
   ·rw[ab c]at b;have f:=aq b;clear b;go_wp2;go_ret;refine⟨?_,l⟩;unfold xG;rw[k.out,<-f.out];rfl
   ·rw[aa c]at b;have f:=aq b;have B:(j.toList==s.toList)=S:=by simpa using c
    clear b c;go_wp2;go_round
    case rel=>exact⟨a+1,by omega,by omega,by go_num,f⟩
    case measure=>simp[Bs];omega
  ·obtain rfl:a=19:=by omega
   have f:=aq g.out;go_wp21
   rw[ahK];have u:=aA i (Br jh 9);have A:=l.size;have n:A2 w.heap.size w (i.alloc (Br jh 9)):=l.alloc A _;generalize i.alloc (Br jh 9)=y at u n⊢;obtain⟨x,r⟩:=az (vH jh s 11 0);have m:=aq r;clear r;go_loop [26] (fun d=>∃a:Nat,a<=11/\d= O T a/\Er (vH jh s (11-a) a=x)) (fun d=>11-(Bs d).toNat)
   case atStart=>exact⟨0,by omega,rfl,m⟩
   case round=>
    obtain⟨a,z,rfl,g⟩:=hrel;by_cases p:a<11
    ·have o:y.cell? ⟨i.heap.size,a,W⟩=X (M (bK jh a)):=by rw[au _ _ _ _ _ _ u];exact aek ⟨a,p⟩
     have b:=g.out;rw[show 11-a=(11-(a+1))+1 by omega]at b;unfold vH at b;generalize bK jh a=j at o b;by_cases c:(j.toList==s.toList)=Z
     ·rw[ab c]at b;have h:=aq b;clear b;go_wp2;go_ret;refine⟨?_,n⟩;unfold xG;rw[k.out,<-f.out,m.out,<-h.out];rfl
     ·rw[aa c]at b;have h:=aq b;have B:(j.toList==s.toList)=S:=by simpa using c
      clear b c;go_wp2;go_round
      case rel=>exact⟨a+1,by omega,by go_num,h⟩
      case measure=>simp[Bs];omega
    ·obtain rfl:a=11:=by omega
     have h:=aq g.out;go_wp2;go_ret;refine⟨?_,n⟩;unfold xG;rw[k.out,<-f.out,m.out,<-h.out];rfl
def akc:ByteArray:=⟨#[59]⟩
def am4:ByteArray:=⟨#[10]⟩
def KA:ByteArray:=⟨#[]⟩
def KB(kind:Int):Nat->Nat->ByteArray
 |0,_=>KA
 |f+1,k=>if xG (bK jd k)=kind then bK jd k else KB kind f (k+1)
def pG(kind:Int):ByteArray:=if kind=5 then akc else if 10<=kind/\kind<32 then bK ez (kind-10).toNat else KB kind 30 0
def lL:Array Ax:=#[M ⟨#[43]⟩,M ⟨#[45]⟩,M ⟨#[42]⟩,M ⟨#[47]⟩,M ⟨#[47,47]⟩,M ⟨#[37]⟩,M ⟨#[38]⟩,M ⟨#[124]⟩,M ⟨#[126]⟩,M ⟨#[60,60]⟩,M ⟨#[62,62]⟩,M ⟨#[46,46]⟩,M ⟨#[61,61]⟩,M ⟨#[126,61]⟩,M ⟨#[60]⟩,M ⟨#[60,61]⟩,M ⟨#[62]⟩,M ⟨#[62,61]⟩]
theorem akE:∀k:Fin 18,lL[k.val]?=X (M (bK lL k.val)):=by
 intro ⟨k,a⟩;rcases(show k=0\/k=1\/k=2\/k=3\/k=4\/k=5\/k=6\/k=7\/k=8\/k=9\/k=10\/k=11\/k=12\/k=13\/k=14\/k=15\/k=16\/k=17 by omega) with rfl|rfl|rfl|rfl|rfl|rfl|rfl|rfl|rfl|rfl|rfl|rfl|rfl|rfl|rfl|rfl|rfl|rfl;all_goals rfl
structure qv (w:Y):Prop where
 word:∃tt fr,w.heap[0]?=X (.cells ez tt fr)
 mark:∃tt fr,w.heap[1]?=X (.cells jh tt fr)
 bin:∃tt fr,w.heap[2]?=X (.cells lL tt fr)
theorem qv.below(h:qv w)(b:A2 B w w')(a:w.heap.size<=B):qv w':=by
 obtain⟨⟨j,f,c⟩,⟨k,g,d⟩,⟨l,i,e⟩⟩:=h;exact⟨⟨j,f,(b.block _ (fD (ai c) a)).trans c⟩,⟨k,g,(b.block _ (fD (ai d) a)).trans d⟩,⟨l,i,(b.block _ (fD (ai e) a)).trans e⟩⟩
def fy(kind:Int):ByteArray:=if kind=5 then akc else if kind=7 then am4 else if 10<=kind/\kind<=31 then bK ez (kind-10).toNat else if 40<=kind/\kind<=50 then bK jh (kind-40).toNat else if 61<=kind/\kind<=78 then bK lL (kind-61).toNat else KA
theorem qw(kind:Int)(y: -9223372036854775808<=kind)(z:kind<=9223372036854775807)(w:Y)(l:qv w):A0 N 121 #[O T kind] w fun e w'=>e= U (M (fy kind))/\w'=w:=by
 obtain⟨⟨A,s,r⟩,⟨B,t,q⟩,⟨C,u,m⟩⟩:=l;unfold fy;by_cases c:kind=5
 ·subst c;go_in;go_wp2;go_ret;exact⟨rfl,rfl⟩
 by_cases d:kind=7
 ·subst d;go_in;go_wp2;go_ret;exact⟨rfl,rfl⟩
 rw[aa c,aa d];have v:(kind==5)=S:=by simp[c]
 have x:(kind==7)=S:=by simp[d]
 by_cases b:10<=kind/\kind<=31
 ·rw[ab b];obtain⟨a,g⟩:∃a:Nat,kind=10+(a:Int):=⟨(kind-10).toNat,by omega⟩;subst g;rw[show((10+(a:Int))-10).toNat=a by omega];have p:a<22:=by omega
  have j:w.cell? ⟨0,a,W⟩=X (M (bK ez a)):=by rw[au _ _ _ _ _ _ r];exact F4 ⟨a,p⟩
  clear b c d;go_in;go_wp2;go_ret;exact⟨rfl,rfl⟩
 by_cases f:40<=kind/\kind<=50
 ·rw[aa b,ab f];obtain⟨a,g⟩:∃a:Nat,kind=40+(a:Int):=⟨(kind-40).toNat,by omega⟩;subst g;rw[show((40+(a:Int))-40).toNat=a by omega];have n:a<11:=by omega
  have j:w.cell? ⟨1,a,W⟩=X (M (bK jh a)):=by rw[au _ _ _ _ _ _ q];exact aek ⟨a,n⟩
  clear b f c d;go_in;go_wp2;go_ret;exact⟨rfl,rfl⟩
 by_cases i:61<=kind/\kind<=78
 ·rw[aa b,aa f,ab i];obtain⟨a,g⟩:∃a:Nat,kind=61+(a:Int):=⟨(kind-61).toNat,by omega⟩;subst g;rw[show((61+(a:Int))-61).toNat=a by omega];have o:a<18:=by omega
  have j:w.cell? ⟨2,61+a-60-1,W⟩=X (M (bK lL a)):=by rw[show 61+a-60-1=a by omega,au _ _ _ _ _ _ m];exact akE ⟨a,o⟩
  clear b f i c d;go_in;go_wp2;go_ret;exact⟨rfl,rfl⟩
 rw[aa b,aa f,aa i];rcases(show kind<10\/(31<kind/\kind<40)\/(50<kind/\kind<=60)\/78<kind by omega) with h|⟨h,k⟩|⟨h,k⟩|h;all_goals
  clear b f i c d;go_in;go_wp2;go_ret;exact⟨rfl,rfl⟩
theorem BB(kind:Int)(w:Y):A0 N 101 #[O T kind] w fun e w'=>e= U (M (pG kind))/\A2 w.heap.size w w':=by
 unfold pG;by_cases u:kind=5
 ·subst u;go_in;go_wp2;go_ret;exact⟨rfl,ah _ _⟩
 rw[aa u];by_cases y:10<=kind/\kind<32
 ·rw[ab y];obtain⟨a,v⟩:∃a:Nat,kind=10+(a:Int):=⟨(kind-10).toNat,by omega⟩;subst v;have G:a<22:=by omega
  have F:((10+(a:Int))-10).toNat=a:=by omega
  rw[F];have j:A2 w.heap.size w (w.alloc (Br ez 9)):=(ah _ w).alloc (ag _) _;have q:(w.alloc (Br ez 9)).cell? ⟨w.heap.size,a,W⟩=X (M (bK ez a)):=by rw[au _ _ _ _ _ _ (aA w _)];exact F4 ⟨a,G⟩
  obtain⟨b,f⟩:∃b,b=w.alloc (Br ez 9):=⟨_,rfl⟩;rw[<-f]at q j;have s:A0 N 178 #[] w fun e w'=>e= U (A5 (X ⟨w.heap.size,0,W⟩) 22 22)/\b=w':=by rw[f];exact(tG w).mono fun e w' d=>⟨d.1,d.2.symm⟩
  clear f;go_in;go_wp2_with (go_at_call 178;refine s.mono ?_;rintro e ad ⟨rfl,rfl⟩);go_ret;exact⟨rfl,j⟩
 ·rw[aa y];obtain⟨b,f⟩:∃b,b=w.alloc (Br ez 9):=⟨_,rfl⟩;have s:A0 N 178 #[] w fun e w'=>e= U (A5 (X ⟨w.heap.size,0,W⟩) 22 22)/\b=w':=by rw[f];exact(tG w).mono fun e w' d=>⟨d.1,d.2.symm⟩
  have j:A2 w.heap.size w b:=by rw[f];exact(ah _ w).alloc (ag _) _
  clear f;obtain⟨i,l⟩:∃i,i=b.alloc (Br jd 9):=⟨_,rfl⟩;have L:A0 N 149 #[] b fun e w'=>e= U (A5 (X ⟨b.heap.size,0,W⟩) 30 30)/\i=w':=by rw[l];exact(zB b).mono fun e w' d=>⟨d.1,d.2.symm⟩
  have E:i.heap[b.heap.size]?=X (Br jd 9 (0,0)):=by rw[l];exact aA b _
  have C:A2 b.heap.size b i:=by rw[l];exact(ah _ b).alloc (ag _) _
  clear l;obtain⟨A,o⟩:=az (KB kind 30 0);rw[o];have z:=aq o;clear o;have J:=j.size;rcases(show ¬10<=kind\/(10<=kind/\¬kind<10+22) by omega) with B|⟨ak,B⟩;all_goals
   go_in;go_wp2_with (first|(go_at_call 178;refine s.mono ?_;rintro e ad ⟨rfl,rfl⟩)|(go_at_call 149;refine L.mono ?_;rintro e al ⟨rfl,rfl⟩));go_loopw [25] (fun r wr=>∃a:Nat,a<=30/\r= O T a/\Er (KB kind (30-a) a=A)/\wr.heap[b.heap.size]?=X (Br jd 9 (0,0))/\A2 w.heap.size w wr) (fun r _=>30-(Bs r).toNat)
   case atStart=>exact⟨0,by omega,rfl,z,E,j.trans (C.mono J)⟩
   case round=>
    obtain⟨a,v,rfl,t,p,n⟩:=hrel;have x:=n.size;by_cases I:a<30
    ·have q:wr.cell? ⟨b.heap.size,a,W⟩=X (M (bK jd a)):=by rw[au _ _ _ _ _ _ p];exact ael ⟨a,I⟩
     have c:=t.out;rw[show 30-a=(30-(a+1))+1 by omega]at c;unfold KB at c;have H:=ai p;generalize bK jd a=k at q c;by_cases g:xG k=kind
     ·rw[ab g]at c;have h:=aq c;have K:(xG k==kind)=Z:=by simp[g]
      clear c g;go_wp2_with (go_at_call 150;refine(wt k _).mono ?_;rintro e af ⟨rfl,m⟩);go_ret;exact⟨by rw[<-h.out];rfl,n.trans (m.mono x)⟩
     ·rw[aa g]at c;have h:=aq c;have K:(xG k==kind)=S:=by simp[g]
      clear c g;go_wp2_with (go_at_call 150;refine(wt k _).mono ?_;rintro e af ⟨rfl,m⟩);go_roundw
      case rel=>exact⟨a+1,by omega,by go_num,h,(m.block _ H).trans p,n.trans (m.mono x)⟩
      case measure=>simp[Bs];omega
    ·obtain rfl:a=30:=by omega
     have h:=aq t.out;go_wp2;go_ret;exact⟨by rw[<-h.out];rfl,n⟩
theorem zC(c:Int)(w:Y):A0 N 146 #[O B0 c] w fun e w'=>e= U (B4 (cp c))/\w=w':=by
 rcases(show c<48\/57<c\/(48<=c/\c<=57) by omega) with h|h|⟨d,b⟩
 ·have e:cp c=S:=by simp[cp];omega
  rw[e];clear e;have a:¬48<=c:=by omega
  go_in;go_wp2;go_ret;exact⟨rfl,rfl⟩
 ·have e:cp c=S:=by simp[cp];omega
  rw[e];clear e;have a:¬c<=57:=by omega
  have b:48<=c:=by omega
  go_in;go_wp2;go_ret;exact⟨rfl,rfl⟩
 ·have e:cp c=Z:=by simp[cp];omega
  rw[e];clear e;go_in;go_wp2;go_ret;exact⟨rfl,rfl⟩
theorem oh(c:Int)(w:Y):A0 N 144 #[O B0 c] w fun e w'=>e= U (B4 (bJ c))/\w=w':=by
 rcases(show(97<=c/\c<=122)\/(65<=c/\c<=90)\/c=95\/c<65\/(90<c/\c<97/\c≠95)\/122<c by omega) with⟨f,g⟩|⟨f,g⟩|rfl|h|⟨f,g,k⟩|h
 ·have e:bJ c=Z:=by simp[bJ];omega
  rw[e];clear e;go_in;go_wp2;go_ret;exact⟨rfl,rfl⟩
 ·have e:bJ c=Z:=by simp[bJ];omega
  rw[e];clear e;have a:¬97<=c:=by omega
  go_in;go_wp2;go_ret;exact⟨rfl,rfl⟩
 ·go_in;go_wp2;go_ret;exact⟨rfl,rfl⟩
 ·have e:bJ c=S:=by simp[bJ];omega
  rw[e];clear e;have a:¬97<=c:=by omega
  have b:¬65<=c:=by omega
  have d:(c==95)=S:=by simp;omega
  go_in;go_wp2;go_ret;exact⟨rfl,rfl⟩
 ·have e:bJ c=S:=by simp[bJ];omega
  rw[e];clear e;have a:¬97<=c:=by omega
  have b:65<=c:=by omega
  have i:¬c<=90:=by omega
  have d:(c==95)=S:=by simp;omega
  go_in;go_wp2;go_ret;exact⟨rfl,rfl⟩
 ·have e:bJ c=S:=by simp[bJ];omega
  rw[e];clear e;have a:97<=c:=by omega
  have b:¬c<=122:=by omega
  have i:65<=c:=by omega
  have j:¬c<=90:=by omega
  have d:(c==95)=S:=by simp;omega
  go_in;go_wp2;go_ret;exact⟨rfl,rfl⟩
def lk(s:ByteArray)(p:Nat):Int:=if p<s.size then ax s p else 0
theorem aa8(s:ByteArray)(p:Nat):0<=lk s p/\lk s p<256:=by
 unfold lk;split
 ·rename_i a;exact jt a
 ·omega
theorem ahL(s:ByteArray)(p:Nat):bJ (lk s p)=bJ (ax s p):=by
 unfold lk;split
 ·rfl
 ·rename_i a;rw[dj a];decide
theorem oK(s:ByteArray)(p:Nat):cp (lk s p)=cp (ax s p):=by
 unfold lk;split
 ·rfl
 ·rename_i a;rw[dj a];decide
theorem BC(s:ByteArray)(d:s.size<=1100000)(p:Nat)(w:Y):A0 N 143 #[M s,O T p] w fun e w'=>e= U (O B0 (lk s p))/\w=w':=by
 unfold lk;by_cases a:p<s.size
 ·rw[ab a];have b:=fun w=>cL a w;generalize ax s p=c at b;go_in;go_wp2;go_ret;exact⟨rfl,rfl⟩
 ·rw[aa a];go_in;go_wp2;go_ret;exact⟨rfl,rfl⟩
def mi(s:ByteArray):Nat->Nat->Nat
 |0,p=>p
 |f+1,p=>if bJ (ax s p)=Z\/cp (ax s p)=Z then mi s f (p+1) else p
theorem BD{p:Nat}(h:¬p<s.size):¬(bJ (ax s p)=Z\/cp (ax s p)=Z):=by
 rw[dj h];decide
theorem tH(s:ByteArray):∀(f p:Nat),p<=s.size->p<=mi s f p/\mi s f p<=s.size
 |0,p,h=>⟨ag _,h⟩
 |f+1,p,h=>by
  unfold mi;split
  ·rename_i a;have b:p<s.size:=by
    rcases bj p s.size with h1|h1
    ·exact h1
    ·exact absurd a (BD (by omega))
   have:=tH s f (p+1) (by omega);omega
  ·exact⟨ag _,h⟩
theorem zD(s:ByteArray)(A:s.size<=1100000)(p:Nat)(v:p<=s.size)(w:Y):A0 N 242 #[M s,O T p] w fun e w'=>e= U (O T (mi s (s.size+1) p))/\w'=w:=by
 obtain⟨t,m⟩:=az (mi s (s.size+1) p);rw[m];have r:=aq m;clear m;go_in;go_wp21
 go_loop [1] (fun n=>∃(b c:Nat),b<=s.size/\s.size<b+c/\n= O T b/\Er (mi s c b=t)) (fun n=>s.size-(Bs n).toNat)
 case atStart=>exact⟨p,s.size+1,v,by omega,rfl,r⟩
 case round=>
  obtain⟨b,c,z,y,rfl,q⟩:=hrel;obtain⟨c,rfl⟩:∃u,c=u+1:=⟨c-1,by omega⟩;have a:=q.out;unfold mi at a;by_cases o:b<s.size
  ·have x:=fun w=>cL o w;generalize ax s b=f at x a;have i:=fun w=>lK f w;have k:=fun w=>iH f w;by_cases g:bJ f=Z
   ·rw[ab (.inl g)]at a;have d:=aq a;clear a;rw[g]at i;clear g;go_wp2_with (go_at_call 198;refine(i _).mono ?_;rintro e w' ⟨rfl,rfl⟩);go_round
    case rel=>exact⟨b+1,c,by omega,by omega,by go_num,d⟩
    case measure=>simp[Bs];omega
   ·have j:bJ f=S:=by simpa using g
    rw[j]at i;by_cases h:cp f=Z
    ·rw[ab (.inr h)]at a;have d:=aq a;clear a;rw[h]at k;clear g j h;go_wp2_with (first|(go_at_call 198;refine(i _).mono ?_;rintro e w' ⟨rfl,rfl⟩)|(go_at_call 200;refine(k _).mono ?_;rintro e w' ⟨rfl,rfl⟩));go_round
     case rel=>exact⟨b+1,c,by omega,by omega,by go_num,d⟩
     case measure=>simp[Bs];omega
    ·have l:cp f=S:=by simpa using h
     rw[aa (by rw[j,l];simp)]at a;have d:=aq a;clear a;rw[l]at k;clear g j h l;go_wp2_with (first|(go_at_call 198;refine(i _).mono ?_;rintro e w' ⟨rfl,rfl⟩)|(go_at_call 200;refine(k _).mono ?_;rintro e w' ⟨rfl,rfl⟩));go_ret;exact⟨by rw[<-d.out];rfl,rfl⟩
  ·rw[aa (BD o)]at a;have d:=aq a;clear a;go_wp2;go_ret;exact⟨by rw[<-d.out];rfl,rfl⟩
def ti(s:ByteArray):Bool:=(vH ez s 22 0).isSome
theorem wu(k:Nat):bK ez k=kL k:=rfl
theorem tJ(V:Array Ax)(s:ByteArray):∀(f k j:Nat),vH V s f k=X j->k<=j/\j<k+f/\(bK V j).toList=s.toList
 |0,k,j,h=>by simp[vH]at h
 |f+1,k,j,h=>by
  unfold vH at h;split at h
  ·rename_i a;obtain rfl:=bp h;exact⟨ag _,by omega,by simpa using a⟩
  ·have:=tJ V s f (k+1) j h;exact⟨by omega,by omega,this.2.2⟩
theorem Iq(V:Array Ax)(s:ByteArray):∀(f k:Nat),vH V s f k=W->∀j,k<=j->j<k+f->(bK V j).toList≠s.toList
 |0,k,h=>fun j a b=>by omega
 |f+1,k,h=>fun j a b=>by
  unfold vH at h;split at h
  ·cases h
  ·rename_i c;rcases iL a with rfl|h3
   ·simpa using c
   ·exact Iq V s f (k+1) h j h3 (by omega)
theorem BE{H:Type}:∀n,IsMap (xF (H:=H) n)
 |0=>isMap_empty
 |n+1=>(BE n).put _ _
theorem aa9{H:Type}(l:List UInt8):∀n,(∀j,j<n->(kL j).data.toList≠l)->Maps.has (xF (H:=H) n) (.string l)=S
 |0,_=>rfl
 |n+1,h=>by
  show Maps.has ((xF n).put _ _) _=S;rw[has_put_other (by intro e;exact h n (by omega) (by injection e with e;exact e.symm))];exact aa9 l n fun j a=>h j (by omega)
theorem aba{H:Type}(l:List UInt8)(j:Nat)(b:(kL j).data.toList=l):∀n,j<n->Maps.has (xF (H:=H) n) (.string l)=Z
 |0,h=>by omega
 |n+1,h=>by
  show Maps.has ((xF n).put _ _) _=Z;by_cases e:(kL n).data.toList=l
  ·rw[e];exact has_put_same (BE n) (by trivial) _
  ·rw[has_put_other (by intro a;injection a with a;exact e a.symm)];rcases iL (Nat.le_of_lt_succ h) with rfl|h3
   ·exact absurd b e
   ·exact aba l j b n h3
theorem Ir{H:Type}(s:ByteArray):Maps.has (xF (H:=H) 22) (.string s.data.toList)=ti s:=by
 unfold ti;cases h:vH ez s 22 0 with
 |none=>
  have:=Iq ez s 22 0 h;exact aa9 _ 22 fun d g c=>this d (aL _) (by omega) (by rw[wu,fE,fE];exact c)
 |some b=>
  obtain⟨e,f,a⟩:=tJ ez s 22 0 b h;rw[wu,fE,fE]at a;exact aba _ b a 22 (by omega)
theorem ah0:∀i j:Fin 22,i≠j->(kL i.val).data.toList≠(kL j.val).data.toList:=by decide+kernel
theorem Ej{H:Type}(j:Nat):∀n,n<=22->j<n->(xF (H:=H) n).atKey (.string (kL j).data.toList) (.lit (.int .i64 0))= .lit (.int .i64 (10+(j:Int)))
 |0,_,h=>by omega
 |n+1,c,h=>by
  show((xF n).put _ _).atKey _ _=_;by_cases e:n=j
  ·subst e;exact atKey_put_same (BE n) (by trivial) _ _
  ·rw[atKey_put_other (by intro a;injection a with a;exact ah0 ⟨j,by omega⟩ ⟨n,by omega⟩ (by intro b;injection b with b;exact e b.symm) a)];exact Ej j n (by omega) (by omega)
theorem am5{H:Type}(k:Fin 22):(xF (H:=H) 22).atKey (.string (kL k.val).data.toList) (.lit (.int .i64 0))= .lit (.int .i64 (10+(k.val:Int))):=Ej k.val 22 (by omega) k.isLt
theorem ah1{H:Type}(s:ByteArray)(k:Nat)(h:vH ez s 22 0=X k):(xF (H:=H) 22).atKey (.string s.data.toList) (.lit (.int .i64 0))= .lit (.int .i64 (10+(k:Int))):=by
 obtain⟨b,c,a⟩:=tJ ez s 22 0 k h;rw[wu,fE,fE]at a;rw[<-a];exact am5 ⟨k,by omega⟩
theorem KC{H:Type}(s:ByteArray)(t:s.size<=1100000)(b:Nat)(w:Y)(v:w.ownsMap N 9 (plainElem (H:=H) N 3) b 22 (xF 22)):A0 N 261 #[.string s,.map (X b)] w fun e w'=>e= .returned (.bool (decide (bJ (ax s 0)=Z/\mi s (s.size+1) 0=s.size/\ti s=S)))/\w'=w:=by
 have q:keyOf N 9 (.string s)=X (.string s.data.toList):=keyOf_string_mk Tryz.underlying9 (by unfold Cb;omega);by_cases l:0<s.size
 ·have u:(s.toList==[])=S:=by
   have:s.toList.length=s.size:=by rw[fE];simp
   cases hs:s.toList with
   |nil=>rw[hs]at this;simp at this;omega
   |cons y C=>rfl
  have x:∀w,(B3 9 (.string s) (.int .i64 0)).run N w= .ok (.int .u8 (ax s 0)) w:=fun w=>cL l w;have d:=fun w=>lK (ax s 0) w;have o:=tH s (s.size+1) 0 (by omega);have h:=fun w=>zD s t 0 (by omega) w;generalize ax s 0=f at x d;generalize mi s (s.size+1) 0=g at h o;by_cases c:bJ f=Z
  ·rw[c]at d;by_cases m:g=s.size
   ·subst m;have r:¬(s.size:Int)<(s.size:Int):=by omega
    obtain⟨i,k⟩:=az (ti s);have p:Maps.has (xF (H:=H) 22) (.string s.data.toList)=i:=by rw[Ir,k]
    have a:decide (bJ f=Z/\s.size=s.size/\ti s=S)=!i:=by rw[c,k];cases i<;>simp
    rw[a];clear a k c;go_in;go_wp2_with (first|(go_at_call 198;refine(d _).mono ?_;rintro e w' ⟨rfl,rfl⟩)|(go_at_call 242;refine(h _).mono ?_;rintro e w' ⟨rfl,rfl⟩)|(at_lookup;refine wpList_lookup_own_ok_int _ rfl _ _ 91 rfl 9 3 .i64 ahI Tryz.underlying91 Tryz.underlying3 (by kernel_rfl) b 22 _ rfl v _ _ rfl q ?_;intro z A B;rw[p]));go_ret;exact⟨rfl,rfl⟩
   ·have r:(g:Int)<(s.size:Int):=by omega
    have a:decide (bJ f=Z/\g=s.size/\ti s=S)=S:=by simp[m]
    rw[a];clear a c;go_in;go_wp2_with (first|(go_at_call 198;refine(d _).mono ?_;rintro e w' ⟨rfl,rfl⟩)|(go_at_call 242;refine(h _).mono ?_;rintro e w' ⟨rfl,rfl⟩));go_ret;exact⟨rfl,rfl⟩
  ·have j:bJ f=S:=by simpa using c
   rw[j]at d;have a:decide (bJ f=Z/\g=s.size/\ti s=S)=S:=by simp[j]
   rw[a];clear a c j;go_in;go_wp2_with (first|(go_at_call 198;refine(d _).mono ?_;rintro e w' ⟨rfl,rfl⟩)|(go_at_call 242;refine(h _).mono ?_;rintro e w' ⟨rfl,rfl⟩));go_ret;exact⟨rfl,rfl⟩
 ·have n:s.toList=[]:=by
   have:s.toList.length=s.size:=by rw[fE];simp
   exact List.length_eq_zero_iff.1 (by omega)
  have u:(s.toList==[])=Z:=by rw[n];rfl
  have a:decide (bJ (ax s 0)=Z/\mi s (s.size+1) 0=s.size/\ti s=S)=S:=by rw[dj l];simp[bJ]
  rw[a];clear a n;go_in;go_wp2;go_ret;exact⟨rfl,rfl⟩
def wdT(s:ByteArray)(p:Nat):Ax:=
 match vH ez (s.extract p (mi s (s.size+1) p)) 22 0 with
 |some k=> C2 #[O T (10+(k:Int)),O T p,O T (mi s (s.size+1) p),O T 0,O T 0,M ⟨#[]⟩]
 |none=> C2 #[O T 1,O T p,O T (mi s (s.size+1) p),O T 0,O T 0,M (s.extract p (mi s (s.size+1) p))]
theorem KD(s:ByteArray)(bo:s.size<=1100000)(p:Nat)(al:p<=s.size)(w:Y):A0 N 145 #[M s,C2 #[O T 0,O T p,O T 0,O T 0,O T 0,M ⟨#[]⟩]] w fun e w'=>e= U (B1 #[wdT s p,O T (-1)])/\A2 w.heap.size w w':=by
 unfold wdT;obtain⟨I,E⟩:=az (mi s (s.size+1) p);have ba:=tH s (s.size+1) p al;rw[E]at ba⊢;have J:=aq E;clear E;obtain⟨a9,F⟩:=az (vH ez (s.extract p I) 22 0);rw[F];have a7:=aq F;clear F;go_in;go_wp21
 generalize af:(w.alloc _).alloc _=n;obtain⟨a,K,L, -⟩:=DB af;have G:dD w.heap.size n 0 p 0 0 0 ⟨#[]⟩:=a;have ak:dD (w.heap.size+1) n 0 0 0 0 0 ⟨#[]⟩:=K;clear af a K;go_loop [6] (fun j=>∃(b g:Nat),b<=s.size/\s.size<b+g/\j= O T b/\Er (mi s g b=I)) (fun j=>s.size-(Bs j).toNat)
 case atStart=>exact⟨p,s.size+1,al,by omega,rfl,J⟩
 case round=>
  obtain⟨b,g,bw,bs,rfl,l⟩:=hrel;obtain⟨g,rfl⟩:∃bb,g=bb+1:=⟨g-1,by omega⟩;have c:=l.out;unfold mi at c;have r:=fun w=>BC s bo b w;have f:=fun w=>oh (lk s b) w;have i:=fun w=>zC (lk s b) w;have h:bJ (ax s b)=Z\/cp (ax s b)=Z->b<s.size:=by
   intro bc;rcases bj b s.size with h1|h1
   ·exact h1
   ·exact absurd bc (BD (by omega))
  rw[ahL]at f;rw[oK]at i;generalize lk s b=br at r f i;generalize ax s b=u at c f i h;by_cases h1:bJ u=Z
  ·rw[ab (.inl h1)]at c;have m:=aq c;have bn:=h (.inl h1);clear c h;rw[h1]at f;clear h1;go_wp2_with (first|(go_at_call 143;refine(r _).mono ?_;rintro e w' ⟨rfl,rfl⟩)|(go_at_call 144;refine(f _).mono ?_;rintro e w' ⟨rfl,rfl⟩));go_round
   case rel=>exact⟨b+1,g,by omega,by omega,by go_num,m⟩
   case measure=>simp[Bs];omega
  ·have x:bJ u=S:=by simpa using h1
   rw[x]at f;by_cases k:cp u=Z
   ·rw[ab (.inr k)]at c;have m:=aq c;have bn:=h (.inr k);clear c h;rw[k]at i;clear h1 x k;go_wp2_with (first|(go_at_call 143;refine(r _).mono ?_;rintro e w' ⟨rfl,rfl⟩)|(go_at_call 144;refine(f _).mono ?_;rintro e w' ⟨rfl,rfl⟩)|(go_at_call 146;refine(i _).mono ?_;rintro e w' ⟨rfl,rfl⟩));go_round
    case rel=>exact⟨b+1,g,by omega,by omega,by go_num,m⟩
    case measure=>simp[Bs];omega
   ·have C:cp u=S:=by simpa using k
    rw[aa (by rw[x,C];simp)]at c;rw[C]at i;clear h1 x k C h l J;subst c;obtain⟨am,an,ao,ap,ar,av,a0⟩:=bg G;have z:=(G.setKind 1).setTo (b:Int);have A:=(ak.other (a:=⟨w.heap.size,0,W⟩) (by simp) (O T 1)).other (a:=⟨w.heap.size,2,W⟩) (by simp) (O T (b:Int));have y:A2 w.heap.size w ((n.setCell ⟨w.heap.size,0,W⟩ (O T 1)).setCell ⟨w.heap.size,2,W⟩ (O T (b:Int))):=(L.setCell (by simp) _).setCell (by simp) _;obtain⟨o,H⟩:=az ((n.setCell ⟨w.heap.size,0,W⟩ (O T 1)).setCell ⟨w.heap.size,2,W⟩ (O T (b:Int)));rw[H]at z A y;have a8:=aq H;clear H;go_wp2_with (first|(go_at_call 143;refine(r _).mono ?_;rintro e w' ⟨rfl,rfl⟩)|(go_at_call 144;refine(f _).mono ?_;rintro e w' ⟨rfl,rfl⟩)|(go_at_call 146;refine(i _).mono ?_;rintro e w' ⟨rfl,rfl⟩));rw[show(n.setCell ⟨w.heap.size,0,W⟩ (O T 1)).setCell ⟨w.heap.size,2,W⟩ (O T (b:Int))=o from a8.out];refine(tG o).mono ?_;rintro e t ⟨rfl,q⟩;have bf:dD w.heap.size t 1 p b 0 0 ⟨#[]⟩:=by rw[q];exact(dg _ _ _ (ai z)).trans z
    have bh:dD (w.heap.size+1) t 0 0 0 0 0 ⟨#[]⟩:=by rw[q];exact(dg _ _ _ (ai A)).trans A
    have ad:A2 w.heap.size w t:=by rw[q];exact y.alloc y.size _
    have bk:t.heap[o.heap.size]?=X (Br ez 9 (0,0)):=by rw[q];exact aA o _
    clear q z A y G ak L am an ao ap ar av a0 r f i;go_wp21
    obtain⟨am,an,ao,ap,ar,av,a0⟩:=bg bf;obtain⟨z0,a2,a3,a4,a5,a6,bA⟩:=bg bh;go_loop [34] (fun j=>∃d:Nat,d<=22/\j= O T d/\Er (vH ez (s.extract p b) (22-d) d=a9)) (fun j=>22-(Bs j).toNat)
    case atStart=>exact⟨0,by omega,rfl,a7⟩
    case round=>
     obtain⟨d,bt,rfl,l⟩:=hrel;by_cases h:d<22
     ·have bl:t.cell? ⟨o.heap.size,d,W⟩=X (M (bK ez d)):=by rw[au _ _ _ _ _ _ bk];exact F4 ⟨d,h⟩
      have c:=l.out;rw[show 22-d=(22-(d+1))+1 by omega]at c;unfold vH at c;generalize bK ez d=a1 at bl c;by_cases B:(a1.toList==(s.extract p b).toList)=Z
      ·rw[ab B]at c;subst c;go_wp2;refine aI (v:= B1 #[C2 #[O T (10+(d:Int)),O T p,O T b,O T 0,O T 0,M ⟨#[]⟩],O T (-1)]) (by simp[results,Tryz.results145,go_sem,z0,a2,a3,a4,a5,a6]) rfl ⟨rfl,?_⟩
       iterate 7 refine eJ ?_ (by simp) _
       exact ad
      ·rw[aa B]at c;have m:=aq c;have bx:(a1.toList==(s.extract p b).toList)=S:=by simpa using B
       clear c B;go_wp2;go_round
       case rel=>exact⟨d+1,by omega,by go_num,m⟩
       case measure=>simp[Bs];omega
     ·obtain rfl:d=22:=by omega
      have c:=l.out;simp only[eC,vH]at c;subst c;go_wp2;refine aI (v:= B1 #[C2 #[O T 1,O T p,O T b,O T 0,O T 0,M (s.extract p b)],O T (-1)]) (by simp[results,Tryz.results145,go_sem,z0,a2,a3,a4,a5,a6]) rfl ⟨rfl,?_⟩
      iterate 7 refine eJ ?_ (by simp) _
      exact ad
theorem KE{c:Int}(h:bJ c=Z):65<=c/\c<=122:=by simp[bJ]at h;omega
theorem oD{c:Int}(h:cp c=Z):48<=c/\c<=57:=by simpa [cp] using h
theorem aem(s:ByteArray)(p:Nat):∃(k:Int) (x:ByteArray),wdT s p= C2 #[O T k,O T p,O T (mi s (s.size+1) p),O T 0,O T 0,M x]/\((k==1)=!(ti (s.extract p (mi s (s.size+1) p)))):=by
 unfold wdT ti;cases h:vH ez (s.extract p (mi s (s.size+1) p)) 22 0 with
 |none=>exact⟨1,_,rfl,rfl⟩
 |some k=>exact⟨10+(k:Int),_,rfl,by simp;omega⟩
theorem zE(s:ByteArray)(u:s.size<=1100000)(p:Nat)(m:p<s.size)(d:bJ (ax s p)=Z)(w:Y):A0 N 87 #[M s,O T p] w fun e w'=>e= U (B1 #[wdT s p,O T (-1)])/\A2 w.heap.size w w':=by
 have n:=fun w=>cL m w;have a:=fun w=>oh (ax s p) w;have b:=fun w=>KD s u p (gq m) w;have x:=KE d;rw[d]at a;generalize ax s p=r at n a x;obtain⟨z,B,h,l⟩:=aem s p;rw[h]at b⊢;generalize mi s (s.size+1) p=o at b l;have I:(r==10)=S:=by simp;omega
 clear d l h;go_in;go_wp2_with (first|(go_at_call 144;refine(a _).mono ?_;rintro e w' ⟨rfl,rfl⟩));generalize i:(w.alloc _).alloc _=q;obtain⟨f, -,g,y⟩:=DB i;have j:dD w.heap.size q 0 0 0 0 0 ⟨#[]⟩:=f;clear i f;refine(b _).mono ?_;rintro e A ⟨rfl,c⟩;have k:=j.below c (by omega);have t:=g.trans (c.mono (by omega));clear c j g y b a n;obtain⟨z0,C,E,F,G,H,K⟩:=bg k;have J:w.heap.size<A.heap.size:=ai k;go_wp2;refine aI (v:= B1 #[C2 #[O T z,O T p,O T o,O T 0,O T 0,M B],O T (-1)]) (by simp[results,Tryz.results87,go_sem,z0,C,E,F,G,H]) rfl ⟨rfl,?_⟩
 iterate 6 refine eJ ?_ (by simp) _
 exact t
theorem zF(s:ByteArray):s.extract 0 s.size=s:=by
 simp
def oL(s:ByteArray):Bool:=decide (s.size<=40/\bJ (ax s 0)=Z/\mi s (s.size+1) 0=s.size/\ti s=S)
theorem xH(s:ByteArray)(t:s.size<=1100000)(w:Y):A0 N 175 #[M s] w fun e w'=>e= U (B4 (oL s))/\A2 w.heap.size w w':=by
 unfold oL;by_cases h:0<s.size
 ·have u:((s.size:Int)==0)=S:=by rw[cG];omega
  by_cases m:s.size<=40
  ·have v:¬(40:Int)<(s.size:Int):=by omega
   have q:∀w,(B3 9 (M s) (O T 0)).run N w= .ok (O B0 (ax s 0)) w:=fun w=>cL h w;have b:=fun w=>oh (ax s 0) w;by_cases a:bJ (ax s 0)=Z
   ·have f:∀w,A0 N 87 #[M s,O T 0] w fun e w'=>e= U (B1 #[wdT s 0,O T (-1)])/\A2 w.heap.size w w':=fun w=>zE s t 0 h a w;rw[a]at b;obtain⟨k,y,o,d⟩:=aem s 0;rw[o]at f;generalize mi s (s.size+1) 0=g at f d;generalize ax s 0=l at q b a;have p:decide (s.size<=40/\bJ l=Z/\g=s.size/\ti s=S)=((k==1)&&((g:Int)==(s.size:Int))):=by
     by_cases n:g=s.size
     ·subst n;rw[zF]at d;rw[d,a];simp[m]
     ·simp[n];intro _;omega
    rw[p];clear p d o a;by_cases i:k=1
    ·subst i;go_in;go_wp2_with (first|(go_at_call 144;refine(b _).mono ?_;rintro e w' ⟨rfl,rfl⟩)|(go_at_call 87;refine(f _).mono ?_;rintro e x ⟨rfl,c⟩));go_ret;exact⟨by simp,c.alloc c.size _⟩
    ·have r:(k==1)=S:=by simp[i]
     clear i;go_in;go_wp2_with (first|(go_at_call 144;refine(b _).mono ?_;rintro e w' ⟨rfl,rfl⟩)|(go_at_call 87;refine(f _).mono ?_;rintro e x ⟨rfl,c⟩));go_ret;exact⟨by simp[r],c.alloc c.size _⟩
   ·have j:bJ (ax s 0)=S:=by simpa using a
    rw[show decide (s.size<=40/\bJ (ax s 0)=Z/\mi s (s.size+1) 0=s.size/\ti s=S)=S by simp[j]];rw[j]at b;clear a j;generalize ax s 0=l at q b;go_in;go_wp2_with (first|(go_at_call 144;refine(b _).mono ?_;rintro e w' ⟨rfl,rfl⟩));go_ret;exact⟨rfl,ah _ _⟩
  ·have v:(40:Int)<(s.size:Int):=by omega
   rw[show decide (s.size<=40/\bJ (ax s 0)=Z/\mi s (s.size+1) 0=s.size/\ti s=S)=S by simp[m]];go_in;go_wp2;go_ret;exact⟨rfl,ah _ _⟩
 ·have u:((s.size:Int)==0)=Z:=by rw[ja];omega
  rw[show decide (s.size<=40/\bJ (ax s 0)=Z/\mi s (s.size+1) 0=s.size/\ti s=S)=S by rw[dj h];simp[bJ]];go_in;go_wp2;go_ret;exact⟨rfl,ah _ _⟩
