import Derived.WalkSpells
import Derived.Deep.RegionHeld3
import Derived.Deep.AppendLies
import Derived.Test.YthboboahkkhopaaGreatDoorHRo01
import Derived.BigQuiet
import Derived.OneCell
import Derived.Shelf.Strings.OnBuilder
import Derived.Shelf.Small.Strs
import Derived.Shelf.Small.Wraps
import Derived.Shelf.Strings.BuilderK
import Derived.Shelf.Strconv.Itoa4
import Derived.Shelf.Strconv.ErrVarParseInt
import Derived.Shelf.Pu.ErrVarParseUint
import Derived.Shelf.Strings.Fields
import Derived.Shelf.Strings.Repeat
import Derived.Shelf.Slices.Empties2
import Derived.ProofKit
import Derived.RangeFuncBox
set_option linter.all false
set_option maxRecDepth 100000
set_option maxHeartbeats 6400000
open Go.Proofs.Tryz
open Option renaming some->O,none->T
open Go.Proofs.Tryz renaming prog->S,sizeOf3->B2,isAgg3->B4
open Go.Value renaming string->U,int->V,slice->Ax,bool->Ce,tuple->Ck,pointer->E1,nilIface->Fs,string->F0,iface->F2,int->G0
open Go renaming World->X,Value->A0,Calls->A5,TypeId->Ex,maxLen->E2
open Go.IntKind renaming i64->Y,u8->B3,u64->F1
open Bool renaming false->Z,true->B6
open Go.Ending renaming returned->A2
open Go.RowKit renaming Below->A9,intOf->E3
open ByteArray renaming empty->Br
open Go.Shelf renaming Ren->B0
open Go.Obj renaming cells->B1
open Go.World renaming setCell->B7,news_of_block->C2
open Go.Instr renaming index->E0
namespace Go.Proofs.YthboboahkkhopaaGreatDoor
open Go.RowKit
variable{Q:Exit->Act->World->Prop}{R:Bool×Nat×List Int}{W W' w w' y z:World}{a:Addr}{b base c g i n t:Nat}{f fr l p:Int}{k:Bool}{m v vk vn:Value}{o:Oper}{ops:Array Oper}{s:ByteArray}{xs:List Value}
def Tryz.info5:(Tryz.prog.info? 5).map (λi=>(i.zero,i.size,i.bytes))=O (O (V B3 0),1,1):=by kernel_rfl
def B8(l:List Int):List A0:=l.map (G0 B3)
def aga(a b:List Int):B8 (a++b)=B8 a++B8 b:=by simp[B8]
def agb(a:List Int):(B8 a).length=a.length:=by simp[B8]
def yE{l:List Int}(h:w.ownsRow base 5 1 v n (B8 l)):l.length=n:=by
 have:=h.1;simpa [B8] using this
def ng{f:List Oper}{a:Act}(k:o.guard=T)(s x:Operand)
  (y:o.op= .call {callee:= .builtin .append,args:=#[s,x],argTypes:=#[22,22]}) (base:Nat) (v:A0) (n:Nat) (l:List Int) (A:a.eval s=v)
  (d:w.ownsRow base 5 1 v n (B8 l)) (i:base<=w.heap.size) (J:n<=100000) (c:List Int) (m:Nat) (t:c.length=m) (u:0<m) (I:m<=100) (cs:Array A0) (j:cs.toList=B8 c)
  (B:a.eval x= Ax (O ⟨w.heap.size,0,T⟩) m m)
  (h:∀g b w1,w1.ownsRow base 5 1 (Ax (O ⟨g,0,T⟩) (n+m) b) (n+m) (B8 (l++c))->A9 base w w1->wpList S ops Q f (a.put o.dst (Ax (O ⟨g,0,T⟩) (n+m) b)) w1):
  wpList S ops Q (o::f) a (w.alloc (B1 cs 5)):=by
 have⟨G,q,C,E,F⟩:=eu Tryz.info5;refine wpList_append_lies _ k s x 22 y base 5 G (V B3 0) 1 1 underlying22 q C E F rfl (by decide) v n (B8 l) A (d.alloc _) ⟨w.heap.size,0,T⟩ m m (B8 c) B (by simp[B8,t])
  (by rw[<-j];exact C2 (fr:=(0,0)) (aB w _)) (by intro L e;simp[B8]at e;obtain⟨K,_,rfl⟩:=e;rfl) u (by unfold E2;omega) (by omega) (by simp;omega) (w.heap.size+1) (by simp) ?_
 intro g b w1 z p _ _;refine h g b w1 (by rw[aga];exact z) (((ah base w).alloc i _).grown p (by simp;omega) (λH r=>(d.lt H r).1))
def mq(d:Int):Int:=if d<10 then 48+d else 87+d
def esc(c:Int):List Int:=if c=10 then [92,110] else if c=9 then [92,116] else if c=34\/c=92 then [92,c] else if c<32\/126<c then [92,120,mq (c / 16),mq (c%16)] else [c]
def apB(v:A0)(n base:Nat)(l:List Int)(w:X)(f:w.ownsRow base 5 1 v n (B8 l))(c:base<=w.heap.size)(d:n<=100000):
  A5 S 178 #[v,V B3 10] w λe w'=>∃g a,e= A2 (Ax (O ⟨g,0,T⟩) (n+2) a)/\
   w'.ownsRow base 5 1 (Ax (O ⟨g,0,T⟩) (n+2) a) (n+2) (B8 (l++[92,110]))/\A9 base w w':=by
 go_in;go_wp2_with (at_builtin;refine ng rfl (.tmp 8) (.tmp 9) rfl base v n l rfl f c d [92,110] 2 rfl (by decide) (by decide) _ rfl rfl ?_;intro g a w1 h b);go_wp2;go_ret;exact⟨g,a,rfl,h,b⟩
def anc(v:A0)(n base:Nat)(l:List Int)(w:X)(f:w.ownsRow base 5 1 v n (B8 l))(c:base<=w.heap.size)(d:n<=100000):
  A5 S 178 #[v,V B3 9] w λe w'=>∃g a,e= A2 (Ax (O ⟨g,0,T⟩) (n+2) a)/\
   w'.ownsRow base 5 1 (Ax (O ⟨g,0,T⟩) (n+2) a) (n+2) (B8 (l++[92,116]))/\A9 base w w':=by
 go_in;go_wp2_with (at_builtin;refine ng rfl (.tmp 14) (.tmp 15) rfl base v n l rfl f c d [92,116] 2 rfl (by decide) (by decide) _ rfl rfl ?_;intro g a w1 h b);go_wp2;go_ret;exact⟨g,a,rfl,h,b⟩
def ane(v:A0)(n base:Nat)(l:List Int)(c:Int)(j:c=34\/c=92)(w:X)(i:w.ownsRow base 5 1 v n (B8 l))(f:base<=w.heap.size)(h:n<=100000):
  A5 S 178 #[v,V B3 c] w λe w'=>∃g a,e= A2 (Ax (O ⟨g,0,T⟩) (n+2) a)/\
   w'.ownsRow base 5 1 (Ax (O ⟨g,0,T⟩) (n+2) a) (n+2) (B8 (l++[92,c]))/\A9 base w w':=by
 rcases j with rfl|rfl
 .go_in;go_wp2_with (at_builtin;refine ng rfl (.tmp 24) (.tmp 26) rfl base v n l rfl i f h [92,34] 2 rfl (by decide) (by decide) _ rfl rfl ?_;intro g a w1 d b);go_wp2;go_ret;exact⟨g,a,rfl,d,b⟩
 .go_in;go_wp2_with (at_builtin;refine ng rfl (.tmp 24) (.tmp 26) rfl base v n l rfl i f h [92,92] 2 rfl (by decide) (by decide) _ rfl rfl ?_;intro g a w1 d b);go_wp2;go_ret;exact⟨g,a,rfl,d,b⟩
def ajG(v:A0)(n base:Nat)(l:List Int)(c:Int)(j:32<=c)(k:c<=126)(m:(c==34)=Z)(o:(c==92)=Z)(w:X)(h:w.ownsRow base 5 1 v n (B8 l))(d:base<=w.heap.size)(f:n<=100000):
  A5 S 178 #[v,V B3 c] w λe w'=>∃g a,e= A2 (Ax (O ⟨g,0,T⟩) (n+1) a)/\
   w'.ownsRow base 5 1 (Ax (O ⟨g,0,T⟩) (n+1) a) (n+1) (B8 (l++[c]))/\A9 base w w':=by
 go_in;go_wp2_with (at_builtin;refine ng rfl (.tmp 44) (.tmp 46) rfl base v n l rfl h d f [c] 1 rfl (by decide) (by decide) _ rfl rfl ?_;intro g a w1 i b);go_wp2;go_ret;exact⟨g,a,rfl,i,b⟩
def DG:ByteArray:=⟨#[48,49,50,51,52,53,54,55,56,57,97,98,99,100,101,102]⟩
def anf:∀i:Fin 16,((DG[i.val]'(by have:=i.isLt;exact this)).toNat:Int)=mq (i.val:Int):=by decide
def amm(d:Int)(b:0<=d)(c:d<16)(h:d.toNat<DG.size):((DG[d.toNat]'h).toNat:Int)=mq d:=by
 have:=anf ⟨d.toNat,by omega⟩;have a:((d.toNat:Nat):Int)=d:=by omega
 simp only[a]at this;exact this
def Ak(d:Int)(b:0<=d)(c:d<16)(w:X):(E0 9 (U ⟨#[48,49,50,51,52,53,54,55,56,57,97,98,99,100,101,102]⟩) (V B3 d)).run S w= .ok (V B3 (mq d)) w:=by
 have a:d.toNat<DG.size:=by simp only[DG];show d.toNat<16;omega
 have e:=amm d b c a;go_simp;exact e
def ang(c:Int)(a:0<=c)(b:c<256):bits .and B3 c 15=c%16:=by
 have:=bits_mask B3 8 (by decide) wraps_u8 4 (by decide) c a b;simpa using this
def Ig{a:Act}{d:Act->X->Prop}{E:Prop}(k:o.guard=T)(s x:Operand)
  (y:o.op= .call {callee:= .builtin .append,args:=#[s,x],argTypes:=#[22,22]}) (base:Nat) (v:A0) (n:Nat) (l:List Int) (A:a.eval s=v)
  (e:w.ownsRow base 5 1 v n (B8 l)) (i:base<=w.heap.size) (K:n<=100000) (c:List Int) (m:Nat) (t:c.length=m) (u:0<m) (J:m<=100) (cs:Array A0) (j:cs.toList=B8 c)
  (B:a.eval x= Ax (O ⟨w.heap.size,0,T⟩) m m)
  (h:∀g b w1,w1.ownsRow base 5 1 (Ax (O ⟨g,0,T⟩) (n+m) b) (n+m) (B8 (l++c))->A9 base w w1->d (a.put o.dst (Ax (O ⟨g,0,T⟩) (n+m) b)) w1):
  if Region.wanted o (yielded ops a.tmps)=B6 then Oper.wp S o a (w.alloc (B1 cs 5)).drew d Q else E:=by
 have⟨H,q,C,F,G⟩:=eu Tryz.info5;refine step_append_lies _ k s x 22 y base 5 H (V B3 0) 1 1 underlying22 q C F G rfl (by decide) v n (B8 l) A ((e.alloc _).drew) ⟨w.heap.size,0,T⟩ m m (B8 c) B (by simp[B8,t])
  (by rw[<-j];exact C2 (fr:=(0,0)) (aB w _)) (by intro ad f;simp[B8]at f;obtain⟨L,_,rfl⟩:=f;rfl) u (by unfold E2;omega) (by omega) (by simp;omega) (w.heap.size+1) (by simp) ?_
 intro g b w1 z p _ _;refine h g b w1 (by rw[aga];exact z) ((((ah base w).alloc i _).drew).grown p (by simp;omega) (λI r=>(e.lt I r).1))
def anh(v:A0)(n base:Nat)(l:List Int)(c:Int)(b:0<=c)(o:c<32)(p:(c==10)=Z)(q:(c==9)=Z)(r:(c==34)=Z)(s:(c==92)=Z)(w:X)(h:w.ownsRow base 5 1 v n (B8 l))(d:base<=w.heap.size)(f:n<=100000):
  A5 S 178 #[v,V B3 c] w λe w'=>∃g a,e= A2 (Ax (O ⟨g,0,T⟩) (n+4) a)/\
   w'.ownsRow base 5 1 (Ax (O ⟨g,0,T⟩) (n+4) a) (n+4) (B8 (l++[92,120,mq (c / 16),mq (c%16)]))/\A9 base w w':=by
 have y:=Ak (c / 16) (by omega) (by omega);have z:=Ak (c%16) (by omega) (by omega);have u:bits .and B3 c 15=c%16:=ang c b (by omega);have i:0<=c / 16:=by omega
 have j:c / 16<16:=by omega
 have k:0<=c%16:=by omega
 have m:c%16<16:=by omega
 go_in;go_wp2_with fail;go_region_held3 (λw'=>True) (trivial) ((refine Ig (by rfl) _ _ (by rfl) base v n l (by rfl) h d f [92,120,_,_] 4 (by rfl) (by decide) (by decide) _ (by rfl) (by rfl) ?_;intro g a w1 x t))
 all_goals
  go_wp2;go_ret;exact⟨_,_,rfl,by assumption,by assumption⟩
def agc(v:A0)(n base:Nat)(l:List Int)(c:Int)(o:126<c)(b:c<256)(p:(c==10)=Z)(q:(c==9)=Z)(r:(c==34)=Z)(s:(c==92)=Z)(w:X)(h:w.ownsRow base 5 1 v n (B8 l))(d:base<=w.heap.size)(f:n<=100000):
  A5 S 178 #[v,V B3 c] w λe w'=>∃g a,e= A2 (Ax (O ⟨g,0,T⟩) (n+4) a)/\
   w'.ownsRow base 5 1 (Ax (O ⟨g,0,T⟩) (n+4) a) (n+4) (B8 (l++[92,120,mq (c / 16),mq (c%16)]))/\A9 base w w':=by
 have y:=Ak (c / 16) (by omega) (by omega);have z:=Ak (c%16) (by omega) (by omega);have u:bits .and B3 c 15=c%16:=ang c (by omega) b;have i:0<=c / 16:=by omega
 have j:c / 16<16:=by omega
 have k:0<=c%16:=by omega
 have m:c%16<16:=by omega
 go_in;go_wp2_with fail;go_region_held3 (λw'=>True) (trivial) ((refine Ig (by rfl) _ _ (by rfl) base v n l (by rfl) h d f [92,120,_,_] 4 (by rfl) (by decide) (by decide) _ (by rfl) (by rfl) ?_;intro g a w1 x t))
 all_goals
  go_wp2;go_ret;exact⟨_,_,rfl,by assumption,by assumption⟩
def ani(v:A0)(n base:Nat)(l:List Int)(c:Int)(k:0<=c)(m:c<256)(w:X)(h:w.ownsRow base 5 1 v n (B8 l))(d:base<=w.heap.size)(f:n<=100000):
  A5 S 178 #[v,V B3 c] w λe w'=>∃g j,e= A2 (Ax (O ⟨g,0,T⟩) (n+(esc c).length) j)/\
   w'.ownsRow base 5 1 (Ax (O ⟨g,0,T⟩) (n+(esc c).length) j) (n+(esc c).length) (B8 (l++esc c))/\A9 base w w':=by
 by_cases a:c=10
 .subst a;exact apB v n base l w h d f
 by_cases b:c=9
 .subst b;exact anc v n base l w h d f
 by_cases i:c=34\/c=92
 .have:esc c=[92,c]:=by unfold esc;rw[aa a,aa b,ae i]
  rw[this];exact ane v n base l c i w h d f
 by_cases e4:c<32\/126<c
 .have:esc c=[92,120,mq (c / 16),mq (c%16)]:=by unfold esc;rw[aa a,aa b,aa i,ae e4]
  rw[this];rcases e4 with e4|e4
  .exact anh v n base l c k e4 (by simp[a]) (by simp[b]) (by simp;omega) (by simp;omega) w h d f
  .exact agc v n base l c e4 m (by simp[a]) (by simp[b]) (by simp;omega) (by simp;omega) w h d f
 .have:esc c=[c]:=by unfold esc;rw[aa a,aa b,aa i,aa e4]
  rw[this];exact ajG v n base l c (by omega) (by omega) (by simp;omega) (by simp;omega) w h d f
def eD(l:List Int):ByteArray:=l.foldl (λa n=>a.push (UInt8.ofNat n.toNat)) Br
def qx{b:Nat}{l:List Int}(c:w.ownsRow base 5 1 (Ax (O ⟨g,0,T⟩) n b) n (B8 l)):
  (convert 22 9 (Ax (O ⟨g,0,T⟩) n b)).run S w= .ok (U (eD l)) w:=by
 rw[Ic w 22 9 5 _ _ _ underlying22 underlying5 underlying9];have f:=yE c;refine run_bytesToString w _ n b l ?_;rcases c.2 with⟨d,_⟩|⟨p,m,o,i,_,e,_,_,q,h⟩
 .cases d
 .cases i;have:=run_loadCells_list (P:=S) w ⟨g,0,T⟩ (B8 l) (λj k a=>by
   refine C2 e j k ?_;rw[<-h]at a;rw[lp]at a;split at a
   .exact a
   .cases a)
  rw[agb,f]at this;exact this
def wG(w:X)(c:Int):(w.alloc (B1 #[V B3 c] 5)).ownsRow w.heap.size 5 1 (Ax (O ⟨w.heap.size,0,T⟩) 1 1) 1 (B8 [c]):=
 ⟨rfl,.inr ⟨w.heap.size,1,#[V B3 c],rfl,af _,aB w _,af _,by unfold E2;omega,rfl,rfl⟩⟩
def ajH(c:Int):(esc c).length<=4:=by
 unfold esc;split
 .decide
 split
 .decide
 split
 .simp
 split<;>simp
def qt(s:ByteArray)(k:Nat):List Int:=34::(s.data.toList.take k).flatMap λb=>esc (b.toNat:Int)
def acG(s:ByteArray):qt s 0=[34]:=rfl
def uj(s:ByteArray)(k:Nat)(h:k<s.size):qt s (k+1)=qt s k++esc (s[k].toNat:Int):=by
 unfold qt;rw[List.take_succ_eq_append_getElem (by simpa using h)];simp only[wE,CD,List.flatMap_nil,dC,ed];rfl
def Dm(s:ByteArray):∀k,k<=s.size->(qt s k).length<=1+4*k
 |0,_=>by simp[qt]
 |k+1,h=>by
  have:=Dm s k (by omega);have a:=ajH (s[k].toNat:Int);rw[uj s k (by omega),bm];omega
def dA(s:ByteArray):List Int:=qt s s.size++[34]
def aew(s:ByteArray)(u:s.size<=4000)(w:X):
  A5 S 122 #[U s] w λe w'=>e= A2 (U (eD (dA s)))/\A9 w.heap.size w w':=by
 go_in;go_wp2;go_loopw [3,11] (λo h wr=>∃a b:Nat,a<=s.size/\h= V Y a/\wr.ownsRow w.heap.size 5 1 o b (B8 (qt s a))/\A9 w.heap.size w wr) (λ_ h _=>s.size-(E3 h).toNat)
 case atStart=>exact⟨0,1,aH _,rfl,wG w 34,(ah _ _).alloc (af _) _⟩
 case round=>
  obtain⟨a,b,k,rfl,f,c⟩:=hrel;have q:=yE f;have t:=Dm s a k;have r:b<=20000:=by omega
  by_cases m:a<s.size
  .have n:Hid (qt s (a+1)=qt s a++esc (s[a].toNat:Int)):=uj s a m;have p:(s[a].toNat:Int)<256:=by have:=s[a].toNat_lt;omega
   go_wp2_with (go_at_call 178;refine(ani _ b w.heap.size (qt s a) _ (by omega) (by omega) _ f c.size (by omega)).mono ?_;rintro e w' ⟨j,i,rfl,g,d⟩);go_roundw
   case rel=>exact⟨a+1,_,by omega,by go_num,by rw[n.out];exact g,c.trans d⟩
   case measure=>simp[E3];omega
  .have l:a=s.size:=by omega
   subst l;go_wp2_with (at_builtin;refine ng rfl (.tmp 20) (.tmp 21) rfl w.heap.size _ b (qt s s.size) rfl f c.size (by omega) [34] 1 rfl (by decide) (by decide) _ rfl rfl ?_;intro j i w1 g d;have v:=qx g);go_ret;exact⟨rfl,c.trans d⟩
structure Cd where
 len:Nat
 cd:Nat->Int
 ok:len<=1048576
 bt:∀i,0<=cd i/\cd i<256
def Code(C:Cd)(base:Nat)(w:X)(c:Option Addr):Prop:=
 C.len=0\/∃a b,c=O ⟨a,b,T⟩/\a<base/\∀i,i<C.len->w.cell? ⟨a,b+i,T⟩=O (V B3 (C.cd i))
def Code.below{C:Cd}{a:Option Addr}(h:Code C base w a)(g:A9 base w w'):Code C base w' a:=by
 rcases h with h|⟨b,e,f,c,i⟩
 .exact .inl h
 .exact .inr ⟨b,e,f,c,λd j=>(g.cell (p:=⟨b,e+d,T⟩) c).trans (i d j)⟩
structure Bs where
 base:Nat
 cb:Nat
 bb:Nat
 a0:Option Addr
 cap:Nat
abbrev cV(E:Bs):A0:= E1 (O ⟨E.cb,0,T⟩)
structure Cr where
 p:Int
 q:Int
 r:Int
abbrev cuO(C:Cd)(E:Bs)(c:Cr):Obj:= B1 #[Ax E.a0 C.len E.cap,V Y c.p,V F1 c.q,V Y c.r] 41 (0,0)
structure Cu (C:Cd) (E:Bs) (w:X) (c:Cr):Prop where
 lo:E.base<=E.cb/\E.base<=w.heap.size
 code:Code C E.base w E.a0
 cur:w.heap[E.cb]?=O (cuO C E c)
def rq(w:X)(b:Nat):w.grownBy w (O b):=⟨rfl,rfl,rfl,af _,λ_ _ _=>rfl⟩
def vy{a:X}(h:a.grownBy w (O b))(n:Nat):a.grownBy (w.drewN n) (O b):=⟨h.os,h.tape,h.output,h.size,h.block⟩
def Al{c:X}(h:c.grownBy w (O b))(i:Nat)(v:A0):c.grownBy (w.setCell ⟨b,i,T⟩ v) (O b):=
 ⟨h.os,h.tape,h.output,by simpa [B7] using h.size,λf e a=>by rw[aC _ _ _ _ (λd=>a (by rw[d]))];exact h.block f e a⟩
def Ke{x:X}(h:x.grownBy y (O b))(k:y.grownBy z (O b)):x.grownBy z (O b):=
 ⟨k.os.trans h.os,k.tape.trans h.tape,k.output.trans h.output,di h.size k.size,λd a c=>(k.block d (iu a h.size) c).trans (h.block d a c)⟩
def Dn{x:X}(h:x.grownBy y (O b))(c:base<=b)(d:base<=x.heap.size):A9 base x y:=
 (ah base x).grown h d (λe a=>by cases a;exact c)
def arI(x:Int):0<=wrap64 (bits .and F1 (IntKind.u64.wrap x / 1099511627776) 255)/\wrap64 (bits .and F1 (IntKind.u64.wrap x / 1099511627776) 255)<256:=by
 have b:IntKind.u64.wrap x=x%18446744073709551616:=by simp[IntKind.wrap,IntKind.bits,IntKind.signed]
 have f:0<=IntKind.u64.wrap x / 1099511627776:=by rw[b];omega
 have g:IntKind.u64.wrap x / 1099511627776<2 ^ 24:=by rw[b];omega
 have h:∀a:Int,0<=a->a<2 ^ 24->IntKind.u64.wrap a=a:=λa i j=>by
  have c:IntKind.u64.wrap a=a%18446744073709551616:=by simp[IntKind.wrap,IntKind.bits,IntKind.signed]
  rw[c];omega
 have:=bits_mask F1 24 (by decide) h 8 (by decide) _ f g;have d:((2:Int) ^ 8-1)=255:=by decide
 rw[d]at this;have e:((2:Int) ^ 8)=256:=by decide
 rw[this,e];unfold wrap64;omega
def Rc(C:Cd)(f:FuncId)(a:List A0)(c:Cr)(v:A0)(b:Cr):Prop:=
 ∀ ⦃E:Bs⦄ ⦃w:X⦄,Cu C E w c->A5 S f (cV E::a).toArray w λd w'=>d= A2 v/\Cu C E w' b/\w.grownBy w' (O E.cb)
section
variable {C : Cd} {E : Bs} {w w' W : World} {c c' : Cr}
def Cu.lt(h:Cu C E w c):E.cb<w.heap.size:=ai h.cur
def Cu.cells(h:Cu C E w c):(w.cell? ⟨E.cb,0,T⟩=O (Ax E.a0 C.len E.cap)/\w.cell? ⟨E.cb,1,T⟩=O (V Y c.p)/\w.cell? ⟨E.cb,2,T⟩=O (V F1 c.q)/\w.cell? ⟨E.cb,3,T⟩=O (V Y c.r))/\∀i,w.frozen? ⟨E.cb,i,T⟩=Z:=by
 have r:=λi=>aj w E.cb i _ _ _ h.cur;exact⟨⟨r 0,r 1,r 2,r 3⟩,λi=>cC _ _ _ _ _ h.cur⟩
def Cu.grown(h:Cu C E w c)(g:w.grownBy w' (O E.cb))(b:w'.heap[E.cb]?=O (cuO C E c')):Cu C E w' c':=by
 have a:=Dn g h.lo.1 h.lo.2;exact⟨⟨h.lo.1,di h.lo.2 a.size⟩,h.code.below a,b⟩
def Cu.below(h:Cu C E w c)(a:be w w'):Cu C E w' c:=⟨⟨h.lo.1,di h.lo.2 a.size⟩,h.code.below (a.mono h.lo.2),(a.block _ h.lt).trans h.cur⟩
def Ih(C:Cd)(c:Cr)(n:0<=c.p)(o:c.p<=1000000000):∃z c',(0<=z/\z<256)/\(c'.p=c.p+1/\c'.r=c.r)/\Rc C 99 [] c (V Y z) c':=by
 obtain⟨p,s,r⟩:=c;have B:=C.ok;have n:0<=p:=n;have o:p<=1000000000:=o;by_cases A:p<C.len
 .obtain⟨z,q⟩:=aJ (C.cd p.toNat);have i:=C.bt p.toNat;rw[q]at i;refine⟨z,⟨p+1,IntKind.u64.wrap (IntKind.u64.wrap (IntKind.u64.wrap (s*6364136223846793005)+z)+1442695040888963407),r⟩,i,⟨rfl,rfl⟩,λa f h=>?_⟩;have m:=h.cells;rcases h.code with y|⟨x,G,u,_,v⟩
  .omega
  have t:=v p.toNat (by omega);rw[q]at t;rw[u]at m;have j:∀b d e,f.grownBy (((f.drewN b).setCell ⟨a.cb,1,T⟩ d).setCell ⟨a.cb,2,T⟩ e) (O a.cb):=λb d e=>Al (Al (vy (rq f a.cb) b) 1 d) 2 e;have k:=λb d e=>bg ((f.drewN b).setCell ⟨a.cb,1,T⟩ d) a.cb 2 _ _ e (bg (f.drewN b) a.cb 1 _ _ d h.cur);have E:=i.1;have F:=i.2;have g:=mo h j k;go_in;go_wp2;go_quiet (fail)
  go_wp2;go_quiet (fail)
  go_wp2;go_ret;exact⟨rfl,g.1.grown (g.2.1 _ _ _) (g.2.2 _ _ _),g.2.1 _ _ _⟩
 .obtain⟨l,w⟩:=aJ (IntKind.u64.wrap (s*6364136223846793005)+1442695040888963407);refine⟨wrap64 (bits .and F1 (IntKind.u64.wrap l / 1099511627776) 255),⟨p+1,IntKind.u64.wrap l,r⟩,arI l,⟨rfl,rfl⟩,λa f h=>?_⟩;subst w;have m:=h.cells;have j:∀b d e,f.grownBy (((f.drewN b).setCell ⟨a.cb,2,T⟩ d).setCell ⟨a.cb,1,T⟩ e) (O a.cb):=λb d e=>Al (Al (vy (rq f a.cb) b) 2 d) 1 e;have k:=λb d e=>bg ((f.drewN b).setCell ⟨a.cb,2,T⟩ d) a.cb 1 _ _ e (bg (f.drewN b) a.cb 2 _ _ d h.cur);have g:=mo h j k;go_in;go_wp2;go_quiet (fail)
  go_wp2;go_ret;exact⟨rfl,g.1.grown (g.2.1 _ _ _) (g.2.2 _ _ _),g.2.1 _ _ _⟩
end
def Kf(w:X):(convert 22 9 (Ax T 0 0)).run S w= .ok (U Br) w:=by
 rw[Ic w 22 9 5 _ _ _ underlying22 underlying5 underlying9];simp[Conv.bytesToString,Sem.run_pure]
def aex(l:List Int):∀r:ByteArray,(l.foldl (λr n=>r.push (UInt8.ofNat n.toNat)) r).size=r.size+l.length:=by
 induction l with
 |nil=>intro r;rfl
 |cons b l a=>intro r;simp only[jd,bB];rw[a,ByteArray.size_push];omega
def sD(l:List Int):(eD l).size=l.length:=by
 unfold eD;rw[aex];simp
def anj{e size:Nat}(h:w.ownsRow base e size v n xs)(a:b<base):v.ownBlock=T\/v.ownBlock≠O b:=by
 right;intro e;have:=(h.lt b e).1;omega
def agd{x:X}(h:x.grownBy y (O b))(k:A9 x.heap.size y z):x.grownBy z (O b):=
 ⟨k.os.trans h.os,k.tape.trans h.tape,k.output.trans h.output,di h.size k.size,λc a d=>(k.block c a).trans (h.block c a d)⟩
structure Cw (C:Cd) (E:Bs) (W w:X) (c:Cr):Prop where
 cu:Cu C E w c
 gr:W.grownBy w (O E.cb)
section
variable {C : Cd} {E : Bs} {w w' W : World} {c c' : Cr} {v : Value} {ar : List Value} {f : FuncId} {Q : Ending → World → Prop}
def Cu.cw(h:Cu C E w c):Cw C E w w c:=⟨h,rq _ _⟩
def Cw.below(a:Cw C E W w c)(b:be w w'):Cw C E W w' c:=⟨a.cu.below b,agd a.gr (b.mono a.gr.size)⟩
def Cw.own(a:Cw C E W w c)(b:A9 W.heap.size w w')(d:E.cb<W.heap.size):Cw C E W w' c:=by
 have:=a.cu.lo.1;exact⟨⟨⟨a.cu.lo.1,di a.cu.lo.2 b.size⟩,a.cu.code.below (b.mono (by omega)),(b.block _ d).trans a.cu.cur⟩,agd a.gr b⟩
def Cw.al{o:Obj}(a:Cw C E W w c):Cw C E W (w.alloc o) c:=a.below (gc w o)
def Cw.run(a:Cw C E W w c)(k:Rc C f ar c v c')(h:∀w',Cw C E W w' c'->w.grownBy w' (O E.cb)->Q (A2 v) w'):A5 S f (cV E::ar).toArray w Q:=
 (k a.cu).mono λd w' b=>b.1 ▸ h w' ⟨b.2.1,Ke a.gr b.2.2⟩ b.2.2
def age{cs:Array A0}{t:Ex}(h:Cu C E w c)(g:(w.alloc (B1 cs t)).grownBy w' (O E.cb))(i:Nat):w'.cell? ⟨w.heap.size,i,T⟩=cs[i]?:=
 aj w' w.heap.size i _ _ _ ((g.block _ (by simp) (λa=>by have:=h.lt;have:=bz a;omega)).trans (aB w _))
def oB(C:Cd)(c:Cr)(k:Int)(l:2<=k:=by omega)(m:k<=200:=by omega)(h:0<=c.p:=by omega)(i:c.p<=1000000000:=by omega):∃z c',(0<=z/\z<k)/\(c'.p=c.p+1/\c'.r=c.r)/\Rc C 35 [V Y k] c (V Y z) c':=by
 have⟨z,c',b,g,d⟩:=Ih C c h i;have z0:=b.1;have o:=b.2;refine⟨z%k,c',⟨Int.emod_nonneg _ (by omega),Int.emod_lt_of_pos _ (by omega)⟩,g,λj n f=>?_⟩;have e:=f.cw;go_in;go_wp2_with (go_at_call 99;refine e.run d λw1 a _=>?_);go_ret;exact⟨rfl,a.cu,a.gr⟩
def apD(C:Cd)(c:Cr)(k:Int)(w:1<=k)(x:k<=1000000000)(g:0<=c.p)(y:c.p<=900000000):∃z c',(0<=z/\z<k)/\(c.p<=c'.p/\c'.p<=c.p+2/\c'.r=c.r)/\Rc C 35 [V Y k] c (V Y z) c':=by
 by_cases n:k=1
 .subst n;refine⟨0,c,by decide,by omega,λh s d=>?_⟩;have a:=d.cw;go_in;go_wp2;go_ret;exact⟨rfl,a.cu,a.gr⟩
 by_cases o:k<=200
 .obtain⟨z,c',q,t,b⟩:=oB C c k (by omega) o g (by omega);exact⟨z,c',q,by omega,b⟩
 have⟨z,l,F,u,b⟩:=Ih C c g (by omega);have⟨e,m,E,v,i⟩:=Ih C l (by omega) (by omega);refine⟨(z*256+e)%k,m,⟨Int.emod_nonneg _ (by omega),Int.emod_lt_of_pos _ (by omega)⟩,by omega,λh s d=>?_⟩;have a:=d.cw;have A:IntKind.i64.wrap (z*256)=z*256:=by rw[fh];omega
 have B:IntKind.i64.wrap (z*256+e)=z*256+e:=by rw[fh];omega
 go_in;go_wp2_with fail;refine a.run b λw1 j _=>?_;go_wp2_with fail;refine j.run i λG f _=>?_;go_wp2;go_ret;exact⟨rfl,f.cu,f.gr⟩
inductive Byc (C:Cd):Nat->Cr->List Int->Cr->Prop
 |nil (c:Cr):Byc C 0 c [] c
 |cons {n:Nat}{c c1 c2:Cr}{z:Int}{l:List Int}:(0<=z/\z<256)->Rc C 99 [] c (.int .i64 z) c1->Byc C n c1 l c2->Byc C (n+1) c (z::l) c2
def byc(C:Cd):∀(n:Nat)(c:Cr),n<=100->0<=c.p->c.p<=900000000+100-n->∃l c',l.length=n/\(c'.p=c.p+n/\c'.r=c.r)/\Byc C n c l c':=by
 intro n
 induction n with
 |zero=>exact λc _ _ _=>⟨[],c,rfl,by simp,.nil c⟩
 |succ n i=>
  intro c o g q;have⟨j,d,h,k,b⟩:=Ih C c g (by omega);have⟨l,e,f,m,a⟩:=i d (by omega) (by omega) (by omega);exact⟨j::l,e,by simp[f],by omega,.cons h b a⟩
def ajI(C:Cd)(c:Cr)(n:Nat)(al:n<=100)(ap:0<=c.p)(a8:c.p<=900000000):∃s c',s.size=n/\(c'.p=c.p+n/\c'.r=c.r)/\Rc C 251 [V Y n] c (U s) c':=by
 have⟨h,m,J,L,w⟩:=byc C n c al ap (by omega);refine⟨eD h,m,by rw[sD,J],L,λz l o=>?_⟩;have B:=o.cw;have t:=o.lt;go_in;go_wp21
 go_loopw [1,5] (λk av wr=>∃(a d:Nat) (f j:List Int) (i:Cr),k= V Y a/\a+d=n/\wr.ownsRow l.heap.size 5 1 av d (B8 f)/\Cw C z l wr i/\Byc C a i j m/\f++j=h) (λk _ _=>(E3 k).toNat)
 case atStart=>exact⟨n,0,[],h,c,rfl,rfl,fE _ _ _ _,B,w,rfl⟩
 case round=>
  obtain⟨a,d,f,j,i,rfl,ak,e,b,x,H⟩:=hrel;have ad:=yE e;have a9:=b.gr.size;have a5:d<=n:=by omega
  have a7:a<=n:=by omega
  have g:=mo ak ad H;cases x with
  |@cons a _ F _ bf au v A y=>
   have z0:=v.1;have bh:=v.2;have a6:(0:Int)<((a+1:Nat):Int):=by omega
   have bb:IntKind.i64.wrap (((a+1:Nat):Int)-1)=(a:Int):=by rw[fh];omega
   go_wp2_with (first
    |(go_at_call 99;refine b.run A λw1 E u=>?_;have an:=e.kept u (anj e t);have ba:=u.size)
    |(at_builtin;refine ng rfl (.tmp 10) (.tmp 14) rfl l.heap.size _ d f rfl an (by omega) (by omega) [_] 1 rfl (by decide) (by decide) _ rfl rfl ?_;intro I G bd ao K))
   go_roundw
   case rel=>exact⟨a,d+1,_,au,F,by go_num,by have:=g.1;omega,ao,E.own K t,y,by rw[dj];exact g.2.2⟩
   case measure=>simp[E3]
  |nil=>
   have⟨a2,a3,q⟩:=g.out;rw[dC]at q;subst q;rcases e.2 with⟨rfl,a4⟩|⟨I,G,ax,rfl,bc⟩
   .have ar:=Kf;go_wp2;go_ret;refine⟨?_,b.cu,b.gr⟩;have:f=[]:=jb (by omega);subst this;rfl
   .have ar:=qx e;go_wp2;go_ret;exact⟨rfl,b.cu,b.gr⟩
end
def arJ:A0->Nat| .string t=>t.size|_=>0
def kC(c:Int):Bool:=decide (c=32\/c=9\/c=13)
def cD(c:Int):Bool:=decide ((97<=c/\c<=122)\/(65<=c/\c<=90)\/c=95)
def cJ(c:Int):Bool:=decide (48<=c/\c<=57)
def Kg(c:Int)(w:X):A5 S 148 #[V B3 c] w λe w'=>e= A2 (Ce (kC c))/\w=w':=by
 rcases(show c=32\/c=9\/c=13\/(c≠32/\c≠9/\c≠13) by omega) with rfl|rfl|rfl|⟨a,b,d⟩
 .go_in;go_wp2;go_ret;exact⟨rfl,rfl⟩
 .go_in;go_wp2;go_ret;exact⟨rfl,rfl⟩
 .go_in;go_wp2;go_ret;exact⟨rfl,rfl⟩
 .have f:(c==32)=Z:=by simp[a]
  have g:(c==9)=Z:=by simp[b]
  have h:(c==13)=Z:=by simp[d]
  have e:kC c=Z:=by simp[kC,a,b,d]
  rw[e];go_in;go_wp2;go_ret;exact⟨rfl,rfl⟩
def lD(c:Int)(w:X):A5 S 196 #[V B3 c] w λe w'=>e= A2 (Ce (cJ c))/\w=w':=by
 rcases(show c<48\/57<c\/(48<=c/\c<=57) by omega) with h|h|⟨d,b⟩
 .have e:cJ c=Z:=by simp[cJ];omega
  rw[e];clear e;have a:¬48<=c:=by omega
  go_in;go_wp2;go_ret;exact⟨rfl,rfl⟩
 .have e:cJ c=Z:=by simp[cJ];omega
  rw[e];clear e;have a:¬c<=57:=by omega
  have b:48<=c:=by omega
  go_in;go_wp2;go_ret;exact⟨rfl,rfl⟩
 .have e:cJ c=B6:=by simp[cJ];omega
  rw[e];clear e;go_in;go_wp2;go_ret;exact⟨rfl,rfl⟩
def qf(c:Int)(w:X):A5 S 194 #[V B3 c] w λe w'=>e= A2 (Ce (cD c))/\w=w':=by
 rcases(show(97<=c/\c<=122)\/(65<=c/\c<=90)\/c=95\/c<65\/(90<c/\c<97/\c≠95)\/122<c by omega) with⟨f,g⟩|⟨f,g⟩|rfl|h|⟨f,g,k⟩|h
 .have e:cD c=B6:=by simp[cD];omega
  rw[e];clear e;go_in;go_wp2;go_ret;exact⟨rfl,rfl⟩
 .have e:cD c=B6:=by simp[cD];omega
  rw[e];clear e;have a:¬97<=c:=by omega
  go_in;go_wp2;go_ret;exact⟨rfl,rfl⟩
 .go_in;go_wp2;go_ret;exact⟨rfl,rfl⟩
 .have e:cD c=Z:=by simp[cD];omega
  rw[e];clear e;have a:¬97<=c:=by omega
  have b:¬65<=c:=by omega
  have d:(c==95)=Z:=by simp;omega
  go_in;go_wp2;go_ret;exact⟨rfl,rfl⟩
 .have e:cD c=Z:=by simp[cD];omega
  rw[e];clear e;have a:¬97<=c:=by omega
  have b:65<=c:=by omega
  have i:¬c<=90:=by omega
  have d:(c==95)=Z:=by simp;omega
  go_in;go_wp2;go_ret;exact⟨rfl,rfl⟩
 .have e:cD c=Z:=by simp[cD];omega
  rw[e];clear e;have a:97<=c:=by omega
  have b:¬c<=122:=by omega
  have i:65<=c:=by omega
  have j:¬c<=90:=by omega
  have d:(c==95)=Z:=by simp;omega
  go_in;go_wp2;go_ret;exact⟨rfl,rfl⟩
def jA(c:Int):Int:=if 48<=c/\c<=57 then c-48 else if 97<=c/\c<=102 then c-87 else -1
def agf:∀n:Fin 256,Lib.indexByte [48,49,50,51,52,53,54,55,56,57,97,98,99,100,101,102] (n.val.toUInt8)=jA (n.val:Int):=by decide+kernel
def ajJ(c:Int)(b:0<=c)(d:c<256):Lib.indexByte [48,49,50,51,52,53,54,55,56,57,97,98,99,100,101,102] c.toNat.toUInt8=jA c:=by
 have:=agf ⟨c.toNat,by omega⟩;have a:((c.toNat:Nat):Int)=c:=by omega
 simp only[a]at this;exact this
def agh(c:Int)(a:0<=c)(b:c<256)(w:X):A5 S 304 #[U ⟨#[48,49,50,51,52,53,54,55,56,57,97,98,99,100,101,102]⟩,V B3 c] w (kL w (V Y (jA c))):=by
 rw[<-ajJ c a b];go_in;go_wp2;rw[acy func308 (by kernel_rfl) (by kernel_rfl) (by kernel_rfl) (e:=Extern.BytealgIndexByte.indexByte) (by kernel_rfl),Lib.run_indexByteString];simp only[Result.andThen];rw[Oper.upon_value];go_wp2;go_ret;exact⟨rfl,rfl⟩
def wH(c:Int)(a:0<=c)(b:c<256)(w:X):A5 S 291 #[U ⟨#[48,49,50,51,52,53,54,55,56,57,97,98,99,100,101,102]⟩,V B3 c] w (kL w (V Y (jA c))):=by
 go_in;go_wp2_with (go_at_call 304;refine(agh c a b _).mono ?_;rintro d e ⟨rfl,rfl⟩);go_ret;exact⟨rfl,rfl⟩
def aA(s:ByteArray)(i:Nat):Int:=if h:i<s.size then(s[i].toNat:Int) else -1
def oa(h:i<s.size):0<=aA s i/\aA s i<256:=by
 unfold aA;rw[pf h];have:=s[i].toNat_lt;omega
def dJ(h:¬i<s.size:=by omega):aA s i= -1:=by unfold aA;rw[dif_neg h]
def fL(h:i<s.size)(w:X):(E0 9 (U s) (V Y (i:Int))).run S w= .ok (V B3 (aA s i)) w:=by
 unfold aA;rw[pf h];go_simp
def Kh(h:i+1<s.size)(w:X):(E0 9 (U s) (V Y ((i:Int)+1))).run S w= .ok (V B3 (aA s (i+1))) w:=by
 have:=fL h w;have a:((i+1:Nat):Int)=(i:Int)+1:=by omega
 rw[a]at this;exact this
def ru(c:Int):jA c<16:=by unfold jA;split;omega;split<;>omega
def or4(a b:Int)(e:0<=a)(f:a<256)(g:a%16=0)(c:0<=b)(d:b<16):bits .or Y a b=a+b:=
 bits_join Y 8 (by decide) (λh a b=>by rw[fh];omega) 4 a b e g f c d (by omega)
def or0(b:Int)(a:0<=b)(c:b<16):bits .or Y 0 b=b:=by
 have:=or4 0 b (by omega) (by omega) (by omega) a c;rw[this];omega
def hexI(s:ByteArray)(p:Nat):Int×Nat×Bool:=
 if jA (aA s p)<0 then(0,p,Z) else if jA (aA s (p+1))<0 then(0,p+1,Z) else(jA (aA s p)*16+jA (aA s (p+1)),p+1+1,B6)
def agi(r:Int×Nat×Bool):A0:= Ck #[V B3 r.1,V Y (r.2.1:Int),Ce r.2.2]
def Ki(s:ByteArray)(v:s.size<=100000)(p:Nat)(j:p+1<s.size)(x a:Int)(d:jA (aA s p)=x)(e:jA (aA s (p+1))=a)(x0:0<=x)(q:0<=a)(w:X):
  A5 S 274 #[U s,V Y p] w (kL w (Ck #[V B3 (x*16+a),V Y ((p:Int)+1+1),Ce B6])):=by
 have o:x<16:=by rw[<-d];exact ru _
 have r:a<16:=by rw[<-e];exact ru _
 have m:=λw=>fL (s:=s) (i:=p) (by omega) w;have n:=λw=>Kh (s:=s) (i:=p) (by omega) w;have t:=or0 x x0 o;have u:=or4 (x*16) a (by omega) (by omega) (by omega) q r;have b:=oa (s:=s) (i:=p) (by omega);have c:=oa (s:=s) (i:=p+1) j;have⟨f,k⟩:=aJ (aA s p);have⟨g,l⟩:=aJ (aA s (p+1));rw[k]at d m b;rw[l]at e n c;go_in;go_wp21
 refine ua 3 ?_;rw[nI];go_wp2_with (go_at_call 291;refine(wH f b.1 b.2 _).mono ?_;rintro h y ⟨rfl,rfl⟩);rw[nI];go_wp2_with (go_at_call 291;refine(wH g c.1 c.2 _).mono ?_;rintro h z ⟨rfl,rfl⟩);rw[nI];go_wp2;go_ret3
 exact⟨rfl,rfl⟩
def FE(s:ByteArray)(h:s.size<=100000)(p:Nat)(g:p<s.size)(x:Int)(d:jA (aA s p)=x)(x0:x<0)(w:X):
  A5 S 274 #[U s,V Y p] w (kL w (Ck #[V B3 0,V Y (p:Int),Ce Z])):=by
 have e:=λw=>fL (s:=s) (i:=p) (by omega) w;have a:=oa (s:=s) (i:=p) (by omega);have⟨b,c⟩:=aJ (aA s p);rw[c]at d e a;go_in;go_wp21
 refine ua 1 ?_;rw[nI];go_wp2_with (go_at_call 291;refine(wH b a.1 a.2 _).mono ?_;rintro f j ⟨rfl,rfl⟩);go_ret3
 exact⟨rfl,rfl⟩
def Kj(s:ByteArray)(b:s.size<=100000)(p:Nat)(a:p=s.size)(w:X):
  A5 S 274 #[U s,V Y p] w (kL w (Ck #[V B3 0,V Y (p:Int),Ce Z])):=by
 subst a;go_in;go_wp2_with fail;refine ua 1 ?_;rw[nI];go_wp2;go_ret3
 exact⟨rfl,rfl⟩
def Do(s:ByteArray)(o:s.size<=100000)(p:Nat)(h:p+1<s.size)(x d:Int)(c:jA (aA s p)=x)(l:jA (aA s (p+1))=d)(x0:0<=x)(u:d<0)(w:X):
  A5 S 274 #[U s,V Y p] w (kL w (Ck #[V B3 0,V Y ((p:Int)+1),Ce Z])):=by
 have t:x<16:=by rw[<-c];exact ru _
 have m:=λw=>fL (s:=s) (i:=p) (by omega) w;have n:=λw=>Kh (s:=s) (i:=p) (by omega) w;have a:=oa (s:=s) (i:=p) (by omega);have b:=oa (s:=s) (i:=p+1) h;have⟨e,j⟩:=aJ (aA s p);have⟨f,k⟩:=aJ (aA s (p+1));rw[j]at c m a;rw[k]at l n b;go_in;go_wp21
 refine ua 2 ?_;rw[nI];go_wp2_with (go_at_call 291;refine(wH e a.1 a.2 _).mono ?_;rintro g q ⟨rfl,rfl⟩);rw[nI];go_wp2_with (go_at_call 291;refine(wH f b.1 b.2 _).mono ?_;rintro g r ⟨rfl,rfl⟩);go_ret3
 exact⟨rfl,rfl⟩
def Kk(s:ByteArray)(h:s.size<=100000)(p:Nat)(g:p+1=s.size)(x:Int)(b:jA (aA s p)=x)(x0:0<=x)(w:X):
  A5 S 274 #[U s,V Y p] w (kL w (Ck #[V B3 0,V Y ((p:Int)+1),Ce Z])):=by
 have m:x<16:=by rw[<-b];exact ru _
 have e:=λw=>fL (s:=s) (i:=p) (by omega) w;have j:((p:Int)+1==(s.size:Int))=B6:=by simp;omega
 have k:p<=100000:=by omega
 have a:=oa (s:=s) (i:=p) (by omega);have⟨c,d⟩:=aJ (aA s p);rw[d]at b e a;go_in;go_wp21
 refine ua 2 ?_;rw[nI];go_wp2_with (go_at_call 291;refine(wH c a.1 a.2 _).mono ?_;rintro f l ⟨rfl,rfl⟩);rw[nI];go_wp2;go_ret3
 exact⟨rfl,rfl⟩
def Kl(s:ByteArray)(a:s.size<=100000)(p:Nat)(h:p<=s.size)(w:X):
  A5 S 274 #[U s,V Y p] w (kL w (agi (hexI s p))):=by
 have g:jA (-1)= -1:=by decide
 unfold hexI agi;by_cases f:p<s.size
 .by_cases d:jA (aA s p)<0
  .rw[ae d];exact FE s a p f _ rfl d w
  .rw[aa d];by_cases c:p+1<s.size
   .by_cases e:jA (aA s (p+1))<0
    .rw[ae e];exact Do s a p c _ _ rfl rfl (by omega) e w
    .rw[aa e];exact Ki s a p c _ _ rfl rfl (by omega) (by omega) w
   .have b:=dJ (s:=s) (i:=p+1) c;rw[ae (by rw[b,g];omega)];exact Kk s a p (by omega) _ rfl (by omega) w
 .have b:=dJ (s:=s) (i:=p) f;rw[ae (by rw[b,g];omega)];exact Kj s a p (by omega) w
def mw(s:ByteArray)(p:Nat):Int×Nat×Bool:=
 if aA s p=110 then(10,p+1,B6) else if aA s p=116 then(9,p+1,B6) else if aA s p=34\/aA s p=92 then(aA s p,p+1,B6) else if aA s p=120 then hexI s (p+1) else(0,p,Z)
def Km(s:ByteArray)(o:s.size<=100000)(p:Nat)(h:p<=s.size)(w:X):
  A5 S 238 #[U s,V Y p] w (kL w (agi (mw s p))):=by
 by_cases l:p<s.size
 .have q:=λw=>fL (s:=s) (i:=p) (by omega) w;have r:=oa (s:=s) (i:=p) (by omega);have e:=Kl s o (p+1) (by omega);have k:((p+1:Nat):Int)=(p:Int)+1:=by omega
  rw[k]at e;unfold mw;have⟨a,m⟩:=aJ (aA s p);rw[m]at q r⊢;by_cases b:a=110
  .subst b;go_in;go_wp2;go_ret3
   exact⟨rfl,rfl⟩
  rw[aa b];have t:(a==110)=Z:=by simp[b]
  by_cases c:a=116
  .subst c;go_in;go_wp2;go_ret3
   exact⟨rfl,rfl⟩
  rw[aa c];have u:(a==116)=Z:=by simp[c]
  by_cases g:a=34
  .subst g;go_in;go_wp2;go_ret3
   exact⟨rfl,rfl⟩
  have v:(a==34)=Z:=by simp[g]
  by_cases j:a=92
  .subst j;go_in;go_wp2;go_ret3
   exact⟨rfl,rfl⟩
  have x:(a==92)=Z:=by simp[j]
  rw[aa (by omega)];by_cases d:a=120
  .subst d;rw[ae rfl];unfold agi at e⊢;go_in;go_wp2_with (go_at_call 274;refine(e _).mono ?_;rintro f z ⟨rfl,rfl⟩);go_ret3
   exact⟨rfl,rfl⟩
  rw[aa d];have y:(a==120)=Z:=by simp[d]
  go_in;go_wp2;go_ret3
  exact⟨rfl,rfl⟩
 .have f:=dJ (s:=s) (i:=p) l;have n:mw s p=(0,p,Z):=by unfold mw;rw[f];simp
  rw[n];obtain rfl:p=s.size:=by omega
  go_in;go_wp2;go_ret3
  exact⟨rfl,rfl⟩
def acH(s:ByteArray)(p:Nat)(h:p<=s.size):p<=(hexI s p).2.1/\(hexI s p).2.1<=s.size/\0<=(hexI s p).1/\(hexI s p).1<256:=by
 have b:jA (-1)= -1:=by decide
 have g:=ru (aA s p);have j:=ru (aA s (p+1));unfold hexI;split
 .simp;omega
 .rename_i c;have e:p<s.size:=by
   rcases bI p s.size with h|h
   .exact h
   .have a:=dJ (s:=s) (i:=p) (by omega);rw[a,b]at c;omega
  split
  .simp;omega
  .rename_i d;have f:p+1<s.size:=by
    rcases bI (p+1) s.size with h|h
    .exact h
    .have a:=dJ (s:=s) (i:=p+1) (by omega);rw[a,b]at d;omega
   simp;omega
def acI(s:ByteArray)(p:Nat)(h:p<=s.size):p<=(mw s p).2.1/\(mw s p).2.1<=s.size/\0<=(mw s p).1/\(mw s p).1<256:=by
 unfold mw;by_cases a:p<s.size
 .have c:=oa a;split
  .simp;omega
  split
  .simp;omega
  split
  .simp;omega
  split
  .have:=acH s (p+1) (by omega);omega
  .simp;omega
 .have b:=dJ (s:=s) (i:=p) a;rw[b];simp;omega
def agj(s:ByteArray)(p:Nat)(h:p<=s.size)(c:(mw s p).2.2=B6):p+1<=(mw s p).2.1:=by
 revert c;unfold mw;split
 .simp
 split
 .simp
 split
 .simp
 split
 .rename_i a;have d:p<s.size:=by
   rcases bI p s.size with h|h
   .exact h
   .have b:=dJ (s:=s) (i:=p) (by omega);rw[b]at a;omega
  intro _;exact(acH s (p+1) (by omega)).1
 .simp
def je(b:Nat)(w:X)(s:ByteArray)(m:A0)(fr p l:Int)(k:Bool):Prop:=
 w.heap[b]?=O (B1 #[U s,m,V Y fr,V Y p,V Y l,Ce k] 123 (0,0))
def gg(b:Nat)(w:X)(k f t l n:Int)(x:ByteArray):Prop:=
 w.heap[b]?=O (B1 #[V Y k,V Y f,V Y t,V Y l,V Y n,U x] 74 (0,0))
def iC(h:je b w s m fr p l k):
  w.cell? ⟨b,0,T⟩=O (U s)/\w.cell? ⟨b,1,T⟩=O m/\w.cell? ⟨b,3,T⟩=O (V Y p)/\w.cell? ⟨b,4,T⟩=O (V Y l)/\w.cell? ⟨b,5,T⟩=O (Ce k)/\
  w.frozen? ⟨b,3,T⟩=Z/\w.frozen? ⟨b,4,T⟩=Z/\w.frozen? ⟨b,5,T⟩=Z:=by
 unfold je at h;exact⟨by rw[aj _ _ _ _ _ _ h];rfl,by rw[aj _ _ _ _ _ _ h];rfl,by rw[aj _ _ _ _ _ _ h];rfl,by rw[aj _ _ _ _ _ _ h];rfl,by rw[aj _ _ _ _ _ _ h];rfl,cC _ _ _ _ _ h,cC _ _ _ _ _ h,cC _ _ _ _ _ h⟩
def acJ(h:je b w s m fr p l k):w.cell? ⟨b,2,T⟩=O (V Y fr)/\w.frozen? ⟨b,2,T⟩=Z:=by
 unfold je at h;exact⟨by rw[aj _ _ _ _ _ _ h];rfl,cC _ _ _ _ _ h⟩
def je.setF(h:je b w s m fr p l k)(x:Int):je b (w.setCell ⟨b,2,T⟩ (V Y x)) s m x p l k:=bg w b 2 _ _ _ h
def db{k t n:Int}{x:ByteArray}(h:gg b w k f t l n x):
  w.cell? ⟨b,0,T⟩=O (V Y k)/\w.cell? ⟨b,1,T⟩=O (V Y f)/\w.cell? ⟨b,2,T⟩=O (V Y t)/\w.cell? ⟨b,3,T⟩=O (V Y l)/\w.cell? ⟨b,4,T⟩=O (V Y n)/\w.cell? ⟨b,5,T⟩=O (U x)/\
  (∀j,w.frozen? ⟨b,j,T⟩=Z):=by
 unfold gg at h;exact⟨by rw[aj _ _ _ _ _ _ h];rfl,by rw[aj _ _ _ _ _ _ h];rfl,by rw[aj _ _ _ _ _ _ h];rfl,by rw[aj _ _ _ _ _ _ h];rfl,by rw[aj _ _ _ _ _ _ h];rfl,by rw[aj _ _ _ _ _ _ h];rfl,λj=>cC _ _ _ _ _ h⟩
def je.setP(h:je b w s m fr p l k)(x:Int):je b (w.setCell ⟨b,3,T⟩ (V Y x)) s m fr x l k:=bg w b 3 _ _ _ h
def je.setL(h:je b w s m fr p l k)(x:Int):je b (w.setCell ⟨b,4,T⟩ (V Y x)) s m fr p x k:=bg w b 4 _ _ _ h
def je.setK(h:je b w s m fr p l k)(x:Bool):je b (w.setCell ⟨b,5,T⟩ (Ce x)) s m fr p l x:=bg w b 5 _ _ _ h
def je.other(h:je b w s m fr p l k)(c:b≠a.block)(v:A0):je b (w.setCell a v) s m fr p l k:=(aC w a b v c).trans h
def je.drewN(h:je b w s m fr p l k)(n:Nat):je b (w.drewN n) s m fr p l k:=h
def je.below{B:Nat}(h:je b w s m fr p l k)(a:A9 B w w')(c:b<B):je b w' s m fr p l k:=(a.block b c).trans h
def gg.other{k t n:Int}{x:ByteArray}(h:gg b w k f t l n x)(c:b≠a.block)(v:A0):gg b (w.setCell a v) k f t l n x:=(aC w a b v c).trans h
def gg.drewN{k t n:Int}{x:ByteArray}(h:gg b w k f t l n x)(a:Nat):gg b (w.drewN a) k f t l n x:=h
def gg.below{B:Nat}{k t n:Int}{x:ByteArray}(h:gg b w k f t l n x)(a:A9 B w w')(c:b<B):gg b w' k f t l n x:=(a.block b c).trans h
def gg.setKind{k t n:Int}{x:ByteArray}(h:gg b w k f t l n x)(a:Int):gg b (w.setCell ⟨b,0,T⟩ (V Y a)) a f t l n x:=bg w b 0 _ _ _ h
def gg.setTo{k t n:Int}{x:ByteArray}(h:gg b w k f t l n x)(a:Int):gg b (w.setCell ⟨b,2,T⟩ (V Y a)) k f a l n x:=bg w b 2 _ _ _ h
def gg.setNum{k t n:Int}{x:ByteArray}(h:gg b w k f t l n x)(a:Int):gg b (w.setCell ⟨b,4,T⟩ (V Y a)) k f t l a x:=bg w b 4 _ _ _ h
def gg.setText{k t n:Int}{x:ByteArray}(h:gg b w k f t l n x)(a:ByteArray):gg b (w.setCell ⟨b,5,T⟩ (U a)) k f t l n a:=bg w b 5 _ _ _ h
def jv(s:ByteArray):Nat->Nat->List Int->Bool×Nat×List Int
 |0,p,a=>(Z,p,a)
 |f+1,p,a=>if s.size<=p then(Z,p,a) else if aA s p=34 then(B6,p+1,a) else if aA s p=10 then(Z,p,a) else if aA s p=92 then
   (if(mw s (p+1)).2.2=B6 then jv s f (mw s (p+1)).2.1 (a++[(mw s (p+1)).1]) else(Z,(mw s (p+1)).2.1,a))
  else jv s f (p+1) (a++[aA s p])
def yF(s:ByteArray):∀(f p:Nat)(a:List Int),p<=s.size->p<=(jv s f p a).2.1/\(jv s f p a).2.1<=s.size/\(jv s f p a).2.2.length<=a.length+(s.size-p)
 |0,p,a,h=>by simp[jv];omega
 |f+1,p,a,h=>by
  unfold jv;split
  .simp;omega
  split
  .simp;omega
  split
  .simp;omega
  split
  .have e:=acI s (p+1) (by omega);split
   .rename_i b;have:=yF s f (mw s (p+1)).2.1 (a++[(mw s (p+1)).1]) e.2.1;simp at this⊢;omega
   .simp;omega
  .have:=yF s f (p+1) (a++[aA s p]) (by omega);simp at this⊢;omega
structure tI (b t:Nat) (w w':X):Prop where
 os:w'.os=w.os
 tape:w'.tape=w.tape
 output:w'.output=w.output
 size:w.heap.size<=w'.heap.size
 block:∀k,k<w.heap.size->k≠b->k≠t->w'.heap[k]?=w.heap[k]?
def tI.refl(b t:Nat)(w:X):tI b t w w:=⟨rfl,rfl,rfl,af _,λ_ _ _ _=>rfl⟩
def tI.trans{x:X}(h:tI b t x y)(k:tI b t y z):tI b t x z:=
 ⟨k.os.trans h.os,k.tape.trans h.tape,k.output.trans h.output,di h.size k.size,λe d a c=>(k.block e (iu d h.size) a c).trans (h.block e d a c)⟩
def tI.drewN{x:X}(h:tI b t x y)(n:Nat):tI b t x (y.drewN n):=⟨h.os,h.tape,h.output,h.size,h.block⟩
def tI.drew{x:X}(h:tI b t x y):tI b t x y.drew:=⟨h.os,h.tape,h.output,h.size,h.block⟩
def tI.setB{x:X}(h:tI b t x y)(i:Nat)(v:A0):tI b t x (y.setCell ⟨b,i,T⟩ v):=
 ⟨h.os,h.tape,h.output,by simpa [B7] using h.size,λe d a c=>by rw[aC _ _ _ _ a];exact h.block e d a c⟩
def tI.setT{x:X}(h:tI b t x y)(i:Nat)(v:A0):tI b t x (y.setCell ⟨t,i,T⟩ v):=
 ⟨h.os,h.tape,h.output,by simpa [B7] using h.size,λe d c a=>by rw[aC _ _ _ _ a];exact h.block e d c a⟩
def tI.below{x:X}(h:tI b t x y)(k:A9 x.heap.size y z):tI b t x z:=
 ⟨k.os.trans h.os,k.tape.trans h.tape,k.output.trans h.output,di h.size k.size,λc a d e=>(k.block c a).trans (h.block c a d e)⟩
def acK{d:List Oper}{a:Act}(j:o.guard=T)(s x:Operand)
  (t:o.op= .call {callee:= .builtin .append,args:=#[s,x],argTypes:=#[22,22]}) (base:Nat) (v:A0) (n:Nat) (l:List Int) (y:a.eval s=v)
  (u:w.ownsRow base 5 1 v n (B8 l)) (f:base<=w.heap.size) (r:n<=100000) (b:List Int) (m:Nat) (k:b.length=m) (p:0<m) (q:m<=100) (cs:Array A0) (i:cs.toList=B8 b)
  (H:Nat) (z:a.eval x= Ax (O ⟨H,0,T⟩) m m) (e:w.heap.size=H)
  (h:∀g c w1,w1.ownsRow base 5 1 (Ax (O ⟨g,0,T⟩) (n+m) c) (n+m) (B8 (l++b))->A9 base w w1->wpList S ops Q d (a.put o.dst (Ax (O ⟨g,0,T⟩) (n+m) c)) w1):
  wpList S ops Q (o::d) a (w.alloc (B1 cs 5)):=by
 subst e;exact ng j s x t base v n l y u f r b m k p q cs i z h
def sE(w:X)(n:Nat)(a:Addr)(v:A0):((w.drewN n).setCell a v).heap.size=w.heap.size:=by simp[B7,World.drewN]
def arK{e size:Nat}(h:w.ownsRow base e size v n xs)(d:b<base)(c r:Nat)(x f:A0):((((w.drewN c).setCell ⟨b,3,T⟩ x).drewN r).setCell ⟨b,3,T⟩ f).ownsRow base e size v n xs:=by
 have g:=jr (w:=w.drewN c) (a:=⟨b,3,T⟩) h d x;exact jr (w:=((w.drewN c).setCell ⟨b,3,T⟩ x).drewN r) (a:=⟨b,3,T⟩) g d f
def Gr(b:Nat)(w:X):Nat:=match w.cell? ⟨b,3,T⟩ with|some (.int _ a)=>a.toNat|_=>0
def vB{p:Nat}(h:je b w s m fr p l k):Gr b w=p:=by
 unfold Gr;rw[(iC h).2.2.1];simp
def oC(b t:Nat)(w':X)(s:ByteArray)(m:A0)(fr:Int)(l f a:Int)(R:Bool×Nat×List Int):Prop:=
 if R.1=B6 then je b w' s m fr R.2.1 l Z/\gg t w' 4 f 0 a 0 (eD R.2.2) else je b w' s m fr R.2.1 l B6/\gg t w' 0 f 0 a 0 Br
def oC.yes{c:Int}{p:Nat}{a:List Int}(h:(B6,p,a)=R)(d:je b w' s m fr p l Z)(e:gg t w' 4 f 0 c 0 (eD a)):oC b t w' s m fr l f c R:=by
 subst h;unfold oC;rw[ae rfl];exact⟨d,e⟩
def oC.no{c:Int}{p:Nat}{a:List Int}(h:(Z,p,a)=R)(d:je b w' s m fr p l B6)(e:gg t w' 0 f 0 c 0 Br):oC b t w' s m fr l f c R:=by
 subst h;unfold oC;rw[aa (by simp)];exact⟨d,e⟩
def acL(p:Nat):((p+1:Nat):Int)=(p:Int)+1:=by omega
def Dq(s:ByteArray)(bn:s.size<=70000)(b t:Nat)(w:X)(m:A0)(p:Nat)(l f C:Int)(bp:p<s.size)(g:b≠t)(hS:je b w s m fr p l Z)(K:gg t w 0 f 0 C 0 Br):
  A5 S 198 #[E1 (O ⟨b,0,T⟩),E1 (O ⟨t,0,T⟩)] w λe w'=>e= A2 (Ck #[])/\tI b t w w'/\
   oC b t w' s m fr l f C (jv s (s.size+1) (p+1) []):=by
 have⟨av,J⟩:=aJ (jv s (s.size+1) (p+1) []);rw[J];have au:=am J;have y:=ai hS;have an:=ai K;have⟨ax,a0,a1,a2,a3,a4,a5,a6⟩:=iC hS;go_in;go_wp21
 go_loopw [4] (λbj wr=>∃(d r k:Nat) (j:List Int),je b wr s m fr d l Z/\gg t wr 0 f 0 C 0 Br/\wr.ownsRow w.heap.size 5 1 bj r (B8 j)/\s.size<d+k/\d<=s.size/\r<=d/\Hid (jv s k d j=av)/\tI b t w wr) (λ_ wr=>s.size-Gr b wr)
 case atStart=>exact⟨p+1,0,s.size+1,[],hS.setP _,K.other (ez g) _,fE _ _ _ _,by omega,by omega,by omega,au,(tI.refl b t w).setB _ _⟩
 case round=>
  obtain⟨d,r,k,j,i,n,z,bl,br,bo,E,o⟩:=hrel;have⟨ax,a0,a1,a2,a3,a4,a5,a6⟩:=iC i;have⟨bt,bv,bw,bx,bA,bD,bE⟩:=db n;have al:=o.size;obtain⟨k,rfl⟩:∃A,k=A+1:=⟨k-1,by omega⟩;by_cases ak:d<s.size
  .have bd:=oa ak;have bb:=λw=>fL ak w;have c:=E.out;unfold jv at c;rw[aa (by omega)]at c;have⟨v,a9⟩:=aJ (aA s d);rw[a9]at bd bb c;by_cases G:v=34
   .subst G;rw[ae rfl]at c;have h:=am c;rcases z.2 with⟨rfl,ba⟩|⟨A,F,bk,rfl,bs⟩
    .have a8:j=[]:=by have:=yE z;rw[ba]at this;exact jb this
     have ar:=am a8;have bc:=Kf;go_wp21
     go_quiet (fail)
     go_wp21
     go_quiet (fail)
     go_wp2;refine bH (fK rfl _ _ _) rfl ?_;refine⟨rfl,(((o.drewN _).setB _ _).setT _ _).setT _ _,oC.yes h (by rw[acL];exact(((i.drewN _).setP _).other g _).other g _) ?_⟩;rw[ar.out];exact(((n.drewN _).other (ez g) _).setKind _).setText _
    .have bc:=λbh=>qx (jr (w:=wr.drewN bh) (a:=⟨b,3,T⟩) z y (V Y ((d:Int)+1)));go_wp21
     go_quiet (fail)
     go_wp21
     go_quiet (fail)
     go_wp2;refine bH (fK rfl _ _ _) rfl ?_;exact⟨rfl,(((o.drewN _).setB _ _).setT _ _).setT _ _,oC.yes h (by rw[acL];exact(((i.drewN _).setP _).other g _).other g _) ((((n.drewN _).other (ez g) _).setKind _).setText _)⟩
   rw[aa G]at c;by_cases H:v=10
   .subst H;rw[ae rfl]at c;have h:=am c;go_wp21
    go_quiet (fail)
    go_wp21
    go_quiet (fail)
    go_wp2;refine bH (fK rfl _ _ _) rfl ?_;exact⟨rfl,(o.drewN _).setB _ _,oC.no h ((i.drewN _).setK _) ((n.drewN _).other (ez g) _)⟩
   rw[aa H]at c;by_cases I:v=92
   .subst I;rw[ae rfl]at c;have u:=Km s (by omega) (d+1) (by omega);have L:=acI s (d+1) (by omega);have ad:=agj s (d+1) (by omega);rw[acL]at u;have⟨ap,a7⟩:=aJ (mw s (d+1));rw[a7]at u L ad c;obtain⟨ao,e,bf⟩:=ap;simp only at L ad c;unfold agi at u;simp only at u;cases bf
    .rw[aa (by simp)]at c;have h:=am c;go_wp21
     go_quiet (fail)
     go_wp21
     go_quiet (fail)
     go_wp21
     go_quiet ((go_at_call 238;exact Calls.quiet_of_same (u _)))
     go_wp2;refine bH (fK rfl _ _ _) rfl ?_;exact⟨rfl,(((((o.drewN _).setB _ _).drewN _).setB _ _).setB _ _),oC.no h (((((i.drewN _).setP _).drewN _).setP _).setK _) (((((n.drewN _).other (ez g) _).drewN _).other (ez g) _).other (ez g) _)⟩
    .rw[ae rfl]at c;have h:=am c;go_wp21
     go_quiet (fail)
     go_wp21
     go_quiet (fail)
     go_wp21
     go_quiet ((go_at_call 238;exact Calls.quiet_of_same (u _)))
     go_wp2_with (at_builtin;refine acK rfl (.tmp 100) (.tmp 102) rfl w.heap.size _ r j rfl (arK z y _ _ _ _) (by rw[sE,sE];exact al) (by omega) [ao] 1 rfl (by decide) (by decide) _ rfl wr.heap.size rfl (by rw[sE,sE]) ?_;intro A F w1 B q);have x:=((((i.drewN _).setP _).drewN _).setP _).below q y;go_roundw
     case rel=>exact⟨e,r+1,k,j++[ao],x,((((n.drewN _).other (ez g) _).drewN _).other (ez g) _).below q an,B,by omega,by omega,by omega,h,((((o.drewN _).setB _ _).drewN _).setB _ _).below q⟩
     case measure=>rw[vB x,vB i];omega
   rw[aa I]at c;have h:=am c;go_wp21
   go_quiet (fail)
   go_wp21
   go_quiet (fail)
   go_wp2_with (at_builtin;refine acK rfl (.tmp 43) (.tmp 45) rfl w.heap.size _ r j rfl (jr (a:=⟨b,3,T⟩) (w:=wr.drewN _) z y _) (by rw[sE];exact al) (by omega) [v] 1 rfl (by decide) (by decide) _ rfl wr.heap.size rfl (sE _ _ _ _) ?_;intro A F w1 B q);have x:je b w1 s m fr ((d+1:Nat):Int) l Z:=by rw[acL];exact((i.drewN _).setP _).below q y
   go_roundw
   case rel=>exact⟨d+1,r+1,k,j++[v],x,((n.drewN _).other (ez g) _).below q an,B,by omega,by omega,by omega,h,((o.drewN _).setB _ _).below q⟩
   case measure=>rw[vB x,vB i];omega
  .have c:=E.out;unfold jv at c;rw[ae (by omega)]at c;have h:=am c;obtain rfl:d=s.size:=by omega
   go_wp21
   go_quiet (fail)
   go_wp2;go_end0
   exact⟨rfl,(o.drewN _).setB _ _,oC.no h ((i.drewN _).setK _) ((n.drewN _).other (ez g) _)⟩
def xK{x:X}(h:w.grownBy x (O b))(v:A0)(f:w.heap.size<=a.block):w.grownBy (x.setCell a v) (O b):=
 ⟨h.os,h.tape,h.output,by simpa [B7] using h.size,λe c d=>by rw[aC _ _ _ _ (by omega)];exact h.block e c d⟩
def ank{x:X}(h:be w x)(k:tI b t x y)(ht:w.heap.size<=t):w.grownBy y (O b):=
 ⟨k.os.trans h.os,k.tape.trans h.tape,k.output.trans h.output,di h.size k.size,λc a e=>(k.block c (iu a h.size) (λd=>e (by rw[d])) (by omega)).trans (h.block c a)⟩
open Go.Maps Go.WideMaps
def gA:Array A0:=#[U ⟨#[97,110,100]⟩,U ⟨#[98,114,101,97,107]⟩,U ⟨#[99,97,116,99,104]⟩,U ⟨#[99,111,110,115,116]⟩,U ⟨#[100,101,102,101,114]⟩,U ⟨#[101,108,105,102]⟩,U ⟨#[101,108,115,101]⟩,U ⟨#[102,97,108,115,101]⟩,U ⟨#[102,110]⟩,U ⟨#[102,111,114]⟩,U ⟨#[105,102]⟩,U ⟨#[105,110]⟩,U ⟨#[108,101,116]⟩,U ⟨#[110,101,120,116]⟩,U ⟨#[110,105,108]⟩,U ⟨#[110,111,116]⟩,U ⟨#[111,114]⟩,U ⟨#[114,101,116,117,114,110]⟩,U ⟨#[116,104,114,111,119]⟩,U ⟨#[116,114,117,101]⟩,U ⟨#[116,114,121]⟩,U ⟨#[119,104,105,108,101]⟩]
def nh(k:Nat):ByteArray:=match gA[k]? with|some (.string s)=>s|_=>Br
def arL(k:Nat)(a:k<22)(w:X):(E0 140 (.agg gA) (V Y (k:Int))).run S w= .ok (U (nh k)) w:=by
 iterate 22 (obtain _|k:=k;· kernel_rfl)
 omega
def Kn:∀k:Fin 22,(nh k.val).size<=100:=by decide
def Ai{H:Type}:Nat->DataW H
 |0=> .map []
 |k+1=>(Ai k).put (.string (nh k).data.toList) (.lit (.int .i64 (10+(k:Int))))
def ajK:Keyed S 9:=string_keyed underlying9
def rJ{H:Type}(w:X)(fr:Nat×Nat)(tt:Ex)(f:w.heap[0]?=O (.cells gA tt fr)):
  A5 S 37 #[] w λe w'=>e= .returned (.map (O w.heap.size))/\w'.ownsMap S 9 (plainElem (H:=H) S 3) w.heap.size 22 (Ai 22)/\be w w':=by
 have b:=ai f;have p:∀w:X,(Instr.makeMap 90 (O (.int .i64 22))).run S w= .ok (.map (O w.heap.size)) (w.alloc (.map #[] 0)):=λw=>by kernel_rfl
 have h:(w.alloc (.map #[] 0)).heap[0]?=O (.cells gA tt fr):=(fp w _ _ b).trans f;go_in;go_wp2_with (refine wD rfl 140 _ rfl 0 rfl tt _ fr _ h underlying140 rfl (by kernel_rfl) ?_);go_loopw [6] (λd wr=>∃a:Nat,a<=22/\d= .int .i64 a/\wr.ownsMap S 9 (plainElem (H:=H) S 3) w.heap.size a (Ai a)/\be w wr) (λd _=>22-(E3 d).toNat)
 case atStart=>exact⟨0,by omega,rfl,World.ownsMap_made _ _ _ _,(ah _ _).alloc (af _) _⟩
 case round=>
  obtain⟨a,o,rfl,g,c⟩:=hrel;by_cases b:a<22
  .have n:=λw=>arL a b w;have q:(nh a).size<=100:=Kn ⟨a,b⟩;have k:keyOf S 9 (.string (nh a))=O (.string (nh a).data.toList):=keyOf_string_mk underlying9 (by unfold E2;omega);have m:Hid (Ai (H:=H) (a+1)=(Ai a).put (.string (nh a).data.toList) (.lit (.int .i64 (10+(a:Int))))):=rfl;go_wp2_with (at_mapUpdate;refine wpList_mapUpdate_own _ rfl _ _ _ 90 rfl 9 3 ajK underlying90 _ w.heap.size a _ rfl g (by unfold E2;omega) _ _ _ rfl rfl k _ [] (plainElem_int underlying3 (WalkArith.wf_i64 (by omega))) ?_;intro w1 l i);go_roundw
   case rel=>exact⟨a+1,by omega,by go_num,by rw[m.out];exact l,c.grown i c.size (λr j=>by cases j;exact af _)⟩
   case measure=>simp[E3];omega
  .obtain rfl:a=22:=by omega
   go_wp2;go_ret;exact⟨rfl,g,c⟩
end Go.Proofs.YthboboahkkhopaaGreatDoor
namespace Go.Proofs
open Go.Shelf
def Tryz.lays103_ren:B0:=⟨λ|103=>271|210=>287|206=>193|n=>n,λ|9=>9|4=>4|24=>213|3=>3|n=>n,λ|n=>n⟩
def Tryz.lays103:Go.Proofs.Lays.n103 S Tryz.lays103_ren:={
 mixed:=by kernel_rfl
 f103:=Tryz.func271.trans (congrArg O (by kernel_rfl))
 f206:=Tryz.func193.trans (congrArg O (by kernel_rfl))
 f210:=Tryz.func287.trans (congrArg O (by kernel_rfl))
 t3:=underlying3
 a3:=B4
 z3:=B2
 v3:=zeroValue3
 t4:=underlying4
 a4:=isAgg4
 z4:=sizeOf4
 v4:=zeroValue4
 t9:=underlying9
 a9:=isAgg9
 z9:=sizeOf9
 v9:=zeroValue9
 t24:=underlying213
 a24:=isAgg213
 z24:=sizeOf213
 v24:=zeroValue213}
open Go.RowKit in
def Tryz.strings_CutPrefix(s p:ByteArray)(w:X):
  A5 S 271 #[U s,U p] w λe w'=>e= A2 (Ck #[U ⟨(Lib.trimPrefix s.data.toList p.data.toList).toArray⟩,Ce (Lib.hasPrefix s.data.toList p.data.toList)])/\w'=w:=Any.strings_CutPrefix Tryz.lays103 s p w
def Tryz.lays104_ren:B0:=⟨λ|104=>226|211=>259|207=>280|n=>n,λ|9=>9|4=>4|24=>213|3=>3|n=>n,λ|n=>n⟩
def Tryz.lays104:Go.Proofs.Lays.n104 S Tryz.lays104_ren:={
 mixed:=by kernel_rfl
 f104:=Tryz.func226.trans (congrArg O (by kernel_rfl))
 f207:=Tryz.func280.trans (congrArg O (by kernel_rfl))
 f211:=Tryz.func259.trans (congrArg O (by kernel_rfl))
 t3:=underlying3
 a3:=B4
 z3:=B2
 v3:=zeroValue3
 t4:=underlying4
 a4:=isAgg4
 z4:=sizeOf4
 v4:=zeroValue4
 t9:=underlying9
 a9:=isAgg9
 z9:=sizeOf9
 v9:=zeroValue9
 t24:=underlying213
 a24:=isAgg213
 z24:=sizeOf213
 v24:=zeroValue213}
open Go.RowKit in
def Tryz.strings_CutSuffix(s p:ByteArray)(w:X)(a:s.size<=9223372036854775807):
  A5 S 226 #[U s,U p] w λe w'=>e= A2 (Ck #[U ⟨(Lib.trimSuffix s.data.toList p.data.toList).toArray⟩,Ce (Lib.hasSuffix s.data.toList p.data.toList)])/\w'=w:=Any.strings_CutSuffix Tryz.lays104 s p w a
def Tryz.laysM173_ren:B0:=⟨λ|173=>177|246=>230|283=>262|284=>263|285=>264|286=>265|129=>282|317=>281|318=>283|319=>284|320=>285|337=>296|338=>297|n=>n,λ|2=>2|3=>3|9=>9|4=>4|171=>273|0=>0|53=>39|37=>22|5=>5|173=>276|212=>294|51=>263|20=>20|213=>295|46=>205|232=>318|233=>319|n=>n,λ|17=>6|18=>8|19=>9|n=>n⟩
def Tryz.laysM173:Go.Proofs.LaysM.n173 S Tryz.laysM173_ren:={
 mixed:=by kernel_rfl
 f129:=Tryz.func282.trans (congrArg O (by kernel_rfl))
 f173:=Tryz.func177.trans (congrArg O (by kernel_rfl))
 f246:=Tryz.func230.trans (congrArg O (by kernel_rfl))
 f283:=Tryz.func262.trans (congrArg O (by kernel_rfl))
 f284:=Tryz.func263.trans (congrArg O (by kernel_rfl))
 f285:=Tryz.func264.trans (congrArg O (by kernel_rfl))
 f286:=Tryz.func265.trans (congrArg O (by kernel_rfl))
 f317:=Tryz.func281.trans (congrArg O (by kernel_rfl))
 f318:=Tryz.func283.trans (congrArg O (by kernel_rfl))
 f319:=Tryz.func284.trans (congrArg O (by kernel_rfl))
 f320:=Tryz.func285.trans (congrArg O (by kernel_rfl))
 f337:=Tryz.func296.trans (congrArg O (by kernel_rfl))
 f338:=Tryz.func297.trans (congrArg O (by kernel_rfl))
 t0:=underlying0
 a0:=isAgg0
 z0:=sizeOf0
 v0:=zeroValue0
 t2:=underlying2
 a2:=isAgg2
 z2:=sizeOf2
 v2:=zeroValue2
 t3:=underlying3
 a3:=B4
 z3:=B2
 v3:=zeroValue3
 t4:=underlying4
 a4:=isAgg4
 z4:=sizeOf4
 v4:=zeroValue4
 t5:=underlying5
 a5:=isAgg5
 z5:=sizeOf5
 v5:=zeroValue5
 t9:=underlying9
 a9:=isAgg9
 z9:=sizeOf9
 v9:=zeroValue9
 t20:=underlying20
 a20:=isAgg20
 z20:=sizeOf20
 v20:=zeroValue20
 t37:=underlying22
 a37:=isAgg22
 z37:=sizeOf22
 v37:=zeroValue22
 t46:=underlying205
 a46:=isAgg205
 z46:=sizeOf205
 v46:=zeroValue205
 t51:=underlying263
 a51:=isAgg263
 z51:=sizeOf263
 v51:=zeroValue263
 t53:=underlying39
 a53:=isAgg39
 z53:=sizeOf39
 v53:=zeroValue39
 t171:=underlying273
 a171:=isAgg273
 z171:=sizeOf273
 v171:=zeroValue273
 t173:=underlying276
 a173:=isAgg276
 z173:=sizeOf276
 v173:=zeroValue276
 t212:=underlying294
 a212:=isAgg294
 z212:=sizeOf294
 v212:=zeroValue294
 t213:=underlying295
 a213:=isAgg295
 z213:=sizeOf295
 t232:=underlying318
 a232:=isAgg318
 z232:=sizeOf318
 v232:=zeroValue318
 t233:=underlying319
 a233:=isAgg319
 z233:=sizeOf319
 v233:=zeroValue319
 g17:=by kernel_rfl
 g18:=by kernel_rfl
 g19:=by kernel_rfl
 i0:=by kernel_rfl
 i2:=by kernel_rfl
 i3:=by kernel_rfl
 i4:=by kernel_rfl
 i5:=by kernel_rfl
 i9:=by kernel_rfl
 i20:=by kernel_rfl
 i37:=by kernel_rfl
 i46:=by kernel_rfl
 i51:=by kernel_rfl
 i53:=by kernel_rfl
 i171:=by kernel_rfl
 i173:=by kernel_rfl
 i212:=by kernel_rfl
 i232:=by kernel_rfl
 i233:=by kernel_rfl
 m17:=by kernel_rfl
 m18:=by kernel_rfl
 m19:=by kernel_rfl}
open Go.RowKit Go.Sort Go.Lib in
def Tryz.strconv_FormatInt_10(n:Int)(a: -9223372036854775808<=n)(b:n<=9223372036854775807)(w:X)(c:Lib.TabIs S w "internal/strconv.uint64pow10" F1 Lib.pow10Tab):
  A5 S 177 #[V Y n,V Y 10] w λe w'=>e= A2 (U ⟨(Lib.itoa n).toArray⟩)/\∃k os,w'=grow (w.drewN k) os:=Any.strconv_FormatInt_10 Tryz.laysM173 n a b w c
def Tryz.laysM316_ren:B0:=⟨λ|316=>97|n=>n,λ|9=>9|3=>3|4=>4|37=>22|0=>0|127=>204|5=>5|n=>n,λ|n=>n⟩
def Tryz.laysM316:Go.Proofs.LaysM.n316 S Tryz.laysM316_ren:={
 mixed:=by kernel_rfl
 f316:=Tryz.func97.trans (congrArg O (by kernel_rfl))
 t0:=underlying0
 a0:=isAgg0
 z0:=sizeOf0
 v0:=zeroValue0
 t3:=underlying3
 a3:=B4
 z3:=B2
 v3:=zeroValue3
 t4:=underlying4
 a4:=isAgg4
 z4:=sizeOf4
 v4:=zeroValue4
 t9:=underlying9
 a9:=isAgg9
 z9:=sizeOf9
 v9:=zeroValue9
 t37:=underlying22
 a37:=isAgg22
 z37:=sizeOf22
 v37:=zeroValue22
 t127:=underlying204
 a127:=isAgg204
 z127:=sizeOf204
 v127:=zeroValue204
 t5:=underlying5
 a5:=isAgg5
 z5:=sizeOf5
 v5:=zeroValue5
 i0:=by kernel_rfl
 i3:=by kernel_rfl
 i4:=by kernel_rfl
 i5:=by kernel_rfl
 i9:=by kernel_rfl
 i37:=by kernel_rfl
 i127:=by kernel_rfl}
open Go.RowKit in
def Tryz.stringslite_Clone(s:ByteArray)(w:X)(a:s.size<=281474976710656):
  A5 S 97 #[U s] w λe w'=>e= A2 (U s)/\A9 w.heap.size w w':=Any.stringslite_Clone Tryz.laysM316 s w a
def Tryz.lays321_ren:B0:=⟨λ|321=>298|n=>n,λ|5=>5|n=>n,λ|n=>n⟩
def Tryz.lays321:Go.Proofs.Lays.n321 S Tryz.lays321_ren:={
 mixed:=by kernel_rfl
 f321:=Tryz.func298.trans (congrArg O (by kernel_rfl))
 t5:=underlying5
 a5:=isAgg5
 z5:=sizeOf5
 v5:=zeroValue5}
open Go.RowKit in
def Tryz.internal_strconv_lower(c:Int)(w:X):
  A5 S 298 #[V B3 c] w λe w'=>e= A2 (V B3 (bits .or B3 c 32))/\w'=w:=Any.internal_strconv_lower Tryz.lays321 c w
def Tryz.laysC174_ren:B0:=⟨λ|174=>273|247=>290|245=>289|287=>288|279=>300|280=>301|281=>302|282=>303|321=>298|322=>299|316=>97|171=>307|205=>306|243=>309|246=>230|283=>262|284=>263|285=>264|286=>265|129=>282|317=>281|318=>283|319=>284|320=>285|337=>296|338=>297|n=>n,λ|9=>9|3=>3|2=>2|75=>243|85=>282|4=>4|167=>311|5=>5|53=>39|175=>280|46=>205|168=>313|37=>22|0=>0|210=>321|21=>21|127=>204|145=>325|143=>323|171=>273|173=>276|212=>294|51=>263|20=>20|213=>295|232=>318|233=>319|80=>206|n=>n,λ|15=>10|16=>11|17=>6|18=>8|19=>9|n=>n⟩
def Tryz.laysC174:Go.Proofs.LaysC.n174 S Tryz.laysC174_ren:={
 mixed:=by kernel_rfl
 f129:=Tryz.func282.trans (congrArg O (by kernel_rfl))
 f171:=Tryz.func307.trans (congrArg O (by kernel_rfl))
 f174:=Tryz.func273.trans (congrArg O (by kernel_rfl))
 f205:=Tryz.func306.trans (congrArg O (by kernel_rfl))
 f243:=Tryz.func309.trans (congrArg O (by kernel_rfl))
 f245:=Tryz.func289.trans (congrArg O (by kernel_rfl))
 f246:=Tryz.func230.trans (congrArg O (by kernel_rfl))
 f247:=Tryz.func290.trans (congrArg O (by kernel_rfl))
 f279:=Tryz.func300.trans (congrArg O (by kernel_rfl))
 f280:=Tryz.func301.trans (congrArg O (by kernel_rfl))
 f281:=Tryz.func302.trans (congrArg O (by kernel_rfl))
 f282:=Tryz.func303.trans (congrArg O (by kernel_rfl))
 f283:=Tryz.func262.trans (congrArg O (by kernel_rfl))
 f284:=Tryz.func263.trans (congrArg O (by kernel_rfl))
 f285:=Tryz.func264.trans (congrArg O (by kernel_rfl))
 f286:=Tryz.func265.trans (congrArg O (by kernel_rfl))
 f287:=Tryz.func288.trans (congrArg O (by kernel_rfl))
 f316:=Tryz.func97.trans (congrArg O (by kernel_rfl))
 f317:=Tryz.func281.trans (congrArg O (by kernel_rfl))
 f318:=Tryz.func283.trans (congrArg O (by kernel_rfl))
 f319:=Tryz.func284.trans (congrArg O (by kernel_rfl))
 f320:=Tryz.func285.trans (congrArg O (by kernel_rfl))
 f321:=Tryz.func298.trans (congrArg O (by kernel_rfl))
 f322:=Tryz.func299.trans (congrArg O (by kernel_rfl))
 f337:=Tryz.func296.trans (congrArg O (by kernel_rfl))
 f338:=Tryz.func297.trans (congrArg O (by kernel_rfl))
 t0:=underlying0
 a0:=isAgg0
 z0:=sizeOf0
 v0:=zeroValue0
 t2:=underlying2
 a2:=isAgg2
 z2:=sizeOf2
 v2:=zeroValue2
 t3:=underlying3
 a3:=B4
 z3:=B2
 v3:=zeroValue3
 t4:=underlying4
 a4:=isAgg4
 z4:=sizeOf4
 v4:=zeroValue4
 t5:=underlying5
 a5:=isAgg5
 z5:=sizeOf5
 v5:=zeroValue5
 t9:=underlying9
 a9:=isAgg9
 z9:=sizeOf9
 v9:=zeroValue9
 t20:=underlying20
 a20:=isAgg20
 z20:=sizeOf20
 v20:=zeroValue20
 t21:=underlying21
 a21:=isAgg21
 z21:=sizeOf21
 v21:=zeroValue21
 t37:=underlying22
 a37:=isAgg22
 z37:=sizeOf22
 v37:=zeroValue22
 t46:=underlying205
 a46:=isAgg205
 z46:=sizeOf205
 v46:=zeroValue205
 t51:=underlying263
 a51:=isAgg263
 z51:=sizeOf263
 v51:=zeroValue263
 t53:=underlying39
 a53:=isAgg39
 z53:=sizeOf39
 v53:=zeroValue39
 t75:=underlying243
 a75:=isAgg243
 z75:=sizeOf243
 v75:=zeroValue243
 t85:=underlying282
 a85:=isAgg282
 z85:=sizeOf282
 v85:=zeroValue282
 t127:=underlying204
 a127:=isAgg204
 z127:=sizeOf204
 v127:=zeroValue204
 t143:=underlying323
 a143:=isAgg323
 z143:=sizeOf323
 v143:=zeroValue323
 t145:=underlying325
 a145:=isAgg325
 z145:=sizeOf325
 v145:=zeroValue325
 t167:=underlying311
 a167:=isAgg311
 z167:=sizeOf311
 v167:=zeroValue311
 t168:=underlying313
 a168:=isAgg313
 z168:=sizeOf313
 v168:=zeroValue313
 t171:=underlying273
 a171:=isAgg273
 z171:=sizeOf273
 v171:=zeroValue273
 t173:=underlying276
 a173:=isAgg276
 z173:=sizeOf276
 v173:=zeroValue276
 t175:=underlying280
 a175:=isAgg280
 z175:=sizeOf280
 v175:=zeroValue280
 t210:=underlying321
 a210:=isAgg321
 z210:=sizeOf321
 v210:=zeroValue321
 t212:=underlying294
 a212:=isAgg294
 z212:=sizeOf294
 v212:=zeroValue294
 t213:=underlying295
 a213:=isAgg295
 z213:=sizeOf295
 t232:=underlying318
 a232:=isAgg318
 z232:=sizeOf318
 v232:=zeroValue318
 t233:=underlying319
 a233:=isAgg319
 z233:=sizeOf319
 v233:=zeroValue319
 g15:=by kernel_rfl
 g16:=by kernel_rfl
 g17:=by kernel_rfl
 g18:=by kernel_rfl
 g19:=by kernel_rfl
 t80:=underlying206
 a80:=isAgg206
 z80:=sizeOf206
 v80:=zeroValue206
 i0:=by kernel_rfl
 i2:=by kernel_rfl
 i3:=by kernel_rfl
 i4:=by kernel_rfl
 i5:=by kernel_rfl
 i9:=by kernel_rfl
 i20:=by kernel_rfl
 i21:=by kernel_rfl
 i37:=by kernel_rfl
 i46:=by kernel_rfl
 i51:=by kernel_rfl
 i53:=by kernel_rfl
 i75:=by kernel_rfl
 i80:=by kernel_rfl
 i85:=by kernel_rfl
 i127:=by kernel_rfl
 i143:=by kernel_rfl
 i145:=by kernel_rfl
 i167:=by kernel_rfl
 i168:=by kernel_rfl
 i171:=by kernel_rfl
 i173:=by kernel_rfl
 i175:=by kernel_rfl
 i210:=by kernel_rfl
 i212:=by kernel_rfl
 i232:=by kernel_rfl
 i233:=by kernel_rfl
 m15:=by kernel_rfl
 m16:=by kernel_rfl
 m17:=by kernel_rfl
 m18:=by kernel_rfl
 m19:=by kernel_rfl
 c0:=by kernel_rfl
 c2:=by kernel_rfl
 c3:=by kernel_rfl
 c4:=by kernel_rfl
 c5:=by kernel_rfl
 c9:=by kernel_rfl
 c20:=by kernel_rfl
 c21:=by kernel_rfl
 c37:=by kernel_rfl
 c46:=by kernel_rfl
 c51:=by kernel_rfl
 c53:=by kernel_rfl
 c75:=by kernel_rfl
 c80:=by kernel_rfl
 c85:=by kernel_rfl
 c127:=by kernel_rfl
 c143:=by kernel_rfl
 c145:=by kernel_rfl
 c167:=by kernel_rfl
 c168:=by kernel_rfl
 c171:=by kernel_rfl
 c173:=by kernel_rfl
 c175:=by kernel_rfl
 c210:=by kernel_rfl
 c212:=by kernel_rfl
 c213:=by kernel_rfl
 c232:=by kernel_rfl
 c233:=by kernel_rfl}
open Go.RowKit in
def Tryz.strconv_ParseInt_10_at64_ok(s:ByteArray)(a:s.size<=9223372036854775806)(v:Int)(h:Lib.parseIntB 64 s.data.toList= .ok v)(w:X):
  A5 S 273 #[U s,V Y 10,V Y 64] w λe w'=>e= A2 (Ck #[V Y v,Fs])/\(w'=w\/∃t,w'=Lib.bytesWorld w 5 t):=Any.strconv_ParseInt_10_at64_ok Tryz.laysC174 s a v h w
open Go.RowKit in
def Tryz.strconv_ParseInt_10_at64_syntax(s:ByteArray)(c:s.size<=281474976710656)(h:Lib.parseIntB 64 s.data.toList= .«syntax»)(a:A0)(w:X)(d:w.cell? ⟨10,0,T⟩=O a)(b:a= Fs\/∃g f,a= F2 g f):
  A5 S 273 #[U s,V Y 10,V Y 64] w λe w'=>∃N,e= A2 (Ck #[V Y (0),F2 313 (E1 (O ⟨N,0,T⟩))])/\w.heap.size<=N/\w'.heap[N]?=O (B1 #[U ⟨#[80,97,114,115,101,73,110,116]⟩,U s,a] 321 (0,0))/\A9 w.heap.size w w':=Any.strconv_ParseInt_10_at64_syntax Tryz.laysC174 s c h a w d b
open Go.RowKit in
def Tryz.strconv_ParseInt_10_at64_range(s:ByteArray)(c:s.size<=281474976710656)(h:Lib.parseIntB 64 s.data.toList= .range)(a:A0)(w:X)(d:w.cell? ⟨11,0,T⟩=O a)(b:a= Fs\/∃g f,a= F2 g f):
  A5 S 273 #[U s,V Y 10,V Y 64] w λe w'=>∃N,e= A2 (Ck #[V Y (Lib.intSat 64 s.data.toList),F2 313 (E1 (O ⟨N,0,T⟩))])/\w.heap.size<=N/\w'.heap[N]?=O (B1 #[U ⟨#[80,97,114,115,101,73,110,116]⟩,U s,a] 321 (0,0))/\A9 w.heap.size w w':=Any.strconv_ParseInt_10_at64_range Tryz.laysC174 s c h a w d b
def Tryz.lays99_ren:B0:=⟨λ|99=>149|206=>193|n=>n,λ|9=>9|4=>4|3=>3|n=>n,λ|n=>n⟩
def Tryz.lays99:Go.Proofs.Lays.n99 S Tryz.lays99_ren:={
 mixed:=by kernel_rfl
 f99:=Tryz.func149.trans (congrArg O (by kernel_rfl))
 f206:=Tryz.func193.trans (congrArg O (by kernel_rfl))
 t3:=underlying3
 a3:=B4
 z3:=B2
 v3:=zeroValue3
 t4:=underlying4
 a4:=isAgg4
 z4:=sizeOf4
 v4:=zeroValue4
 t9:=underlying9
 a9:=isAgg9
 z9:=sizeOf9
 v9:=zeroValue9}
open Go.RowKit Go.Lib in
def Tryz.strings_HasPrefix(s p:ByteArray)(w:X):
  A5 S 149 #[U s,U p] w λe w'=>e= A2 (Ce (Lib.hasPrefix s.data.toList p.data.toList))/\w'=w:=Any.strings_HasPrefix Tryz.lays99 s p w
def Tryz.lays157_ren:B0:=⟨λ|157=>225|229=>257|199=>258|261=>279|311=>294|312=>295|n=>n,λ|9=>9|31=>58|3=>3|5=>5|4=>4|119=>268|0=>0|40=>270|152=>288|21=>21|154=>290|51=>263|141=>292|196=>302|193=>299|198=>305|49=>303|194=>300|201=>308|226=>316|46=>205|227=>317|n=>n,λ|0=>4|6=>5|n=>n⟩
def Tryz.lays157:Go.Proofs.Lays.n157 S Tryz.lays157_ren:={
 mixed:=by kernel_rfl
 f157:=Tryz.func225.trans (congrArg O (by kernel_rfl))
 f199:=Tryz.func258.trans (congrArg O (by kernel_rfl))
 f229:=Tryz.func257.trans (congrArg O (by kernel_rfl))
 f261:=Tryz.func279.trans (congrArg O (by kernel_rfl))
 f311:=Tryz.func294.trans (congrArg O (by kernel_rfl))
 f312:=Tryz.func295.trans (congrArg O (by kernel_rfl))
 t0:=underlying0
 a0:=isAgg0
 z0:=sizeOf0
 v0:=zeroValue0
 t3:=underlying3
 a3:=B4
 z3:=B2
 v3:=zeroValue3
 t4:=underlying4
 a4:=isAgg4
 z4:=sizeOf4
 v4:=zeroValue4
 t5:=underlying5
 a5:=isAgg5
 z5:=sizeOf5
 v5:=zeroValue5
 t9:=underlying9
 a9:=isAgg9
 z9:=sizeOf9
 v9:=zeroValue9
 t21:=underlying21
 a21:=isAgg21
 z21:=sizeOf21
 v21:=zeroValue21
 t31:=underlying58
 a31:=isAgg58
 z31:=sizeOf58
 v31:=zeroValue58
 t40:=underlying270
 a40:=isAgg270
 z40:=sizeOf270
 v40:=zeroValue270
 t46:=underlying205
 a46:=isAgg205
 z46:=sizeOf205
 v46:=zeroValue205
 t49:=underlying303
 a49:=isAgg303
 z49:=sizeOf303
 v49:=zeroValue303
 t51:=underlying263
 a51:=isAgg263
 z51:=sizeOf263
 v51:=zeroValue263
 t119:=underlying268
 a119:=isAgg268
 z119:=sizeOf268
 t141:=underlying292
 a141:=isAgg292
 z141:=sizeOf292
 v141:=zeroValue292
 t152:=underlying288
 a152:=isAgg288
 z152:=sizeOf288
 v152:=zeroValue288
 t154:=underlying290
 a154:=isAgg290
 z154:=sizeOf290
 v154:=zeroValue290
 t193:=underlying299
 a193:=isAgg299
 z193:=sizeOf299
 v193:=zeroValue299
 t194:=underlying300
 a194:=isAgg300
 z194:=sizeOf300
 v194:=zeroValue300
 t196:=underlying302
 a196:=isAgg302
 z196:=sizeOf302
 v196:=zeroValue302
 t198:=underlying305
 a198:=isAgg305
 z198:=sizeOf305
 v198:=zeroValue305
 t201:=underlying308
 a201:=isAgg308
 z201:=sizeOf308
 v201:=zeroValue308
 t226:=underlying316
 a226:=isAgg316
 z226:=sizeOf316
 v226:=zeroValue316
 t227:=underlying317
 a227:=isAgg317
 z227:=sizeOf317
 v227:=zeroValue317
 g0:=by kernel_rfl
 g6:=by kernel_rfl}
open Go.RowKit Go.Lib in
def Tryz.strings_Fields(s:ByteArray)(w:X)(c:s.size<4294967281)(a:∀(j:Nat) b,s.data.toList[j]?=O b->b.toNat<128)(d:Lib.TabIs S w "strings.asciiSpace" B3 Lib.asciiSpaceTab):
  A5 S 225 #[U s] w λe w'=>
   e= A2 (Ax (O ⟨w.heap.size,0,T⟩) (Lib.fields s.data.toList).length (Lib.fields s.data.toList).length)/\w'=w.alloc (B1 ((Lib.fields s.data.toList).map λl=>F0 ⟨l.toArray⟩).toArray 9):=Any.strings_Fields Tryz.lays157 (by kernel_rfl) (by kernel_rfl) s w c a d
end Go.Proofs
namespace Go.Proofs.YthboboahkkhopaaGreatDoor
open Go.RowKit
variable{Q:Exit->Act->World->Prop}{R:Bool×Nat×List Int}{W W' w w' y z:World}{a:Addr}{b base c g i n t:Nat}{f fr l p:Int}{k:Bool}{m v vk vn:Value}{o:Oper}{ops:Array Oper}{s:ByteArray}{xs:List Value}
structure Nd where
 k:Int
 f:Int
 t:Int
 l:Int
 op:Int
 n:Int
 x:ByteArray
 nm:List ByteArray
 ks:List Int
def bi(W:X)(v:A0)(l:List ByteArray):Prop:=
 (l=[]/\∃a c,v= Ax a 0 c)\/∃a c,v= Ax (O a) l.length c/\∀b s,l[b]?=O s->W.cell? (a.add b)=O (U s)
def dh(W:X)(v:A0)(l:List Int):Prop:=
 (l=[]/\∃a c,v= Ax a 0 c)\/∃a c,v= Ax (O a) l.length c/\∀b z,l[b]?=O z->W.cell? (a.add b)=O (V Y z)
structure FG (W:X) (a:Addr) (N:Nd) (vn vk:A0):Prop where
 c0:W.cell? a=O (.int .i64 N.k)
 c1:W.cell? ⟨a.block,a.off+1,T⟩=O (.int .i64 N.f)
 c2:W.cell? ⟨a.block,a.off+2,T⟩=O (.int .i64 N.t)
 c3:W.cell? ⟨a.block,a.off+3,T⟩=O (.int .i64 N.l)
 c4:W.cell? ⟨a.block,a.off+4,T⟩=O (.int .i64 N.op)
 c5:W.cell? ⟨a.block,a.off+5,T⟩=O (.int .i64 N.n)
 c6:W.cell? ⟨a.block,a.off+6,T⟩=O (.string N.x)
 c7:W.cell? ⟨a.block,a.off+7,T⟩=O vn
 c8:W.cell? ⟨a.block,a.off+8,T⟩=O vk
 hn:bi W vn N.nm
 hk:dh W vk N.ks
def dy(W:X)(v:A0)(ns:List Nd):Prop:=
 (ns=[]/\∃a c,v= Ax a 0 c)\/∃a c,v= Ax (O a) ns.length c/\∀i b,ns[i]?=O b->∃vn vk,FG W (a.add (i*9)) b vn vk
def yG(h:W.cell? a=O v):a.block<W.heap.size:=by
 unfold World.cell? at h;rcases bI a.block W.heap.size with g|g
 .exact g
 .rw[yw g]at h;simp at h
def ag(b:A9 W.heap.size W W')(h:W.cell? a=O v):W'.cell? a=O v:=by
 rw[<-h];unfold World.cell?;rw[b.block _ (yG h)]
def bi.below{l:List ByteArray}(h:bi W v l)(e:A9 W.heap.size W W'):bi W' v l:=by
 rcases h with h|⟨a,b,c,d⟩
 .exact .inl h
 .exact .inr ⟨a,b,c,λg i f=>ag e (d g i f)⟩
def dh.below{l:List Int}(h:dh W v l)(e:A9 W.heap.size W W'):dh W' v l:=by
 rcases h with h|⟨a,b,c,d⟩
 .exact .inl h
 .exact .inr ⟨a,b,c,λg i f=>ag e (d g i f)⟩
def FG.below{N:Nd}(h:FG W a N vn vk)(b:A9 W.heap.size W W'):FG W' a N vn vk:=
 ⟨ag b h.c0,ag b h.c1,ag b h.c2,ag b h.c3,ag b h.c4,ag b h.c5,ag b h.c6,ag b h.c7,ag b h.c8,h.hn.below b,h.hk.below b⟩
def dy.below{ns:List Nd}(h:dy W v ns)(i:A9 W.heap.size W W'):dy W' v ns:=by
 rcases h with h|⟨b,c,e,f⟩
 .exact .inl h
 .exact .inr ⟨b,c,e,λj a g=>by obtain⟨l,k,d⟩:=f j a g;exact⟨l,k,d.below i⟩⟩
def bi.form{l:List ByteArray}(h:bi W v l):∃a c,v= Ax a l.length c:=by
 rcases h with⟨rfl,a,c,h⟩|⟨a,c,b,d⟩
 .exact⟨a,c,h⟩
 .exact⟨_,_,b⟩
def dh.form{l:List Int}(h:dh W v l):∃a c,v= Ax a l.length c:=by
 rcases h with⟨rfl,a,c,h⟩|⟨a,c,b,d⟩
 .exact⟨a,c,h⟩
 .exact⟨_,_,b⟩
def dy.form{l:List Nd}(h:dy W v l):∃a c,v= Ax a l.length c:=by
 rcases h with⟨rfl,a,c,h⟩|⟨a,c,b,d⟩
 .exact⟨a,c,h⟩
 .exact⟨_,_,b⟩
def bi.get{a:Option Addr}{l:List ByteArray}(h:bi W (Ax a n c) l){k:Nat}(d:l[k]?=O s):∃b,a=O b/\W.cell? (b.add k)=O (U s):=by
 rcases h with⟨rfl,_⟩|⟨b,g,e,f⟩
 .simp at d
 .cases e;exact⟨b,rfl,f k s d⟩
def dh.get{a:Option Addr}{l:List Int}(h:dh W (Ax a n c) l){k:Nat}{s:Int}(d:l[k]?=O s):∃b,a=O b/\W.cell? (b.add k)=O (V Y s):=by
 rcases h with⟨rfl,_⟩|⟨b,g,e,f⟩
 .simp at d
 .cases e;exact⟨b,rfl,f k s d⟩
def dy.get{a:Option Addr}{l:List Nd}(h:dy W (Ax a n c) l){k:Nat}{N:Nd}(d:l[k]?=O N):∃b,a=O b/\∃vn vk,FG W (b.add (k*9)) N vn vk:=by
 rcases h with⟨rfl,_⟩|⟨b,g,e,f⟩
 .simp at d
 .cases e;exact⟨b,rfl,f k N d⟩
def de{e size:Nat}(h:w.ownsRow base e size v n xs)(a:A9 w.heap.size w w'):w'.ownsRow base e size v n xs:=
 h.kept (row:=T) ⟨a.os,a.tape,a.output,a.size,λc b _=>a.block c b⟩ (by cases v.ownBlock<;>simp)
def rK{b e size:Nat}(h:w.ownsRow base e size v n xs)(i:b<=base):w.ownsRow b e size v n xs:=by
 obtain⟨g,a⟩:=h;refine⟨g,?_⟩;rcases a with a|⟨f,c,d,k,j,l⟩
 .exact .inl a
 .exact .inr ⟨f,c,d,k,di i j,l⟩
def cA{α:Type}{l:List α}{k:Nat}(a:l.length=n)(h:k<n):∃s,l[k]?=O s:=⟨l[k]'(by omega),az _⟩
def jk{t:Ex}{fr:Nat×Nat}{a c d e f g:A0}(h:W.heap[b]?=O (B1 #[a,c,d,e,f,g] t fr)):W.cell? ⟨b,0,T⟩=O a/\W.cell? ⟨b,1,T⟩=O c/\W.cell? ⟨b,2,T⟩=O d/\W.cell? ⟨b,3,T⟩=O e/\W.cell? ⟨b,4,T⟩=O f/\W.cell? ⟨b,5,T⟩=O g:=by
 refine⟨?_,?_,?_,?_,?_,?_⟩<;>(rw[aj _ _ _ _ _ _ h];rfl)
def sF{t:Ex}{cs:Array A0}(h:W.heap[b]?=O (B1 cs t (0,0))):W.frozen? ⟨b,0,T⟩=Z/\W.frozen? ⟨b,1,T⟩=Z/\W.frozen? ⟨b,2,T⟩=Z/\W.frozen? ⟨b,3,T⟩=Z/\W.frozen? ⟨b,4,T⟩=Z/\W.frozen? ⟨b,5,T⟩=Z:=
 ⟨cC _ _ _ _ _ h,cC _ _ _ _ _ h,cC _ _ _ _ _ h,cC _ _ _ _ _ h,cC _ _ _ _ _ h,cC _ _ _ _ _ h⟩
def Ko(W:X)(b:Nat)(a c d e f g:A0):X:=((((((W.setCell ⟨b,0,T⟩ a).setCell ⟨b,1,T⟩ c).setCell ⟨b,2,T⟩ d).setCell ⟨b,3,T⟩ e).setCell ⟨b,4,T⟩ f).setCell ⟨b,5,T⟩ g)
def Ii{t:Ex}{m n o p q r:A0}(h:W.heap[b]?=O (B1 #[m,n,o,p,q,r] t (0,0)))(c d e f g i:A0):(Ko W b c d e f g i).heap[b]?=O (B1 #[c,d,e,f,g,i] t (0,0)):=by
 have a:=λj k {W l}=>bg W b j l t k;simpa [Ko] using a 5 i (a 4 g (a 3 f (a 2 e (a 1 d (a 0 c h)))))
def Kp{k:Nat}(h:k≠b)(a c d e f g:A0):(Ko W b a c d e f g).heap[k]?=W.heap[k]?:=by
 unfold Ko;rw[aC _ _ _ _ h,aC _ _ _ _ h,aC _ _ _ _ h,aC _ _ _ _ h,aC _ _ _ _ h,aC _ _ _ _ h]
def sG(w:X):w.drew.heap=w.heap:=rfl
def Dr{k:Nat}(h:k≠b)(j:Nat)(a c d e f g:A0):(Ko W b a c d e f g).drew.cell? ⟨k,j,T⟩=W.cell? ⟨k,j,T⟩:=by
 unfold World.cell?;rw[sG,Kp h]
def aey{c:X}(h:A9 base c W)(a:base<=b)(d e f g i j:A0):A9 base c (Ko W b d e f g i j):=by
 unfold Ko;exact(((((h.setCell a _).setCell a _).setCell a _).setCell a _).setCell a _).setCell a _
def Ds(W:X)(b:Nat)(c d e f g h:A0):W.grownBy (Ko W b c d e f g h).drew (O b):=by
 have a:=(aey (ah b W) (af b) c d e f g h).drew;exact⟨a.os,a.tape,a.output,a.size,λl k j=>by rw[sG,Kp (λi=>j (by rw[i]))]⟩
def ac0:(Tryz.prog.info? 9).map (λi=>(i.zero,i.size,i.bytes))=O (O (U ⟨#[]⟩),1,16):=by kernel_rfl
def wI:(Tryz.prog.info? 3).map (λi=>(i.zero,i.size,i.bytes))=O (O (V Y 0),1,8):=by kernel_rfl
def agk{l:List ByteArray}(h:W.ownsRow base 9 1 (Ax (O ⟨g,0,T⟩) n c) n (l.map F0))(e:l.length=n):bi W (Ax (O ⟨g,0,T⟩) n c) l:=by
 subst e;refine .inr ⟨⟨g,0,T⟩,c,rfl,λa i b=>?_⟩;have f:a<l.length:=by rcases bI a l.length with h|h;exact h;rw[jp h]at b;cases b
 have d:(⟨g,0,T⟩:Addr).add a=⟨g,a,T⟩:=by unfold Addr.add;split<;>simp_all
 rw[d,h.cellAt a (by omega),ci,b];rfl
def agl{l:List Int}(h:W.ownsRow base 3 1 (Ax (O ⟨g,0,T⟩) n c) n (l.map (G0 Y)))(e:l.length=n):dh W (Ax (O ⟨g,0,T⟩) n c) l:=by
 subst e;refine .inr ⟨⟨g,0,T⟩,c,rfl,λa i b=>?_⟩;have f:a<l.length:=by rcases bI a l.length with h|h;exact h;rw[jp h]at b;cases b
 have d:(⟨g,0,T⟩:Addr).add a=⟨g,a,T⟩:=by unfold Addr.add;split<;>simp_all
 rw[d,h.cellAt a (by omega),ci,b];rfl
def jG(N:Nd)(b a:A0):A0:= .agg #[V Y N.k,V Y N.f,V Y N.t,V Y N.l,V Y N.op,V Y N.n,U N.x,b,a]
def nA(b:Nat)(W:X)(t:Ex)(N:Nd)(c a:A0):Prop:=
 W.heap[b]?=O (B1 #[V Y N.k,V Y N.f,V Y N.t,V Y N.l,V Y N.op,V Y N.n,U N.x,c,a] t (0,0))
def bu{t:Ex}{N:Nd}(h:nA b W t N vn vk):
  W.cell? ⟨b,0,T⟩=O (V Y N.k)/\W.cell? ⟨b,1,T⟩=O (V Y N.f)/\W.cell? ⟨b,2,T⟩=O (V Y N.t)/\W.cell? ⟨b,3,T⟩=O (V Y N.l)/\W.cell? ⟨b,4,T⟩=O (V Y N.op)/\W.cell? ⟨b,5,T⟩=O (V Y N.n)/\W.cell? ⟨b,6,T⟩=O (U N.x)/\W.cell? ⟨b,7,T⟩=O vn/\W.cell? ⟨b,8,T⟩=O vk/\(∀j,W.frozen? ⟨b,j,T⟩=Z):=by
 unfold nA at h;exact⟨by rw[aj _ _ _ _ _ _ h];rfl,by rw[aj _ _ _ _ _ _ h];rfl,by rw[aj _ _ _ _ _ _ h];rfl,by rw[aj _ _ _ _ _ _ h];rfl,by rw[aj _ _ _ _ _ _ h];rfl,by rw[aj _ _ _ _ _ _ h];rfl,by rw[aj _ _ _ _ _ _ h];rfl,by rw[aj _ _ _ _ _ _ h];rfl,by rw[aj _ _ _ _ _ _ h];rfl,λj=>cC _ _ _ _ _ h⟩
def xL:Nd:=⟨0,0,0,0,0,0,⟨#[]⟩,[],[]⟩
def nA.below{t:Ex}{N:Nd}(h:nA b W t N vn vk)(a:be W W'):nA b W' t N vn vk:=(a.block _ (ai h)).trans h
def Kr(W:X)(b:Nat)(N:Nd)(c a:A0):X:=(((((((((W.setCell ⟨b,0,T⟩ (V Y N.k)).setCell ⟨b,1,T⟩ (V Y N.f)).setCell ⟨b,2,T⟩ (V Y N.t)).setCell ⟨b,3,T⟩ (V Y N.l)).setCell ⟨b,4,T⟩ (V Y N.op)).setCell ⟨b,5,T⟩ (V Y N.n)).setCell ⟨b,6,T⟩ (U N.x)).setCell ⟨b,7,T⟩ (c)).setCell ⟨b,8,T⟩ (a))
def ajL{t:Ex}{M:Nd}{j i:A0}(h:nA b W t M j i)(N:Nd)(d c:A0):nA b (Kr W b N d c) t N d c:=by
 have a:=λe g {W k}=>bg W b e k t g;simpa [Kr,nA] using a 8 c (a 7 d (a 6 (U N.x) (a 5 (V Y N.n) (a 4 (V Y N.op) (a 3 (V Y N.l) (a 2 (V Y N.t) (a 1 (V Y N.f) (a 0 (V Y N.k) h))))))))
def Ks{e size:Nat}(h:W.ownsRow base e size v n xs)(a:b<base)(N:Nd)(d c:A0):(Kr W b N d c).ownsRow base e size v n xs:=by
 unfold Kr
 iterate 9 refine jr ?_ a _
 exact h
def aa5(h:A9 base w W)(a:base<=b)(N:Nd)(d c:A0):A9 base w (Kr W b N d c):=by
 unfold Kr
 iterate 9 refine ll ?_ a _
 exact h
open Go.Maps Go.WideMaps
def kqf{a b:Int}(h:a=b)(c:Int)(e:(b==c)=Z):(a==c)=Z:=by rw[h];exact e
def kqt{a b:Int}(h:a=b)(c:Int)(e:(b==c)=B6):(a==c)=B6:=by rw[h];exact e
def kqs{a b:Int}(h:a=b):(a==b)=B6:=by rw[h];exact beq_self_eq_true b
